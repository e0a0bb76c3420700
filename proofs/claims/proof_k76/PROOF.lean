import PyProof.Rows.All
import Wide.All
import OpenK.AllK
import Wide.FinOn
import HandS.ForMost
import HandS.Wide
import HandS.Evl
import HandS.TupAny
import HandS.TupMul
import HandS.Conv
import HandS.IsInst
import HandS.Strs
import HandS.Deep
import HandS.Style
import HandS.SortInts
import KE.KTupSum
import KE.GoesMore
import KE.GoesEnum
import HandS.Zip
import KE.DataMinMax
import HandS.NamedTupSort
import HandS.TupSets
import HandS.SortKw
import HandS.TryOnly
import HandS.Small
import HandS.RaiseMore
import PyProof.CallFns
import KE.SortKeyHeap
import HandS.GenList
import HandS.GenYield
import HandS.WordsExc
import KE.KOwnIn
import HandS.FStr
import HandS.Gcd
import KE.KMathGC
import HandS.SetFor
import HandS.SetKeys
import KE.KDictZip
import PySem.Challenge.RW_swapsheets_k76_whole_genus_of_rows_of_mo
set_option Elab.async false
set_option linter.all false
set_option maxRecDepth 100000
set_option maxHeartbeats 4000000
/-! RtU: tuples whose objects are known: what makes them, their methods, isinstance. -/
namespace RtU
open PySem L2 PySem.Spec PyProof.Rows
section
variable {X : Cx} {pins : List (Addr × Obj)} {σ : L2.St} {H : Hp} {s : Shared} {t : TA} {es : List Expr} {pos : Pos}
/-- the object of a tuple that is made -/
abbrev tob (its : Array Value) (n : Nat := 0) : Obj := { cls := .type "tuple", data := .seq its n }
/-- a tuple is made at the heap's end, and its object known -/
theorem laidU {its : List Value} {xs : List V} {tk n : Nat} {h' : Heap} (I : Inv X pins σ H { s with heap := h', toks := tk }) (r : Vals xs its) (z : xs.length ≤ sizeLine) :
    Inv X pins σ (upd H h'.objs.size (.frz (tob its.toArray n) (.tup xs))) { s with heap := h'.push (tob its.toArray n), toks := tk } ∧ H h'.objs.size = none :=
  ⟨I.laid (t' := tk) (fun b u e => Heap.get?_push_of_some _ e) (Nat.le_refl _) (show ObjOk X.prog X.w _ _ _ (.frz (tob its.toArray n) (.tup xs)) from ⟨Heap.get?_push_size _ rfl, z, its, r, ⟨_, Heap.get?_push_size _ rfl, rfl, _, rfl⟩⟩), I.hok.fresh (Nat.le_refl _)⟩
/-- wanted of a new tuple -/
def NewT (Q : VK) (H : Hp) (xs : List V) : Prop := ∀ p o, o.dict = none → H p = none → Q (.ref p) (upd H p (.frz o (.tup xs)))
def tTupU (t : TA) : TE := fun σ H Q => t σ H fun xs H1 => xs.length ≤ sizeLine ∧ NewT Q H1 xs
theorem pe_tupU {x1} (h : PA X es t) : PE X (.Tuple es x1 pos) (tTupU t) := by
  refine ⟨fun pins s σ H Q I hq => wpAny_Tuple_spliced (thn (h.run pos pins s σ H _ I hq) fun us s1 ⟨xs, H1, I1, r, z, q⟩ => ⟨by rw [← r.length]; exact z, ?_⟩)⟩
  obtain ⟨I2, hf⟩ := laidU (s := s1) (n := 0) (h' := s1.heap) (tk := s1.toks) I1 r z
  exact ⟨.ref _, _, I2, rfl, q _ _ rfl hf⟩
/-- t + u -/
def rCatU (K : PySem.W.Frag) : R2 := fun x y H Q => ∃ a b xs ys, x = .ref a ∧ y = .ref b ∧ SqT K H a xs ∧ SqT K H b ys ∧ xs.length + ys.length ≤ sizeLine ∧
  (xs = [] → Q (.ref b) H) ∧ (xs ≠ [] → ys = [] → Q (.ref a) H) ∧ (xs ≠ [] → ys ≠ [] → NewT Q H (xs ++ ys))
theorem op_catU : OpR X (binaryOp .Add) (rCatU X.K) := by
  intro pins s σ H x y v u Q I rx ry ⟨a, b, xs, ys, ex, ey, ha, hb, hz, q0, q1, q2⟩
  subst ex ey
  by_cases hx : xs = []
  · exact op_catA pins s σ H _ _ v u Q I rx ry ⟨a, b, xs, ys, rfl, rfl, ha, hb, hz, q0, q1, fun z => absurd hx z⟩
  · cases rx
    cases ry
    obtain ⟨its, r1, p1, _⟩ := I.tuple ha
    obtain ⟨its2, r2, p2, _⟩ := I.tuple hb
    refine HT.cat_tup p1 p2 (fun z => hx (r1.nil_iff.mp z)) (fun z => ⟨.ref a, H, I, rfl, q1 hx (r2.nil_iff.mp z)⟩) (fun z => ?_) (by rw [← r1.length, ← r2.length]; exact hz)
    obtain ⟨I2, hf⟩ := laidU (s := s) (n := 0) (h' := s.heap) (tk := s.toks) I (r1.append r2) (by rw [List.length_append]; exact hz)
    exact ⟨.ref _, _, I2, rfl, q2 hx (fun w => z (r2.nil_iff.mpr w)) _ _ rfl hf⟩
/-- t[lo:hi]: the whole of it is t itself -/
def rSlU (K : PySem.W.Frag) : V → Option Int → Option Int → Hp → VK → Prop := fun x lo hi H Q => ∃ a xs, x = .ref a ∧ SqT K H a xs ∧
  (HT.sIx xs.length 0 lo = 0 ∧ HT.sIx xs.length xs.length hi = xs.length → Q (.ref a) H) ∧ (¬ (HT.sIx xs.length 0 lo = 0 ∧ HT.sIx xs.length xs.length hi = xs.length) → NewT Q H (cutV xs lo hi))
theorem sl_tupU : SlR X (rSlU X.K) := by
  intro pins s σ H x v vl vu lo hi sl Q I rx hs pl pu ⟨a, xs, ex, hx, q1, q2⟩
  by_cases hw : HT.sIx xs.length 0 lo = 0 ∧ HT.sIx xs.length xs.length hi = xs.length
  · exact sl_tupA pins s σ H x v vl vu lo hi sl Q I rx hs pl pu ⟨a, xs, ex, hx, q1, fun z => absurd hw z⟩
  · subst ex
    cases rx
    obtain ⟨its, r, ht, hz⟩ := I.tuple hx
    have hlen : its.toArray.size = xs.length := by rw [List.size_toArray]; exact r.length.symm
    refine ⟨"tuple", _, PyProof.Rows.slot_tuple_getitem.lookup, ht.typeIs, HT.getItem_tuple_cut ht hs pl pu (by rw [hlen]; exact hw) ?_ (by rw [hlen]; exact hz)⟩
    rw [hlen]
    obtain ⟨I2, hf⟩ := laidU (s := s) (n := 0) (h' := s.heap) (tk := s.toks) I ((r.drop (HT.sIx xs.length 0 lo)).take (HT.sIx xs.length xs.length hi - HT.sIx xs.length 0 lo)) (Nat.le_trans (cutV_length xs lo hi) hz)
    exact ⟨.ref _, _, I2, rfl, q2 hw _ _ rfl hf⟩
/-- tuple(xs) of a list -/
theorem call_tuple_ofU : CallR X (.type "tuple") (fun xs H Q => ∃ p ys, xs = [.ref p] ∧ SqL X.K H p ys ∧ NewT Q H ys) := by
  intro pins s σ H xs us Q I r ⟨p, ys, ex, hq, q⟩
  subst ex
  obtain ⟨u, rfl, rx⟩ := vals1 r
  cases rx
  obtain ⟨its, r', pl, hz⟩ := I.list hq
  have hlen := r'.length
  refine call_tuple_list pl.isList (fun h' kp => ?_) (by simp only [List.size_toArray]; omega)
  have I1 : Inv X pins σ H { s with heap := h' } := I.kept (t' := s.toks) kp
  obtain ⟨I2, hf⟩ := laidU (s := s) (n := 0) (h' := h') (tk := s.toks) I1 r' hz
  exact ⟨.ref _, _, I2, rfl, q _ _ rfl hf⟩
/-- tuple(range(..)) -/
def tTupRgU (te : L2.St → Hp → (Int → Int → Hp → Prop) → Prop) : TE := fun σ H Q => te σ H fun a b H1 => RgOk a b ∧ NewT Q H1 (rgV a b)
theorem pe_tupRgU {e : Expr} {te : L2.St → Hp → (Int → Int → Hp → Prop) → Prop} {p : Pos} (hc : X.calm = true) (hg : Gl X "tuple") (hm : X.mg "tuple" = none) (he : PRg X e te) (na : starEach [e] X.env = (false, eval e X.env) :: starEach [] X.env := by rfl) : PE X (.Call (.Name "tuple" p) [e] [] pos) (tTupRgU te) := by
  refine ⟨fun pins s σ H Q I h => Call_ (ld_blt I hg hm boot_tuple (PyProof.Rows.callWith_type1 (args_cons (thn (he pins s σ H _ I h) fun x s1 ⟨r, a, b, t, u, v, H1, ex, hr, I1, ok, q⟩ => args_nil ?_) na) na))⟩
  subst ex
  obtain ⟨b1, b2, b3, b4, b5⟩ := ok
  refine call_tuple_range (n := (b - a).toNat) (I1.ok.hd hc) hr (small_one b1 b2 b3 b4) (rangeSize_nat a b) b5 fun h' tk acc hk hi => ?_
  have I2 : Inv X pins σ H1 { s1 with heap := h', toks := tk } := I1.kept hk
  obtain ⟨I3, hf⟩ := laidU (s := s1) (n := 0) (h' := h') (tk := tk) I2 (its := acc.toList) (xs := rgV a b) (vals_rg hi) (by rw [rgV_length, sizeLine_eq]; omega)
  exact ⟨.ref _, _, I3, rfl, q _ _ rfl hf⟩
/-- t * k, k at least 2 -/
def rRepU (K : PySem.W.Frag) : R2 := fun x y H Q => ∃ l k xs, x = .ref l ∧ y = .int k ∧ SqT K H l xs ∧ xs ≠ [] ∧ (k = 0 ∨ 2 ≤ k) ∧ k ≤ 1000 ∧ xs.length ≤ 1000 ∧ NewT Q H (List.replicate k.toNat xs).flatten
/-- t * 0 -/
theorem tuple_mul0 (l : Addr) (items : Array Value) (n : Nat) (dd : Option Addr) (sl : Array (Option Value)) (x : Int) (u : Tok) (c0 : (decide (x < -(2 ^ 63)) || decide (x ≥ 2 ^ 63)) = false) (c1 : (items.isEmpty || x == 1) = false) (c2 : (decide (x ≤ 0) || items.isEmpty) = true) :
    Meets (Builtin.«tuple.__mul__» ⟨[.ref l, .int x u], []⟩) (fun _ R s => s.heap.get? l = some { cls := .type "tuple", dict := dd, data := .seq items n, slots := sl } ∧
      R (.ok (.ret (Value.ref s.heap.objs.size))) { s with heap := s.heap.push { cls := Value.type "tuple", data := Data.seq #[] }, toks := s.toks }) :=
  .of_wp fun prog w A R s h => by
    obtain ⟨hp, g, d, tk, os⟩ := s
    obtain ⟨hl, h⟩ := h
    have f1 := AutoSeq1.idx_int
    wp_walk using AutoSeq1.wpAny_loadPart' hl
    repeat (first
      | (refine wpAny_ite_false (decide_eq_false (by rw [c0]; exact Bool.false_ne_true)) ?_; wp_walk using AutoSeq1.wpAny_loadPart' hl)
      | (refine wpAny_ite_false (decide_eq_false (by rw [c1]; exact Bool.false_ne_true)) ?_; wp_walk using AutoSeq1.wpAny_loadPart' hl)
      | (refine wpAny_ite_true (decide_eq_true c2) ?_; wp_walk using AutoSeq1.wpAny_loadPart' hl))
    exact ⟨_, rfl, h⟩
theorem op_repU : OpR X (binaryOp .Mult) (rRepU X.K) := by
  intro pins s σ H x y v u Q I rx ry ⟨l, k, xs, ex, ey, hT, hne, h1, h2, hz, q⟩
  subst ex ey
  cases rx
  obtain ⟨t, rfl⟩ := ry
  obtain ⟨its, r, ⟨⟨cls, dd, data, sl⟩, ho, hc, n, hd⟩, hs⟩ := I.tuple hT
  simp only at hc hd
  subst hc hd
  have hle : its.length = xs.length := r.length.symm
  have hn : its ≠ [] := fun e => hne (List.eq_nil_of_length_eq_zero (by rw [← hle, e]; rfl))
  have hi : its.toArray.isEmpty = false := by cases its with | nil => exact absurd rfl hn | cons a b => rfl
  have hsz0 : its.toArray.size = xs.length := by rw [List.size_toArray, hle]
  have c1 : (its.toArray.isEmpty || k == 1) = false := by rw [hi, Bool.false_or]; exact beq_eq_false_iff_ne.mpr (by omega)
  have c0 : (decide (k < -(2 ^ 63)) || decide (k ≥ 2 ^ 63)) = false := by rw [decide_eq_false (by omega), decide_eq_false (by omega)]; rfl
  rcases h1 with h0 | h1
  · subst h0
    refine wpAny_binaryOp_repeat_ref (T := "tuple") (U := "int") (by decide) ⟨_, ho, rfl⟩ (fun s' => typeIs_int s' 0 t) noFill_tuple_mul F.fills_int_mul F.slot_int_rmul repeat_tuple F.slot_int_index.lookup
      (call_meets F.slot_int_rmul (typeIs_int s 0 t) F.entry_int_rmul (F.args_int_rmul_2 _ _) (int_rmul_tuple 0 t l its.toArray n dd sl)
        ⟨ho, rfl, ⟨_, ho, rfl⟩, call_meets F.slot_tuple_mul ⟨_, ho, rfl⟩ F.entry_tuple_mul (F.args_tuple_mul_2 _ _) (tuple_mul0 l its.toArray n dd sl 0 t c0 c1 rfl) ⟨ho, ?_⟩⟩)
    obtain ⟨I2, hf⟩ := laidU (s := s) (n := 0) (h' := s.heap) (tk := s.toks) (its := []) (xs := []) I .nil (Nat.zero_le _)
    exact ⟨.ref _, _, I2, rfl, q _ _ rfl hf⟩
  · have hm : ((its.toArray.size : Nat) : Int) * k ≤ 1000000 := by
      rw [hsz0]
      have a1 : ((xs.length : Nat) : Int) * k ≤ 1000 * k := Int.mul_le_mul_of_nonneg_right (by omega) (by omega)
      omega
    have flen : (List.replicate k.toNat its).flatten.length ≤ sizeLine := by
      rw [PyProof.Rows.lm_len_rep_flat, hle, sizeLine_eq]
      have a1 : k.toNat * xs.length ≤ 1000 * 1000 := Nat.mul_le_mul (by omega) hz
      omega
    have c2 : (decide (k ≤ 0) || its.toArray.isEmpty) = false := by rw [hi, Bool.or_false]; exact decide_eq_false (by omega)
    have c4 : Builtin.Tuple.tupleTooMany (((its.toArray.size : Nat) : Int) * k) = false := decide_eq_false (by rw [sizeLine_eq]; omega)
    refine wpAny_binaryOp_repeat_ref (T := "tuple") (U := "int") (by decide) ⟨_, ho, rfl⟩ (fun s' => typeIs_int s' k t) noFill_tuple_mul F.fills_int_mul F.slot_int_rmul repeat_tuple F.slot_int_index.lookup
      (call_meets F.slot_int_rmul (typeIs_int s k t) F.entry_int_rmul (F.args_int_rmul_2 _ _) (int_rmul_tuple k t l its.toArray n dd sl) ⟨ho, rfl, ⟨_, ho, rfl⟩,
        call_meets F.slot_tuple_mul ⟨_, ho, rfl⟩ F.entry_tuple_mul (F.args_tuple_mul_2 _ _) (tuple_mulW l its.toArray n dd sl k t c0 c1 c2 (by omega) c4 (by rw [size_rep, List.size_toArray]; exact flen)) ⟨ho, ?_⟩⟩)
    rw [size_rep]
    obtain ⟨I2, hf⟩ := laidU (s := s) (n := 0) (h' := s.heap) (tk := s.toks) I (r.rep k.toNat) (by
      rw [PyProof.Rows.lm_len_rep_flat, sizeLine_eq]
      have a1 : k.toNat * xs.length ≤ 1000 * 1000 := Nat.mul_le_mul (by omega) hz
      omega)
    exact ⟨.ref _, _, I2, rfl, q _ _ rfl hf⟩
/-! ### isinstance -/
/-- of what type a value is -/
def TyU (K : PySem.W.Frag) (H : Hp) (x : V) (t : Value) : Prop := TyOf K H x t ∨ (t = .type "tuple" ∧ ∃ p o vs, x = .ref p ∧ H p = some (.frz o (.tup vs)))
def rIsiU (K : PySem.W.Frag) : List V → Hp → VK → Prop := fun xs H Q => ∃ (x : V) (n m : String) (b : Bool), xs = [x, .ty n] ∧ TyU K H x (.type m) ∧ kitB m n = some b ∧ Q (.bl b) H
theorem call_isiU : CallR X (.builtin "isinstance") (rIsiU X.K) := by
  intro pins s σ H xs us Q I r ⟨x, n, m, b, ex, ty, e, q⟩
  rcases ty with ty | ⟨et, p, o, vs, ep, hp⟩
  · exact call_isi pins s σ H xs us Q I r ⟨x, .ty n, .type m, .type n, b, ex, .ty n, .base ty, kit_ty e, q⟩
  · subst ex ep
    cases et
    obtain ⟨u1, u2, rfl, r1, r2⟩ := vals2 r
    cases r1
    have e2 := (ClsV.ty n).eq r2
    subst e2
    obtain ⟨_, _, _, _, o', h1, h2, _⟩ := (show ObjOk X.prog X.w H s.heap p (.frz o (.tup vs)) from I.hok p _ hp)
    exact PySem.W.kia_one PySem.W.kitx_tuple I.kIn ⟨o', h1, h2⟩ (kit_ty e) (fun z => nomatch z) fun tk => ⟨.bl b, H, I.tok tk, rfl, q⟩
/-! ### methods -/
def tBMU (r : V → List V → Hp → VK → Prop) (to : TE) (t : TA) : TE := fun σ H Q => to σ H fun x H1 => (∃ p o vs, x = .ref p ∧ o.dict = none ∧ H1 p = some (.frz o (.tup vs))) ∧ t σ H1 fun xs H2 => r x xs H2 Q
theorem pe_bmU {o e : Expr} {name : Str} {id : String} {apos cpos : Pos} {r : V → List V → Hp → VK → Prop} {to : TE} (slot : Slot "tuple" name id) (hty : typeOf (.builtin id) = pure (.type "method_descriptor")) (hm : MtR X id r) (ho : PE X o to) (ha : PA X (e :: es) t)
    (hbase : attributeBase o name X.env (eval o X.env) = eval o X.env := by rfl) (hfew : ((backTo cpos (starEach (e :: es) X.env)).all (fun x => !x.1) && (backToKw cpos (keywordEach [] X.env)).all (fun x => x.1.isSome) && decide ((e :: es).length + ([] : List Keyword).length + (if ([] : List Keyword).isEmpty then 0 else 1) < 30)) = true := by rfl)
    (hline : (apos.endLine == cpos.line) = true := by rfl) (hs : starEach (e :: es) X.env = (false, eval e X.env) :: starEach es X.env := by rfl) (hplain : (backTo cpos (starEach es X.env)).any (·.1) = false := by rfl) : PE X (.Call (.Attribute o name apos) (e :: es) [] cpos) (tBMU r to t) := by
  refine ⟨fun pins s σ H Q I h => wpAny_Call_method_late hbase hfew hline rfl (thn (ho.run pins s σ H _ I h) fun v s1 ⟨x, H1, I1, r1, ⟨p, ob, vs, ex, hdn, hp⟩, q1⟩ => ?_)⟩
  subst ex
  cases r1
  obtain ⟨h1, _, _, _, o', h2, h3, _⟩ := (show ObjOk X.prog X.w H1 s1.heap p (.frz ob (.tup vs)) from I1.hok p _ hp)
  refine ⟨"tuple", id, PySem.F.plainAttrs_tuple, slot, hty, ⟨o', h2, h3⟩, fun a ea => by cases ea; exact ⟨ob, h1, hdn⟩, ?_⟩
  have hA := ha.run cpos pins s1 σ H1 _ I1 q1
  rw [hs] at hA ⊢
  refine Calls.callWith_builtin (by show (false || (backTo cpos (starEach es X.env)).any (·.1)) = false; rw [hplain]; rfl) (Calls.evalArgs_plain (thn hA fun us s2 ⟨vs2, H2, I2, r2, q2⟩ => hm pins s2 σ H2 (.ref p) vs2 _ us Q I2 rfl r2 q2))
def rIndexU (K : PySem.W.Frag) : V → List V → Hp → VK → Prop := fun x xs H Q => ∃ (a : Addr) (ys : List V) (y : V) (j : Nat) (z : V), x = V.ref a ∧ xs = [y] ∧ SqT K H a ys ∧ flatV y = true ∧ ys.all flatV = true ∧ ys[j]? = some z ∧ eqV z y = true ∧
  (∀ (m : Nat) (z' : V), m < j → ys[m]? = some z' → eqV z' y = false) ∧ Q (.int (j : Nat)) H
theorem mt_indexU : MtR X "tuple.index" (rIndexU X.K) := by
  intro pins s σ H x xs v us Q I rx rxs ⟨a, ys, y, j, z, e1, e2, hs, fy, fys, hz, hzj, hno, q⟩
  subst e1 e2
  cases rx
  cases rxs with
  | cons ry rt =>
    rename_i uy ut
    cases rt
    obtain ⟨its, rv, ⟨⟨cls, dd, data, sl⟩, ho, hc, n, hd⟩, hlen⟩ := I.tuple hs
    simp only at hc hd
    subst hc hd
    obtain ⟨u, hu, ru⟩ := rv.get hz
    obtain ⟨hjl, hje⟩ := List.getElem?_eq_some_iff.mp hu
    have hvl := rv.length
    have hj : j < its.toArray.size := by simpa using hjl
    refine call_meets PySem.F.slot_tuple_index ⟨_, ho, rfl⟩ PySem.F.entry_tuple_index (PySem.F.args_tuple_index_2 _ _) (TI.tuple_indexAt a its.toArray n dd sl uy (eqU y) j hj ?_ ?_) ⟨ho, fun u' hu' => mem_eqAt ry fy rv fys u' (by simpa using hu'), ?_⟩
    · rw [show its.toArray[j] = u by simpa using hje, eqU_of ru (flat_at fys hz)]
      exact hzj
    · intro m hm hmj
      have hml : m < its.length := by simpa using hm
      have hmy : m < ys.length := by omega
      obtain ⟨u2, hu2, ru2⟩ := rv.get (List.getElem?_eq_getElem hmy)
      obtain ⟨_, hme⟩ := List.getElem?_eq_some_iff.mp hu2
      rw [show its.toArray[m] = u2 by simpa using hme, eqU_of ru2 (flat_at fys (List.getElem?_eq_getElem hmy))]
      exact hno m _ hmj (List.getElem?_eq_getElem hmy)
    · exact ⟨.int (j : Nat), H, I.tok _, ⟨_, rfl⟩, q⟩
def rCountU (K : PySem.W.Frag) : V → List V → Hp → VK → Prop := fun x xs H Q => ∃ (a : Addr) (ys : List V) (y : V), x = V.ref a ∧ xs = [y] ∧ SqT K H a ys ∧ flatV y = true ∧ ys.all flatV = true ∧ Q (.int ((ys.countP fun z => eqV z y : Nat) : Int)) H
theorem count_eqU {x : V} : ∀ {xs : List V} {us : List Value}, Vals xs us → xs.all flatV = true → us.countP (eqU x) = xs.countP fun y => eqV y x
  | _, _, .nil, _ => rfl
  | y :: xs, u :: us, .cons r t, f => by
    rw [List.all_cons, Bool.and_eq_true] at f
    rw [List.countP_cons, List.countP_cons, count_eqU t f.2, eqU_of r f.1]
theorem mt_countU : MtR X "tuple.count" (rCountU X.K) := by
  intro pins s σ H x xs v us Q I rx rxs ⟨a, ys, y, e1, e2, hs, fy, fys, q⟩
  subst e1 e2
  cases rx
  cases rxs with
  | cons ry rt =>
    rename_i uy ut
    cases rt
    obtain ⟨its, rv, ⟨⟨cls, dd, data, sl⟩, ho, hc, n, hd⟩, hlen⟩ := I.tuple hs
    simp only at hc hd
    subst hc hd
    refine call_meets PySem.F.slot_tuple_count ⟨_, ho, rfl⟩ PySem.F.entry_tuple_count (PySem.F.args_tuple_count_2 _ _) (SeqAt.tuple_countAt a its.toArray n dd sl uy (eqU y)) ⟨ho, fun u' hu' => mem_eqAt ry fy rv fys u' (by simpa using hu'), ?_⟩
    refine ⟨.int _, H, I.tok _, ⟨_, rfl⟩, ?_⟩
    rw [show its.toArray.toList.countP (eqU y) = ys.countP fun z => eqV z y from count_eqU rv fys]
    exact q
/-! ### t[::-1] -/
def tRevU (K : PySem.W.Frag) (te : TE) : TE := fun σ H Q => te σ H fun x H1 => ∃ a xs, x = .ref a ∧ SqT K H1 a xs ∧ NewT Q H1 xs.reverse
end
end RtU

set_option maxRecDepth 100000
set_option maxHeartbeats 4000000
/-! Rt1: data over the layer: what a value stands for, frames of data, expressions that give data. -/
namespace Rt
open PySem L2

/-! ### extensions of a heap -/
def Ex (H H' : Hp) : Prop := ∀ a o, H a = some o → H' a = some o
theorem Ex.refl (H : Hp) : Ex H H := fun _ _ h => h
theorem Ex.trans {H H1 H2 : Hp} (a : Ex H H1) (b : Ex H1 H2) : Ex H H2 := fun x o h => b x o (a x o h)
theorem Ex.new {H : Hp} {p : Addr} {o : HO} (h : H p = none) : Ex H (upd H p o) := fun a u e => by
  rw [upd_ne (ne_of_none e h)]
  exact e
theorem Ex.back {H H' : Hp} {p : Addr} (e : Ex H H') (h : H' p = none) : H p = none := by
  cases h1 : H p with
  | none => rfl
  | some o =>
    rw [e p o h1] at h
    cases h
/-- what both lay anew -/
theorem Ex.upd2 {H H' : Hp} {p : Addr} {o : HO} (e : Ex H H') : Ex (upd H p o) (upd H' p o) := fun a u h => by
  by_cases q : a = p
  · subst q
    rw [upd_same] at h ⊢
    exact h
  · rw [upd_ne q] at h ⊢
    exact e a u h
/-- a thing that the lesser heap doesn't know may change -/
theorem Ex.mut {H H' : Hp} {p : Addr} {o : HO} (e : Ex H H') (h : H p = none) : Ex H (upd H' p o) := fun a u ha => by
  rw [upd_ne (ne_of_none ha h)]
  exact e a u ha

/-! ### lists side by side -/
def All2 {α β : Type} (R : α → β → Prop) : List α → List β → Prop
  | [], [] => True
  | a :: as, b :: bs => R a b ∧ All2 R as bs
  | _, _ => False
section
variable {α β γ : Type} {R R' : α → β → Prop}
theorem All2.mono (h : ∀ a b, R a b → R' a b) : ∀ {as : List α} {bs : List β}, All2 R as bs → All2 R' as bs
  | [], [], _ => True.intro
  | a :: as, b :: bs, ⟨x, y⟩ => ⟨h a b x, All2.mono h y⟩
  | [], _ :: _, z => z.elim
  | _ :: _, [], z => z.elim
theorem All2.length : ∀ {as : List α} {bs : List β}, All2 R as bs → as.length = bs.length
  | [], [], _ => rfl
  | a :: as, b :: bs, ⟨x, y⟩ => by rw [List.length_cons, List.length_cons, All2.length y]
  | [], _ :: _, z => z.elim
  | _ :: _, [], z => z.elim
theorem All2.append : ∀ {as cs : List α} {bs ds : List β}, All2 R as bs → All2 R cs ds → All2 R (as ++ cs) (bs ++ ds)
  | [], _, [], _, _, h => h
  | a :: as, _, b :: bs, _, ⟨x, y⟩, h => ⟨x, All2.append y h⟩
  | [], _, _ :: _, _, z, _ => z.elim
  | _ :: _, _, [], _, z, _ => z.elim
theorem All2.get : ∀ {as : List α} {bs : List β} (i : Nat) {b : β}, All2 R as bs → bs[i]? = some b → ∃ a, as[i]? = some a ∧ R a b
  | [], [], _, _, _, h => by simp at h
  | a :: as, b :: bs, 0, c, ⟨x, y⟩, h => by
    simp at h
    subst h
    exact ⟨a, rfl, x⟩
  | a :: as, b :: bs, i + 1, c, ⟨x, y⟩, h => by
    simp at h
    obtain ⟨v, e, r⟩ := All2.get i y h
    exact ⟨v, by simpa using e, r⟩
  | [], _ :: _, _, _, z, _ => z.elim
  | _ :: _, [], _, _, z, _ => z.elim
theorem All2.getL : ∀ {as : List α} {bs : List β} (i : Nat) {a : α}, All2 R as bs → as[i]? = some a → ∃ b, bs[i]? = some b ∧ R a b
  | [], [], _, _, _, h => by simp at h
  | a :: as, b :: bs, 0, c, ⟨x, y⟩, h => by
    simp at h
    subst h
    exact ⟨b, rfl, x⟩
  | a :: as, b :: bs, i + 1, c, ⟨x, y⟩, h => by
    simp at h
    obtain ⟨v, e, r⟩ := All2.getL i y h
    exact ⟨v, by simpa using e, r⟩
  | [], _ :: _, _, _, z, _ => z.elim
  | _ :: _, [], _, _, z, _ => z.elim
theorem All2.take : ∀ (n : Nat) {as : List α} {bs : List β}, All2 R as bs → All2 R (as.take n) (bs.take n)
  | 0, _, _, _ => True.intro
  | n + 1, [], [], _ => True.intro
  | n + 1, a :: as, b :: bs, ⟨x, y⟩ => ⟨x, All2.take n y⟩
  | _ + 1, [], _ :: _, z => z.elim
  | _ + 1, _ :: _, [], z => z.elim
theorem All2.drop : ∀ (n : Nat) {as : List α} {bs : List β}, All2 R as bs → All2 R (as.drop n) (bs.drop n)
  | 0, _, _, h => h
  | n + 1, [], [], _ => True.intro
  | n + 1, a :: as, b :: bs, ⟨x, y⟩ => All2.drop n y
  | _ + 1, [], _ :: _, z => z.elim
  | _ + 1, _ :: _, [], z => z.elim
theorem All2.snoc {as : List α} {bs : List β} {a : α} {b : β} (h : All2 R as bs) (r : R a b) : All2 R (as ++ [a]) (bs ++ [b]) := h.append ⟨r, True.intro⟩
theorem All2.set : ∀ (i : Nat) {as : List α} {bs : List β} {a : α} {b : β}, All2 R as bs → R a b → All2 R (as.set i a) (bs.set i b)
  | _, [], [], _, _, _, _ => True.intro
  | 0, a :: as, b :: bs, _, _, ⟨x, y⟩, r => ⟨r, y⟩
  | i + 1, a :: as, b :: bs, _, _, ⟨x, y⟩, r => ⟨x, All2.set i y r⟩
  | _, [], _ :: _, _, _, z, _ => z.elim
  | _, _ :: _, [], _, _, z, _ => z.elim
theorem All2.map_eq {f : β → α} : ∀ {as : List α} {bs : List β}, All2 (fun a b => a = f b) as bs → as = bs.map f
  | [], [], _ => rfl
  | a :: as, b :: bs, ⟨x, y⟩ => by rw [x, All2.map_eq y]; rfl
  | [], _ :: _, z => z.elim
  | _ :: _, [], z => z.elim
theorem All2.of_map {f : β → α} : ∀ (bs : List β), All2 (fun a b => a = f b) (bs.map f) bs
  | [] => True.intro
  | b :: bs => ⟨rfl, All2.of_map bs⟩
theorem All2.reverse {as : List α} {bs : List β} (h : All2 R as bs) : All2 R as.reverse bs.reverse := by
  induction as generalizing bs with
  | nil => cases bs with | nil => exact True.intro | cons _ _ => exact h.elim
  | cons a as ih => cases bs with | nil => exact h.elim | cons b bs =>
      rw [List.reverse_cons, List.reverse_cons]
      exact (ih h.2).snoc h.1
end

/-! ### what a value stands for -/
structure Rp (α : Type) where
  p : Hp → V → α → Prop
  mono : ∀ {H H' : Hp} {v : V} {a : α}, Ex H H' → p H v a → p H' v a
def qI : Rp Int := ⟨fun _ v a => v = .int a, fun _ h => h⟩
def qB : Rp Bool := ⟨fun _ v a => v = .bl a, fun _ h => h⟩
def qN : Rp Unit := ⟨fun _ v _ => v = .non, fun _ h => h⟩
def qS : Rp Str := ⟨fun _ v a => v = .str a, fun _ h => h⟩
/-- a tuple whose object is known, no attributes of its own -/
def TupAt (H : Hp) (p : Addr) (vs : List V) : Prop := ∃ o : Obj, o.dict = none ∧ H p = some (.frz o (.tup vs))
theorem TupAt.mono {H H' : Hp} {p : Addr} {vs : List V} (e : Ex H H') : TupAt H p vs → TupAt H' p vs := fun ⟨o, h1, h2⟩ => ⟨o, h1, e _ _ h2⟩
theorem TupAt.sq {K : PySem.W.Frag} {H : Hp} {p : Addr} {vs : List V} : TupAt H p vs → SqT K H p vs := fun ⟨o, _, h⟩ => .inl (.inr ⟨o, h⟩)
theorem TupAt.uniq {H : Hp} {p : Addr} {vs ws : List V} : TupAt H p vs → TupAt H p ws → vs = ws := fun ⟨o, _, h⟩ ⟨u, _, h'⟩ => by
  rw [h] at h'
  cases h'
  rfl
theorem TupAt.new {H : Hp} {p : Addr} {o : Obj} {vs : List V} (h : o.dict = none) : TupAt (upd H p (.frz o (.tup vs))) p vs := ⟨o, h, upd_same⟩
/-- a list: k = true; a tuple: k = false -/
def Sq (k : Bool) (H : Hp) (p : Addr) (vs : List V) : Prop := match k with
  | true => H p = some (.lst vs)
  | false => TupAt H p vs
theorem Sq.mono {k : Bool} {H H' : Hp} {p : Addr} {vs : List V} (e : Ex H H') (h : Sq k H p vs) : Sq k H' p vs := by
  cases k with
  | true => exact e _ _ h
  | false => exact TupAt.mono e h
theorem Sq.uniq {k : Bool} {H : Hp} {p : Addr} {vs ws : List V} (h : Sq k H p vs) (h' : Sq k H p ws) : vs = ws := by
  cases k with
  | true =>
    have h : H p = some (.lst vs) := h
    have h' : H p = some (.lst ws) := h'
    rw [h] at h'
    cases h'
    rfl
  | false => exact TupAt.uniq h h'
def qSeq (k : Bool) {α : Type} (r : Rp α) : Rp (List α) :=
  ⟨fun H v xs => ∃ p vs, v = .ref p ∧ Sq k H p vs ∧ All2 (r.p H) vs xs, fun e ⟨p, vs, h1, h2, h3⟩ => ⟨p, vs, h1, h2.mono e, h3.mono fun _ _ q => r.mono e q⟩⟩
abbrev qL {α : Type} (r : Rp α) : Rp (List α) := qSeq true r
abbrev qT {α : Type} (r : Rp α) : Rp (List α) := qSeq false r
def qP {α β : Type} (r : Rp α) (q : Rp β) : Rp (α × β) :=
  ⟨fun H v a => ∃ p x y, v = .ref p ∧ TupAt H p [x, y] ∧ r.p H x a.1 ∧ q.p H y a.2, fun e ⟨p, x, y, h1, h2, h3, h4⟩ => ⟨p, x, y, h1, h2.mono e, r.mono e h3, q.mono e h4⟩⟩
def qP3 {α β γ : Type} (r : Rp α) (q : Rp β) (t : Rp γ) : Rp (α × β × γ) :=
  ⟨fun H v a => ∃ p x y z, v = .ref p ∧ TupAt H p [x, y, z] ∧ r.p H x a.1 ∧ q.p H y a.2.1 ∧ t.p H z a.2.2, fun e ⟨p, x, y, z, h1, h2, h3, h4, h5⟩ => ⟨p, x, y, z, h1, h2.mono e, r.mono e h3, q.mono e h4, t.mono e h5⟩⟩
/-- a pair that a walk makes: its object may be unknown -/
def qW {α β : Type} (r : Rp α) (q : Rp β) : Rp (α × β) :=
  ⟨fun H v a => ∃ p x y, v = .ref p ∧ (H p = some (.tup [x, y]) ∨ TupAt H p [x, y]) ∧ r.p H x a.1 ∧ q.p H y a.2, fun e ⟨p, x, y, h1, h2, h3, h4⟩ => ⟨p, x, y, h1, h2.imp (e _ _) (TupAt.mono e), r.mono e h3, q.mono e h4⟩⟩
theorem sq_seq {K : PySem.W.Frag} {H : Hp} {p : Addr} {k : Bool} {vs : List V} (h : Sq k H p vs) : SqL K H p vs ∨ SqT K H p vs := by
  cases k with
  | true => exact .inl (SqL.of h)
  | false => exact .inr (TupAt.sq h)

/-! ### frames of data -/
/-- what an own object that is no list stands for -/
structure Og (α : Type) where
  p : Hp → HO → α → Prop
  mono : ∀ {H H' : Hp} {u : HO} {a : α}, Ex H H' → p H u a → p H' u a
inductive Sl : Type 1 where
  | un
  /-- data that nobody changes -/
  | im {α : Type} (r : Rp α) (a : α)
  /-- a list of the def's own, that it may change -/
  | ow {α : Type} (r : Rp α) (xs : List α)
  /-- the object at d, that more than one def changes -/
  | iv (d : Addr) (o : HO)
  /-- another object of the def's own (a dict), that it may change -/
  | ob {α : Type} (q : Og α) (a : α)
def SlOk (S H : Hp) (v : Option V) : Sl → Prop
  | .un => True
  | .im r a => ∃ x, v = some x ∧ r.p S x a
  | .ow r xs => ∃ p vs, v = some (.ref p) ∧ S p = none ∧ H p = some (.lst vs) ∧ All2 (r.p S) vs xs
  | .iv d o => ∃ p u, v = some (.ref p) ∧ S p = none ∧ H p = some u ∧ p = d ∧ u = o
  | .ob q a => ∃ p u, v = some (.ref p) ∧ S p = none ∧ H p = some u ∧ q.p S u a
/-- the address of a slot that may change -/
def ownOf : Option V → Sl → List Addr
  | some (.ref p), .ow _ _ => [p]
  | some (.ref p), .iv _ _ => [p]
  | some (.ref p), .ob _ _ => [p]
  | _, _ => []
def SlAll (S H : Hp) : St → List Sl → Prop
  | [], [] => True
  | v :: σ, s :: env => SlOk S H v s ∧ SlAll S H σ env
  | _, _ => False
def owns : St → List Sl → List Addr
  | v :: σ, s :: env => ownOf v s ++ owns σ env
  | _, _ => []
/-- all tuples that stand are among the data that nobody changes -/
def Tc (S H : Hp) : Prop := ∀ b vs, H b = some (.tup vs) → S b ≠ none
theorem Tc.both {S H : Hp} (t : Tc S H) (p : Addr) (o : HO) : Tc (upd S p o) (upd H p o) := fun b vs e => by
  by_cases z : b = p
  · rw [z, upd_same]
    exact fun z => nomatch z
  · rw [upd_ne z] at e ⊢
    exact t b vs e
theorem Tc.up {S H : Hp} (t : Tc S H) {p : Addr} {o : HO} (ho : ∀ vs, o ≠ .tup vs) : Tc S (upd H p o) := fun b vs e => by
  by_cases z : b = p
  · rw [z, upd_same] at e
    exact absurd (Option.some.inj e) (ho vs)
  · rw [upd_ne z] at e
    exact t b vs e
theorem Tc.grow {S S' H : Hp} (t : Tc S H) (e : Ex S S') : Tc S' H := fun b vs h z => by
  cases q : S b with
  | none => exact t b vs h q
  | some o =>
    rw [e _ _ q] at z
    cases z
theorem Tc.get {S H : Hp} (t : Tc S H) (x : Ex S H) {b : Addr} {vs : List V} (h : H b = some (.tup vs)) : S b = some (.tup vs) := by
  cases q : S b with
  | none => exact absurd q (t b vs h)
  | some o =>
    have := x _ _ q
    rw [h] at this
    exact this.symm
structure Cs where
  A0 : List Addr
  S0 : Hp
  H0 : Hp
structure Fr (C : Cs) (S H : Hp) (σ : St) (env : List Sl) : Prop where
  e0 : Ex C.S0 S
  e1 : Ex S H
  e2 : ∀ b o, C.H0 b = some o → b ∉ C.A0 → H b = some o
  nw : ∀ b, C.S0 b = none → C.H0 b ≠ none → S b = none
  al : ∀ b, C.H0 b ≠ none → H b ≠ none
  sl : SlAll S H σ env
  ow : ∀ p ∈ owns σ env, C.H0 p = none ∨ p ∈ C.A0
  nd : (owns σ env).Nodup
  tc : Tc S H

section
variable {C : Cs} {S S' H H' : Hp} {σ : St} {env : List Sl}
theorem SlAll.len : ∀ {σ : St} {env : List Sl}, SlAll S H σ env → σ.length = env.length
  | [], [], _ => rfl
  | _ :: _, _ :: _, ⟨_, h⟩ => by rw [List.length_cons, List.length_cons, SlAll.len h]
  | [], _ :: _, z => z.elim
  | _ :: _, [], z => z.elim
theorem SlAll.get : ∀ {σ : St} {env : List Sl} (i : Nat) {s : Sl}, SlAll S H σ env → env[i]? = some s → ∃ v, σ[i]? = some v ∧ SlOk S H v s
  | [], [], _, _, _, h => by simp at h
  | v :: σ, t :: env, 0, s, ⟨a, b⟩, h => by
    simp at h
    subst h
    exact ⟨v, rfl, a⟩
  | v :: σ, t :: env, i + 1, s, ⟨a, b⟩, h => by
    obtain ⟨w, e, r⟩ := SlAll.get i b (by simpa using h)
    exact ⟨w, by simpa using e, r⟩
  | [], _ :: _, _, _, z, _ => z.elim
  | _ :: _, [], _, _, z, _ => z.elim
theorem SlAll.set : ∀ {σ : St} {env : List Sl} (i : Nat) {v : Option V} {s : Sl}, SlAll S H σ env → SlOk S H v s → SlAll S H (σ.set i v) (env.set i s)
  | [], [], _, _, _, _, _ => True.intro
  | v :: σ, t :: env, 0, _, _, ⟨a, b⟩, h => ⟨h, b⟩
  | v :: σ, t :: env, i + 1, _, _, ⟨a, b⟩, h => ⟨a, SlAll.set i b h⟩
  | [], _ :: _, _, _, _, z, _ => z.elim
  | _ :: _, [], _, _, _, z, _ => z.elim
theorem owns_mem_get : ∀ {σ : St} {env : List Sl} (i : Nat) {p : Addr} {s : Sl}, env[i]? = some s → σ[i]? = some (some (.ref p)) → ownOf (some (.ref p)) s = [p] → p ∈ owns σ env
  | v :: σ, t :: env, 0, p, s, h1, h2, h3 => by
    simp at h1 h2
    subst h1 h2
    unfold owns
    rw [h3]
    simp
  | v :: σ, t :: env, i + 1, p, s, h1, h2, h3 => by
    unfold owns
    exact List.mem_append_right _ (owns_mem_get i (by simpa using h1) (by simpa using h2) h3)
  | [], _, _, _, _, _, h2, _ => by simp at h2
  | _ :: _, [], _, _, _, h1, _, _ => by simp at h1
/-- each slot's own address -/
theorem owns_of : ∀ {σ : St} {env : List Sl} {p : Addr}, p ∈ owns σ env → ∃ (i : Nat) (s : Sl), env[i]? = some s ∧ σ[i]? = some (some (.ref p)) ∧ ownOf (some (.ref p)) s = [p]
  | v :: σ, t :: env, p, h => by
    unfold owns at h
    rcases List.mem_append.mp h with h | h
    · refine ⟨0, t, rfl, ?_, ?_⟩
      · unfold ownOf at h
        split at h <;> simp_all
      · unfold ownOf at h ⊢
        split at h <;> simp_all
    · obtain ⟨i, s, a, b, c⟩ := owns_of h
      exact ⟨i + 1, s, by simpa using a, by simpa using b, c⟩
  | [], _, _, h => by simp [owns] at h
  | _ :: _, [], _, h => by simp [owns] at h
/-- two slots with one own address are one slot -/
theorem owns_inj : ∀ {σ : St} {env : List Sl} {p : Addr} {i j : Nat} {s t : Sl}, (owns σ env).Nodup → env[i]? = some s → σ[i]? = some (some (.ref p)) → ownOf (some (.ref p)) s = [p] → env[j]? = some t → σ[j]? = some (some (.ref p)) → ownOf (some (.ref p)) t = [p] → i = j
  | v :: σ, u :: env, p, 0, 0, s, t, nd, a1, a2, a3, b1, b2, b3 => rfl
  | v :: σ, u :: env, p, 0, j + 1, s, t, nd, a1, a2, a3, b1, b2, b3 => by
    unfold owns at nd
    have m : p ∈ owns σ env := owns_mem_get j (by simpa using b1) (by simpa using b2) b3
    simp at a1 a2
    subst a1 a2
    rw [a3] at nd
    exact absurd m (List.nodup_cons.mp (by simpa using nd)).1
  | v :: σ, u :: env, p, i + 1, 0, s, t, nd, a1, a2, a3, b1, b2, b3 => by
    unfold owns at nd
    have m : p ∈ owns σ env := owns_mem_get i (by simpa using a1) (by simpa using a2) a3
    simp at b1 b2
    subst b1 b2
    rw [b3] at nd
    exact absurd m (List.nodup_cons.mp (by simpa using nd)).1
  | v :: σ, u :: env, p, i + 1, j + 1, s, t, nd, a1, a2, a3, b1, b2, b3 => by
    unfold owns at nd
    have nd2 : (owns σ env).Nodup := (List.nodup_append.mp nd).2.1
    rw [owns_inj (i := i) (j := j) nd2 (by simpa using a1) (by simpa using a2) a3 (by simpa using b1) (by simpa using b2) b3]
  | [], _, _, _, _, _, _, _, _, h, _, _, _, _ => by simp at h
  | _ :: _, [], _, _, _, _, _, _, h, _, _, _, _, _ => by simp at h
/-- the own addresses behind a store -/
theorem owns_set : ∀ {σ : St} {env : List Sl} (i : Nat) {v : Option V} {s : Sl} {p : Addr}, p ∈ owns (σ.set i v) (env.set i s) → p ∈ owns σ env ∨ p ∈ ownOf v s
  | [], _, _, _, _, _, h => by simp [owns] at h
  | _ :: _, [], _, _, _, _, h => by simp [owns] at h
  | w :: σ, t :: env, 0, v, s, p, h => by
    simp only [List.set_cons_zero, owns, List.mem_append] at h ⊢
    rcases h with h | h
    · exact .inr h
    · exact .inl (.inr h)
  | w :: σ, t :: env, i + 1, v, s, p, h => by
    simp only [List.set_cons_succ, owns, List.mem_append] at h ⊢
    rcases h with h | h
    · exact .inl (.inl h)
    · rcases owns_set i h with h | h
      · exact .inl (.inr h)
      · exact .inr h
theorem owns_set_nd : ∀ {σ : St} {env : List Sl} (i : Nat) {v : Option V} {s : Sl}, (owns σ env).Nodup → (∀ p ∈ ownOf v s, p ∉ owns σ env) → (owns (σ.set i v) (env.set i s)).Nodup
  | [], _, _, _, _, h, _ => by simp [owns]
  | _ :: _, [], _, _, _, h, _ => by simp [owns]
  | w :: σ, t :: env, 0, v, s, h, n => by
    simp only [List.set_cons_zero, owns] at h n ⊢
    refine List.nodup_append.mpr ⟨?_, (List.nodup_append.mp h).2.1, fun a ha b hb e => ?_⟩
    · unfold ownOf
      split <;> simp
    · subst e
      exact n a ha (List.mem_append_right _ hb)
  | w :: σ, t :: env, i + 1, v, s, h, n => by
    simp only [List.set_cons_succ, owns] at h n ⊢
    have h2 := List.nodup_append.mp h
    refine List.nodup_append.mpr ⟨h2.1, owns_set_nd i h2.2.1 (fun p hp z => n p hp (List.mem_append_right _ z)), fun a ha b hb e => ?_⟩
    subst e
    rcases owns_set i hb with hb | hb
    · exact h2.2.2 a ha a hb rfl
    · exact n a hb (List.mem_append_left _ ha)
theorem SlAll.setEnv : ∀ {σ : St} {env : List Sl} (i : Nat) {v : Option V} {t : Sl}, SlAll S H σ env → σ[i]? = some v → SlOk S H v t → SlAll S H σ (env.set i t)
  | [], [], _, _, _, _, _, _ => True.intro
  | v :: σ, u :: env, 0, _, _, ⟨a, b⟩, h, q => by
    simp at h
    subst h
    exact ⟨q, b⟩
  | v :: σ, u :: env, i + 1, _, _, ⟨a, b⟩, h, q => ⟨a, SlAll.setEnv i b (by simpa using h) q⟩
  | [], _ :: _, _, _, _, z, _, _ => z.elim
  | _ :: _, [], _, _, _, z, _, _ => z.elim
/-- an own address is none of the frozen part -/
theorem SlAll.own (h : SlAll S H σ env) {p : Addr} (hp : p ∈ owns σ env) : S p = none ∧ ∃ o, H p = some o := by
  obtain ⟨i, s, a, b, c⟩ := owns_of hp
  obtain ⟨v, e, r⟩ := h.get i a
  rw [b] at e
  cases e
  cases s with
  | un => cases c
  | im _ _ => cases c
  | ow r' xs =>
    obtain ⟨q, vs, e1, e2, e3, _⟩ := r
    cases e1
    exact ⟨e2, _, e3⟩
  | iv d0 o0 =>
    obtain ⟨q, o, e1, e2, e3, _⟩ := r
    cases e1
    exact ⟨e2, _, e3⟩
  | ob q0 a0 =>
    obtain ⟨q, o, e1, e2, e3, _⟩ := r
    cases e1
    exact ⟨e2, _, e3⟩
/-- both heaps grow, the own things stand -/
theorem SlOk.mono {v : Option V} {s : Sl} (eS : Ex S S') (eH : Ex H H') (n : ∀ p ∈ ownOf v s, S' p = none) (h : SlOk S H v s) : SlOk S' H' v s := by
  cases s with
  | un => exact True.intro
  | im r a =>
    obtain ⟨x, e, q⟩ := h
    exact ⟨x, e, r.mono eS q⟩
  | ow r xs =>
    obtain ⟨p, vs, e, e2, e3, q⟩ := h
    subst e
    exact ⟨p, vs, rfl, n p (by simp [ownOf]), eH _ _ e3, q.mono fun _ _ z => r.mono eS z⟩
  | iv d0 o0 =>
    obtain ⟨p, o, e, e2, e3, q⟩ := h
    subst e
    exact ⟨p, o, rfl, n p (by simp [ownOf]), eH _ _ e3, q⟩
  | ob q0 a0 =>
    obtain ⟨p, o, e, e2, e3, q⟩ := h
    subst e
    exact ⟨p, o, rfl, n p (by simp [ownOf]), eH _ _ e3, q0.mono eS q⟩
theorem SlAll.mono : ∀ {σ : St} {env : List Sl}, Ex S S' → Ex H H' → (∀ p ∈ owns σ env, S' p = none) → SlAll S H σ env → SlAll S' H' σ env
  | [], [], _, _, _, _ => True.intro
  | v :: σ, s :: env, a, b, n, ⟨x, y⟩ => ⟨x.mono a b (fun p hp => n p (by unfold owns; exact List.mem_append_left _ hp)), SlAll.mono a b (fun p hp => n p (by unfold owns; exact List.mem_append_right _ hp)) y⟩
  | [], _ :: _, _, _, _, z => z.elim
  | _ :: _, [], _, _, _, z => z.elim
/-- a new thing that nobody changes -/
theorem Fr.new (F : Fr C S H σ env) {p : Addr} {o : HO} (hp : H p = none) : Fr C (upd S p o) (upd H p o) σ env := by
  have sp : S p = none := F.e1.back hp
  have hp0 : C.H0 p = none := by
    cases q : C.H0 p with
    | none => rfl
    | some u => exact absurd hp (F.al p (by rw [q]; exact fun z => nomatch z))
  refine ⟨F.e0.trans (Ex.new sp), F.e1.upd2, fun b u e n => ?_, fun b s0 h0 => ?_, fun b h0 => ?_, F.sl.mono (Ex.new sp) (Ex.new hp) fun q hq => ?_, F.ow, F.nd, F.tc.both p o⟩
  · exact Ex.new hp _ _ (F.e2 b u e n)
  · have nb : b ≠ p := fun z => by
      subst z
      exact h0 hp0
    rw [upd_ne nb]
    exact F.nw b s0 h0
  · by_cases z : b = p
    · subst z
      exact absurd hp0 h0
    · rw [upd_ne z]
      exact F.al b h0
  · obtain ⟨a, u, b⟩ := F.sl.own hq
    rw [upd_ne (ne_of_none b hp)]
    exact a
/-- a slot stored: data that nobody changes -/
theorem Fr.setIm (F : Fr C S H σ env) (i : Nat) {α : Type} {r : Rp α} {v : V} {a : α} (h : r.p S v a) : Fr C S H (σ.set i (some v)) (env.set i (.im r a)) := by
  have n0 : ownOf (some v) (Sl.im r a) = [] := by cases v <;> rfl
  exact ⟨F.e0, F.e1, F.e2, F.nw, F.al, F.sl.set i ⟨v, rfl, h⟩, fun p hp => (owns_set i hp).elim (F.ow p) (fun z => by rw [n0] at z; cases z), owns_set_nd i F.nd (fun p hp => by rw [n0] at hp; cases hp), F.tc⟩
/-- .. forgotten -/
theorem Fr.setUn (F : Fr C S H σ env) (i : Nat) (v : Option V) : Fr C S H (σ.set i v) (env.set i .un) := by
  have n0 : ownOf v Sl.un = [] := by cases v with | none => rfl | some v => cases v <;> rfl
  exact ⟨F.e0, F.e1, F.e2, F.nw, F.al, F.sl.set i True.intro, fun p hp => (owns_set i hp).elim (F.ow p) (fun z => by rw [n0] at z; cases z), owns_set_nd i F.nd (fun p hp => by rw [n0] at hp; cases hp), F.tc⟩
/-- a new list of the def's own -/
theorem Fr.setOw (F : Fr C S H σ env) (i : Nat) {α : Type} {r : Rp α} {p : Addr} {vs : List V} {xs : List α} (hp : H p = none) (h : All2 (r.p S) vs xs) :
    Fr C S (upd H p (.lst vs)) (σ.set i (some (.ref p))) (env.set i (.ow r xs)) := by
  have sp : S p = none := F.e1.back hp
  have hp0 : C.H0 p = none := by
    cases q : C.H0 p with
    | none => rfl
    | some u => exact absurd hp (F.al p (by rw [q]; exact fun z => nomatch z))
  have sl : SlAll S (upd H p (.lst vs)) σ env := F.sl.mono (Ex.refl S) (Ex.new hp) fun q hq => (F.sl.own hq).1
  refine ⟨F.e0, F.e1.trans (Ex.new hp), fun b u e n => Ex.new hp _ _ (F.e2 b u e n), F.nw, fun b h0 => ?_, sl.set i ⟨p, vs, rfl, sp, upd_same, h⟩, fun q hq => ?_, owns_set_nd i F.nd (fun q hq z => ?_), F.tc.up fun _ z => nomatch z⟩
  · by_cases z : b = p
    · rw [z, upd_same]
      exact fun z => nomatch z
    · rw [upd_ne z]
      exact F.al b h0
  · rcases owns_set i hq with z | z
    · exact F.ow q z
    · simp [ownOf] at z
      subst z
      exact .inl hp0
  · simp [ownOf] at hq
    subst hq
    obtain ⟨_, o, e⟩ := F.sl.own z
    rw [hp] at e
    cases e
theorem SlAll.mutOne : ∀ {σ : St} {env : List Sl} {i : Nat} {p : Addr} {o : HO} {s t : Sl}, SlAll S H σ env → (owns σ env).Nodup → env[i]? = some s → σ[i]? = some (some (.ref p)) → ownOf (some (.ref p)) s = [p] → SlOk S (upd H p o) (some (.ref p)) t →
    SlAll S (upd H p o) σ (env.set i t)
  | v :: σ, u :: env, 0, p, o, s, t, ⟨a, b⟩, nd, h1, h2, h3, h4 => by
    simp at h1 h2
    subst h1 h2
    unfold owns at nd
    rw [h3] at nd
    have np : p ∉ owns σ env := (List.nodup_cons.mp (by simpa using nd)).1
    refine ⟨h4, ?_⟩
    have key : ∀ {σ : St} {env : List Sl}, p ∉ owns σ env → SlAll S H σ env → SlAll S (upd H p o) σ env := by
      intro σ
      induction σ with
      | nil => intro env n z; cases env with | nil => exact True.intro | cons _ _ => exact z.elim
      | cons w σ ih => intro env n z; cases env with | nil => exact z.elim | cons s env =>
          obtain ⟨z1, z2⟩ := z
          unfold owns at n
          refine ⟨?_, ih (fun q => n (List.mem_append_right _ q)) z2⟩
          have n1 : p ∉ ownOf w s := fun q => n (List.mem_append_left _ q)
          cases s with
          | un => exact True.intro
          | im r a => exact z1
          | ow r xs =>
            obtain ⟨q, vs, e, e2, e3, e4⟩ := z1
            subst e
            have : q ≠ p := fun z => n1 (by rw [z]; simp [ownOf])
            exact ⟨q, vs, rfl, e2, by rw [upd_ne this]; exact e3, e4⟩
          | iv d0 o0 =>
            obtain ⟨q, o2, e, e2, e3, e4⟩ := z1
            subst e
            have : q ≠ p := fun z => n1 (by rw [z]; simp [ownOf])
            exact ⟨q, o2, rfl, e2, by rw [upd_ne this]; exact e3, e4⟩
          | ob q0 a0 =>
            obtain ⟨q, o2, e, e2, e3, e4⟩ := z1
            subst e
            have : q ≠ p := fun z => n1 (by rw [z]; simp [ownOf])
            exact ⟨q, o2, rfl, e2, by rw [upd_ne this]; exact e3, e4⟩
    exact key np b
  | v :: σ, u :: env, i + 1, p, o, s, t, ⟨a, b⟩, nd, h1, h2, h3, h4 => by
    have m : p ∈ owns σ env := owns_mem_get i (by simpa using h1) (by simpa using h2) h3
    have nd' := nd
    unfold owns at nd'
    have n1 : p ∉ ownOf v u := fun z => (List.nodup_append.mp nd').2.2 p z p m rfl
    refine ⟨?_, SlAll.mutOne b (List.nodup_append.mp nd').2.1 (by simpa using h1) (by simpa using h2) h3 h4⟩
    cases u with
    | un => exact True.intro
    | im r a => exact a
    | ow r xs =>
      obtain ⟨q, vs, e, e2, e3, e4⟩ := a
      subst e
      have : q ≠ p := fun z => n1 (by rw [z]; simp [ownOf])
      exact ⟨q, vs, rfl, e2, by rw [upd_ne this]; exact e3, e4⟩
    | iv d0 o0 =>
      obtain ⟨q, o2, e, e2, e3, e4⟩ := a
      subst e
      have : q ≠ p := fun z => n1 (by rw [z]; simp [ownOf])
      exact ⟨q, o2, rfl, e2, by rw [upd_ne this]; exact e3, e4⟩
    | ob q0 a0 =>
      obtain ⟨q, o2, e, e2, e3, e4⟩ := a
      subst e
      have : q ≠ p := fun z => n1 (by rw [z]; simp [ownOf])
      exact ⟨q, o2, rfl, e2, by rw [upd_ne this]; exact e3, e4⟩
  | [], _, _, _, _, _, _, _, _, _, h2, _, _ => by simp at h2
  | _ :: _, [], _, _, _, _, _, _, _, h1, _, _, _ => by simp at h1
theorem owns_same : ∀ {σ : St} {env : List Sl} {i : Nat} {p : Addr} {s t : Sl}, env[i]? = some s → σ[i]? = some (some (.ref p)) → ownOf (some (.ref p)) s = [p] → ownOf (some (.ref p)) t = [p] → owns σ (env.set i t) = owns σ env
  | v :: σ, u :: env, 0, p, s, t, h1, h2, h3, h4 => by
    simp at h1 h2
    subst h1 h2
    simp only [List.set_cons_zero, owns]
    rw [h3, h4]
  | v :: σ, u :: env, i + 1, p, s, t, h1, h2, h3, h4 => by
    simp only [List.set_cons_succ, owns]
    rw [owns_same (by simpa using h1) (by simpa using h2) h3 h4]
  | [], _, _, _, _, _, _, h2, _, _ => by simp at h2
  | _ :: _, [], _, _, _, _, h1, _, _, _ => by simp at h1
/-- a list of the def's own is changed -/
theorem Fr.write (F : Fr C S H σ env) {i : Nat} {α : Type} {r : Rp α} {xs ys : List α} {p : Addr} {vs : List V} (hi : env[i]? = some (.ow r xs)) (hp : σ[i]? = some (some (.ref p))) (h : All2 (r.p S) vs ys) :
    Fr C S (upd H p (.lst vs)) σ (env.set i (.ow r ys)) := by
  have m : p ∈ owns σ env := owns_mem_get i hi hp rfl
  obtain ⟨sp, o, ho⟩ := F.sl.own m
  have eo : owns σ (env.set i (.ow r ys)) = owns σ env := owns_same hi hp rfl rfl
  refine ⟨F.e0, F.e1.mut sp, fun b u e n => ?_, F.nw, fun b h0 => ?_, F.sl.mutOne F.nd hi hp rfl ⟨p, vs, rfl, sp, upd_same, h⟩, by rw [eo]; exact F.ow, by rw [eo]; exact F.nd, F.tc.up fun _ z => nomatch z⟩
  · have nb : b ≠ p := fun z => by
      subst z
      rcases F.ow b m with q | q
      · rw [q] at e
        cases e
      · exact n q
    rw [upd_ne nb]
    exact F.e2 b u e n
  · by_cases z : b = p
    · rw [z, upd_same]
      exact fun z => nomatch z
    · rw [upd_ne z]
      exact F.al b h0
theorem owns_less : ∀ {σ : St} {env : List Sl} {i : Nat} {p : Addr} {s t : Sl}, env[i]? = some s → σ[i]? = some (some (.ref p)) → ownOf (some (.ref p)) s = [p] → ownOf (some (.ref p)) t = [] → (owns σ env).Nodup → p ∉ owns σ (env.set i t) ∧ (owns σ (env.set i t)).Nodup ∧ ∀ q ∈ owns σ (env.set i t), q ∈ owns σ env
  | v :: σ, u :: env, 0, p, s, t, h1, h2, h3, h4, nd => by
    simp at h1 h2
    subst h1 h2
    simp only [List.set_cons_zero, owns] at nd ⊢
    rw [h3] at nd ⊢
    rw [h4]
    have q := List.nodup_cons.mp (show (p :: owns σ env).Nodup by simpa using nd)
    exact ⟨by simpa using q.1, by simpa using q.2, fun q hq => List.mem_append_right _ (by simpa using hq)⟩
  | v :: σ, u :: env, i + 1, p, s, t, h1, h2, h3, h4, nd => by
    have m : p ∈ owns σ env := owns_mem_get i (by simpa using h1) (by simpa using h2) h3
    simp only [List.set_cons_succ, owns] at nd ⊢
    obtain ⟨a, b, c⟩ := owns_less (i := i) (t := t) (by simpa using h1) (by simpa using h2) h3 h4 (List.nodup_append.mp nd).2.1
    have nd2 := List.nodup_append.mp nd
    refine ⟨fun z => ?_, List.nodup_append.mpr ⟨nd2.1, b, fun x hx y hy e => nd2.2.2 x hx y (c y hy) e⟩, fun q hq => ?_⟩
    · rcases List.mem_append.mp z with z | z
      · exact nd2.2.2 p z p m rfl
      · exact a z
    · rcases List.mem_append.mp hq with z | z
      · exact List.mem_append_left _ z
      · exact List.mem_append_right _ (c q z)
  | [], _, _, _, _, _, _, h2, _, _, _ => by simp at h2
  | _ :: _, [], _, _, _, _, h1, _, _, _, _ => by simp at h1
/-- a list of the def's own is changed no more -/
theorem Fr.freeze (F : Fr C S H σ env) {i : Nat} {α : Type} {r : Rp α} {xs : List α} (hi : env[i]? = some (.ow r xs)) (h0 : ∀ p, σ[i]? = some (some (.ref p)) → p ∉ C.A0) :
    ∃ S', Ex S S' ∧ Fr C S' H σ (env.set i (.im (qL r) xs)) := by
  obtain ⟨v, e, p, vs, rfl, sp, hp, h⟩ := F.sl.get i hi
  have m : p ∈ owns σ env := owns_mem_get i hi e rfl
  obtain ⟨l1, l2, l3⟩ := owns_less (t := .im (qL r) xs) hi e rfl rfl F.nd
  have eS : Ex S (upd S p (.lst vs)) := Ex.new sp
  have eH : Ex (upd S p (.lst vs)) H := fun b u q => by
    by_cases z : b = p
    · subst z
      rw [upd_same] at q
      rw [hp]
      exact q
    · rw [upd_ne z] at q
      exact F.e1 b u q
  refine ⟨upd S p (.lst vs), eS, F.e0.trans eS, eH, F.e2, fun b s0 h0' => ?_, F.al, ?_, fun q hq => F.ow q (l3 q hq), l2, F.tc.grow eS⟩
  · by_cases z : b = p
    · subst z
      rcases F.ow b m with q | q
      · exact absurd q h0'
      · exact absurd q (h0 b e)
    · rw [upd_ne z]
      exact F.nw b s0 h0'
  · obtain ⟨u1, u2, u3⟩ := owns_less (t := .un) hi e rfl (by simp [ownOf]) F.nd
    have z0 : SlAll S H σ (env.set i .un) := F.sl.setEnv i e True.intro
    have z1 : SlAll (upd S p (.lst vs)) H σ (env.set i .un) := z0.mono eS (Ex.refl H) fun q hq => by
      have nq : q ≠ p := fun z => u1 (by rw [← z]; exact hq)
      rw [upd_ne nq]
      exact (z0.own hq).1
    have z2 := z1.setEnv (t := .im (qL r) xs) i e ⟨.ref p, rfl, p, vs, rfl, (show upd S p (.lst vs) p = some (.lst vs) from upd_same), h.mono fun _ _ z => r.mono eS z⟩
    rw [List.set_set] at z2
    exact z2
/-- an object of another kind, of the def's own: made, changed, changed no more -/
theorem Fr.setOb (F : Fr C S H σ env) (i : Nat) {α : Type} {q : Og α} {p : Addr} {u : HO} {a : α} (hp : H p = none) (h : q.p S u a) (nt : ∀ vs, u ≠ .tup vs) :
    Fr C S (upd H p u) (σ.set i (some (.ref p))) (env.set i (.ob q a)) := by
  have sp : S p = none := F.e1.back hp
  have hp0 : C.H0 p = none := by
    cases q : C.H0 p with
    | none => rfl
    | some u => exact absurd hp (F.al p (by rw [q]; exact fun z => nomatch z))
  have sl : SlAll S (upd H p u) σ env := F.sl.mono (Ex.refl S) (Ex.new hp) fun q hq => (F.sl.own hq).1
  refine ⟨F.e0, F.e1.trans (Ex.new hp), fun b u e n => Ex.new hp _ _ (F.e2 b u e n), F.nw, fun b h0 => ?_, sl.set i ⟨p, u, rfl, sp, upd_same, h⟩, fun q hq => ?_, owns_set_nd i F.nd (fun q hq z => ?_), F.tc.up nt⟩
  · by_cases z : b = p
    · rw [z, upd_same]
      exact fun z => nomatch z
    · rw [upd_ne z]
      exact F.al b h0
  · rcases owns_set i hq with z | z
    · exact F.ow q z
    · rw [List.mem_singleton.mp (show q ∈ [p] from z)]
      exact .inl hp0
  · rw [List.mem_singleton.mp (show q ∈ [p] from hq)] at z
    obtain ⟨_, o, e⟩ := F.sl.own z
    rw [hp] at e
    cases e
theorem Fr.writeOb (F : Fr C S H σ env) {i : Nat} {α : Type} {q : Og α} {a b : α} {p : Addr} {u : HO} (hi : env[i]? = some (.ob q a)) (hp : σ[i]? = some (some (.ref p))) (h : q.p S u b) (nt : ∀ vs, u ≠ .tup vs) :
    Fr C S (upd H p u) σ (env.set i (.ob q b)) := by
  have m : p ∈ owns σ env := owns_mem_get i hi hp rfl
  obtain ⟨sp, o, ho⟩ := F.sl.own m
  have eo : owns σ (env.set i (.ob q b)) = owns σ env := owns_same hi hp rfl rfl
  refine ⟨F.e0, F.e1.mut sp, fun b u e n => ?_, F.nw, fun b h0 => ?_, F.sl.mutOne F.nd hi hp rfl ⟨p, u, rfl, sp, upd_same, h⟩, by rw [eo]; exact F.ow, by rw [eo]; exact F.nd, F.tc.up nt⟩
  · have nb : b ≠ p := fun z => by
      subst z
      rcases F.ow b m with q | q
      · rw [q] at e
        cases e
      · exact n q
    rw [upd_ne nb]
    exact F.e2 b u e n
  · by_cases z : b = p
    · rw [z, upd_same]
      exact fun z => nomatch z
    · rw [upd_ne z]
      exact F.al b h0
def qOb {α : Type} (q : Og α) : Rp α := ⟨fun H v a => ∃ p u, v = .ref p ∧ H p = some u ∧ q.p H u a, fun e ⟨p, u, h1, h2, h3⟩ => ⟨p, u, h1, e _ _ h2, q.mono e h3⟩⟩
theorem Fr.freezeOb (F : Fr C S H σ env) {i : Nat} {α : Type} {q : Og α} {a : α} (hi : env[i]? = some (.ob q a)) (h0 : ∀ p, σ[i]? = some (some (.ref p)) → p ∉ C.A0) :
    ∃ S', Ex S S' ∧ Fr C S' H σ (env.set i (.im (qOb q) a)) := by
  obtain ⟨v, e, p, u, rfl, sp, hp, h⟩ := F.sl.get i hi
  have m : p ∈ owns σ env := owns_mem_get i hi e rfl
  obtain ⟨l1, l2, l3⟩ := owns_less (t := .im (qOb q) a) hi e rfl rfl F.nd
  have eS : Ex S (upd S p u) := Ex.new sp
  have eH : Ex (upd S p u) H := fun b u2 q2 => by
    by_cases z : b = p
    · subst z
      rw [upd_same] at q2
      rw [hp]
      exact q2
    · rw [upd_ne z] at q2
      exact F.e1 b u2 q2
  refine ⟨upd S p u, eS, F.e0.trans eS, eH, F.e2, fun b s0 h0' => ?_, F.al, ?_, fun q hq => F.ow q (l3 q hq), l2, F.tc.grow eS⟩
  · by_cases z : b = p
    · subst z
      rcases F.ow b m with q | q
      · exact absurd q h0'
      · exact absurd q (h0 b e)
    · rw [upd_ne z]
      exact F.nw b s0 h0'
  · obtain ⟨u1, u2, u3⟩ := owns_less (t := .un) hi e rfl (by simp [ownOf]) F.nd
    have z0 : SlAll S H σ (env.set i .un) := F.sl.setEnv i e True.intro
    have z1 : SlAll (upd S p u) H σ (env.set i .un) := z0.mono eS (Ex.refl H) fun q hq => by
      have nq : q ≠ p := fun z => u1 (by rw [← z]; exact hq)
      rw [upd_ne nq]
      exact (z0.own hq).1
    have z2 := z1.setEnv (t := .im (qOb q) a) i e ⟨.ref p, rfl, p, u, rfl, by rw [upd_same], q.mono eS h⟩
    rw [List.set_set] at z2
    exact z2
end
end Rt

set_option maxRecDepth 100000
set_option maxHeartbeats 4000000
/-! Rt2: expressions that give data. -/
namespace Rt
open PySem L2

/-! ### readings in another dress -/
/-- the lists and tuples that stand are no longer than the line -/
def Lens (H : Hp) : Prop := ∀ a k vs, Sq k H a vs → vs.length ≤ sizeLine
section
variable {X : Cx} {e : Expr} {te te' : TE} {tt tt' : TT} {ta ta' : TA} {ts ts' : TS} {st : Stmt} {ss : List Stmt}
theorem Lens.of {pins : List (Addr × Obj)} {σ : St} {H : Hp} {s : Shared} (I : Inv X pins σ H s) : Lens H := fun a k vs h => by
  cases k with
  | true => exact (show vs.length ≤ sizeLine ∧ _ from I.hok a (.lst vs) h).1
  | false =>
    obtain ⟨o, _, h⟩ := h
    exact (show _ ∧ (vs.length ≤ sizeLine ∧ _) from I.hok a (.frz o (.tup vs)) h).2.1
theorem pe_imp (h : PE X e te) (hi : ∀ σ H Q, Lens H → te' σ H Q → te σ H (fun v H' => Lens H' → Q v H')) : PE X e te' := ⟨fun pins s σ H Q I q =>
  thn (h.run pins s σ H _ I (hi σ H Q (Lens.of I) q)) fun _ _ ⟨v, H', I', r, z⟩ => ⟨v, H', I', r, z (Lens.of I')⟩⟩
theorem pt_imp (h : PT X e tt) (hi : ∀ σ H Q, Lens H → tt' σ H Q → tt σ H (fun v H' => Lens H' → Q v H')) : PT X e tt' := ⟨fun pins s σ H Q I q =>
  thn (h.run pins s σ H _ I (hi σ H Q (Lens.of I) q)) fun _ _ ⟨H', I', z⟩ => ⟨H', I', z (Lens.of I')⟩⟩
theorem pss_imp (h : PSs X ss ts) (hi : ∀ D σ H, Lens H → ts' D σ H → ts D σ H) : PSs X ss ts' := ⟨fun pins s σ H D I q => h.run pins s σ H D I (hi D σ H (Lens.of I) q)⟩
theorem ps_imp (h : PS X st ts) (hi : ∀ D σ H, Lens H → ts' D σ H → ts D σ H) : PS X st ts' := ⟨fun pins s σ H D I q => h.run pins s σ H D I (hi D σ H (Lens.of I) q)⟩
theorem pss_ex {α : Sort _} {ts : α → TS} (h : ∀ a, PSs X ss (ts a)) : PSs X ss (fun D σ H => ∃ a, ts a D σ H) := ⟨fun pins s σ H D I ⟨a, q⟩ => (h a).run pins s σ H D I q⟩
theorem pe_ex {α : Sort _} {te : α → TE} (h : ∀ a, PE X e (te a)) : PE X e (fun σ H Q => ∃ a, te a σ H Q) := ⟨fun pins s σ H Q I ⟨a, q⟩ => (h a).run pins s σ H Q I q⟩
theorem pt_ex {α : Sort _} {te : α → TT} (h : ∀ a, PT X e (te a)) : PT X e (fun σ H Q => ∃ a, te a σ H Q) := ⟨fun pins s σ H Q I ⟨a, q⟩ => (h a).run pins s σ H Q I q⟩
theorem pe_and2 {P : Prop} (h : P → PE X e te) : PE X e (fun σ H Q => P ∧ te σ H Q) := ⟨fun pins s σ H Q I ⟨p, q⟩ => (h p).run pins s σ H Q I q⟩
end


/-! ### what may come of a thing: what has to hold before, for what is wanted behind -/
/-- the items of the object that more than one def changes -/
abbrev Gh := List Int
def W (α : Type) : Type := (g : Gh) → (α → Gh → Prop) → Prop
def W.ret {α : Type} (a : α) : W α := fun g P => P a g
def W.bind {α β : Type} (w : W α) (f : α → W β) : W β := fun g P => w g fun a g1 => f a g1 P
/-- what is reckoned -/
def ofO {α : Type} (o : Option α) : W α := fun g P => ∃ a, o = some a ∧ P a g
def W.get : W Gh := fun g P => P g g
def W.put (g : Gh) : W Unit := fun _ P => P () g
theorem ofO_some {α : Type} (a : α) : ofO (some a) = W.ret a := by
  funext g P
  exact propext (Iff.intro (fun ⟨b, e, h⟩ => (Option.some.inj e) ▸ h) fun h => ⟨a, rfl, h⟩)
theorem ofO_none {α : Type} {g : Gh} {P : α → Gh → Prop} : ¬ ofO (none : Option α) g P := fun ⟨_, e, _⟩ => nomatch e
theorem ofO_bind {α β : Type} (o : Option α) (f : α → Option β) : ofO (o.bind f) = (ofO o).bind fun a => ofO (f a) := by
  funext g P
  apply propext
  cases o with
  | none => exact Iff.intro (fun ⟨_, e, _⟩ => nomatch e) (fun ⟨_, e, _⟩ => nomatch e)
  | some a => exact Iff.intro (fun h => ⟨a, rfl, h⟩) (fun ⟨b, e, h⟩ => (Option.some.inj e) ▸ h)
theorem ofO_if {α : Type} (b : Bool) (x y : Option α) : ofO (if b = true then x else y) = if b = true then ofO x else ofO y := by cases b <;> rfl
theorem W.ret_bind {α β : Type} (a : α) (f : α → W β) : (W.ret a).bind f = f a := rfl
theorem W.bind_ret {α : Type} (w : W α) : w.bind W.ret = w := rfl
theorem W.bind_assoc {α β γ : Type} (w : W α) (f : α → W β) (g : β → W γ) : (w.bind f).bind g = w.bind fun a => (f a).bind g := rfl

/-! ### judgements -/
section
variable (C : Cs) (env : Gh → List Sl)
def tE {α : Type} (r : Rp α) (m : W α) : TE := fun σ H Q => ∃ S g P, Fr C S H σ (env g) ∧ m g P ∧ ∀ a g', P a g' → ∀ v S' H', Fr C S' H' σ (env g') → Ex S S' → r.p S' v a → Q v H'
def tT (m : W Bool) : TT := fun σ H Q => ∃ S g P, Fr C S H σ (env g) ∧ m g P ∧ ∀ b g', P b g' → ∀ S' H', Fr C S' H' σ (env g') → Ex S S' → Q b H'
/-- a list (k) or a tuple, to be read as long as the frame's data stand -/
def Rdb (k : Bool) {α : Type} (r : Rp α) (xs : List α) (σ : St) (S : Hp) (p : Addr) : Prop := ∀ g S2 H2, Fr C S2 H2 σ (env g) → Ex S S2 → ∃ vs, Sq k H2 p vs ∧ All2 (r.p S2) vs xs
def tQ (k : Bool) {α : Type} (r : Rp α) (m : W (List α)) : TE := fun σ H Q => ∃ S g P, Fr C S H σ (env g) ∧ m g P ∧ ∀ xs g', P xs g' → ∀ p S' H', Fr C S' H' σ (env g') → Ex S S' → Rdb C env k r xs σ S' p → Q (.ref p) H'
/-- a new list -/
def tN {α : Type} (r : Rp α) (m : W (List α)) : TE := fun σ H Q => ∃ S g P, Fr C S H σ (env g) ∧ m g P ∧ ∀ xs g', P xs g' → ∀ p vs S' H', Fr C S' H' σ (env g') → Ex S S' → H' p = none → All2 (r.p S') vs xs → Q (.ref p) (upd H' p (.lst vs))
end
section
variable {X : Cx} {C : Cs} {env : Gh → List Sl} {e a b c : Expr} {pos : Pos} {α β γ : Type} {r ra : Rp α} {rb : Rp β} {rc : Rp γ} {ma : W α} {mb : W β} {k : Bool}

theorem tE_len {m : W α} (h : PE X e (tE C env r m)) : PE X e (fun σ H Q => tE C env r m σ H (fun v H' => Lens H' → Q v H')) := pe_imp h fun σ H Q _ ⟨S, g0, P, F, em, q⟩ => ⟨S, g0, P, F, em, fun a g' pa v S' H' F' eS hr l => q a _ pa v S' H' F' eS hr l⟩
theorem tQ_len {m : W (List α)} (h : PE X e (tQ C env k r m)) : PE X e (fun σ H Q => tQ C env k r m σ H (fun v H' => Lens H' → Q v H')) := pe_imp h fun σ H Q _ ⟨S, g0, P, F, em, q⟩ => ⟨S, g0, P, F, em, fun a g' pa v S' H' F' eS hr l => q a _ pa v S' H' F' eS hr l⟩
theorem xe_N {m : W (List α)} (h : PE X e (tN C env r m)) : PE X e (tE C env (qL r) m) := pe_imp h fun σ H Q _ ⟨S, g0, P, F, em, q⟩ => ⟨S, g0, P, F, em, fun xs g' px p vs S' H' F' eS hp ha _ => by
  have sp : S' p = none := F'.e1.back hp
  refine q xs _ px _ _ _ (F'.new (o := .lst vs) hp) (eS.trans (Ex.new sp)) ⟨p, vs, rfl, upd_same, ha.mono fun _ _ z => r.mono (Ex.new sp) z⟩⟩
theorem xq_im {m : W (List α)} (h : PE X e (tE C env (qSeq k r) m)) : PE X e (tQ C env k r m) := pe_imp h fun σ H Q _ ⟨S, g0, P, F, em, q⟩ => ⟨S, g0, P, F, em, fun xs g' px v S' H' F' eS ⟨p, vs, ev, hp, ha⟩ _ => by
  subst ev
  exact q xs _ px p S' H' F' eS fun _ S2 H2 F2 e2 => ⟨vs, (hp.mono e2).mono F2.e1, ha.mono fun _ _ z => r.mono e2 z⟩⟩
theorem xq_own {i : Nat} {xs : List α} {x : Str} (h : PE X (.Name x pos) (tVar i)) (he : ∀ g, (env g)[i]? = some (.ow r xs) := by intro _; rfl) : PE X (.Name x pos) (tQ C env true r (.ret xs)) := pe_imp h fun σ H Q _ ⟨S, g0, P, F, em, q⟩ => by
  obtain ⟨v, ev, p, vs, e1, _, e3, ha⟩ := F.sl.get i (he _)
  subst e1
  refine ⟨.ref p, ev, fun _ => q xs _ em p S H F (Ex.refl S) fun _ S2 H2 F2 e2 => ?_⟩
  obtain ⟨v2, ev2, p2, vs2, e12, _, e32, ha2⟩ := F2.sl.get i (he _)
  subst e12
  rw [ev] at ev2
  cases ev2
  exact ⟨vs2, e32, ha2⟩

/-! ### names, constants -/
theorem xe_var {i : Nat} {x : Str} {a : α} (h : PE X (.Name x pos) (tVar i)) (he : ∀ g, (env g)[i]? = some (.im r a) := by intro _; rfl) : PE X (.Name x pos) (tE C env r (.ret a)) := pe_imp h fun σ H Q _ ⟨S, g0, P, F, em, q⟩ => by
  obtain ⟨v, ev, x, e1, hr⟩ := F.sl.get i (he _)
  subst e1
  exact ⟨x, ev, fun _ => q a _ em x S H F (Ex.refl S) hr⟩
theorem xe_c {v : V} {a : α} (h : PE X e (tC v)) (hr : ∀ H, r.p H v a) : PE X e (tE C env r (.ret a)) := pe_imp h fun σ H Q _ ⟨S, g0, P, F, em, q⟩ => fun _ => q a _ em v S H F (Ex.refl S) (hr S)
theorem xe_int {i : Int} {j : Nat} : PE X (.Constant (.int i) j pos) (tE C env qI (.ret i)) := xe_c pe_int fun _ => rfl
theorem xe_bl {b : Bool} {j : Nat} : PE X (.Constant (.bool b) j pos) (tE C env qB (.ret b)) := xe_c pe_bl fun _ => rfl
theorem xe_str {x : Str} {j : Nat} : PE X (.Constant (.str x) j pos) (tE C env qS (.ret x)) := xe_c pe_str fun _ => rfl
theorem xe_non {j : Nat} : PE X (.Constant .none j pos) (tE C env qN (.ret ())) := xe_c pe_non fun _ => rfl
theorem xe_gint {x : Str} {i : Int} {t : Tok} (hg : Gl X x) (hm : X.mg x = some (.int i t)) (hd : (x == ("__debug__" : Str)) = false := by decide) : PE X (.Name x pos) (tE C env qI (.ret i)) := xe_c (pe_glob (v := .int i) hg hm ⟨t, rfl⟩ hd) fun _ => rfl

/-! ### operators -/
theorem xe_op {op : Operator} {R : R2} {f : α → β → Option γ} (ho : OpR X (binaryOp op) R) (ha : PE X a (tE C env ra ma)) (hb : PE X b (tE C env rb mb))
    (hr : ∀ (e0 : List Sl) S H σ x y p q z Q, Fr C S H σ e0 → Lens H → ra.p S x p → rb.p S y q → f p q = some z → (∀ v S' H', Fr C S' H' σ e0 → Ex S S' → rc.p S' v z → Q v H') → R x y H Q) :
    PE X (.BinOp a op b pos) (tE C env rc (ma.bind fun p => mb.bind fun q => ofO (f p q))) :=
  pe_imp (pe_op ho ha (tE_len hb)) fun σ H Q _ ⟨S, g0, P, F, em, q⟩ =>
    ⟨S, g0, _, F, em, fun p g1 hp x S1 H1 F1 e1 hx => ⟨S1, g1, _, F1, hp, fun w g2 ⟨z, ez, pz⟩ y S2 H2 F2 e2 hy l2 =>
      hr _ S2 H2 σ x y p w z _ F2 l2 (ra.mono e2 hx) hy ez fun v S' H' F' e' hv _ => q z _ pz v S' H' F' (e1.trans (e2.trans e')) hv⟩⟩
/-- ints in, an int or a bool out -/
theorem xe_opI {op : Operator} {g : Int → Int → γ} {G : Int → Int → V} {ma mb : W Int} (ho : OpR X (binaryOp op) (rI0 G)) (ha : PE X a (tE C env qI ma)) (hb : PE X b (tE C env qI mb)) (hg : ∀ H i j, rc.p H (G i j) (g i j)) :
    PE X (.BinOp a op b pos) (tE C env rc (ma.bind fun p => mb.bind fun q => .ret (g p q))) :=
  pe_imp (pe_op ho ha hb) fun σ H Q _ ⟨S, g0, P, F, em, q⟩ =>
    ⟨S, g0, _, F, em, fun p g1 hp x S1 H1 F1 e1 hx => ⟨S1, g1, _, F1, hp, fun w g2 pz y S2 H2 F2 e2 hy => ⟨p, w, hx, hy, fun _ => q _ _ pz _ S2 H2 F2 (e1.trans e2) (hg S2 p w)⟩⟩⟩
theorem xe_opC {op : Operator} {Cd : Int → Int → Prop} {g : Int → Int → Option γ} {G : Int → Int → V} {ma mb : W Int} (ho : OpR X (binaryOp op) (rI Cd G)) (ha : PE X a (tE C env qI ma)) (hb : PE X b (tE C env qI mb))
    (hg : ∀ H i j z, g i j = some z → Cd i j ∧ rc.p H (G i j) z) : PE X (.BinOp a op b pos) (tE C env rc (ma.bind fun p => mb.bind fun q => ofO (g p q))) :=
  xe_op ho ha hb fun _ S H σ x y p q z Q F _ hx hy ez k => ⟨p, q, hx, hy, (hg S p q z ez).1, k _ S H F (Ex.refl S) (hg S p q z ez).2⟩
/-- products of together less than a million bits -/
def mulC (i j : Int) : Option Int := if i.natAbs.log2 + j.natAbs.log2 < 1000000 then some (i * j) else none
/-- quotients by a divisor below 2 ^ 9000 -/
def divC (i j : Int) : Option Int := if 0 < j ∧ j.natAbs.log2 < 9000 then some (i / j) else if j < 0 ∧ j.natAbs.log2 < 9000 then some (i.fdiv j) else none
def modC (i j : Int) : Option Int := if 0 < j then some (i % j) else if j < 0 then some (i.fmod j) else none
def powC (i j : Int) : Option Int := if 0 ≤ j ∧ j ≤ 1000000 ∧ i.natAbs < 2 ^ 64 then some (i ^ j.toNat) else none
theorem op_fdivA : OpR X (binaryOp .FloorDiv) (rI (fun _ j => j ≠ 0 ∧ j.natAbs.log2 < 9000) fun i j => .int (i.fdiv j)) := opI fun i j _ _ _ _ _ hc q => PyProof.Rows.floordiv_int hc.1 q (.inl (PyProof.noPylong_of_log2 hc.2))
variable {mi mj : W Int}
theorem xe_add (ha : PE X a (tE C env qI mi)) (hb : PE X b (tE C env qI mj)) : PE X (.BinOp a .Add b pos) (tE C env qI (mi.bind fun p => mj.bind fun q => .ret (p + q))) := xe_opI op_add ha hb fun _ _ _ => rfl
theorem xe_sub (ha : PE X a (tE C env qI mi)) (hb : PE X b (tE C env qI mj)) : PE X (.BinOp a .Sub b pos) (tE C env qI (mi.bind fun p => mj.bind fun q => .ret (p - q))) := xe_opI op_sub ha hb fun _ _ _ => rfl
theorem xe_mul (ha : PE X a (tE C env qI mi)) (hb : PE X b (tE C env qI mj)) : PE X (.BinOp a .Mult b pos) (tE C env qI (mi.bind fun p => mj.bind fun q => ofO (mulC p q))) := xe_opC op_mulW ha hb fun H i j z ez => by
  unfold mulC at ez
  split at ez
  · rename_i h
    cases ez
    exact ⟨h, rfl⟩
  · cases ez
theorem xe_fdiv (ha : PE X a (tE C env qI mi)) (hb : PE X b (tE C env qI mj)) : PE X (.BinOp a .FloorDiv b pos) (tE C env qI (mi.bind fun p => mj.bind fun q => ofO (divC p q))) := xe_opC op_fdivA ha hb fun H i j z ez => by
  unfold divC at ez
  split at ez
  · rename_i h
    cases ez
    refine ⟨⟨by omega, h.2⟩, ?_⟩
    show V.int (i.fdiv j) = V.int (i / j)
    rw [Int.fdiv_eq_ediv_of_nonneg i (by omega)]
  · split at ez
    · rename_i h
      cases ez
      exact ⟨⟨by omega, h.2⟩, rfl⟩
    · cases ez
theorem xe_mod (ha : PE X a (tE C env qI mi)) (hb : PE X b (tE C env qI mj)) : PE X (.BinOp a .Mod b pos) (tE C env qI (mi.bind fun p => mj.bind fun q => ofO (modC p q))) := xe_opC op_modN ha hb fun H i j z ez => by
  unfold modC at ez
  split at ez
  · rename_i h
    cases ez
    refine ⟨by omega, ?_⟩
    show V.int (i.fmod j) = V.int (i % j)
    rw [Int.fmod_eq_emod_of_nonneg i (by omega)]
  · split at ez
    · cases ez
      exact ⟨by omega, rfl⟩
    · cases ez
theorem xe_pow (ha : PE X a (tE C env qI mi)) (hb : PE X b (tE C env qI mj)) : PE X (.BinOp a .Pow b pos) (tE C env qI (mi.bind fun p => mj.bind fun q => ofO (powC p q))) := xe_opC op_pow ha hb fun H i j z ez => by
  unfold powC at ez
  split at ez
  · rename_i h
    cases ez
    exact ⟨h, rfl⟩
  · cases ez
theorem xe_neg (ha : PE X a (tE C env qI mi)) : PE X (.UnaryOp .USub a pos) (tE C env qI (mi.bind fun p => .ret (-p))) := pe_imp (pe_un un_neg ha) fun σ H Q _ ⟨S, g0, P, F, em, q⟩ =>
  ⟨S, g0, _, F, em, fun p g1 hp v S1 H1 F1 e1 hv => ⟨p, hv, fun _ => q _ _ hp _ S1 H1 F1 e1 rfl⟩⟩

/-! ### comparisons: as values, as tests -/
theorem xe_cmp {op : CmpOp} {R : R2} {f : α → β → Option Bool} (ho : OpR X (compareOp op) R) (ha : PE X a (tE C env ra ma)) (hb : PE X b (tE C env rb mb)) (hm : behindInMarks op b = false)
    (hr : ∀ (e0 : List Sl) S H σ x y p q z Q, Fr C S H σ e0 → Lens H → ra.p S x p → rb.p S y q → f p q = some z → (∀ S' H', Fr C S' H' σ e0 → Ex S S' → Q (.bl z) H') → R x y H Q) :
    PE X (.Compare a [op] [b] pos) (tE C env qB (ma.bind fun p => mb.bind fun q => ofO (f p q))) :=
  pe_imp (pe_cmpR ho ha (tE_len hb) hm) fun σ H Q _ ⟨S, g0, P, F, em, q⟩ =>
    ⟨S, g0, _, F, em, fun p g1 hp x S1 H1 F1 e1 hx => ⟨S1, g1, _, F1, hp, fun w g2 ⟨z, ez, pz⟩ y S2 H2 F2 e2 hy l2 =>
      hr _ S2 H2 σ x y p w z _ F2 l2 (ra.mono e2 hx) hy ez fun S' H' F' e' _ => q z _ pz _ S' H' F' (e1.trans (e2.trans e')) rfl⟩⟩
theorem xt_cmp {op : CmpOp} {R : R2} {f : α → β → Option Bool} (ho : OpR X (compareOp op) R) (ha : PE X a (tE C env ra ma)) (hb : PE X b (tE C env rb mb)) (hm : behindInMarks op b = false)
    (hr : ∀ (e0 : List Sl) S H σ x y p q z Q, Fr C S H σ e0 → Lens H → ra.p S x p → rb.p S y q → f p q = some z → (∀ S' H', Fr C S' H' σ e0 → Ex S S' → Q (.bl z) H') → R x y H Q) :
    PT X (.Compare a [op] [b] pos) (tT C env (ma.bind fun p => mb.bind fun q => ofO (f p q))) :=
  pt_imp (pt_cmpR ho ha (tE_len hb) hm) fun σ H Q _ ⟨S, g0, P, F, em, q⟩ =>
    ⟨S, g0, _, F, em, fun p g1 hp x S1 H1 F1 e1 hx => ⟨S1, g1, _, F1, hp, fun w g2 ⟨z, ez, pz⟩ y S2 H2 F2 e2 hy l2 =>
      hr _ S2 H2 σ x y p w z _ F2 l2 (ra.mono e2 hx) hy ez fun S' H' F' e' => ⟨z, rfl, fun _ => q z _ pz S' H' F' (e1.trans (e2.trans e'))⟩⟩⟩
/-- a comparison of data by its rule: what it asks, what it answers -/
def CmpD (X : Cx) (C : Cs) (op : CmpOp) (ra : Rp α) (rb : Rp β) (f : α → β → Option Bool) : Prop := ∃ R, OpR X (compareOp op) R ∧
  ∀ (e0 : List Sl) S H σ x y p q z Q, Fr C S H σ e0 → Lens H → ra.p S x p → rb.p S y q → f p q = some z → (∀ S' H', Fr C S' H' σ e0 → Ex S S' → Q (.bl z) H') → R x y H Q
theorem xe_cmpD {op : CmpOp} {f : α → β → Option Bool} (h : CmpD X C op ra rb f) (ha : PE X a (tE C env ra ma)) (hb : PE X b (tE C env rb mb)) (hm : behindInMarks op b = false) : PE X (.Compare a [op] [b] pos) (tE C env qB (ma.bind fun p => mb.bind fun q => ofO (f p q))) :=
  let ⟨_, h1, h2⟩ := h
  xe_cmp h1 ha hb hm h2
theorem xt_cmpD {op : CmpOp} {f : α → β → Option Bool} (h : CmpD X C op ra rb f) (ha : PE X a (tE C env ra ma)) (hb : PE X b (tE C env rb mb)) (hm : behindInMarks op b = false) : PT X (.Compare a [op] [b] pos) (tT C env (ma.bind fun p => mb.bind fun q => ofO (f p q))) :=
  let ⟨_, h1, h2⟩ := h
  xt_cmp h1 ha hb hm h2
theorem cd_I {op : CmpOp} {g : Int → Int → Bool} (ho : OpR X (compareOp op) (rI0 fun i j => .bl (g i j))) : CmpD X C op qI qI fun i j => some (g i j) :=
  ⟨_, ho, fun _ S H σ x y p q z Q F _ hx hy ez k => ⟨p, q, hx, hy, by cases ez; exact k S H F (Ex.refl S)⟩⟩
theorem cd_lt : CmpD X C .Lt qI qI fun i j => some (decide (i < j)) := cd_I op_lt
theorem cd_le : CmpD X C .LtE qI qI fun i j => some (decide (i ≤ j)) := cd_I op_le
theorem cd_gt : CmpD X C .Gt qI qI fun i j => some (decide (j < i)) := cd_I op_gt
theorem cd_ge : CmpD X C .GtE qI qI fun i j => some (decide (j ≤ i)) := cd_I op_ge
theorem cd_eqI : CmpD X C .Eq qI qI fun i j => some (decide (i = j)) := ⟨_, op_eq, fun _ S H σ x y p q z Q F _ hx hy ez k => by
  rw [show x = V.int p from hx, show y = V.int q from hy]
  refine ⟨rfl, ?_⟩
  cases ez
  have e : decide (V.int p = V.int q) = decide (p = q) := by
    rw [Bool.eq_iff_iff]
    simp
  rw [e]
  exact k S H F (Ex.refl S)⟩
theorem cd_neI : CmpD X C .NotEq qI qI fun i j => some (!decide (i = j)) := ⟨_, op_ne, fun _ S H σ x y p q z Q F _ hx hy ez k => by
  rw [show x = V.int p from hx, show y = V.int q from hy]
  refine ⟨rfl, ?_⟩
  cases ez
  have e : decide (V.int p = V.int q) = decide (p = q) := by
    rw [Bool.eq_iff_iff]
    simp
  rw [e]
  exact k S H F (Ex.refl S)⟩

/-! ### truth, and, or, not, if -/
theorem xt_val {m : W Bool} (h : PE X e (tE C env qB m)) (he : ∀ whole, isTrue e X.env whole = (do let v ← whole; standAt e.pos; holding [v] (truthy v)) := by intro _; rfl) : PT X e (tT C env m) :=
  pt_imp (pt_val h he) fun σ H Q _ ⟨S, g0, P, F, em, q⟩ => ⟨S, g0, P, F, em, fun b g' pb v S' H' F' eS hv => ⟨b, hv, fun _ => q b _ pb S' H' F' eS⟩⟩
theorem xt_not {m : W Bool} (h : PT X e (tT C env m)) : PT X (.UnaryOp .Not e pos) (tT C env (m.bind fun b => .ret !b)) := pt_imp (pt_not h) fun σ H Q _ ⟨S, g0, P, F, em, q⟩ =>
  ⟨S, g0, _, F, em, fun b g' pb S' H' F' eS _ => q _ _ pb S' H' F' eS⟩
theorem xe_not {m : W Bool} (h : PE X e (tE C env qB m)) : PE X (.UnaryOp .Not e pos) (tE C env qB (m.bind fun b => .ret !b)) := pe_imp (pe_not h) fun σ H Q _ ⟨S, g0, P, F, em, q⟩ =>
  ⟨S, g0, _, F, em, fun b g' pb v S' H' F' eS hv => ⟨b, hv, fun _ => q _ _ pb _ S' H' F' eS rfl⟩⟩
variable {es : List Expr} {m1 m2 : W Bool}
/-- a chain of and, or: as tests -/
theorem xw_and1 (ha : PT X a (tT C env m1)) : PW X (.BoolOp .And [a] pos) (tT C env m1) := pw_and1 ha
theorem xw_or1 (ha : PT X a (tT C env m1)) : PW X (.BoolOp .Or [a] pos) (tT C env m1) := pw_or1 ha
theorem pw_imp {tt tt' : TT} (h : PW X e tt) (hi : ∀ σ H Q, Lens H → tt' σ H Q → tt σ H (fun v H' => Lens H' → Q v H')) : PW X e tt' := ⟨fun w pins s σ H Q I q =>
  thn (h.run w pins s σ H _ I (hi σ H Q (Lens.of I) q)) fun _ _ ⟨H', I', z⟩ => ⟨H', I', z (Lens.of I')⟩⟩
theorem xw_and (ha : PT X a (tT C env m1)) (hb : PW X (.BoolOp .And (b :: es) pos) (tT C env m2)) : PW X (.BoolOp .And (a :: b :: es) pos) (tT C env (m1.bind fun p => if p = true then m2 else .ret false)) :=
  pw_imp (pw_and ha hb) fun σ H Q _ ⟨S, g0, P, F, em, q⟩ => ⟨S, g0, _, F, em, fun p g' hp S' H' F' eS => by
    cases p with
    | true => exact ⟨S', g', _, F', hp, fun b g2 pb S2 H2 F2 e2 _ => q b _ pb S2 H2 F2 (eS.trans e2)⟩
    | false => exact fun _ => q _ _ hp S' H' F' eS⟩
theorem xw_or (ha : PT X a (tT C env m1)) (hb : PW X (.BoolOp .Or (b :: es) pos) (tT C env m2)) : PW X (.BoolOp .Or (a :: b :: es) pos) (tT C env (m1.bind fun p => if p = true then .ret true else m2)) :=
  pw_imp (pw_or ha hb) fun σ H Q _ ⟨S, g0, P, F, em, q⟩ => ⟨S, g0, _, F, em, fun p g' hp S' H' F' eS => by
    cases p with
    | false => exact ⟨S', g', _, F', hp, fun b g2 pb S2 H2 F2 e2 _ => q b _ pb S2 H2 F2 (eS.trans e2)⟩
    | true => exact fun _ => q _ _ hp S' H' F' eS⟩
/-- .. as values: all but the last a bool -/
theorem xe_and {m3 : W α} {f : Bool → α} (ha : PE X a (tE C env qB m1)) (hb : PE X (.BoolOp .And (b :: es) pos) (tE C env r m3)) (h0 : ∀ H, r.p H (.bl false) (f false)) : PE X (.BoolOp .And (a :: b :: es) pos) (tE C env r (m1.bind fun p => if p = true then m3 else .ret (f false))) :=
  pe_imp (pe_and ha hb) fun σ H Q _ ⟨S, g0, P, F, em, q⟩ => ⟨S, g0, _, F, em, fun p g' hp v S' H' F' eS hv => ⟨p, hv, by
    cases p with
    | true => exact ⟨S', g', _, F', hp, fun b g2 pb v S2 H2 F2 e2 hv _ => q b _ pb v S2 H2 F2 (eS.trans e2) hv⟩
    | false => exact fun _ => q _ _ hp _ S' H' F' eS (h0 S')⟩⟩
theorem xe_andB (ha : PE X a (tE C env qB m1)) (hb : PE X (.BoolOp .And (b :: es) pos) (tE C env qB m2)) : PE X (.BoolOp .And (a :: b :: es) pos) (tE C env qB (m1.bind fun p => if p = true then m2 else .ret false)) := xe_and (f := id) ha hb fun _ => rfl
theorem xe_orB (ha : PE X a (tE C env qB m1)) (hb : PE X (.BoolOp .Or (b :: es) pos) (tE C env qB m2)) : PE X (.BoolOp .Or (a :: b :: es) pos) (tE C env qB (m1.bind fun p => if p = true then .ret true else m2)) :=
  pe_imp (pe_or ha hb) fun σ H Q _ ⟨S, g0, P, F, em, q⟩ => ⟨S, g0, _, F, em, fun p g' hp v S' H' F' eS hv => ⟨p, hv, by
    cases p with
    | false => exact ⟨S', g', _, F', hp, fun b g2 pb v S2 H2 F2 e2 hv _ => q b _ pb v S2 H2 F2 (eS.trans e2) hv⟩
    | true => exact fun _ => q _ _ hp _ S' H' F' eS rfl⟩⟩
theorem xe_one {op : BoolOp} {m : W α} (h : PE X a (tE C env r m)) : PE X (.BoolOp op [a] pos) (tE C env r m) := pe_one h
/-- a if c else b -/
theorem xe_if {m3 m4 : W α} (hc : PT X c (tT C env m1)) (ha : PE X a (tE C env r m3)) (hb : PE X b (tE C env r m4)) : PE X (.IfExp c a b pos) (tE C env r (m1.bind fun p => if p = true then m3 else m4)) :=
  pe_imp (pe_ifExp hc ha hb) fun σ H Q _ ⟨S, g0, P, F, em, q⟩ => ⟨S, g0, _, F, em, fun p g' hp S' H' F' eS => by
    cases p with
    | false => exact ⟨S', g', _, F', hp, fun b g2 pb v S2 H2 F2 e2 hv _ => q b _ pb v S2 H2 F2 (eS.trans e2) hv⟩
    | true => exact ⟨S', g', _, F', hp, fun b g2 pb v S2 H2 F2 e2 hv _ => q b _ pb v S2 H2 F2 (eS.trans e2) hv⟩⟩
/-- a op b op' c -/
theorem xe_chainD {op op' : CmpOp} {f : α → β → Option Bool} {g : β → γ → Option Bool} {mc : W γ} (d1 : CmpD X C op ra rb f) (d2 : CmpD X C op' rb rc g) (ha : PE X a (tE C env ra ma)) (hb : PE X b (tE C env rb mb)) (hc : PE X c (tE C env rc mc))
    (hm : lastMarks [op, op'] [b, c] = false := by with_unfolding_all rfl) : PE X (.Compare a [op, op'] [b, c] pos) (tE C env qB (ma.bind fun p => mb.bind fun q => (ofO (f p q)).bind fun t => if t = true then mc.bind fun w => ofO (g q w) else .ret false)) := by
  obtain ⟨R, h1, hr⟩ := d1
  obtain ⟨R', h2, hr'⟩ := d2
  refine pe_imp (pe_chain h1 h2 ha (tE_len hb) (tE_len hc) hm) fun σ H Q _ ⟨S, g0, P, F, em, q⟩ => ?_
  refine ⟨S, g0, _, F, em, fun p g1 hp x S1 H1 F1 e1 hx => ⟨S1, g1, _, F1, hp, fun w g2 ⟨t, et, ht⟩ y S2 H2 F2 e2 hy l2 => ?_⟩⟩
  refine hr _ S2 H2 σ x y p w t _ F2 l2 (ra.mono e2 hx) hy et fun S3 H3 F3 e3 => ⟨t, rfl, ?_⟩
  cases t with
  | false => exact fun _ => q _ _ ht _ S3 H3 F3 (e1.trans (e2.trans e3)) rfl
  | true =>
    refine ⟨S3, _, _, F3, ht, fun u g4 ⟨z, ez, pz⟩ y' S4 H4 F4 e4 hy' l4 => ?_⟩
    exact hr' _ S4 H4 σ y y' w u z _ F4 l4 (rb.mono (e3.trans e4) hy) hy' ez fun S5 H5 F5 e5 _ => q z _ pz _ S5 H5 F5 (e1.trans (e2.trans (e3.trans (e4.trans e5)))) rfl
end
end Rt

set_option maxRecDepth 100000
set_option maxHeartbeats 4000000
/-! Rt3: sequences, calls. -/
namespace Rt
open PySem L2

/-! ### arguments -/
structure Ra (α : Type) where
  p : Hp → List V → α → Prop
  mono : ∀ {H H' : Hp} {v : List V} {a : α}, Ex H H' → p H v a → p H' v a
def q0 : Ra Unit := ⟨fun _ vs _ => vs = [], fun _ h => h⟩
def qC {α β : Type} (r : Rp α) (q : Ra β) : Ra (α × β) := ⟨fun H vs a => ∃ v ws, vs = v :: ws ∧ r.p H v a.1 ∧ q.p H ws a.2, fun e ⟨v, ws, h1, h2, h3⟩ => ⟨v, ws, h1, r.mono e h2, q.mono e h3⟩⟩
def qAll {α : Type} (r : Rp α) : Ra (List α) := ⟨fun H vs xs => All2 (r.p H) vs xs, fun e h => h.mono fun _ _ z => r.mono e z⟩
def tA (C : Cs) (env : Gh → List Sl) {α : Type} (r : Ra α) (m : W α) : TA := fun σ H Q => ∃ S g P, Fr C S H σ (env g) ∧ m g P ∧ ∀ a g', P a g' → ∀ vs S' H', Fr C S' H' σ (env g') → Ex S S' → r.p S' vs a → Q vs H'
section
variable {X : Cx} {C : Cs} {env : Gh → List Sl} {e a b c : Expr} {es : List Expr} {pos : Pos} {α β γ δ : Type} {r ra : Rp α} {rb : Rp β} {rc : Rp γ} {m ma : W α} {mb : W β} {mc : W γ} {k : Bool} {q : Ra β} {ta ta' : TA}
theorem pa_imp (h : PA X es ta) (hi : ∀ σ H Q, Lens H → ta' σ H Q → ta σ H (fun v H' => Lens H' → Q v H')) : PA X es ta' := ⟨fun pos pins s σ H Q I q =>
  thn (h.run pos pins s σ H _ I (hi σ H Q (Lens.of I) q)) fun _ _ ⟨v, H', I', r, z⟩ => ⟨v, H', I', r, z (Lens.of I')⟩⟩
theorem xa_nil : PA X [] (tA C env q0 (.ret ())) := pa_imp pa_nil fun σ H Q _ ⟨S, g0, P, F, em, k⟩ => fun _ => k () _ em [] S H F (Ex.refl S) rfl
theorem xa_cons {mq : W β} (h : PE X e (tE C env r m)) (hr : PA X es (tA C env q mq)) (hs : starEach (e :: es) X.env = (false, eval e X.env) :: starEach es X.env := by rfl) : PA X (e :: es) (tA C env (qC r q) (m.bind fun x => mq.bind fun y => .ret (x, y))) :=
  pa_imp (pa_cons h hr hs) fun σ H Q _ ⟨S, g0, P, F, em, k⟩ => ⟨S, g0, _, F, em, fun x g1 hx v S1 H1 F1 x1 hv => ⟨S1, g1, _, F1, hx, fun y g2 py vs S2 H2 F2 x2 hvs _ => k _ _ py (v :: vs) S2 H2 F2 (x1.trans x2) ⟨v, vs, rfl, r.mono x2 hv, hvs⟩⟩⟩
theorem xa_nilL : PA X [] (tA C env (qAll r) (.ret [])) := pa_imp pa_nil fun σ H Q _ ⟨S, g0, P, F, em, k⟩ => fun _ => k _ _ em [] S H F (Ex.refl S) True.intro
theorem xa_consL {mq : W (List α)} (h : PE X e (tE C env r m)) (hr : PA X es (tA C env (qAll r) mq)) (hs : starEach (e :: es) X.env = (false, eval e X.env) :: starEach es X.env := by rfl) : PA X (e :: es) (tA C env (qAll r) (m.bind fun x => mq.bind fun y => .ret (x :: y))) :=
  pa_imp (pa_cons h hr hs) fun σ H Q _ ⟨S, g0, P, F, em, k⟩ => ⟨S, g0, _, F, em, fun x g1 hx v S1 H1 F1 x1 hv => ⟨S1, g1, _, F1, hx, fun y g2 py vs S2 H2 F2 x2 hvs _ => k _ _ py (v :: vs) S2 H2 F2 (x1.trans x2) ⟨r.mono x2 hv, hvs⟩⟩⟩
theorem pe_eq {m m' : W α} (h : PE X e (tE C env r m)) (he : m = m') : PE X e (tE C env r m') := he ▸ h
theorem pa_eq {m m' : W β} (h : PA X es (tA C env q m)) (he : m = m') : PA X es (tA C env q m') := he ▸ h

/-! ### displays -/
def lenK {α : Type} (xs : List α) : Option (List α) := if xs.length ≤ 1000000 then some xs else none
theorem lenK_some {α : Type} {xs z : List α} (h : lenK xs = some z) : xs = z ∧ xs.length ≤ 1000000 := by
  unfold lenK at h
  split at h
  · rename_i hl
    exact ⟨Option.some.inj h, hl⟩
  · cases h
theorem xe_tupL {k1 : Nat} {m : W (List α)} (h : PA X es (tA C env (qAll r) m)) : PE X (.Tuple es k1 pos) (tE C env (qT r) (m.bind fun xs => ofO (lenK xs))) := pe_imp (RtU.pe_tupU h) fun σ H Q _ ⟨S, g0, P, F, em, k⟩ =>
  ⟨S, g0, _, F, em, fun xs g1 ⟨z, ez, pz⟩ vs S1 H1 F1 x1 hv => by
    obtain ⟨rfl, hl⟩ := lenK_some ez
    refine ⟨by rw [All2.length hv, sizeLine_eq]; omega, fun p o ho hp _ => ?_⟩
    exact k _ _ pz _ _ _ (F1.new (o := .frz o (.tup vs)) hp) (x1.trans (Ex.new (F1.e1.back hp))) ⟨p, vs, rfl, TupAt.new ho, All2.mono (fun _ _ z => r.mono (Ex.new (F1.e1.back hp)) z) hv⟩⟩
theorem xn_lst {m : W (List α)} (h : PA X es (tA C env (qAll r) m)) : PE X (.List es pos) (tN C env r (m.bind fun xs => ofO (lenK xs))) := pe_imp (pe_lst h) fun σ H Q _ ⟨S, g0, P, F, em, k⟩ =>
  ⟨S, g0, _, F, em, fun xs g1 ⟨z, ez, pz⟩ vs S1 H1 F1 x1 hv => by
    obtain ⟨rfl, hl⟩ := lenK_some ez
    exact ⟨by rw [All2.length hv, sizeLine_eq]; omega, fun p hp _ => k _ _ pz p vs S1 H1 F1 x1 hp hv⟩⟩
theorem xn_nil : PE X (.List [] pos) (tN C env r (.ret [])) := pe_imp (pe_lst (xa_nilL (C := C) (env := env) (r := r))) fun σ H Q _ ⟨S, g0, P, F, em, k⟩ =>
  ⟨S, g0, fun xs g => xs = [] ∧ g = g0, F, ⟨rfl, rfl⟩, fun xs g1 hx vs S1 H1 F1 x1 hv => by
    obtain ⟨rfl, rfl⟩ := hx
    exact ⟨by rw [All2.length hv]; exact Nat.zero_le _, fun p hp _ => k [] _ em p vs S1 H1 F1 x1 hp hv⟩⟩
theorem xe_tup0 {k1 : Nat} : PE X (.Tuple [] k1 pos) (tE C env (qT r) (.ret [])) := pe_imp (RtU.pe_tupU (xa_nilL (C := C) (env := env) (r := r))) fun σ H Q _ ⟨S, g0, P, F, em, k⟩ =>
  ⟨S, g0, fun xs g => xs = [] ∧ g = g0, F, ⟨rfl, rfl⟩, fun xs g1 hx vs S1 H1 F1 x1 hv => by
    obtain ⟨rfl, rfl⟩ := hx
    refine ⟨by rw [All2.length hv]; exact Nat.zero_le _, fun p o ho hp _ => ?_⟩
    exact k [] _ em _ _ _ (F1.new (o := .frz o (.tup vs)) hp) (x1.trans (Ex.new (F1.e1.back hp))) ⟨p, vs, rfl, TupAt.new ho, All2.mono (fun _ _ z => r.mono (Ex.new (F1.e1.back hp)) z) hv⟩⟩
theorem xe_tup1 {k1 : Nat} {m : W α} (h : PE X a (tE C env r m)) (hs : starEach [a] X.env = (false, eval a X.env) :: starEach [] X.env := by rfl) : PE X (.Tuple [a] k1 pos) (tE C env (qT r) (m.bind fun x => .ret [x])) :=
  pe_imp (xe_tupL (xa_consL h xa_nilL hs)) fun σ H Q _ ⟨S, g0, P, F, em, k⟩ => ⟨S, g0, P, F, (by
    have e : (m.bind fun x => W.ret [x]) = ((m.bind fun x => (W.ret ([] : List α)).bind fun y => W.ret (x :: y)).bind fun xs => ofO (lenK xs)) := by
      funext g P
      show m g _ = m g _
      congr 1
      funext x g1
      exact propext (Iff.intro (fun h => ⟨[x], rfl, h⟩) fun ⟨z, ez, h⟩ => by cases ez; exact h)
    rw [← e]
    exact em), fun xs g' px v S' H' F' x1 hv _ => k xs _ px v S' H' F' x1 hv⟩
theorem xe_tup2 {k1 : Nat} (ha : PE X a (tE C env ra ma)) (hb : PE X b (tE C env rb mb)) (hs : starEach [a, b] X.env = (false, eval a X.env) :: starEach [b] X.env := by rfl) (hs2 : starEach [b] X.env = (false, eval b X.env) :: starEach [] X.env := by rfl) :
    PE X (.Tuple [a, b] k1 pos) (tE C env (qP ra rb) (ma.bind fun x => mb.bind fun y => .ret (x, y))) := pe_imp (RtU.pe_tupU (xa_cons ha (xa_cons hb xa_nil hs2) hs)) fun σ H Q _ ⟨S, g0, P, F, em, k⟩ =>
  ⟨S, g0, fun z g => P (z.1, z.2.1) g, F, em, fun z g1 pz vs S1 H1 F1 x1 ⟨v, ws, ev, h1, w, us, ew, h2, eu⟩ => by
    have eu : us = [] := eu
    subst ev ew eu
    refine ⟨by show 2 ≤ sizeLine; decide, fun p o ho hp _ => ?_⟩
    have ex := Ex.new (o := .frz o (.tup [v, w])) (F1.e1.back hp)
    exact k _ _ pz _ _ _ (F1.new hp) (x1.trans ex) ⟨p, v, w, rfl, TupAt.new ho, ra.mono ex h1, rb.mono ex h2⟩⟩
theorem xe_tup3 {k1 : Nat} (ha : PE X a (tE C env ra ma)) (hb : PE X b (tE C env rb mb)) (hc : PE X c (tE C env rc mc)) (hs : starEach [a, b, c] X.env = (false, eval a X.env) :: starEach [b, c] X.env := by rfl) (hs2 : starEach [b, c] X.env = (false, eval b X.env) :: starEach [c] X.env := by rfl)
    (hs3 : starEach [c] X.env = (false, eval c X.env) :: starEach [] X.env := by rfl) :
    PE X (.Tuple [a, b, c] k1 pos) (tE C env (qP3 ra rb rc) (ma.bind fun x => mb.bind fun y => mc.bind fun z => .ret (x, y, z))) := pe_imp (RtU.pe_tupU (xa_cons ha (xa_cons hb (xa_cons hc xa_nil hs3) hs2) hs)) fun σ H Q _ ⟨S, g0, P, F, em, k⟩ =>
  ⟨S, g0, fun z g => P (z.1, z.2.1, z.2.2.1) g, F, em, fun z g1 pz vs S1 H1 F1 x1 ⟨v, ws, ev, h1, w2, us, ew, h2, w3, ts, et, h3, eu⟩ => by
    have eu : ts = [] := eu
    subst ev ew et eu
    refine ⟨by show 3 ≤ sizeLine; decide, fun p o ho hp _ => ?_⟩
    have ex := Ex.new (o := .frz o (.tup [v, w2, w3])) (F1.e1.back hp)
    exact k _ _ pz _ _ _ (F1.new hp) (x1.trans ex) ⟨p, v, w2, w3, rfl, TupAt.new ho, ra.mono ex h1, rb.mono ex h2, rc.mono ex h3⟩⟩

/-! ### subscripts, lengths -/
theorem All2.atI {R : V → α → Prop} {vs : List V} {xs : List α} {i : Int} {x : α} (h : All2 R vs xs) (e : L2.atI xs i = some x) : ∃ v, L2.atI vs i = some v ∧ R v x := by
  unfold L2.atI at e ⊢
  rw [← All2.length h] at e
  cases q : ixN vs.length i with
  | none => rw [q] at e; cases e
  | some j =>
    rw [q] at e
    exact All2.get j h e
theorem rd_sq {K : PySem.W.Frag} {H : Hp} {p : Addr} {vs : List V} (h : Sq k H p vs) : SqL K H p vs ∨ SqT K H p vs := sq_seq h
theorem xe_ix {mx : W (List α)} {mi : W Int} (ha : PE X a (tQ C env k r mx)) (hb : PE X b (tE C env qI mi)) (hs : PlainIx b := by intro _ _; rfl) : PE X (.Subscript a b pos) (tE C env r (mx.bind fun xs => mi.bind fun i => ofO (L2.atI xs i))) := by
  have go : ∀ {R : R2}, IxR X R → (∀ H p vs i v Q, Sq k H p vs → L2.atI vs i = some v → Q v H → R (.ref p) (.int i) H Q) → PE X (.Subscript a b pos) (tE C env r (mx.bind fun xs => mi.bind fun i => ofO (L2.atI xs i))) := fun {R} hR hr =>
    pe_imp (pe_ix hR ha hb hs) fun σ H Q _ ⟨S, g0, P, F, em, k⟩ => ⟨S, g0, _, F, em, fun xs g1 hx p S1 H1 F1 x1 rd => ⟨S1, g1, _, F1, hx, fun i g2 ⟨z, ez, pz⟩ y S2 H2 F2 x2 hy => by
      have hy : y = .int i := hy
      subst hy
      obtain ⟨vs, hp, h2⟩ := rd _ S2 H2 F2 x2
      obtain ⟨v, ev, hv⟩ := h2.atI ez
      exact hr H2 p vs i v _ hp ev fun _ => k _ _ pz v S2 H2 F2 (x1.trans x2) hv⟩⟩
  cases k with
  | true => exact go ix_list fun H p vs i v Q hp ev q => ⟨p, vs, i, v, rfl, rfl, SqL.of hp, ev, q⟩
  | false => exact go ix_tup fun H p vs i v Q hp ev q => ⟨p, vs, i, v, rfl, rfl, TupAt.sq hp, ev, q⟩
theorem xe_len {mx : W (List α)} {p : Pos} (hg : Gl X "len") (hm : X.mg "len" = none) (ha : PE X a (tQ C env k r mx)) (hs : starEach [a] X.env = (false, eval a X.env) :: starEach [] X.env := by rfl) :
    PE X (.Call (.Name "len" p) [a] [] pos) (tE C env qI (mx.bind fun xs => .ret (xs.length : Int))) :=
  pe_imp (pe_callB call_len_seq hg hm PySem.boot_len (pa_cons ha pa_nil hs) (by decide) (by decide) hs (by rfl)) fun σ H Q _ ⟨S, g0, P, F, em, k⟩ => ⟨S, g0, _, F, em, fun xs g1 px p S1 H1 F1 x1 rd => by
    obtain ⟨vs, hp, h2⟩ := rd _ S1 H1 F1 (Ex.refl S1)
    exact ⟨p, vs, rfl, sq_seq hp, fun _ => k _ _ px _ S1 H1 F1 x1 (by rw [All2.length h2]; rfl)⟩⟩
/-- the items of xs[lo:hi] -/
def cutL {α : Type} (xs : List α) (lo hi : Option Int) : List α := (xs.drop (HT.sIx xs.length 0 lo)).take (HT.sIx xs.length xs.length hi - HT.sIx xs.length 0 lo)
theorem cutL_all {R : V → α → Prop} {vs : List V} {xs : List α} (h : All2 R vs xs) (lo hi : Option Int) : All2 R (cutV vs lo hi) (cutL xs lo hi) := by
  unfold cutV cutL
  rw [All2.length h]
  exact (h.drop _).take _
/-- a slice's end -/
def tO (C : Cs) (env : Gh → List Sl) (m : W (Option Int)) : TO := fun σ H Q => ∃ S g P, Fr C S H σ (env g) ∧ m g P ∧ ∀ a g', P a g' → ∀ S' H', Fr C S' H' σ (env g') → Ex S S' → Q a H'
theorem po_imp {e : Option Expr} {t t' : TO} (h : PO X e t) (hi : ∀ σ H Q, Lens H → t' σ H Q → t σ H Q) : PO X e t' := ⟨fun pins s σ H Q I q => h.run pins s σ H Q I (hi σ H Q (Lens.of I) q)⟩
theorem xo_none : PO X none (tO C env (.ret none)) := po_imp po_none fun σ H Q _ ⟨S, g0, P, F, em, k⟩ => k _ _ em S H F (Ex.refl S)
theorem xo_some {mi : W Int} (h : PE X e (tE C env qI mi)) : PO X (some e) (tO C env (mi.bind fun i => .ret (some i))) := po_imp (po_some h) fun σ H Q _ ⟨S, g0, P, F, em, k⟩ =>
  ⟨S, g0, _, F, em, fun i g1 pi v S1 H1 F1 x1 hv => ⟨i, hv, k _ _ pi S1 H1 F1 x1⟩⟩
theorem xe_slT {lo hi : Option Expr} {p2 : Pos} {mx : W (List α)} {ml mh : W (Option Int)} (ha : PE X a (tE C env (qT r) mx)) (hl : PO X lo (tO C env ml)) (hh : PO X hi (tO C env mh)) :
    PE X (.Subscript a (.Slice lo hi none p2) pos) (tE C env (qT r) (mx.bind fun xs => ml.bind fun l => mh.bind fun h => .ret (cutL xs l h))) :=
  pe_imp (pe_slice RtU.sl_tupU ha hl hh) fun σ H Q _ ⟨S, g0, P, F, em, k⟩ => ⟨S, g0, _, F, em, fun xs g1 hx v S1 H1 F1 x1 ⟨p, vs, ev, hp, h2⟩ => ⟨S1, g1, _, F1, hx, fun l g2 hl S2 H2 F2 x2 => ⟨S2, g2, _, F2, hl, fun h g3 ph S3 H3 F3 x3 => by
    subst ev
    have hp3 : TupAt S3 p vs := TupAt.mono x3 (TupAt.mono x2 hp)
    have h3 : All2 (r.p S3) vs xs := h2.mono fun _ _ z => r.mono (x2.trans x3) z
    refine ⟨p, vs, rfl, (hp3.mono F3.e1).sq, fun hw _ => ?_, fun _ t o ho ht _ => ?_⟩
    · have e : cutL xs l h = xs := by
        unfold cutL
        rw [← All2.length h2, hw.1, hw.2]
        simp
        rw [All2.length h2]
        exact List.take_length
      exact k _ _ ph _ S3 H3 F3 (x1.trans (x2.trans x3)) ⟨p, vs, rfl, hp3, by rw [e]; exact h3⟩
    · have ex := Ex.new (o := .frz o (.tup (cutV vs l h))) (F3.e1.back ht)
      exact k _ _ ph _ _ _ (F3.new ht) ((x1.trans (x2.trans x3)).trans ex) ⟨t, _, rfl, TupAt.new ho, (cutL_all h3 l h).mono fun _ _ z => r.mono ex z⟩⟩⟩⟩
theorem xn_slL {lo hi : Option Expr} {p2 : Pos} {mx : W (List α)} {ml mh : W (Option Int)} (ha : PE X a (tQ C env true r mx)) (hl : PO X lo (tO C env ml)) (hh : PO X hi (tO C env mh)) :
    PE X (.Subscript a (.Slice lo hi none p2) pos) (tN C env r (mx.bind fun xs => ml.bind fun l => mh.bind fun h => .ret (cutL xs l h))) :=
  pe_imp (pe_slice sl_list ha hl hh) fun σ H Q _ ⟨S, g0, P, F, em, k⟩ => ⟨S, g0, _, F, em, fun xs g1 hx p S1 H1 F1 x1 rd => ⟨S1, g1, _, F1, hx, fun l g2 hl S2 H2 F2 x2 => ⟨S2, g2, _, F2, hl, fun h g3 ph S3 H3 F3 x3 => by
    obtain ⟨vs, hp, h2⟩ := rd _ S3 H3 F3 (x2.trans x3)
    exact ⟨p, vs, rfl, SqL.of hp, fun t ht _ => k _ _ ph t _ S3 H3 F3 (x1.trans (x2.trans x3)) ht (cutL_all h2 l h)⟩⟩⟩⟩
/-- xs[::-1] of a list -/
theorem xn_rev {j : Nat} {p1 p2 p3 : Pos} {mx : W (List α)} (ha : PE X a (tQ C env true r mx)) : PE X (.Subscript a (.Slice none none (some (.UnaryOp .USub (.Constant (.int 1) j p1) p2)) p3) pos) (tN C env r (mx.bind fun xs => .ret xs.reverse)) :=
  pe_imp (pe_revL ha) fun σ H Q _ ⟨S, g0, P, F, em, k⟩ => ⟨S, g0, _, F, em, fun xs g1 px p S1 H1 F1 x1 rd => by
    obtain ⟨vs, hp, h2⟩ := rd _ S1 H1 F1 (Ex.refl S1)
    exact ⟨p, vs, rfl, SqL.of hp, fun t ht _ => k _ _ px t _ S1 H1 F1 x1 ht h2.reverse⟩⟩

/-! ### one behind the other -/
def catC {α : Type} (xs ys : List α) : Option (List α) := if xs.length + ys.length ≤ 1000000 then some (xs ++ ys) else none
theorem xe_catT {mx my : W (List α)} (ha : PE X a (tE C env (qT r) mx)) (hb : PE X b (tE C env (qT r) my)) : PE X (.BinOp a .Add b pos) (tE C env (qT r) (mx.bind fun xs => my.bind fun ys => ofO (catC xs ys))) :=
  xe_op RtU.op_catU ha hb fun _ S H σ x y xs ys z Q F _ ⟨p, vs, e1, h1, h2⟩ ⟨t, ws, e3, h3, h4⟩ ez k => by
    unfold catC at ez
    split at ez
    · rename_i hl
      cases ez
      refine ⟨p, t, vs, ws, e1, e3, (TupAt.mono F.e1 h1).sq, (TupAt.mono F.e1 h3).sq, by rw [All2.length h2, All2.length h4, sizeLine_eq]; omega, fun n => ?_, fun _ n => ?_, fun _ _ u o ho hu => ?_⟩
      · subst n
        have : xs = [] := List.eq_nil_of_length_eq_zero (by rw [← All2.length h2]; rfl)
        subst this
        exact k _ S H F (Ex.refl S) ⟨t, ws, rfl, h3, h4⟩
      · subst n
        have : ys = [] := List.eq_nil_of_length_eq_zero (by rw [← All2.length h4]; rfl)
        subst this
        exact k _ S H F (Ex.refl S) ⟨p, vs, rfl, h1, by rw [List.append_nil]; exact h2⟩
      · have ex := Ex.new (o := .frz o (.tup (vs ++ ws))) (F.e1.back hu)
        exact k _ _ _ (F.new hu) ex ⟨u, _, rfl, TupAt.new ho, (h2.append h4).mono fun _ _ z => r.mono ex z⟩
    · cases ez
end
end Rt

set_option maxRecDepth 100000
set_option maxHeartbeats 4000000
/-! Rt4: data as data (==, in, repr), built-in functions over sequences. -/
namespace Rt
open PySem L2

/-! ### what the data are -/
structure Dt {α : Type} (r : Rp α) where
  d : α → PyData
  dep : Nat
  rep : ∀ {K : PySem.W.Frag} {H : Hp} {v : V} {a : α}, r.p H v a → Dp K H v (d a)
  lay : ∀ a, (d a).canLay0 = true
  le : ∀ a, (d a).depth ≤ dep
theorem canLayAll_map {α : Type} {f : α → PyData} (h : ∀ a, (f a).canLay0 = true) : ∀ xs : List α, PyData.canLayAll0 (xs.map f) = true
  | [] => by simp [PyData.canLayAll0]
  | x :: xs => by simp [PyData.canLayAll0, h x, canLayAll_map h xs]
theorem depthAll_map {α : Type} {f : α → PyData} {n : Nat} (h : ∀ a, (f a).depth ≤ n) : ∀ xs : List α, PyData.depthAll (xs.map f) ≤ n
  | [] => by simp [PyData.depthAll]
  | x :: xs => by
    have h1 := h x
    have h2 := depthAll_map h xs
    simp [PyData.depthAll]
    omega
theorem dpAll {α : Type} {r : Rp α} {f : α → PyData} {K : PySem.W.Frag} {H : Hp} (h : ∀ {v : V} {a : α}, r.p H v a → Dp K H v (f a)) : ∀ {vs : List V} {xs : List α}, All2 (r.p H) vs xs → DpAll K H vs (xs.map f)
  | [], [], _ => .nil
  | v :: vs, x :: xs, ⟨a, b⟩ => .cons (h a) (dpAll h b)
  | [], _ :: _, z => z.elim
  | _ :: _, [], z => z.elim
def dI : Dt qI := ⟨.int, 0, fun {K H v a} h => by rw [show v = .int a from h]; exact .int a, fun _ => by simp [PyData.canLay0], fun _ => by simp [PyData.depth]⟩
def dB : Dt qB := ⟨.bool, 0, fun {K H v a} h => by rw [show v = .bl a from h]; exact .bl a, fun _ => by simp [PyData.canLay0], fun _ => by simp [PyData.depth]⟩
def dN : Dt qN := ⟨fun _ => .none, 0, fun {K H v a} h => by rw [show v = .non from h]; exact .non, fun _ => by simp [PyData.canLay0], fun _ => by simp [PyData.depth]⟩
def dT {α : Type} {r : Rp α} (D : Dt r) : Dt (qT r) := ⟨fun xs => .tuple (xs.map D.d), D.dep + 1, fun {K H v a} ⟨p, vs, e, hp, h⟩ => by rw [e]; exact .tup (TupAt.sq hp) (dpAll D.rep h), fun xs => by simp [PyData.canLay0, canLayAll_map D.lay], fun xs => by
  have := depthAll_map D.le xs
  simp [PyData.depth]
  omega⟩
def dL {α : Type} {r : Rp α} (D : Dt r) : Dt (qL r) := ⟨fun xs => .list (xs.map D.d), D.dep + 1, fun {K H v a} ⟨p, vs, e, hp, h⟩ => by rw [e]; exact .lst (SqL.of hp) (dpAll D.rep h), fun xs => by simp [PyData.canLay0, canLayAll_map D.lay], fun xs => by
  have := depthAll_map D.le xs
  simp [PyData.depth]
  omega⟩
def dP {α β : Type} {r : Rp α} {q : Rp β} (D : Dt r) (E : Dt q) : Dt (qP r q) := ⟨fun a => .tuple [D.d a.1, E.d a.2], max D.dep E.dep + 1, fun {K H v a} ⟨p, x, y, e, hp, h1, h2⟩ => by rw [e]; exact .tup (TupAt.sq hp) (.cons (D.rep h1) (.cons (E.rep h2) .nil)),
  fun a => by simp [PyData.canLay0, PyData.canLayAll0, D.lay, E.lay], fun a => by
  have h1 := D.le a.1
  have h2 := E.le a.2
  simp [PyData.depth, PyData.depthAll]
  omega⟩
def dP3 {α β γ : Type} {r : Rp α} {q : Rp β} {t : Rp γ} (D : Dt r) (E : Dt q) (G : Dt t) : Dt (qP3 r q t) := ⟨fun a => .tuple [D.d a.1, E.d a.2.1, G.d a.2.2], max D.dep (max E.dep G.dep) + 1, fun {K H v a} ⟨p, x, y, z, e, hp, h1, h2, h3⟩ => by rw [e]; exact .tup (TupAt.sq hp) (.cons (D.rep h1) (.cons (E.rep h2) (.cons (G.rep h3) .nil))),
  fun a => by simp [PyData.canLay0, PyData.canLayAll0, D.lay, E.lay, G.lay], fun a => by
  have h1 := D.le a.1
  have h2 := E.le a.2.1
  have h3 := G.le a.2.2
  simp [PyData.depth, PyData.depthAll]
  omega⟩
theorem Dt.shaped {α : Type} {r : Rp α} (D : Dt r) (h : D.dep ≤ 64) (a : α) : SeqAt.shaped (D.d a) = true := by
  have := D.le a
  unfold SeqAt.shaped
  rw [D.lay a]
  simp
  omega
/-- any data, by the data alone -/
def qD (K : PySem.W.Frag) : Rp PyData := ⟨fun H v d => Dp K H v d, fun {H H' v a} e h => by
  have key : ∀ (d : PyData) (v : V), Dp K H v d → Dp K H' v d := by
    intro d
    refine PyData.rec (motive_1 := fun d => ∀ v, Dp K H v d → Dp K H' v d) (motive_2 := fun ds => ∀ vs, DpAll K H vs ds → DpAll K H' vs ds) (motive_3 := fun _ => True) (motive_4 := fun _ => True) ?_ ?_ ?_ ?_ ?_ ?_ ?_ ?_ ?_ ?_ ?_ ?_ d
    · intro v h; cases h; exact .non
    · intro b v h; cases h; exact .bl b
    · intro i v h; cases h; exact .int i
    · intro x v h; cases h; exact .str x
    · intro xs ih v h
      cases h with
      | lst hs ha =>
        refine .lst ?_ (ih _ ha)
        rcases hs with (hs | ⟨o, hs⟩) | hs
        · exact .inl (.inl (e _ _ hs))
        · exact .inl (.inr ⟨o, e _ _ hs⟩)
        · exact .inr hs
    · intro xs ih v h
      cases h with
      | tup hs ha =>
        refine .tup ?_ (ih _ ha)
        rcases hs with (hs | ⟨o, hs⟩) | hs
        · exact .inl (.inl (e _ _ hs))
        · exact .inl (.inr ⟨o, e _ _ hs⟩)
        · exact .inr hs
    · intro kvs _ v h; cases h
    · intro vs h; cases h; exact .nil
    · intro d ds h1 h2 vs h
      cases h with
      | cons a b => exact .cons (h1 _ a) (h2 _ b)
    · exact True.intro
    · intros; exact True.intro
    · intros; exact True.intro
  exact key a v h⟩
section
variable {X : Cx} {C : Cs} {env : Gh → List Sl} {e a b c : Expr} {es : List Expr} {pos : Pos} {α β γ δ : Type} {r ra : Rp α} {rb : Rp β} {rc : Rp γ} {m ma : W α} {mb : W β} {mc : W γ} {k : Bool}
/-- in another dress -/
theorem xe_as {f : α → β} (hf : ∀ H v a, r.p H v a → rb.p H v (f a)) (h : PE X e (tE C env r m)) : PE X e (tE C env rb (m.bind fun x => .ret (f x))) := pe_imp h fun σ H Q _ ⟨S, g0, P, F, em, k⟩ =>
  ⟨S, g0, _, F, em, fun x g1 px v S1 H1 F1 x1 hv _ => k _ _ px v S1 H1 F1 x1 (hf S1 v x hv)⟩
theorem xe_data (D : Dt r) (h : PE X e (tE C env r m)) : PE X e (tE C env (qD X.K) (m.bind fun x => .ret (D.d x))) := xe_as (rb := qD X.K) (fun H v a h => D.rep h) h
theorem Dp.up {K : PySem.W.Frag} {S H : Hp} (e : Ex S H) {d : PyData} {v : V} (h : Dp K S v d) : Dp K H v d := (qD K).mono e h
theorem cd_eq (D : Dt ra) (E : Dt rb) (hu : X.A.units + 64 < cLine) (h1 : D.dep ≤ 64 := by decide) (h2 : E.dep ≤ 64 := by decide) : CmpD X C .Eq ra rb fun x y => some (PyData.eqv (D.d x) (E.d y)) :=
  ⟨_, op_eqD hu, fun _ S H σ x y p q z Q F _ hx hy ez k => ⟨_, _, Dp.up F.e1 (D.rep hx), Dp.up F.e1 (E.rep hy), D.shaped h1 p, E.shaped h2 q, by cases ez; exact k S H F (Ex.refl S)⟩⟩
theorem cd_ne (D : Dt ra) (E : Dt rb) (hu : X.A.units + 64 < cLine) (h1 : D.dep ≤ 64 := by decide) (h2 : E.dep ≤ 64 := by decide) : CmpD X C .NotEq ra rb fun x y => some (!PyData.eqv (D.d x) (E.d y)) :=
  ⟨_, op_neD hu, fun _ S H σ x y p q z Q F _ hx hy ez k => ⟨_, _, Dp.up F.e1 (D.rep hx), Dp.up F.e1 (E.rep hy), D.shaped h1 p, E.shaped h2 q, by cases ez; exact k S H F (Ex.refl S)⟩⟩
def eqC (d e : PyData) : Option Bool := if SeqAt.shaped d = true ∧ SeqAt.shaped e = true then some (PyData.eqv d e) else none
theorem cd_eqD (hu : X.A.units + 64 < cLine) : CmpD X C .Eq (qD X.K) (qD X.K) eqC :=
  ⟨_, op_eqD hu, fun _ S H σ x y p q z Q F _ hx hy ez k => by
    unfold eqC at ez
    split at ez
    · rename_i h
      cases ez
      exact ⟨_, _, Dp.up F.e1 hx, Dp.up F.e1 hy, h.1, h.2, k S H F (Ex.refl S)⟩
    · cases ez⟩
theorem cd_neD (hu : X.A.units + 64 < cLine) : CmpD X C .NotEq (qD X.K) (qD X.K) fun d e => (eqC d e).bind fun b => some !b :=
  ⟨_, op_neD hu, fun _ S H σ x y p q z Q F _ hx hy ez k => by
    have ez : ((eqC p q).bind fun b => some !b) = some z := ez
    unfold eqC at ez
    split at ez
    · rename_i h
      cases ez
      exact ⟨_, _, Dp.up F.e1 hx, Dp.up F.e1 hy, h.1, h.2, k S H F (Ex.refl S)⟩
    · cases ez⟩
/-- is None -/
theorem xe_isN {j : Nat} {p1 : Pos} (h : PE X a (tE C env r m)) {f : α → Bool} (hf : ∀ H v x, r.p H v x → decide (v = .non) = f x) : PE X (.Compare a [.Is] [.Constant .none j p1] pos) (tE C env qB (m.bind fun x => .ret (f x))) :=
  pe_imp (pe_cmp (pc_isN h) rfl) fun σ H Q _ ⟨S, g0, P, F, em, k⟩ => ⟨S, g0, _, F, em, fun x g1 px v S1 H1 F1 x1 hv _ => k _ _ px _ S1 H1 F1 x1 (by rw [hf S1 v x hv]; rfl)⟩

/-! ### in -/
theorem flat_ints {H : Hp} : ∀ {vs : List V} {xs : List Int}, All2 (qI.p H) vs xs → vs = xs.map V.int := fun {vs xs} h => All2.map_eq (f := V.int) h
theorem flat_bls {H : Hp} : ∀ {vs : List V} {xs : List Bool}, All2 (qB.p H) vs xs → vs = xs.map V.bl := fun {vs xs} h => All2.map_eq (f := V.bl) h
theorem all_flat (xs : List Int) : (xs.map V.int).all flatV = true := by
  rw [List.all_map, List.all_eq_true]
  intro x _
  rfl
theorem inV_int (i : Int) : ∀ xs : List Int, inV (.int i) (xs.map V.int) = xs.any fun y => decide (y = i)
  | [] => rfl
  | x :: xs => by
    have ih := inV_int i xs
    unfold inV at ih ⊢
    rw [List.map_cons, List.any_cons, List.any_cons, ih]
    have : eqV (.int x) (.int i) = decide (x = i) := by
      show (x == i) = decide (x = i)
      rfl
    rw [this]
theorem cq_in {op : CmpOp} {neg : Bool} {mi : W Int} {mx : W (List Int)} (ho : OpR X (compareOp op) (rIn X.K neg)) (ha : PE X a (tE C env qI mi)) (hb : PE X b (tQ C env k qI mx)) (hm : behindInMarks op b = false) :
    PE X (.Compare a [op] [b] pos) (tE C env qB (mi.bind fun i => mx.bind fun xs => .ret (if neg then !(xs.any fun y => decide (y = i)) else xs.any fun y => decide (y = i)))) :=
  pe_imp (pe_cmpR ho ha hb hm) fun σ H Q _ ⟨S, g0, P, F, em, kk⟩ => ⟨S, g0, _, F, em, fun i g1 hi v S1 H1 F1 x1 hv => ⟨S1, g1, _, F1, hi, fun xs g2 px p S2 H2 F2 x2 rd => by
    obtain ⟨vs, hp, h2⟩ := rd _ S2 H2 F2 (Ex.refl S2)
    have ev : vs = xs.map V.int := flat_ints h2
    have hv : v = .int i := hv
    subst ev hv
    exact ⟨p, _, rfl, sq_seq hp, rfl, all_flat xs, fun _ => kk _ _ px _ S2 H2 F2 (x1.trans x2) (by rw [inV_int]; rfl)⟩⟩⟩
theorem xe_in {mi : W Int} {mx : W (List Int)} (ha : PE X a (tE C env qI mi)) (hb : PE X b (tQ C env k qI mx)) (hm : behindInMarks .In b = false := by with_unfolding_all rfl) : PE X (.Compare a [.In] [b] pos) (tE C env qB (mi.bind fun i => mx.bind fun xs => .ret (xs.any fun y => decide (y = i)))) := cq_in op_in_seq ha hb hm
theorem xe_nin {mi : W Int} {mx : W (List Int)} (ha : PE X a (tE C env qI mi)) (hb : PE X b (tQ C env k qI mx)) (hm : behindInMarks .NotIn b = false := by with_unfolding_all rfl) : PE X (.Compare a [.NotIn] [b] pos) (tE C env qB (mi.bind fun i => mx.bind fun xs => .ret !(xs.any fun y => decide (y = i)))) := cq_in op_notIn_seq ha hb hm
/-- data among data -/
def rInT (K : PySem.W.Frag) (neg : Bool) : R2 := fun x y H Q => ∃ d ds, Dp K H x d ∧ (Dp K H y (.list ds) ∧ SeqAt.shaped (.list ds) = true ∨ Dp K H y (.tuple ds) ∧ SeqAt.shaped (.tuple ds) = true) ∧ SeqAt.shaped d = true ∧ Q (.bl (if neg then !ds.any fun z => PyData.eqv z d else ds.any fun z => PyData.eqv z d)) H
theorem shaped_lt {ds : List PyData} (h : SeqAt.shaped (.list ds) = true) : SeqAt.shaped (.tuple ds) = true := by
  unfold SeqAt.shaped at h ⊢
  simpa [PyData.canLay0, PyData.depth] using h
theorem shaped_tl {ds : List PyData} (h : SeqAt.shaped (.tuple ds) = true) : SeqAt.shaped (.list ds) = true := by
  unfold SeqAt.shaped at h ⊢
  simpa [PyData.canLay0, PyData.depth] using h
theorem op_inT (hu : X.A.units + 65 < cLine) : OpR X (compareOp .In) (rInT X.K false) := by
  intro pins s σ H x y v u Q I rx ry h
  obtain ⟨d, ds, hd, he, sd, q⟩ := h
  obtain ⟨as, r1⟩ := Dp.reads I d x v hd rx
  rcases he with ⟨he, se⟩ | ⟨he, se⟩
  · obtain ⟨bs, r2⟩ := Dp.reads I (.list ds) y u he ry
    exact SeqAt.in_list_reads r2 r1 (SeqAt.canLay_of_shaped se) (SeqAt.canLay_of_shaped sd) (PyProof.Rows.room_in_shaped sd hu) ⟨.bl _, H, I, rfl, q⟩
  · obtain ⟨bs, r2⟩ := Dp.reads I (.tuple ds) y u he ry
    exact SeqAt.in_tuple_reads r2 r1 (SeqAt.canLay_of_shaped se) (SeqAt.canLay_of_shaped sd) (PyProof.Rows.room_in_shaped sd hu) ⟨.bl _, H, I, rfl, q⟩
theorem op_ninT (hu : X.A.units + 65 < cLine) : OpR X (compareOp .NotIn) (rInT X.K true) := by
  intro pins s σ H x y v u Q I rx ry h
  obtain ⟨d, ds, hd, he, sd, q⟩ := h
  obtain ⟨as, r1⟩ := Dp.reads I d x v hd rx
  rcases he with ⟨he, se⟩ | ⟨he, se⟩
  · obtain ⟨bs, r2⟩ := Dp.reads I (.list ds) y u he ry
    exact SeqAt.notIn_list_reads r2 r1 (SeqAt.canLay_of_shaped se) (SeqAt.canLay_of_shaped sd) (PyProof.Rows.room_in_shaped sd hu) ⟨.bl _, H, I, rfl, q⟩
  · obtain ⟨bs, r2⟩ := Dp.reads I (.tuple ds) y u he ry
    exact SeqAt.notIn_tuple_reads r2 r1 (SeqAt.canLay_of_shaped se) (SeqAt.canLay_of_shaped sd) (PyProof.Rows.room_in_shaped sd hu) ⟨.bl _, H, I, rfl, q⟩
theorem cq_inD {op : CmpOp} {neg : Bool} {mx : W (List β)} (D : Dt ra) (E : Dt rb) (ho : OpR X (compareOp op) (rInT X.K neg)) (ha : PE X a (tE C env ra ma)) (hb : PE X b (tQ C env k rb mx)) (hm : behindInMarks op b = false) (h1 : D.dep ≤ 64 := by decide) (h2 : E.dep < 64 := by decide) :
    PE X (.Compare a [op] [b] pos) (tE C env qB (ma.bind fun i => mx.bind fun xs => .ret (if neg then !(xs.any fun y => PyData.eqv (E.d y) (D.d i)) else xs.any fun y => PyData.eqv (E.d y) (D.d i)))) :=
  pe_imp (pe_cmpR ho ha hb hm) fun σ H Q _ ⟨S, g0, P, F, em, kk⟩ => ⟨S, g0, _, F, em, fun i g1 hi v S1 H1 F1 x1 hv => ⟨S1, g1, _, F1, hi, fun xs g2 px p S2 H2 F2 x2 rd => by
    obtain ⟨vs, hp, h3⟩ := rd _ S2 H2 F2 (Ex.refl S2)
    refine ⟨D.d i, xs.map E.d, Dp.up (x2.trans F2.e1) (D.rep hv), ?_, D.shaped h1 i, fun _ => kk _ _ px _ S2 H2 F2 (x1.trans x2) (by rw [List.any_map]; rfl)⟩
    have hall : DpAll X.K H2 vs (xs.map E.d) := dpAll (r := rb) (f := E.d) (fun h => E.rep h) (h3.mono fun _ _ z => rb.mono F2.e1 z)
    cases k with
    | true => exact .inl ⟨.lst (SqL.of hp) hall, (dL E).shaped (by show E.dep + 1 ≤ 64; omega) xs⟩
    | false => exact .inr ⟨.tup (TupAt.sq hp) hall, (dT E).shaped (by show E.dep + 1 ≤ 64; omega) xs⟩⟩⟩
theorem xe_inD {mx : W (List β)} (D : Dt ra) (E : Dt rb) (hu : X.A.units + 65 < cLine) (ha : PE X a (tE C env ra ma)) (hb : PE X b (tQ C env k rb mx)) (hm : behindInMarks .In b = false := by with_unfolding_all rfl) (h1 : D.dep ≤ 64 := by decide) (h2 : E.dep < 64 := by decide) :
    PE X (.Compare a [.In] [b] pos) (tE C env qB (ma.bind fun i => mx.bind fun xs => .ret (xs.any fun y => PyData.eqv (E.d y) (D.d i)))) := cq_inD D E (op_inT hu) ha hb hm h1 h2
theorem xe_ninD {mx : W (List β)} (D : Dt ra) (E : Dt rb) (hu : X.A.units + 65 < cLine) (ha : PE X a (tE C env ra ma)) (hb : PE X b (tQ C env k rb mx)) (hm : behindInMarks .NotIn b = false := by with_unfolding_all rfl) (h1 : D.dep ≤ 64 := by decide) (h2 : E.dep < 64 := by decide) :
    PE X (.Compare a [.NotIn] [b] pos) (tE C env qB (ma.bind fun i => mx.bind fun xs => .ret !(xs.any fun y => PyData.eqv (E.d y) (D.d i)))) := cq_inD D E (op_ninT hu) ha hb hm h1 h2

/-! ### built-in functions -/
/-- a call of a built-in function with one sequence -/
theorem xe_b1 {id : String} {R : List V → Hp → VK → Prop} {x : Str} {p : Pos} {mx : W (List α)} {f : List α → Option β} (hc : CallR X (.builtin id) R) (hv : bootBuiltins x = some (.builtin id)) (hg : Gl X x) (hm : X.mg x = none) (ha : PE X a (tQ C env k ra mx))
    (hr : ∀ (e0 : List Sl) S H σ p vs xs z Q, Fr C S H σ e0 → Lens H → Sq k H p vs → All2 (ra.p S) vs xs → f xs = some z → (∀ v S' H', Fr C S' H' σ e0 → Ex S S' → rb.p S' v z → Q v H') → R [.ref p] H Q)
    (hs : starEach [a] X.env = (false, eval a X.env) :: starEach [] X.env := by rfl) (hn : x ≠ "__name__" := by decide) (hdb : (x == ("__debug__" : Str)) = false := by decide) (hpl : (backTo pos (starEach [] X.env)).any (·.1) = false := by rfl) :
    PE X (.Call (.Name x p) [a] [] pos) (tE C env rb (mx.bind fun xs => ofO (f xs))) :=
  pe_imp (pe_callB hc hg hm hv (pa_cons (tQ_len ha) pa_nil hs) hn hdb hs hpl) fun σ H Q _ ⟨S, g0, P, F, em, kk⟩ => ⟨S, g0, _, F, em, fun xs g1 ⟨z, ez, pz⟩ p S1 H1 F1 x1 rd l1 => by
    obtain ⟨vs, hp, h2⟩ := rd _ S1 H1 F1 (Ex.refl S1)
    exact hr _ S1 H1 σ p vs xs z _ F1 l1 hp h2 ez fun v S' H' F' e' hv _ => kk z _ pz v S' H' F' (x1.trans e') hv⟩
theorem xe_t1 {id : String} {R : List V → Hp → VK → Prop} {x : Str} {p : Pos} {mx : W (List α)} {f : List α → Option β} (hc : CallR X (.type id) R) (hv : bootBuiltins x = some (.type id)) (hg : Gl X x) (hm : X.mg x = none) (ha : PE X a (tQ C env k ra mx))
    (hr : ∀ (e0 : List Sl) S H σ p vs xs z Q, Fr C S H σ e0 → Lens H → Sq k H p vs → All2 (ra.p S) vs xs → f xs = some z → (∀ v S' H', Fr C S' H' σ e0 → Ex S S' → rb.p S' v z → Q v H') → R [.ref p] H Q)
    (hs : starEach [a] X.env = (false, eval a X.env) :: starEach [] X.env := by rfl) (hn : x ≠ "__name__" := by decide) (hdb : (x == ("__debug__" : Str)) = false := by decide) (hpl : (backTo pos (starEach [] X.env)).any (·.1) = false := by rfl) :
    PE X (.Call (.Name x p) [a] [] pos) (tE C env rb (mx.bind fun xs => ofO (f xs))) :=
  pe_imp (pe_callTy hc hg hm hv (pa_cons (tQ_len ha) pa_nil hs) hn hdb hs hpl) fun σ H Q _ ⟨S, g0, P, F, em, kk⟩ => ⟨S, g0, _, F, em, fun xs g1 ⟨z, ez, pz⟩ p S1 H1 F1 x1 rd l1 => by
    obtain ⟨vs, hp, h2⟩ := rd _ S1 H1 F1 (Ex.refl S1)
    exact hr _ S1 H1 σ p vs xs z _ F1 l1 hp h2 ez fun v S' H' F' e' hv _ => kk z _ pz v S' H' F' (x1.trans e') hv⟩
/-- .. of one that can't fail -/
theorem tE_tot {f : α → β} (h : PE X e (tE C env rb (m.bind fun x => ofO (some (f x))))) : PE X e (tE C env rb (m.bind fun x => .ret (f x))) := by
  have e1 : (m.bind fun x => ofO (some (f x))) = (m.bind fun x => W.ret (f x)) := by
    funext g P
    show m g _ = m g _
    congr 1
    funext x g1
    exact congrFun (congrFun (ofO_some (f x)) g1) P
  rw [← e1]
  exact h
/-- sum of a tuple of ints -/
def rSumT (K : PySem.W.Frag) : List V → Hp → VK → Prop := fun vs H Q => ∃ (a : Addr) (ns : List Int), vs = [V.ref a] ∧ (SqL K H a (ns.map V.int) ∨ SqT K H a (ns.map V.int)) ∧ Q (.int ns.sum) H
theorem cr_sumT (hc : X.calm = true) : CallR X (.builtin "sum") (rSumT X.K) := by
  intro pins s σ H vs us Q I r h
  obtain ⟨a, ns, rfl, hs, q⟩ := h
  rcases hs with hs | hs
  · exact cr_sum hc pins s σ H _ us Q I r ⟨a, ns, rfl, hs, q⟩
  · obtain ⟨its, rv, hl, _⟩ := I.tuple hs
    rw [Vals.ref1 r]
    have hi := rv.ints
    obtain ⟨xs, e⟩ := hi.allInts.items
    have hn : numsOf (PySem.intItems xs).toList = ns := by rw [← e]; exact hi.numsOf
    rw [PySem.nums_intItems] at hn
    have hl' : s.heap.IsTuple a its.toArray := hl
    rw [e] at hl'
    refine PySem.W.ktm_sumG (I.ok.hd hc) hl' fun h' tk t' hk => ?_
    have := PySem.preSum_eq xs xs.size
    rw [PySem.preSum_eq, List.take_of_length_le (by simp), hn]
    exact ⟨.int _, H, I.kept hk, ⟨_, rfl⟩, q⟩
theorem xe_sum {p : Pos} {mx : W (List Int)} (hc : X.calm = true) (hg : Gl X "sum") (hm : X.mg "sum" = none) (ha : PE X a (tQ C env k qI mx)) (hs : starEach [a] X.env = (false, eval a X.env) :: starEach [] X.env := by rfl) :
    PE X (.Call (.Name "sum" p) [a] [] pos) (tE C env qI (mx.bind fun xs => .ret xs.sum)) :=
  tE_tot (xe_b1 (f := fun xs => some xs.sum) (cr_sumT hc) (by decide +kernel) hg hm ha (fun _ S H σ p vs xs z Q F _ hp h2 ez kk => ⟨p, xs, rfl, by rw [← flat_ints h2]; exact sq_seq hp, kk _ S H F (Ex.refl S) (by cases ez; rfl)⟩) hs)
theorem xe_all {p : Pos} {mx : W (List Bool)} (hc : X.calm = true) (hg : Gl X "all") (hm : X.mg "all" = none) (ha : PE X a (tQ C env true qB mx)) (hs : starEach [a] X.env = (false, eval a X.env) :: starEach [] X.env := by rfl) :
    PE X (.Call (.Name "all" p) [a] [] pos) (tE C env qB (mx.bind fun xs => .ret (xs.all id))) :=
  tE_tot (xe_b1 (f := fun xs => some (xs.all id)) (cr_all hc) (by decide +kernel) hg hm ha (fun _ S H σ p vs xs z Q F _ hp h2 ez kk => ⟨p, xs, rfl, by rw [← flat_bls h2]; exact SqL.of hp, kk _ S H F (Ex.refl S) (by cases ez; rfl)⟩) hs)
/-- tuple(xs) -/
theorem xe_tuple {p : Pos} {mx : W (List α)} (hg : Gl X "tuple") (hm : X.mg "tuple" = none) (ha : PE X a (tQ C env true ra mx)) (hs : starEach [a] X.env = (false, eval a X.env) :: starEach [] X.env := by rfl) :
    PE X (.Call (.Name "tuple" p) [a] [] pos) (tE C env (qT ra) mx) :=
  tE_tot (f := id) (xe_t1 (rb := qT ra) (f := some) RtU.call_tuple_ofU (by decide +kernel) hg hm ha (fun _ S H σ p vs xs z Q F _ hp h2 ez kk => ⟨p, vs, rfl, SqL.of hp, fun l o ho hl => by
    cases ez
    have ex := Ex.new (o := .frz o (.tup vs)) (F.e1.back hl)
    exact kk _ _ _ (F.new hl) ex ⟨l, vs, rfl, TupAt.new ho, h2.mono fun _ _ z => ra.mono ex z⟩⟩) hs)
/-- list(xs), a new list -/
theorem xn_list {p : Pos} {mx : W (List α)} (hg : Gl X "list") (hm : X.mg "list" = none) (ha : PE X a (tQ C env k ra mx)) (hs : starEach [a] X.env = (false, eval a X.env) :: starEach [] X.env := by rfl) :
    PE X (.Call (.Name "list" p) [a] [] pos) (tN C env ra mx) :=
  pe_imp (pe_callTy call_list_of hg hm (by decide +kernel) (pa_cons ha pa_nil hs) (by decide) (by decide) hs (by rfl)) fun σ H Q _ ⟨S, g0, P, F, em, kk⟩ => ⟨S, g0, _, F, em, fun xs g1 px p S1 H1 F1 x1 rd => by
    obtain ⟨vs, hp, h2⟩ := rd _ S1 H1 F1 (Ex.refl S1)
    exact ⟨p, vs, rfl, sq_seq hp, fun l hl _ => kk _ _ px l vs S1 H1 F1 x1 hl h2⟩⟩
/-! ints: abs, int, max, min of two -/
theorem xe_int1 {p : Pos} {mi : W Int} (hg : Gl X "int") (hm : X.mg "int" = none) (ha : PE X a (tE C env qI mi)) (hs : starEach [a] X.env = (false, eval a X.env) :: starEach [] X.env := by rfl) :
    PE X (.Call (.Name "int" p) [a] [] pos) (tE C env qI mi) :=
  pe_imp (pe_callTy call_int1 hg hm (by decide +kernel) (pa_cons ha pa_nil hs) (by decide) (by decide) hs (by rfl)) fun σ H Q _ ⟨S, g0, P, F, em, kk⟩ => ⟨S, g0, _, F, em, fun i g1 pi v S1 H1 F1 x1 hv => .inl ⟨i, by rw [show v = .int i from hv], fun _ => kk _ _ pi _ S1 H1 F1 x1 rfl⟩⟩
def b2 (b : Bool) : Int := if b = true then 1 else 0
theorem xe_intB {p : Pos} {mi : W Bool} (hg : Gl X "int") (hm : X.mg "int" = none) (ha : PE X a (tE C env qB mi)) (hs : starEach [a] X.env = (false, eval a X.env) :: starEach [] X.env := by rfl) :
    PE X (.Call (.Name "int" p) [a] [] pos) (tE C env qI (mi.bind fun b => .ret (b2 b))) :=
  pe_imp (pe_callTy call_int1 hg hm (by decide +kernel) (pa_cons ha pa_nil hs) (by decide) (by decide) hs (by rfl)) fun σ H Q _ ⟨S, g0, P, F, em, kk⟩ =>
    ⟨S, g0, _, F, em, fun b g1 pb v S1 H1 F1 x1 hv => .inr ⟨b, by rw [show v = .bl b from hv], fun _ => kk _ _ pb _ S1 H1 F1 x1 rfl⟩⟩
theorem xe_abs {p : Pos} {mi : W Int} (hg : Gl X "abs") (hm : X.mg "abs" = none) (ha : PE X a (tE C env qI mi)) (hs : starEach [a] X.env = (false, eval a X.env) :: starEach [] X.env := by rfl) :
    PE X (.Call (.Name "abs" p) [a] [] pos) (tE C env qI (mi.bind fun i => .ret (i.natAbs : Int))) :=
  pe_imp (pe_callB call_abs hg hm (by decide +kernel) (pa_cons ha pa_nil hs) (by decide) (by decide) hs (by rfl)) fun σ H Q _ ⟨S, g0, P, F, em, kk⟩ =>
    ⟨S, g0, _, F, em, fun i g1 pi v S1 H1 F1 x1 hv => ⟨i, by rw [show v = .int i from hv], fun _ => kk _ _ pi _ S1 H1 F1 x1 (by
      show V.int _ = V.int _
      congr 1
      split <;> omega)⟩⟩
theorem xe_two {id : String} {x : Str} {p : Pos} {mi mj : W Int} {g : Int → Int → Int} (hc : CallR X (.builtin id) (fun xs H Q => ∃ i j, xs = [.int i, .int j] ∧ Q (.int (g i j)) H)) (hv : bootBuiltins x = some (.builtin id)) (hg : Gl X x) (hm : X.mg x = none) (ha : PE X a (tE C env qI mi)) (hb : PE X b (tE C env qI mj))
    (hs : starEach [a, b] X.env = (false, eval a X.env) :: starEach [b] X.env := by rfl) (hs2 : starEach [b] X.env = (false, eval b X.env) :: starEach [] X.env := by rfl) (hn : x ≠ "__name__" := by decide) (hdb : (x == ("__debug__" : Str)) = false := by decide) (hpl : (backTo pos (starEach [b] X.env)).any (·.1) = false := by rfl) :
    PE X (.Call (.Name x p) [a, b] [] pos) (tE C env qI (mi.bind fun i => mj.bind fun j => .ret (g i j))) :=
  pe_imp (pe_callB hc hg hm hv (pa_cons ha (pa_cons hb pa_nil hs2) hs) hn hdb hs hpl) fun σ H Q _ ⟨S, g0, P, F, em, kk⟩ =>
    ⟨S, g0, _, F, em, fun i g1 hi v S1 H1 F1 x1 hv => ⟨S1, g1, _, F1, hi, fun j g2 pj w S2 H2 F2 x2 hw => ⟨i, j, by rw [show v = .int i from hv, show w = .int j from hw], fun _ => kk _ _ pj _ S2 H2 F2 (x1.trans x2) rfl⟩⟩⟩
theorem xe_max2 {p : Pos} {mi mj : W Int} (hc : X.calm = true) (hg : Gl X "max") (hm : X.mg "max" = none) (ha : PE X a (tE C env qI mi)) (hb : PE X b (tE C env qI mj))
    (hs : starEach [a, b] X.env = (false, eval a X.env) :: starEach [b] X.env := by rfl) (hs2 : starEach [b] X.env = (false, eval b X.env) :: starEach [] X.env := by rfl) (hpl : (backTo pos (starEach [b] X.env)).any (·.1) = false := by rfl) : PE X (.Call (.Name "max" p) [a, b] [] pos) (tE C env qI (mi.bind fun i => mj.bind fun j => .ret (if j > i then j else i))) :=
  xe_two (call_max2 hc) (by decide +kernel) hg hm ha hb hs hs2 (by decide) (by decide) hpl
theorem xe_min2 {p : Pos} {mi mj : W Int} (hc : X.calm = true) (hg : Gl X "min") (hm : X.mg "min" = none) (ha : PE X a (tE C env qI mi)) (hb : PE X b (tE C env qI mj))
    (hs : starEach [a, b] X.env = (false, eval a X.env) :: starEach [b] X.env := by rfl) (hs2 : starEach [b] X.env = (false, eval b X.env) :: starEach [] X.env := by rfl) (hpl : (backTo pos (starEach [b] X.env)).any (·.1) = false := by rfl) : PE X (.Call (.Name "min" p) [a, b] [] pos) (tE C env qI (mi.bind fun i => mj.bind fun j => .ret (if j < i then j else i))) :=
  xe_two (call_min2 hc) (by decide +kernel) hg hm ha hb hs hs2 (by decide) (by decide) hpl
/-! isinstance, the class a built-in one -/
/-- the type of what stands for data -/
structure Ty {α : Type} (r : Rp α) (t : String) : Prop where
  ty : ∀ {K : PySem.W.Frag} {H : Hp} {v : V} {a : α}, r.p H v a → RtU.TyU K H v (.type t)
theorem tyI : Ty qI "int" := ⟨fun {K H v a} h => by rw [show v = .int a from h]; exact .inl (.int a)⟩
theorem tyB : Ty qB "bool" := ⟨fun {K H v a} h => by rw [show v = .bl a from h]; exact .inl (.bl a)⟩
theorem tyN : Ty qN "NoneType" := ⟨fun {K H v a} h => by rw [show v = .non from h]; exact .inl .non⟩
theorem tyS : Ty qS "str" := ⟨fun {K H v a} h => by rw [show v = .str a from h]; exact .inl (.str a)⟩
theorem tyT : Ty (qT r) "tuple" := ⟨fun {K H v a} ⟨p, vs, e, hp, _⟩ => by rw [e]; exact .inr ⟨rfl, _, hp.choose, _, rfl, hp.choose_spec.2⟩⟩
theorem tyL : Ty (qL r) "list" := ⟨fun {K H v a} ⟨p, vs, e, hp, _⟩ => by rw [e]; exact .inl (.lst hp)⟩
theorem tyP : Ty (qP ra rb) "tuple" := ⟨fun {K H v a} ⟨p, x, y, e, hp, _⟩ => by rw [e]; exact .inr ⟨rfl, _, hp.choose, _, rfl, hp.choose_spec.2⟩⟩
theorem tyP3 : Ty (qP3 ra rb rc) "tuple" := ⟨fun {K H v a} ⟨p, x, y, z, e, hp, _⟩ => by rw [e]; exact .inr ⟨rfl, _, hp.choose, _, rfl, hp.choose_spec.2⟩⟩
theorem xe_isi {t n : String} {ans : Bool} {x : Str} {p p2 : Pos} (T : Ty r t) (hg : Gl X "isinstance") (hm : X.mg "isinstance" = none) (ha : PE X a (tE C env r m)) (hgx : Gl X x) (hmx : X.mg x = none) (hv : bootBuiltins x = some (.type n)) (hk : kitB t n = some ans)
    (hn : x ≠ "__name__" := by decide) (hdb : (x == ("__debug__" : Str)) = false := by decide) (hs : starEach [a, .Name x p2] X.env = (false, eval a X.env) :: starEach [.Name x p2] X.env := by rfl) (hs2 : starEach [.Name x p2] X.env = (false, eval (.Name x p2) X.env) :: starEach [] X.env := by rfl) (hpl : (backTo pos (starEach [.Name x p2] X.env)).any (·.1) = false := by rfl) :
    PE X (.Call (.Name "isinstance" p) [a, .Name x p2] [] pos) (tE C env qB (m.bind fun _ => .ret ans)) :=
  pe_imp (pe_callB RtU.call_isiU hg hm (by decide +kernel) (pa_cons ha (pa_cons (pe_bltn (v := .ty n) hgx hmx hv rfl hn hdb) pa_nil hs2) hs) (by decide) (by decide) hs hpl) fun σ H Q _ ⟨S, g0, P, F, em, kk⟩ =>
    ⟨S, g0, _, F, em, fun y g1 py v S1 H1 F1 x1 hv => ⟨v, n, t, ans, rfl, T.ty (r.mono F1.e1 hv), hk, fun _ => kk _ _ py _ S1 H1 F1 x1 rfl⟩⟩
/-! sorted of ints -/
def insI (x : Int) : List Int → List Int
  | [] => [x]
  | y :: ys => if x ≤ y then x :: y :: ys else y :: insI x ys
def sortI : List Int → List Int
  | [] => []
  | x :: xs => insI x (sortI xs)
theorem insI_perm (x : Int) : ∀ ys : List Int, (insI x ys).Perm (x :: ys)
  | [] => .refl _
  | y :: ys => by
    unfold insI
    split
    · exact .refl _
    · exact ((insI_perm x ys).cons y).trans (.swap x y ys)
theorem sortI_perm : ∀ xs : List Int, (sortI xs).Perm xs
  | [] => .refl _
  | x :: xs => (insI_perm x (sortI xs)).trans ((sortI_perm xs).cons x)
theorem insI_sorted (x : Int) : ∀ ys : List Int, ys.Pairwise (· ≤ ·) → (insI x ys).Pairwise (· ≤ ·)
  | [], _ => by simp [insI]
  | y :: ys, h => by
    unfold insI
    have h' := List.pairwise_cons.mp h
    split
    · rename_i hxy
      refine List.pairwise_cons.mpr ⟨fun z hz => ?_, h⟩
      rcases List.mem_cons.mp hz with e | hz
      · rw [e]; exact hxy
      · exact Int.le_trans hxy (h'.1 z hz)
    · rename_i hxy
      refine List.pairwise_cons.mpr ⟨fun z hz => ?_, insI_sorted x ys h'.2⟩
      rcases List.mem_cons.mp ((insI_perm x ys).mem_iff.mp hz) with e | hz
      · rw [e]; omega
      · exact h'.1 z hz
theorem sortI_sorted : ∀ xs : List Int, (sortI xs).Pairwise (· ≤ ·)
  | [] => .nil
  | x :: xs => insI_sorted x _ (sortI_sorted xs)
theorem sorted_unique : ∀ {xs ys : List Int}, xs.Perm ys → xs.Pairwise (· ≤ ·) → ys.Pairwise (· ≤ ·) → xs = ys
  | [], ys, h, _, _ => (List.Perm.nil_eq h)
  | x :: xs, [], h, _, _ => absurd h.length_eq (by simp)
  | x :: xs, y :: ys, h, h1, h2 => by
    have a1 := List.pairwise_cons.mp h1
    have a2 := List.pairwise_cons.mp h2
    have e : x = y := by
      have m1 : x ∈ y :: ys := h.mem_iff.mp List.mem_cons_self
      have m2 : y ∈ x :: xs := h.mem_iff.mpr List.mem_cons_self
      have l1 : y ≤ x := by
        rcases List.mem_cons.mp m1 with e | m
        · omega
        · exact a2.1 x m
      have l2 : x ≤ y := by
        rcases List.mem_cons.mp m2 with e | m
        · omega
        · exact a1.1 y m
      omega
    subst e
    rw [sorted_unique (List.Perm.cons_inv h) a1.2 a2.2]
def rSortT (K : PySem.W.Frag) : List V → Hp → VK → Prop := fun vs H Q => ∃ (a : Addr) (ns : List Int), vs = [V.ref a] ∧ SqL K H a (ns.map V.int) ∧ ∀ (p : Addr), H p = none → Q (.ref p) (upd H p (.lst ((sortI ns).map V.int)))
theorem cr_sortL : CallR X (.builtin "sorted") (rSortT X.K) := by
  intro pins s σ H vs us Q I r h
  obtain ⟨a, ns, rfl, hs, q⟩ := h
  exact cr_sortedI pins s σ H _ us Q I r ⟨a, ns, rfl, hs, fun ns' p h1 h2 hp => by
    rw [sorted_unique (h1.trans (sortI_perm ns).symm) h2 (sortI_sorted ns)]
    exact q p hp⟩
theorem xn_sorted {p : Pos} {mx : W (List Int)} (hg : Gl X "sorted") (hm : X.mg "sorted" = none) (ha : PE X a (tQ C env true qI mx)) (hs : starEach [a] X.env = (false, eval a X.env) :: starEach [] X.env := by rfl) :
    PE X (.Call (.Name "sorted" p) [a] [] pos) (tN C env qI (mx.bind fun xs => .ret (sortI xs))) :=
  pe_imp (pe_callB cr_sortL hg hm (by decide +kernel) (pa_cons ha pa_nil hs) (by decide) (by decide) hs (by rfl)) fun σ H Q _ ⟨S, g0, P, F, em, kk⟩ => ⟨S, g0, _, F, em, fun xs g1 px p S1 H1 F1 x1 rd => by
    obtain ⟨vs, hp, h2⟩ := rd _ S1 H1 F1 (Ex.refl S1)
    exact ⟨p, xs, rfl, by rw [← flat_ints h2]; exact SqL.of hp, fun l hl _ => kk _ _ px l _ S1 H1 F1 x1 hl (All2.of_map _)⟩⟩
end
end Rt

set_option maxRecDepth 100000
set_option maxHeartbeats 4000000
/-! RtE: enumerate of a tuple. -/
namespace RtE
open PySem PySem.Spec PySem.Calls PyProof.Rows L2
abbrev itT (l : Addr) : Obj := { cls := .type "tuple_iterator", data := .fields #[.ref l, .int 0 0] }
abbrev enO (n : Addr) : Obj := { cls := .type "enumerate", data := .fields #[.none, .bool false, .ref n, rawInt 0, .none, .none] }
theorem new_meets (l : Addr) (its : Array Value) :
    Meets (Builtin.«enumerate.__new__» ⟨[.type "enumerate", .ref l], []⟩) (fun _ R s => s.heap.IsTuple l its ∧
      R (.ok (.ret (.ref (s.heap.push (itT l)).objs.size))) { s with heap := (s.heap.push (itT l)).push (enO s.heap.objs.size) }) :=
  .of_wp fun prog w A R s hs => by
    obtain ⟨hp, g, d, tk, os⟩ := s
    obtain ⟨hL, h⟩ := hs
    obtain ⟨o, hl, hc, n, hd⟩ := id hL
    have hsub := sub_enumerate
    wp_walk
    refine wpAny_stack_any fun st => wpAny_pure ?_
    split
    · rename_i c _ _ _ _ _
      cases (c == Value.type "enumerate")
      · wp_walk using AutoSeq1.wpAny_loadPart' hl, wpAny_pyIter_tuple hL
        exact ⟨_, rfl, h⟩
      · wp_walk using AutoSeq1.wpAny_loadPart' hl, wpAny_pyIter_tuple hL
        exact ⟨_, rfl, h⟩
    · wp_walk using AutoSeq1.wpAny_loadPart' hl, wpAny_pyIter_tuple hL
      exact ⟨_, rfl, h⟩
section
variable {prog : Program} {w : World} {A : Around} {E : Value → Shared → Prop} {s : Shared}
theorem call_en {l : Addr} {its : Array Value} {Q : Value → Shared → Prop} (hL : s.heap.IsTuple l its)
    (h : ∀ h', IsEnum h' (s.heap.objs.size + 1) s.heap.objs.size 0 .none → h'.IsTupleIter s.heap.objs.size l 0 → h'.objs.size = s.heap.objs.size + 2 →
      (∀ b o, s.heap.get? b = some o → h'.get? b = some o) → Q (.ref (s.heap.objs.size + 1)) { s with heap := h' }) :
    wpAny (model prog w) A (call (.type "enumerate") [.ref l]) Q E s := by
  refine callType_new F.called_enumerate (by decide) (F.typeCall_enumerate_1 _) (F.newCall_enumerate_1 _) (fun obj => F.args_object_init_2 obj _) F.entry_enumerate_new (new_meets l its) ⟨hL, ?_⟩
  have hz : (s.heap.push (itT l)).objs.size = s.heap.objs.size + 1 := Heap.size_push ..
  show _ ∧ _
  rw [hz]
  have he : IsEnum ((s.heap.push (itT l)).push (enO s.heap.objs.size)) (s.heap.objs.size + 1) s.heap.objs.size 0 .none := by
    have := Heap.get?_push_size (s.heap.push (itT l)) (o := enO s.heap.objs.size) rfl
    rw [hz] at this
    exact this
  exact ⟨⟨_, he, rfl⟩, h _ he ⟨_, Heap.get?_push_of_some _ (Heap.get?_push_size _ rfl), rfl, rfl⟩ (by rw [Heap.size_push, hz]) fun b o x => Heap.get?_push_of_some _ (Heap.get?_push_of_some _ x)⟩
end
/-- a tuple's items, each in a new pair with its number -/
def ItT (K : PySem.W.Frag) (a : Addr) : It where
  go i H := ∃ (xs : List V) (x : V), SqT K H a xs ∧ xs[i]? = some x
  yld i H v H' := ∃ T x, v = .ref T ∧ H T = none ∧ H' = upd H T (.tup [.int (i : Nat), x]) ∧ ∀ xs, SqT K H a xs → xs[i]? = some x
  stop i H := ∃ xs : List V, SqT K H a xs ∧ xs.length ≤ i
theorem turn {P : Program} {w : World} {K : PySem.W.Frag} {elts : List Expr} {kk : Nat} {tpos : Pos} (a e it : Addr) :
    Turn P w K (.Tuple elts kk tpos) (ItT K a) [e, it] e (fun i h => (∃ old, IsEnum h e it ((i : Nat) : Int) old) ∧ h.IsTupleIter it a i ∧ e ≠ it) where
  mem := by simp
  obj := fun i h st b hb => by
    obtain ⟨⟨old, he⟩, ⟨o, ho, hc, hd⟩, _⟩ := st
    rcases (show b = e ∨ b = it by simpa using hb) with z | z
    · rw [z]
      exact ⟨_, he, fun v q => nomatch q⟩
    · rw [z]
      exact ⟨o, ho, fun v q => by rw [hd] at q; cases q⟩
  keep := fun i h h' st k => let ⟨⟨old, he⟩, hi, hne⟩ := st; ⟨⟨old, k e (by simp) _ he⟩, hi.at fun o q => k it (by simp) o q, hne⟩
  item := by
    intro X hP hw hK hc i pins s σ H E I hf st hg
    subst hP hw hK
    obtain ⟨⟨old, he⟩, hit, hne⟩ := st
    obtain ⟨xs, x, hq, hx⟩ := hg
    obtain ⟨its, rv, p, hz⟩ := I.tuple hq
    obtain ⟨u, hu, ru⟩ := rv.get hx
    have hel : e < s.heap.objs.size := Heap.lt_size he
    have hil : it < s.heap.objs.size := let ⟨_, q, _⟩ := hit; Heap.lt_size q
    have p' : s.heap.IsTuple a its.toArray := p
    have hat : a ≠ it := fun z => by
      obtain ⟨o1, q1, q2, _⟩ := hit
      obtain ⟨o2, q3, q4, _⟩ := p'
      rw [z, q1] at q3
      cases q3
      rw [q2] at q4
      exact absurd q4 (by decide)
    have hea : e ≠ a := fun z => by
      obtain ⟨o2, q3, q4, _⟩ := p'
      rw [← z, show s.heap.get? e = _ from he] at q3
      cases q3
      exact absurd q4 (by show ¬ (Value.type "enumerate" = Value.type "tuple"); decide)
    have D := Draws.tuple (prog := X.prog) (w := X.w) (A := X.A.in1) (I.ok.hd hc) it a hat its.toArray
    have hlt : i < its.toArray.size := by
      have := (List.getElem?_eq_some_iff.mp hu).1
      simpa using this
    refine wpAny_pyNext_enum_itemD D he ⟨hit, p'⟩ hlt hne (by simp [hne, hea]) fun x' h' tk hx' ho hst hT hsz hk => ?_
    have ex : x' = u := by
      have : its.toArray[i]? = some u := by simpa using hu
      rw [this] at hx'
      exact (Option.some.inj hx').symm
    subst ex
    refine ⟨_, rfl, wpAny_letOwnedTupleGo_enum (s := { s with heap := h', toks := tk + 1 }) ho fun h'' he' sb => ?_⟩
    have hT2 := (sb.2 _ (Nat.ne_of_gt hel)).trans hT
    have new : ObjOk X.prog X.w (upd H s.heap.objs.size (.tup [.int (i : Nat), x])) h'' s.heap.objs.size (.tup [.int (i : Nat), x]) :=
      ⟨by show 2 ≤ sizeLine; decide, [.int i tk, x'], .cons ⟨_, rfl⟩ (.cons ru .nil), ⟨_, hT2, rfl, _, rfl⟩⟩
    have I1 : Inv X pins σ (upd H s.heap.objs.size (.tup [.int (i : Nat), x])) { s with heap := h'', toks := tk + 1 } :=
      I.turnedNew (ch := [e, it]) (fun b ob hb q => (sb.2 b (fun z => hb (by simp [z]))).trans (hk b ob (fun z => hb (by simp [z])) (fun z => hb (by simp [z])) q)) hf (Nat.le_refl _) new
    refine ⟨.ref s.heap.objs.size, _, I1, rfl, ⟨_, x, rfl, I.hok.fresh (Nat.le_refl _), rfl, fun ys hy => by rw [I.tuple_inj hy hq]; exact hx⟩, ⟨⟨x', ?_⟩, hst.1.at fun o q => (sb.2 it (Ne.symm hne)).trans q, hne⟩, fun b hb => ?_⟩
    · rw [show ((i + 1 : Nat) : Int) = (i : Int) + 1 by omega]
      exact he'
    · have hb' : b < s.heap.objs.size := by
        rcases (show b = e ∨ b = it by simpa using hb) with z | z
        · rw [z]; exact hel
        · rw [z]; exact hil
      rw [upd_ne (Nat.ne_of_lt hb')]
      exact (hf b hb).1
  done := by
    intro X hP hw hK hc i pins s σ H E I hf st hg
    subst hP hw hK
    obtain ⟨⟨old, he⟩, hit, hne⟩ := st
    obtain ⟨xs, hq, hx⟩ := hg
    obtain ⟨its, rv, p, hz⟩ := I.tuple hq
    obtain ⟨f0, f1, f2, f3, f4, f5⟩ := hf it (by simp)
    have hl := rv.length
    have p' : s.heap.IsTuple a its.toArray := p
    have hat : a ≠ it := fun z => by
      obtain ⟨o1, q1, q2, _⟩ := hit
      obtain ⟨o2, q3, q4, _⟩ := p'
      rw [z, q1] at q3
      cases q3
      rw [q2] at q4
      exact absurd q4 (by decide)
    -- the iterator stands behind the last item, or at it
    have D0 : Draws X.prog X.w X.A.in1 it [it, a] i (fun _ _ => False) (fun j h => j = i ∧ h.IsTupleIter it a i ∧ h.IsTuple a its.toArray) := by
      have D := Draws.tuple (prog := X.prog) (w := X.w) (A := X.A.in1) (I.ok.hd hc) it a hat its.toArray
      refine ⟨fun j h st => D.live i h st.2, fun j h h' st k => ⟨st.1, D.frame i h h' st.2 k⟩, fun j s' Q E' hj st _ => absurd st.1 (Nat.ne_of_lt hj), fun s' Q E' st hQ => ?_⟩
      exact wpAny_nextOf_tuple_end (I.ok.hd hc) st.2.1 st.2.2 (by simp; omega) hQ
    exact wpAny_pyNext_enum_endD D0 he ⟨rfl, hit, p'⟩ fun h' eb => ⟨rfl, I.turned (t' := s.toks) (fun b o hb q => eb b o hb q) f0 f1 f3 f4 f5⟩
  self := fun A i s Q E st h => let ⟨⟨_, he⟩, _⟩ := st; wpAny_pyIter_enum he h
def iEnT (K : PySem.W.Frag) (ta : TA) : TI := fun σ H R => ta σ H fun vs H1 => ∃ a xs, vs = [.ref a] ∧ SqT K H1 a xs ∧ R (ItT K a) H1
theorem pi_en {X : Cx} {e : Expr} {ta : TA} {p pos tpos : Pos} {elts : List Expr} {kk : Nat} (hg : Gl X "enumerate") (hm : X.mg "enumerate" = none) (ha : PA X [e] ta) (hs : starEach [e] X.env = [(false, eval e X.env)] := by rfl) :
    PI X (.Tuple elts kk tpos) (.Call (.Name "enumerate" p) [e] [] pos) (iEnT X.K ta) := by
  refine ⟨fun pins s σ H R I h => ?_⟩
  refine Call_ (ld_blt I hg hm boot_enumerate (PyProof.Rows.callWith_type1 (thn (ha.run pos pins s σ H _ I h) fun us s1 ⟨vs, H1, I1, r1, q1⟩ => ?_) hs rfl))
  obtain ⟨a, xs, ex, hq, q⟩ := q1
  subst ex
  cases r1 with
  | cons r rr =>
    cases rr
    cases r
    obtain ⟨its, rv, p', hz⟩ := I1.tuple hq
    refine call_en (show s1.heap.IsTuple a its.toArray from p') fun h' he hit hsz hk => wpAny_pyIter_enum he ?_
    have I2 : Inv X pins σ H1 { s1 with heap := h' } := I1.kept (t' := s1.toks) hk
    refine ⟨s1.heap.objs.size + 1, [s1.heap.objs.size + 1, s1.heap.objs.size], _, _, H1, rfl, I2, turn a (s1.heap.objs.size + 1) s1.heap.objs.size, ⟨⟨.none, he⟩, hit, Nat.succ_ne_self _⟩, fun b hb => ?_, q⟩
    have hle : s1.heap.objs.size ≤ b := by
      rcases (show b = s1.heap.objs.size + 1 ∨ b = s1.heap.objs.size by simpa using hb) with z | z
      · rw [z]; exact Nat.le_add_right _ _
      · rw [z]; exact Nat.le_refl _
    exact I1.fpOk hle (I1.hok.fresh hle)
end RtE

set_option maxRecDepth 100000
set_option maxHeartbeats 4000000
/-! RtP: what a def promises where something is known of what stands around the call. -/
namespace Rt
open PySem L2 PySem.Spec PyProof.Rows
/-- what a call deeper keeps -/
def Stb (π : Around → Prop) : Prop := ∀ A env, π A → π (A.deeper env)
theorem stb_true : Stb fun _ => True := fun _ _ _ => True.intro
theorem stb_guards : Stb fun A => A.guards = some [] := fun _ _ h => h
/-- a def's promise, called where π holds -/
structure FnP (π : Around → Prop) (P : Program) (w : World) (K : PySem.W.Frag) (mg : Str → Option Value) (base : Heap) (CX : CXT) (k : Nat) (f : Addr) (fd : FuncData) (ps : List Str) (sp : Sp) : Prop where
  ln : ∀ vs H Q E, sp vs H Q E → vs.length = ps.length
  go : ∀ (A : Around) (outer : List Env) (s : Shared) (H : Hp) (as : Args) (us : List Value) (vs : List V) (Q : VK) (E : XK), π A → Room k A → Env0 P w K mg base A outer s H → BindsTo s fd as (ps.zip us) → Vals vs us → sp vs H Q E →
    codeAny (model P w) A (.call (.ref f) as) (CR CX outer P w H s Q E) s
section
variable {π : Around → Prop} {P : Program} {w : World} {K : PySem.W.Frag} {mg : Str → Option Value} {base : Heap} {CX : CXT} {k : Nat} {f : Addr} {fd : FuncData} {ps : List Str} {sp : Sp}
theorem FnP.ok (F : FnP (fun _ => True) P w K mg base CX k f fd ps sp) : FnOk P w K mg base CX k f fd ps sp := ⟨F.ln, fun A outer s H as us vs Q E r e b v q => F.go A outer s H as us vs Q E True.intro r e b v q⟩
theorem FnP.of (F : FnOk P w K mg base CX k f fd ps sp) : FnP π P w K mg base CX k f fd ps sp := ⟨F.len, fun A outer s H as us vs Q E _ r e b v q => F.run A outer s H as us vs Q E r e b v q⟩
theorem FnP.more {j : Nat} (F : FnP π P w K mg base CX j f fd ps sp) (h : j ≤ k) : FnP π P w K mg base CX k f fd ps sp := ⟨F.ln, fun A outer s H as us vs Q E hp r e b v q => F.go A outer s H as us vs Q E hp (r.mono h) e b v q⟩
/-- a def by its body -/
theorem fnP_of {name qual : Str} {params : Arguments} {body : List Stmt} {scope : Scope} {dV kV doc pm cdv ct oc : Value} {an od : Option Addr} {osl : Array (Option Value)} {N : List Str} (sπ : Stb π)
    (lk : K.lookup f = some ⟨oc, od, .func (PySem.W.fnOf name qual params body scope dV kV doc pm an cdv ct), osl⟩) (hcd : PySem.W.codeIn K cdv qual = true) (S : FnScope N ps scope) (ln : ∀ vs H Q E, sp vs H Q E → vs.length = ps.length)
    (hbody : ∀ (A : Around) (outer : List Env) (s : Shared) (H : Hp) (vs : List V) (Q : VK) (E : XK), π (A.deeper (envOfC qual scope s.heap.objs.size f cdv)) → Room k (A.deeper (envOfC qual scope s.heap.objs.size f cdv)) → sp vs H Q E →
      ∃ t, PSs (cxOf CX P w K mg base N qual scope f cdv A outer s H E) body t ∧ t { nx := fun _ H' => Q .non H', rt := Q } (start N vs) H) :
    FnP π P w K mg base CX (k + 1) f (PySem.W.fnOf name qual params body scope dV kV doc pm an cdv ct) ps sp := by
  refine ⟨ln, fun A outer s H as us vs Q E hp hr e0 hb r q => ?_⟩
  have hl := ln _ _ _ _ q
  have kx : K.In s.heap := e0.mod.kin.keeps fun b o e => (e0.bs b o e).1
  have hkind : ∀ y ∈ ps.zip us, scope.names.lookup y.1 = some .local ∨ (scope.names.lookup y.1 = some .cell ∧ ((cellsFrom (s.heap.objs.size + 1) scope.names []).lookup y.1).isSome = true) := fun y hy =>
    (S.par y.1 (List.of_mem_zip (show (y.1, y.2) ∈ ps.zip us from hy)).1).imp id fun z => ⟨z, PySem.W.cellsFrom_some _ _ _ (.inl z)⟩
  refine codeAny_call_function hr.depth (kx _ _ lk) rfl S.co S.gen rfl (PySem.W.codeRec_of kx hcd) (hb _ _ _ _ (wpAny_newFunctionEnv_cells S.kind hkind fun env he s1 x => ?_))
  subst he
  refine ⟨(e0.mod.nolimit.keeps fun b o e => (e0.bs b o e).1).keeps x.toInCall.keep, codeAny_func ?_⟩
  obtain ⟨t, ht, ht2⟩ := hbody A outer s H vs Q E (sπ _ _ hp) (hr.deeper _) q
  refine wpAny_mono (ht.run [] s1 (start N vs) H _ (inv_start S hr.hd e0 hl r x) ht2) (fun fl s' hs => ?_) fun e s' hs => hs
  cases fl with
  | ret u => exact let ⟨v, _, H', J, rv, z⟩ := hs; ⟨v, H', J.os, J.bare, J.base, J.hok, rv, z⟩
  | next => exact let ⟨_, H', J, z⟩ := hs; ⟨V.non, H', J.os, J.bare, J.base, J.hok, rfl, z⟩
  | brk => exact let ⟨_, _, _, z⟩ := hs; z.elim
  | cont => exact let ⟨_, _, _, z⟩ := hs; z.elim
theorem funP_ok {x qual : Str} {st : Stmt} {N : List Str} (sπ : Stb π) (F : Fun K x qual st f fd) (S : FnScope N ps (defScope st)) (ln : ∀ vs H Q E, sp vs H Q E → vs.length = ps.length)
    (hbody : ∀ (cdv : Value) (A : Around) (outer : List Env) (s : Shared) (H : Hp) (vs : List V) (Q : VK) (E : XK), π (A.deeper (envOfC qual (defScope st) s.heap.objs.size f cdv)) → Room k (A.deeper (envOfC qual (defScope st) s.heap.objs.size f cdv)) → sp vs H Q E →
      ∃ t, PSs (cxOf CX0 P w K mg base N qual (defScope st) f cdv A outer s H E).nox (defBody st) t ∧ t { nx := fun _ H' => Q .non H', rt := Q } (start N vs) H) : FnP π P w K mg base CX0 (k + 1) f fd ps sp := by
  obtain ⟨oc, od, kV, doc, pm, an, cdv, ct, osl, rfl, lk, hcd⟩ := F.ex
  exact fnP_of sπ lk hcd S ln fun A outer s H vs Q E hp hr q => let ⟨t, h1, h2⟩ := hbody cdv A outer s H vs Q E hp hr q; ⟨t, h1.nox, h2⟩
end
section
variable {X : Cx} {π : Around → Prop} {CX : CXT} {k : Nat} {f : Addr} {fd : FuncData} {ps : List Str} {sp : Sp} {dvs : List V} {ds : List Value} {E : XK} {x : Str} {p pos : Pos} {e : Expr} {es : List Expr} {t : TA}
theorem run_fnP {pins : List (Addr × Obj)} {σ : L2.St} {H : Hp} {s : Shared} {Q : VK} {us : List Value} {vs : List V} (F : FnP π X.prog X.w X.K X.mg X.base CX k f fd ps sp) (hp : π X.A) (hr : Room k X.A) (hb : Binds X.K fd ps ds) (hd : Vals dvs ds) (hx : Passes CX X E)
    (I : Inv X pins σ H s) (r : Vals vs us) (h : sp (vs ++ dvs) H Q E) : wpAny (model X.prog X.w) X.A (call (.ref f) us) (EP X pins σ Q) X.xe s := by
  have hl : (us ++ ds).length = ps.length := (r.append hd).length.symm.trans (F.ln _ _ _ _ h)
  refine wpAny_call (codeAny_mono (F.go X.A X.stack s H ⟨us, []⟩ (us ++ ds) (vs ++ dvs) Q E hp hr I.env0 (hb s us I.kIn hl) (r.append hd) h) fun r s' hq => ?_)
  match r, hq with
  | .error e, hq => exact hx pins σ H s e s' I hq
  | .ok (.ret u), hq => exact I.after hq
  | .ok .next, hq => exact False.elim hq
  | .ok .brk, hq => exact False.elim hq
  | .ok .cont, hq => exact False.elim hq
theorem pe_callP (F : FnP π X.prog X.w X.K X.mg X.base CX k f fd ps sp) (hp : π X.A) (hr : Room k X.A) (hg : Gl X x) (hm : X.mg x = some (.ref f)) (hk : PySem.W.keepIn X.K (.ref f) = true) (hb : Binds X.K fd ps ds) (hd : Vals dvs ds) (hx : Passes CX X E)
    (ha : PA X (e :: es) t) (hdb : (x == ("__debug__" : Str)) = false := by decide) (he : starEach (e :: es) X.env = (false, eval e X.env) :: starEach es X.env := by rfl) (hpl : (backTo pos (starEach es X.env)).any (·.1) = false := by rfl) :
    PE X (.Call (.Name x p) (e :: es) [] pos) (tCall sp dvs E t) :=
  ⟨fun pins s σ H Q I h => wpAny_Call_Name_kw (ld_glob I hg hm (PySem.W.callWith_K (h₀ := X.base) I.ok.mod.kin hk (thn (ha.run pos pins s σ H _ I h) fun us s1 ⟨vs, H1, I1, r, q⟩ => ⟨I1.kIn, run_fnP F hp hr hb hd hx I1 r q⟩) he hpl) hdb)⟩
end
/-! ### the law's own call -/
section
/-- the law's promise, behind the top; called there no repr is under way -/
theorem law_callP {π : Around → Prop} {P : Program} {w : World} {K : PySem.W.Frag} {mg mb : Str → Option Value} {CX : CXT} {k : Nat} {fa a : Addr} {fd : FuncData} {x : Str} {sp : Sp} {s1 : Shared} {vs : List Value} {ns : List Int} (hpi : π callerA)
    (kx : K.In s1.heap) (hns : s1.heap.Ns mainGlobals mg) (hbn : s1.heap.Ns builtinsNs mb) (hbb : ∀ x : Str, x ≠ "__name__" → mb x = bootBuiltins x) (hlim : s1.heap.NoLimit) (hgn : s1.gens = #[])
    (hget : s1.heap.get? a = some { cls := .type "list", data := .seq vs.toArray }) (hint : IntsAre vs ns) (hlen : ns.length ≤ sizeLine) (hroom : Room k callerA)
    (FF : ∀ base : Heap, K.In base → base.Ns mainGlobals mg → FnP π P w K mg base CX k fa fd [x] sp) (hbind : ∀ (s : Shared) (u : Value), BindsTo s fd ⟨[u], []⟩ [(x, u)])
    (hspec : ∀ H : Hp, Only H → SqL K H a (ns.map V.int) → sp [.ref a] H (fun v _ => v = .bl true) fun _ _ _ => False) (hcx : ∀ H e s', CX [] H s1 (fun _ _ _ => False) e s' → False) :
    codeAny (model P w) callerA (.call (.ref fa) ⟨[.ref a], []⟩) (fun r s' => r = .ok (.ret (.bool true)) ∧ OldK s1.heap s'.heap ∧ s'.os = s1.os ∧ AllBare s'.gens) s1 := by
  have rv := vals_ints hint
  have main : ∀ H : Hp, Only H → SqL K H a (ns.map V.int) → HOk P w H s1.heap → (∀ b, H b ≠ none → b = a) → (H a ≠ none → K.lookup a = none) →
      codeAny (model P w) callerA (.call (.ref fa) ⟨[.ref a], []⟩) (fun r s' => r = .ok (.ret (.bool true)) ∧ OldK s1.heap s'.heap ∧ s'.os = s1.os ∧ AllBare s'.gens) s1 := fun H hO hS hok hA hKa => by
    have only_a : ∀ {b : Addr} {u : HO}, H b = some u → b = a := fun {b u} q => hA b (by rw [q]; exact fun z => nomatch z)
    have noDict : ∀ {b : Addr} {o : Obj} {es : Array DictEntry} {ep : Nat}, s1.heap.get? b = some o → o.data = .dict es ep → H b = none := fun {b o es ep} e d => by
      cases q : H b with
      | none => rfl
      | some u =>
        rw [only_a q, hget] at e
        cases e
        cases (show Data.seq vs.toArray _ = Data.dict es ep from d)
    have nsk : ∀ {b : Addr} {m : Str → Option Value}, s1.heap.Ns b m → (hidT s1.heap H).Ns b m := fun {b m} ⟨o, es, ep, e, d, r⟩ => ⟨o, es, ep, hidT_get e (noDict e d), d, r⟩
    have kxb : K.In (hidT s1.heap H) := fun b o e => hidT_get (kx b o e) (by
      cases q : H b with
      | none => rfl
      | some u =>
        have e' := only_a q
        subst e'
        rw [hKa (by rw [q]; exact fun z => nomatch z)] at e
        cases e)
    have md : Mod K mg (hidT s1.heap H) := ⟨kxb, nsk hns, ⟨mb, nsk hbn, hbb⟩, let ⟨mc, h1, h2⟩ := hlim; ⟨mc, nsk h1, h2⟩⟩
    have env0 : Env0 P w K mg (hidT s1.heap H) callerA [] s1 H := ⟨rfl, md, fun b o e => of_hidT e, Nat.le_of_eq (hidT_size _ _), trivial, fun b hb => absurd (show b ∈ ([] : List Addr) from hb) List.not_mem_nil, hok, .of_eq hgn⟩
    refine codeAny_mono ((FF _ kxb (nsk hns)).go callerA [] s1 H ⟨[.ref a], []⟩ [.ref a] [.ref a] _ _ hpi hroom env0 (hbind s1 (.ref a)) (.cons rfl .nil) (hspec H hO hS)) fun r s' h => ?_
    match r, h with
    | .error e, h => exact (hcx H e s' h).elim
    | .ok .next, h => exact False.elim h
    | .ok .brk, h => exact False.elim h
    | .ok .cont, h => exact False.elim h
    | .ok (.ret u), ⟨v, H', os, bare, un, hok', r', q⟩ =>
      have q : v = .bl true := q
      subst q
      obtain rfl : u = Value.bool true := r'
      refine ⟨rfl, OldK.of_keep fun b o e => ?_, os, bare⟩
      rcases hO b with z | ⟨ob, xs, z⟩
      · exact un.keep b o e z (fun z => absurd (show b ∈ ([] : List Addr) from z) List.not_mem_nil) List.not_mem_nil
      · obtain ⟨e1, _⟩ := hok b _ z
        obtain ⟨e2, _⟩ := hok' b _ (un.frzs b ob _ z)
        rw [e] at e1
        cases e1
        exact e2
  cases hk : K.lookup a with
  | some o =>
    have e := kx a o hk
    rw [hget] at e
    cases e
    exact main (fun _ => none) (fun _ => .inl rfl) (.inr ⟨_, vs.toArray, _, hk, rfl, rfl, rfl, by rw [List.size_toArray, hint.length]; exact hlen, by simpa using rv⟩) (fun b u z => nomatch (show (none : Option HO) = some u from z)) (fun b z => absurd rfl z) fun z => absurd rfl z
  | none =>
    refine main (fun b => if b = a then some (.frz { cls := .type "list", data := .seq vs.toArray } (.lst (ns.map V.int))) else none) (fun b => ?_) (.inl (.inr ⟨{ cls := .type "list", data := .seq vs.toArray }, if_pos rfl⟩)) (fun b u z => ?_) (fun b z => ?_) fun _ => hk
    · by_cases e : b = a
      · exact .inr ⟨_, _, if_pos e⟩
      · exact .inl (if_neg e)
    · by_cases e : b = a
      · subst e
        cases (if_pos rfl).symm.trans z
        exact ⟨hget, by rw [List.length_map]; exact hlen, vs, _, rv, hget⟩
      · cases (if_neg e).symm.trans z
    · by_cases e : b = a
      · exact e
      · exact absurd (if_neg e) z
end
end Rt

set_option maxRecDepth 100000
set_option maxHeartbeats 4000000
/-! Rt5: what is walked, where it goes, comprehensions, calls of the text's own defs. -/
namespace Rt
open PySem L2

/-! ### frames, further -/
section
variable {C : Cs} {S S' H H' : Hp} {σ : St} {env : List Sl}
theorem Fr.H0none (F : Fr C S H σ env) {p : Addr} (hp : H p = none) : C.H0 p = none := by
  cases q : C.H0 p with
  | none => rfl
  | some u => exact absurd hp (F.al p (by rw [q]; exact fun z => nomatch z))
/-- a new thing, not of the data -/
theorem Fr.add (F : Fr C S H σ env) {p : Addr} {o : HO} (hp : H p = none) (nt : ∀ vs, o ≠ .tup vs := by intro _ z; cases z) : Fr C S (upd H p o) σ env := by
  refine ⟨F.e0, F.e1.trans (Ex.new hp), fun b u e n => Ex.new hp _ _ (F.e2 b u e n), F.nw, fun b h0 => ?_, F.sl.mono (Ex.refl S) (Ex.new hp) fun q hq => (F.sl.own hq).1, F.ow, F.nd, F.tc.up nt⟩
  by_cases z : b = p
  · rw [z, upd_same]
    exact fun z => nomatch z
  · rw [upd_ne z]
    exact F.al b h0
/-- a base of its own for a part of the way -/
def Cs.at (S H : Hp) (σ : St) (env : List Sl) : Cs := ⟨owns σ env, S, H⟩
theorem Fr.here (F : Fr C S H σ env) : Fr (Cs.at S H σ env) S H σ env :=
  ⟨Ex.refl S, F.e1, fun _ _ e _ => e, fun _ e _ => e, fun _ h => h, F.sl, fun p hp => .inr hp, F.nd, F.tc⟩
theorem Fr.back (F : Fr C S H σ env) (G : Fr (Cs.at S H σ env) S' H' σ env) : Fr C S' H' σ env := by
  refine ⟨F.e0.trans G.e0, G.e1, fun b o e n => ?_, fun b s0 h0 => G.nw b (F.nw b s0 h0) (F.al b h0), fun b h0 => G.al b (F.al b h0), G.sl, F.ow, G.nd, G.tc⟩
  refine G.e2 b o (F.e2 b o e n) fun hb => ?_
  rcases F.ow b hb with z | z
  · rw [z] at e
    cases e
  · exact n z
/-- other slots that hold the same: a base at which other own things are -/
theorem Fr.back2 {σ2 : St} {env2 : List Sl} (F : Fr C S H σ env) (hs : ∀ p ∈ owns σ2 env2, p ∈ owns σ env) (G : Fr (Cs.at S H σ2 env2) S' H' σ2 env2) (hsl : SlAll S' H' σ env) : Fr C S' H' σ env := by
  refine ⟨F.e0.trans G.e0, G.e1, fun b o e n => ?_, fun b s0 h0 => G.nw b (F.nw b s0 h0) (F.al b h0), fun b h0 => G.al b (F.al b h0), hsl, F.ow, F.nd, G.tc⟩
  refine G.e2 b o (F.e2 b o e n) fun hb => ?_
  rcases F.ow b (hs b hb) with z | z
  · rw [z] at e
    cases e
  · exact n z
/-- a thing outside of the data changes -/
theorem Fr.other (F : Fr C S H σ env) {p : Addr} {o o' : HO} (hp : H p = some o) (hs : S p = none) (h0 : C.H0 p = none) (ho : p ∉ owns σ env) (nt : ∀ vs, o' ≠ .tup vs := by intro _ z; cases z) : Fr C S (upd H p o') σ env := by
  refine ⟨F.e0, F.e1.mut hs, fun b u e n => ?_, F.nw, fun b h => ?_, ?_, F.ow, F.nd, F.tc.up nt⟩
  · have nb : b ≠ p := fun z => by
      rw [z, h0] at e
      cases e
    rw [upd_ne nb]
    exact F.e2 b u e n
  · by_cases z : b = p
    · rw [z, upd_same]
      exact fun z => nomatch z
    · rw [upd_ne z]
      exact F.al b h
  · have key : ∀ {σ : St} {env : List Sl}, p ∉ owns σ env → SlAll S H σ env → SlAll S (upd H p o') σ env := by
      intro σ
      induction σ with
      | nil => intro env n z; cases env with | nil => exact True.intro | cons _ _ => exact z.elim
      | cons w σ ih => intro env n z; cases env with | nil => exact z.elim | cons s env =>
          obtain ⟨z1, z2⟩ := z
          unfold owns at n
          refine ⟨?_, ih (fun q => n (List.mem_append_right _ q)) z2⟩
          have n1 : p ∉ ownOf w s := fun q => n (List.mem_append_left _ q)
          cases s with
          | un => exact True.intro
          | im r a => exact z1
          | ow r xs =>
            obtain ⟨q, vs, e, e2, e3, e4⟩ := z1
            subst e
            have : q ≠ p := fun z => n1 (by rw [z]; simp [ownOf])
            exact ⟨q, vs, rfl, e2, by rw [upd_ne this]; exact e3, e4⟩
          | iv d0 o0 =>
            obtain ⟨q, o2, e, e2, e3, e4⟩ := z1
            subst e
            have : q ≠ p := fun z => n1 (by rw [z]; simp [ownOf])
            exact ⟨q, o2, rfl, e2, by rw [upd_ne this]; exact e3, e4⟩
          | ob q0 a0 =>
            obtain ⟨q, o2, e, e2, e3, e4⟩ := z1
            subst e
            have : q ≠ p := fun z => n1 (by rw [z]; simp [ownOf])
            exact ⟨q, o2, rfl, e2, by rw [upd_ne this]; exact e3, e4⟩
    exact key ho F.sl
/-- behind a call of a def that changes nothing -/
theorem Fr.call (F : Fr C S H σ env) (eS : Ex S S') (e1 : Ex S' H') (eH : Ex H H') (n : ∀ b, S b = none → H b ≠ none → S' b = none) (t : Tc S' H') : Fr C S' H' σ env := by
  refine ⟨F.e0.trans eS, e1, fun b o e m => eH _ _ (F.e2 b o e m), fun b s0 h0 => n b (F.nw b s0 h0) (F.al b h0), fun b h0 => ?_, F.sl.mono eS eH fun p hp => ?_, F.ow, F.nd, t⟩
  · have := F.al b h0
    cases q : H b with
    | none => exact absurd q this
    | some u => rw [eH _ _ q]; exact fun z => nomatch z
  · obtain ⟨a, o, e⟩ := F.sl.own hp
    exact n p a (by rw [e]; exact fun z => nomatch z)
end

/-! ### what is walked -/
structure Wk {α : Type} (J : It) (re : Rp α) (xs : List α) (S0 : Hp) : Prop where
  len : xs.length ≤ sizeLine
  go : ∀ {C S H σ env} (i : Nat), i < xs.length → Fr C S H σ env → Ex S0 S → J.go i H
  yld : ∀ {C S H σ env} (i : Nat) (x : V) (H' : Hp) (a : α), Fr C S H σ env → Ex S0 S → J.yld i H x H' → xs[i]? = some a → ∃ S', Fr C S' H' σ env ∧ Ex S S' ∧ Ex H H' ∧ (∀ b, S b = none → H b ≠ none → S' b = none) ∧ re.p S' x a
  stop : ∀ {C S H σ env} (i : Nat), xs.length ≤ i → Fr C S H σ env → Ex S0 S → J.stop i H
def tS (C : Cs) (env : Gh → List Sl) {α : Type} (re : Rp α) (m : W (List α)) : TI := fun σ H R => ∃ S g P, Fr C S H σ (env g) ∧ m g P ∧ ∀ xs g', P xs g' → ∀ J S' H', Fr C S' H' σ (env g') → Ex S S' → Wk J re xs S' → R J H'
/-- what a target does to the data -/
structure Up (α : Type) where
  f : α → List Sl → List Sl
  js : List Nat
  ok : ∀ a env i, i ∉ js → (f a env)[i]? = env[i]?
section
variable {X : Cx} {C : Cs} {env : Gh → List Sl} {e a b c tg iter : Expr} {es : List Expr} {pos : Pos} {α β γ δ : Type} {r ra re : Rp α} {rb : Rp β} {rc : Rp γ} {m ma : W α} {mb : W β} {mc : W γ} {k : Bool}
theorem pi_imp {wi wi' : TI} (h : PI X tg e wi) (hi : ∀ σ H R, Lens H → wi' σ H R → wi σ H R) : PI X tg e wi' := ⟨fun pins s σ H R I q => h.run pins s σ H R I (hi σ H R (Lens.of I) q)⟩
/-- a list, a tuple that nobody changes -/
theorem wk_seq {K : PySem.W.Frag} {p : Addr} {vs : List V} {xs : List α} {S0 : Hp} (hl : vs.length ≤ sizeLine) (hp : Sq k S0 p vs) (h : All2 (re.p S0) vs xs) : Wk (if k = true then Itl K p else Itt K p) re xs S0 := by
  have at_ : ∀ {C S H σ env}, Fr C S H σ env → Ex S0 S → Sq k H p vs := fun F e => (hp.mono e).mono F.e1
  have l := All2.length h
  refine ⟨by rw [← l]; exact hl, fun {C S H σ env} i hi F e => ?_, fun {C S H σ env} i x H' y F e hy ha => ?_, fun {C S H σ env} i hi F e => ?_⟩
  · have hv : i < vs.length := by omega
    cases k with
    | true => exact ⟨vs, vs[i], SqL.of (at_ F e), by simp [hv]⟩
    | false => exact ⟨vs, vs[i], TupAt.sq (at_ F e), by simp [hv]⟩
  · obtain ⟨v, hv, hr⟩ := All2.get i h ha
    cases k with
    | true =>
      obtain ⟨eH, hq⟩ := hy
      have q := hq vs (SqL.of (at_ F e))
      rw [hv] at q
      cases q
      subst eH
      exact ⟨S, F, Ex.refl S, Ex.refl _, fun _ z _ => z, re.mono e hr⟩
    | false =>
      obtain ⟨eH, hq⟩ := hy
      have q := hq vs (TupAt.sq (at_ F e))
      rw [hv] at q
      cases q
      subst eH
      exact ⟨S, F, Ex.refl S, Ex.refl _, fun _ z _ => z, re.mono e hr⟩
  · cases k with
    | true => exact ⟨vs, SqL.of (at_ F e), by omega⟩
    | false => exact ⟨vs, TupAt.sq (at_ F e), by omega⟩
theorem xi_seq {mx : W (List α)} (h : PE X iter (tE C env (qSeq k re) mx)) : PI X tg iter (tS C env re mx) := by
  have h' := tE_len h
  cases k with
  | true =>
    refine pi_imp (pi_list h') fun σ H R _ ⟨S, g0, P, F, em, q⟩ => ⟨S, g0, P, F, em, fun xs g' px v S' H' F' eS ⟨p, vs, ev, hp, ha⟩ l => ⟨p, ev, ⟨vs, SqL.of (F'.e1 _ _ hp)⟩, ?_⟩⟩
    exact q xs _ px _ S' H' F' eS (wk_seq (k := true) (l p true vs (F'.e1 _ _ hp)) hp ha)
  | false =>
    refine pi_imp (pi_tup h') fun σ H R _ ⟨S, g0, P, F, em, q⟩ => ⟨S, g0, P, F, em, fun xs g' px v S' H' F' eS ⟨p, vs, ev, hp, ha⟩ l => ⟨p, ev, ⟨vs, TupAt.sq (TupAt.mono F'.e1 hp)⟩, ?_⟩⟩
    exact q xs _ px _ S' H' F' eS (wk_seq (k := false) (l p false vs (TupAt.mono F'.e1 hp)) hp ha)
/-- ranges -/
def irange (a b : Int) : List Int := (List.range (b - a).toNat).map fun i => a + (i : Nat)
def rngC (a b : Int) : Option (List Int) := if -1000000 ≤ a ∧ a ≤ 1000000 ∧ -1000000 ≤ b ∧ b ≤ 1000000 then some (irange a b) else none
theorem irange_length (a b : Int) : (irange a b).length = (b - a).toNat := by unfold irange; rw [List.length_map, List.length_range]
theorem irange_get {a b : Int} {i : Nat} {x : Int} (h : (irange a b)[i]? = some x) : x = a + (i : Nat) := by
  unfold irange at h
  rw [List.getElem?_map] at h
  cases q : (List.range (b - a).toNat)[i]? with
  | none => rw [q] at h; cases h
  | some j =>
    rw [q] at h
    have : j = i := by
      obtain ⟨h1, h2⟩ := List.getElem?_eq_some_iff.mp q
      simpa using h2.symm
    subst this
    exact (Option.some.inj h).symm
theorem wk_rng {lo hi : Int} {n : Nat} {S0 : Hp} (hn : n = (hi - lo).toNat) (hl : n ≤ sizeLine) : Wk (Itr lo n) qI (irange lo hi) S0 := by
  have l := irange_length lo hi
  refine ⟨by rw [l, ← hn]; exact hl, fun {C S H σ env} i hi' F e => ?_, fun {C S H σ env} i x H' y F e hy ha => ?_, fun {C S H σ env} i hi' F e => ?_⟩
  · show i < n
    omega
  · obtain ⟨eH, ex⟩ := hy
    subst eH
    refine ⟨S, F, Ex.refl S, Ex.refl _, fun _ z _ => z, ?_⟩
    show x = V.int y
    rw [ex, irange_get ha]
  · show n ≤ i
    omega
theorem rngC_some {i j : Int} {xs : List Int} (h : rngC i j = some xs) : xs = irange i j ∧ -1000000 ≤ i ∧ i ≤ 1000000 ∧ -1000000 ≤ j ∧ j ≤ 1000000 := by
  unfold rngC at h
  split at h
  · rename_i hc
    exact ⟨(Option.some.inj h).symm, hc⟩
  · cases h
theorem xi_rng1 {mi : W Int} {p : Pos} (hg : Gl X "range") (hm : X.mg "range" = none) (ha : PE X a (tE C env qI mi)) (hs : starEach [a] X.env = (false, eval a X.env) :: starEach [] X.env := by rfl) (hs' : starEach [a] X.env = [(false, eval a X.env)] := by rfl) :
    PI X tg (.Call (.Name "range" p) [a] [] pos) (tS C env qI (mi.bind fun i => ofO (rngC 0 i))) :=
  pi_imp (pi_range1 hg hm (pa_cons ha pa_nil hs) hs') fun σ H R _ ⟨S, g0, P, F, em, q⟩ => ⟨S, g0, _, F, em, fun i g1 ⟨z, ez, pz⟩ v S1 H1 F1 x1 hv => by
    obtain ⟨rfl, h1, h2, h3, h4⟩ := rngC_some ez
    refine ⟨i, by rw [show v = .int i from hv], by omega, by omega, ?_⟩
    exact q _ _ pz _ S1 H1 F1 x1 (wk_rng (by omega) (by rw [sizeLine_eq]; omega))⟩
theorem xi_rng2 {mi mj : W Int} {p : Pos} (hg : Gl X "range") (hm : X.mg "range" = none) (ha : PE X a (tE C env qI mi)) (hb : PE X b (tE C env qI mj)) (hs : starEach [a, b] X.env = (false, eval a X.env) :: starEach [b] X.env := by rfl) (hsb : starEach [b] X.env = (false, eval b X.env) :: starEach [] X.env := by rfl)
    (hs' : starEach [a, b] X.env = [(false, eval a X.env), (false, eval b X.env)] := by rfl) (hs2 : starEach [b] X.env = [(false, eval b X.env)] := by rfl) :
    PI X tg (.Call (.Name "range" p) [a, b] [] pos) (tS C env qI (mi.bind fun i => mj.bind fun j => ofO (rngC i j))) :=
  pi_imp (pi_range2 hg hm (pa_cons ha (pa_cons hb pa_nil hsb) hs) hs' hs2) fun σ H R _ ⟨S, g0, P, F, em, q⟩ => ⟨S, g0, _, F, em, fun i g1 hi v S1 H1 F1 x1 hv => ⟨S1, g1, _, F1, hi, fun j g2 ⟨z, ez, pz⟩ w S2 H2 F2 x2 hw => by
    obtain ⟨rfl, h1, h2, h3, h4⟩ := rngC_some ez
    refine ⟨i, j, by rw [show v = .int i from hv, show w = .int j from hw], by omega, ?_⟩
    exact q _ _ pz _ S2 H2 F2 (x1.trans x2) (wk_rng rfl (by rw [sizeLine_eq]; omega))⟩⟩
/-- enumerate -/
def enumI {α : Type} (xs : List α) : List (Int × α) := xs.zipIdx.map fun p => ((p.2 : Nat), p.1)
theorem enumI_get {xs : List α} {i : Nat} {y : Int × α} (h : (enumI xs)[i]? = some y) : y.1 = (i : Nat) ∧ xs[i]? = some y.2 := by
  unfold enumI at h
  rw [List.getElem?_map, List.getElem?_zipIdx] at h
  cases q : xs[i]? with
  | none => rw [q] at h; cases h
  | some x =>
    rw [q] at h
    have := Option.some.inj h
    subst this
    simp
theorem enumI_len (xs : List α) : (enumI xs).length = xs.length := by unfold enumI; rw [List.length_map, List.length_zipIdx]
theorem wk_new {J : It} {xs : List α} {S0 : Hp} (hl : xs.length ≤ sizeLine) (hg : ∀ {C S H σ env} (i : Nat), i < xs.length → Fr C S H σ env → Ex S0 S → J.go i H) (hs : ∀ {C S H σ env} (i : Nat), xs.length ≤ i → Fr C S H σ env → Ex S0 S → J.stop i H)
    (hy : ∀ {C S H σ env} (i : Nat) (x : V) (H' : Hp) (a : α), Fr C S H σ env → Ex S0 S → J.yld i H x H' → xs[i]? = some a → ∃ T o, x = .ref T ∧ H T = none ∧ H' = upd H T o ∧ re.p (upd S T o) x a) : Wk J re xs S0 :=
  ⟨hl, hg, fun {C S H σ env} i x H' a F e hj ha => by
    obtain ⟨T, o, ex, hT, eH, hr⟩ := hy i x H' a F e hj ha
    subst eH
    refine ⟨_, F.new hT, Ex.new (F.e1.back hT), Ex.new hT, fun b z1 z2 => ?_, hr⟩
    rw [upd_ne (fun z => z2 (by rw [z]; exact hT))]
    exact z1, hs⟩
theorem xi_enT {elts : List Expr} {kk : Nat} {tpos p : Pos} {mx : W (List α)} (hg : Gl X "enumerate") (hm : X.mg "enumerate" = none) (ha : PE X a (tE C env (qT re) mx)) (hs : starEach [a] X.env = (false, eval a X.env) :: starEach [] X.env := by rfl) (hs' : starEach [a] X.env = [(false, eval a X.env)] := by rfl) :
    PI X (.Tuple elts kk tpos) (.Call (.Name "enumerate" p) [a] [] pos) (tS C env (qW qI re) (mx.bind fun xs => .ret (enumI xs))) := by
  refine pi_imp (RtE.pi_en hg hm (pa_cons (tE_len ha) pa_nil hs) hs') fun σ H R _ ⟨S, g0, P, F, em, q⟩ => ?_
  refine ⟨S, g0, _, F, em, fun xs g1 px v S1 H1 F1 x1 ⟨p, vs, ev, hp, h2⟩ l => ?_⟩
  subst ev
  have at_ : ∀ {C S H σ env}, Fr C S H σ env → Ex S1 S → TupAt H p vs := fun F e => TupAt.mono F.e1 (TupAt.mono e hp)
  have ll := All2.length h2
  refine ⟨p, vs, rfl, TupAt.sq (TupAt.mono F1.e1 hp), q _ _ px _ S1 H1 F1 x1 (wk_new (by rw [enumI_len, ← ll]; exact l p false vs (TupAt.mono F1.e1 hp)) (fun {C S H σ env} i hi F e => ?_) (fun {C S H σ env} i hi F e => ?_) fun {C S H σ env} i x H' y F e hy ha => ?_)⟩
  · rw [enumI_len] at hi
    have hv : i < vs.length := by omega
    exact ⟨vs, vs[i], TupAt.sq (at_ F e), by simp [hv]⟩
  · rw [enumI_len] at hi
    exact ⟨vs, TupAt.sq (at_ F e), by omega⟩
  · obtain ⟨T, v, ev, hT, eH, hq⟩ := hy
    obtain ⟨y1, y2⟩ := enumI_get ha
    obtain ⟨w, hw, hr⟩ := All2.get i h2 y2
    have := hq vs (TupAt.sq (at_ F e))
    rw [hw] at this
    cases this
    exact ⟨T, _, ev, hT, eH, T, .int (i : Nat), _, ev, .inl upd_same, by rw [y1]; rfl, re.mono (e.trans (Ex.new (F.e1.back hT))) hr⟩
theorem xi_enL {elts : List Expr} {kk : Nat} {tpos p : Pos} {mx : W (List α)} (hg : Gl X "enumerate") (hm : X.mg "enumerate" = none) (ha : PE X a (tE C env (qL re) mx)) (hs : starEach [a] X.env = (false, eval a X.env) :: starEach [] X.env := by rfl) (hs' : starEach [a] X.env = [(false, eval a X.env)] := by rfl) :
    PI X (.Tuple elts kk tpos) (.Call (.Name "enumerate" p) [a] [] pos) (tS C env (qW qI re) (mx.bind fun xs => .ret (enumI xs))) := by
  refine pi_imp (pi_enum hg hm (pa_cons (tE_len ha) pa_nil hs) hs') fun σ H R _ ⟨S, g0, P, F, em, q⟩ => ?_
  refine ⟨S, g0, _, F, em, fun xs g1 px v S1 H1 F1 x1 ⟨p, vs, ev, hp, h2⟩ l => ?_⟩
  subst ev
  have at_ : ∀ {C S H σ env}, Fr C S H σ env → Ex S1 S → H p = some (.lst vs) := fun F e => F.e1 _ _ (e _ _ hp)
  have ll := All2.length h2
  refine ⟨p, vs, rfl, SqL.of (F1.e1 _ _ hp), q _ _ px _ S1 H1 F1 x1 (wk_new (by rw [enumI_len, ← ll]; exact l p true vs (F1.e1 _ _ hp)) (fun {C S H σ env} i hi F e => ?_) (fun {C S H σ env} i hi F e => ?_) fun {C S H σ env} i x H' y F e hy ha => ?_)⟩
  · rw [enumI_len] at hi
    have hv : i < vs.length := by omega
    exact ⟨vs, vs[i], SqL.of (at_ F e), by simp [hv]⟩
  · rw [enumI_len] at hi
    exact ⟨vs, SqL.of (at_ F e), by omega⟩
  · obtain ⟨T, v, ev, hT, eH, hq⟩ := hy
    obtain ⟨y1, y2⟩ := enumI_get ha
    obtain ⟨w, hw, hr⟩ := All2.get i h2 y2
    have := hq vs (SqL.of (at_ F e))
    rw [hw] at this
    cases this
    exact ⟨T, _, ev, hT, eH, T, .int (i : Nat), _, ev, .inl upd_same, by rw [y1]; rfl, re.mono (e.trans (Ex.new (F.e1.back hT))) hr⟩
/-! ### where it goes -/
def tG (re : Rp α) (up : Up α) : TG := fun v σ H Q => ∃ C S env a, Fr C S H σ env ∧ re.p S v a ∧ ∀ σ', σ'.length = σ.length → (∀ i, i ∉ up.js → σ'[i]? = σ[i]?) → Fr C S H σ' (up.f a env) → Q σ' H
def uN (i : Nat) (re : Rp α) : Up α := ⟨fun a env => env.set i (.im re a), [i], fun a env j hj => by simp at hj; exact List.getElem?_set_ne (Ne.symm hj)⟩
def uP (u1 : Up α) (u2 : Up β) : Up (α × β) := ⟨fun x env => u2.f x.2 (u1.f x.1 env), u1.js ++ u2.js, fun x env j hj => by
  simp at hj
  rw [u2.ok _ _ j hj.2, u1.ok _ _ j hj.1]⟩
def uP3 (u1 : Up α) (u2 : Up β) (u3 : Up γ) : Up (α × β × γ) := uP u1 (uP u2 u3)
theorem xg_name {i : Nat} (h : PG X tg (gName i)) : PG X tg (tG re (uN i re)) := ⟨fun pins s σ H v u Q I r ⟨C, S, env, a, F, hr, q⟩ =>
  h.run pins s σ H v u Q I r (q _ (List.length_set ..) (fun j hj => List.getElem?_set_ne (fun z => hj (by rw [← z]; exact List.mem_singleton.mpr rfl))) (F.setIm i hr))⟩
theorem pgs_imp {es : List Expr} {t t' : TGs} (h : PGs X es t) (hi : ∀ vs σ H Q, t' vs σ H Q → t vs σ H Q) : PGs X es t' := ⟨fun pins s σ H vs us Q I r q => h.run pins s σ H vs us Q I r (hi _ _ _ _ q)⟩
theorem pg_imp {t t' : TG} (h : PG X tg t) (hi : ∀ v σ H Q, t' v σ H Q → t v σ H Q) : PG X tg t' := ⟨fun pins s σ H v u Q I r q => h.run pins s σ H v u Q I r (hi _ _ _ _ q)⟩
variable {up1 : Up α} {up2 : Up β} {up3 : Up γ}
theorem xg_pair {kk : Nat} (hc : X.calm = true) (h1 : PG X a (tG ra up1)) (h2 : PG X b (tG rb up2))
    (hs : (assignEach [a, b] X.env).map (·.2) = assign a X.env :: (assignEach [b] X.env).map (·.2) := by rfl) (hs2 : (assignEach [b] X.env).map (·.2) = assign b X.env :: (assignEach [] X.env).map (·.2) := by rfl)
    (hn : (assignEach [a, b] X.env).length = 2 := by rfl) (hst : (assignEach [a, b] X.env).findIdx? (·.1) = none := by rfl) :
    PG X (.Tuple [a, b] kk pos) (tG (qP ra rb) (uP up1 up2)) :=
  pg_imp (pg_tup hc (pgs_cons h1 (pgs_cons h2 pgs_nil hs2) hs) hn hst) fun v σ H Q ⟨C, S, env, x, F, ⟨p, v1, v2, ev, hp, r1, r2⟩, q⟩ =>
    ⟨p, [v1, v2], ev, TupAt.sq (TupAt.mono F.e1 hp), rfl, v1, [v2], rfl, C, S, env, x.1, F, r1, fun σ1 l1 n1 F1 => ⟨v2, [], rfl, C, S, _, x.2, F1, r2, fun σ2 l2 n2 F2 => ⟨rfl, q σ2 (l2.trans l1) (fun i hi => by
      have hi : i ∉ up1.js ++ up2.js := hi
      simp at hi
      rw [n2 i hi.2, n1 i hi.1]) F2⟩⟩⟩
theorem xg_pairW {kk : Nat} (hc : X.calm = true) (h1 : PG X a (tG ra up1)) (h2 : PG X b (tG rb up2))
    (hs : (assignEach [a, b] X.env).map (·.2) = assign a X.env :: (assignEach [b] X.env).map (·.2) := by rfl) (hs2 : (assignEach [b] X.env).map (·.2) = assign b X.env :: (assignEach [] X.env).map (·.2) := by rfl)
    (hn : (assignEach [a, b] X.env).length = 2 := by rfl) (hst : (assignEach [a, b] X.env).findIdx? (·.1) = none := by rfl) :
    PG X (.Tuple [a, b] kk pos) (tG (qW ra rb) (uP up1 up2)) :=
  pg_imp (pg_tup hc (pgs_cons h1 (pgs_cons h2 pgs_nil hs2) hs) hn hst) fun v σ H Q ⟨C, S, env, x, F, ⟨p, v1, v2, ev, hp, r1, r2⟩, q⟩ =>
    ⟨p, [v1, v2], ev, (hp.elim (fun h => SqT.of (F.e1 _ _ h)) fun h => TupAt.sq (TupAt.mono F.e1 h)), rfl, v1, [v2], rfl, C, S, env, x.1, F, r1, fun σ1 l1 n1 F1 => ⟨v2, [], rfl, C, S, _, x.2, F1, r2, fun σ2 l2 n2 F2 => ⟨rfl, q σ2 (l2.trans l1) (fun i hi => by
      have hi : i ∉ up1.js ++ up2.js := hi
      simp at hi
      rw [n2 i hi.2, n1 i hi.1]) F2⟩⟩⟩
theorem xg_triple {kk : Nat} (hc : X.calm = true) (h1 : PG X a (tG ra up1)) (h2 : PG X b (tG rb up2)) (h3 : PG X c (tG rc up3))
    (hs : (assignEach [a, b, c] X.env).map (·.2) = assign a X.env :: (assignEach [b, c] X.env).map (·.2) := by rfl) (hs2 : (assignEach [b, c] X.env).map (·.2) = assign b X.env :: (assignEach [c] X.env).map (·.2) := by rfl) (hs3 : (assignEach [c] X.env).map (·.2) = assign c X.env :: (assignEach [] X.env).map (·.2) := by rfl)
    (hn : (assignEach [a, b, c] X.env).length = 3 := by rfl) (hst : (assignEach [a, b, c] X.env).findIdx? (·.1) = none := by rfl) :
    PG X (.Tuple [a, b, c] kk pos) (tG (qP3 ra rb rc) (uP3 up1 up2 up3)) :=
  pg_imp (pg_tup hc (pgs_cons h1 (pgs_cons h2 (pgs_cons h3 pgs_nil hs3) hs2) hs) hn hst) fun v σ H Q ⟨C, S, env, x, F, ⟨p, v1, v2, v3, ev, hp, r1, r2, r3⟩, q⟩ =>
    ⟨p, [v1, v2, v3], ev, TupAt.sq (TupAt.mono F.e1 hp), rfl, v1, [v2, v3], rfl, C, S, env, x.1, F, r1, fun σ1 l1 n1 F1 => ⟨v2, [v3], rfl, C, S, _, x.2.1, F1, r2, fun σ2 l2 n2 F2 => ⟨v3, [], rfl, C, S, _, x.2.2, F2, r3, fun σ3 l3 n3 F3 => ⟨rfl, q σ3 (l3.trans (l2.trans l1)) (fun i hi => by
      have hi : i ∉ up1.js ++ (up2.js ++ up3.js) := hi
      simp at hi
      rw [n3 i hi.2.2, n2 i hi.2.1, n1 i hi.1]) F3⟩⟩⟩⟩

/-! ### comprehensions -/
def wipeE (env : List Sl) : List Nat → List Sl
  | [] => env
  | v :: vs => (wipeE env vs).set v .un
theorem owns_wipe {σ : St} {env : List Sl} : ∀ (vs : List Nat) {p : Addr}, p ∈ owns (wipe σ vs) (wipeE env vs) → p ∈ owns σ env
  | [], _, h => h
  | v :: vs, p, h => by
    unfold wipe wipeE at h
    rcases owns_set v h with h | h
    · exact owns_wipe vs h
    · cases h
theorem Fr.wipe {S H : Hp} {σ : St} {env : List Sl} (F : Fr C S H σ env) : ∀ vs : List Nat, Fr C S H (wipe σ vs) (wipeE env vs)
  | [] => F
  | v :: vs => by
    unfold L2.wipe wipeE
    exact (Fr.wipe F vs).setUn v none
theorem wipe_in {σ : St} {x : Option V} {i : Nat} : ∀ {vs : List Nat}, i ∈ vs → wipe (σ.set i x) vs = wipe σ vs
  | v :: vs, h => by
    unfold L2.wipe
    by_cases hv : i ∈ vs
    · rw [wipe_in hv]
    · have e : i = v := (List.mem_cons.mp h).resolve_right hv
      subst e
      have key : ∀ vs : List Nat, (wipe (σ.set i x) vs).set i none = (wipe σ vs).set i none := by
        intro vs
        induction vs with
        | nil => simp [L2.wipe]
        | cons w ws ih =>
          unfold L2.wipe
          by_cases hw : w = i
          · subst hw
            rw [List.set_set, List.set_set, ih]
          · rw [List.set_comm _ _ hw, List.set_comm _ _ hw, ih]
      exact key vs
/-- slots that are the same but for some that are wiped -/
theorem wipe_same {σ σ' : St} {vs : List Nat} (hl : σ'.length = σ.length) (h : ∀ i, i ∉ vs → σ'[i]? = σ[i]?) : wipe σ' vs = wipe σ vs := by
  refine List.ext_getElem? fun i => ?_
  have key : ∀ (τ : St) (vs : List Nat), (wipe τ vs)[i]? = if i ∈ vs ∧ i < τ.length then some none else τ[i]? := by
    intro τ vs
    induction vs with
    | nil => simp [L2.wipe]
    | cons w ws ih =>
      unfold L2.wipe
      by_cases hw : w = i
      · subst hw
        by_cases hi : w < τ.length
        · rw [List.getElem?_set_self (by rw [wipe_length]; exact hi)]
          simp [hi]
        · rw [List.getElem?_eq_none (by rw [List.length_set, wipe_length]; omega)]
          simp [hi]
      · rw [List.getElem?_set_ne hw, ih]
        have : i ∈ w :: ws ↔ i ∈ ws := by
          simp
          exact fun z => absurd z.symm hw
        simp only [this]
  rw [key, key, hl]
  by_cases hi : i ∈ vs
  · by_cases hl2 : i < σ.length
    · simp [hi, hl2]
    · have h1 : σ.length ≤ i := by omega
      simp [hi, hl2, List.getElem?_eq_none h1, List.getElem?_eq_none (show σ'.length ≤ i by rw [hl]; exact h1)]
  · simp [hi]
    exact h i hi
/-- [f x for x in xs if c x] -/
def lcW {α β : Type} (c : α → W Bool) (f : α → W β) : List α → W (List β)
  | [] => .ret []
  | x :: xs => (c x).bind fun b => if b = true then (f x).bind fun y => (lcW c f xs).bind fun ys => .ret (y :: ys) else lcW c f xs
/-- .. reckoned -/
def lcO {α β : Type} (c : α → Option Bool) (f : α → Option β) : List α → Option (List β)
  | [] => some []
  | x :: xs => (c x).bind fun b => if b = true then (f x).bind fun y => (lcO c f xs).bind fun ys => some (y :: ys) else lcO c f xs
theorem ofO_lc {α β : Type} (c : α → Option Bool) (f : α → Option β) : ∀ xs : List α, ofO (lcO c f xs) = lcW (fun x => ofO (c x)) (fun x => ofO (f x)) xs
  | [] => ofO_some []
  | x :: xs => by
    unfold lcO lcW
    rw [ofO_bind]
    congr 1
    funext b
    rw [ofO_if]
    congr 1
    · rw [ofO_bind]
      congr 1
      funext y
      rw [ofO_bind, ofO_lc c f xs]
      congr 1
      funext ys
      exact ofO_some _
    · exact ofO_lc c f xs
/-- the slots that are wiped hold no own things -/
def wipeOk (env : List Sl) (vs : List Nat) : Bool := vs.all fun i => match env[i]? with
  | some (.ow _ _) => false
  | some (.iv _ _) => false
  | some (.ob _ _) => false
  | _ => true
theorem SlAll.of_get {S H : Hp} : ∀ {σ : St} {env : List Sl}, σ.length = env.length → (∀ (i : Nat) v s, σ[i]? = some v → env[i]? = some s → SlOk S H v s) → SlAll S H σ env
  | [], [], _, _ => True.intro
  | v :: σ, s :: env, h, f => ⟨f 0 v s rfl rfl, SlAll.of_get (by simpa using h) fun i v s h1 h2 => f (i + 1) v s (by simpa using h1) (by simpa using h2)⟩
  | [], _ :: _, h, _ => by simp at h
  | _ :: _, [], h, _ => by simp at h
/-- the same but for what the shared object holds -/
inductive Gs : List Sl → List Sl → Prop
  | nil : Gs [] []
  | keep {s : Sl} {a b : List Sl} : Gs a b → Gs (s :: a) (s :: b)
  | gh {d : Addr} {o o' : HO} {a b : List Sl} : Gs a b → Gs (.iv d o :: a) (.iv d o' :: b)
theorem Gs.owns {a b : List Sl} (h : Gs a b) : ∀ σ : St, owns σ a = owns σ b := by
  induction h with
  | nil => intro σ; rfl
  | keep h ih => intro σ; cases σ with
    | nil => rfl
    | cons v σ => show ownOf v _ ++ Rt.owns σ _ = ownOf v _ ++ Rt.owns σ _; rw [ih σ]
  | gh h ih => intro σ; cases σ with
    | nil => rfl
    | cons v σ => show ownOf v _ ++ Rt.owns σ _ = ownOf v _ ++ Rt.owns σ _; rw [ih σ]; cases v with
      | none => rfl
      | some v => cases v <;> rfl
theorem Gs.get {a b : List Sl} (h : Gs a b) : ∀ i : Nat, a[i]? = b[i]? ∨ ∃ d o o', a[i]? = some (.iv d o) ∧ b[i]? = some (.iv d o') := by
  induction h with
  | nil => intro i; exact .inl rfl
  | keep h ih => intro i; cases i with
    | zero => exact .inl rfl
    | succ i => simpa using ih i
  | gh h ih => intro i; cases i with
    | zero => exact .inr ⟨_, _, _, rfl, rfl⟩
    | succ i => simpa using ih i
theorem Gs.length {a b : List Sl} (h : Gs a b) : a.length = b.length := by
  induction h with
  | nil => rfl
  | keep h ih => simp [ih]
  | gh h ih => simp [ih]
theorem Fr.backG {C : Cs} {S H S' H' : Hp} {σ : St} {env env' : List Sl} (F : Fr C S H σ env) (e : owns σ env' = owns σ env) (G : Fr (Cs.at S H σ env) S' H' σ env') : Fr C S' H' σ env' := by
  refine ⟨F.e0.trans G.e0, G.e1, fun b o e n => ?_, fun b s0 h0 => G.nw b (F.nw b s0 h0) (F.al b h0), fun b h0 => G.al b (F.al b h0), G.sl, fun p hp => F.ow p (e ▸ hp), G.nd, G.tc⟩
  refine G.e2 b o (F.e2 b o e n) fun hb => ?_
  rcases F.ow b hb with z | z
  · rw [z] at e
    cases e
  · exact n z
theorem Fr.unwipe {C : Cs} {S H S' H' : Hp} {σ σ2 : St} {env env' env2 : List Sl} {vs : List Nat} (F : Fr C S H σ env) (hG : Gs env env') (hv : wipeOk env vs = true) (G : Fr (Cs.at S H σ env) S' H' σ2 env2) (hσ : ∀ i, i ∉ vs → σ2[i]? = σ[i]?) (he : ∀ i, i ∉ vs → env2[i]? = env'[i]?) : Fr C S' H' σ env' := by
  have eo := (hG.owns σ).symm
  refine F.backG eo ⟨G.e0, G.e1, G.e2, G.nw, G.al, SlAll.of_get (F.sl.len.trans hG.length) fun i v s h1 h2 => ?_, fun p hp => .inr (by show p ∈ owns σ env; rw [← eo]; exact hp), by rw [eo]; exact F.nd, G.tc⟩
  by_cases hi : i ∈ vs
  · have q := List.all_eq_true.mp hv i hi
    rcases hG.get i with e | ⟨d0, o0, o1, e1, e2⟩
    · have h2' : env[i]? = some s := e.trans h2
      obtain ⟨v', e', r⟩ := F.sl.get i h2'
      rw [h1] at e'
      cases e'
      rw [h2'] at q
      cases s with
      | un => exact True.intro
      | im r' a =>
        obtain ⟨x, e, z⟩ := r
        exact ⟨x, e, r'.mono G.e0 z⟩
      | ow _ _ => cases q
      | iv _ _ => cases q
      | ob _ _ => cases q
    · rw [e1] at q
      cases q
  · obtain ⟨v', e', r⟩ := G.sl.get i ((he i hi).trans h2)
    rw [hσ i hi, h1] at e'
    cases e'
    exact r
/-- a thing outside of the data, taken out -/
def del (H : Hp) (p : Addr) : Hp := fun b => if b = p then none else H b
theorem Tc.del1 {S H : Hp} (t : Tc S H) (p : Addr) : Tc S (del H p) := fun b vs e => by
  unfold del at e
  by_cases z : b = p
  · rw [if_pos z] at e
    cases e
  · rw [if_neg z] at e
    exact t b vs e
theorem Tc.del2 {S H : Hp} (t : Tc S H) (p : Addr) : Tc (del S p) (del H p) := fun b vs e => by
  unfold del at e ⊢
  by_cases z : b = p
  · rw [if_pos z] at e
    cases e
  · rw [if_neg z] at e ⊢
    exact t b vs e
theorem upd_del {H : Hp} {p : Addr} {o : HO} (h : H p = some o) : upd (del H p) p o = H := by
  funext b
  unfold upd del
  by_cases z : b = p
  · subst z
    simp [h]
  · simp [z]
theorem Fr.del {S H : Hp} {σ : St} {env : List Sl} (F : Fr C S H σ env) {p : Addr} (hs : S p = none) (h0 : C.H0 p = none) (ho : p ∉ owns σ env) : Fr C S (del H p) σ env := by
  have ne : ∀ b, b ≠ p → Rt.del H p b = H b := fun b hb => by unfold Rt.del; rw [if_neg hb]
  have nS : ∀ {b u}, S b = some u → b ≠ p := fun {b u} e z => by rw [z, hs] at e; cases e
  have n0 : ∀ {b}, C.H0 b ≠ none → b ≠ p := fun {b} e z => e (by rw [z]; exact h0)
  refine ⟨F.e0, fun b u e => by rw [ne b (nS e)]; exact F.e1 b u e, fun b u e n => by rw [ne b (n0 (by rw [e]; exact fun z => nomatch z))]; exact F.e2 b u e n, F.nw, fun b h => by rw [ne b (n0 h)]; exact F.al b h, SlAll.of_get F.sl.len fun i v s h1 h2 => ?_, F.ow, F.nd, F.tc.del1 p⟩
  obtain ⟨v', e', r⟩ := F.sl.get i h2
  rw [h1] at e'
  cases e'
  cases s with
  | un => exact True.intro
  | im r' a => exact r
  | ow r' xs =>
    obtain ⟨q, vs, e, e2, e3, e4⟩ := r
    subst e
    have : q ≠ p := fun z => ho (by rw [← z]; exact owns_mem_get i h2 h1 rfl)
    exact ⟨q, vs, rfl, e2, by rw [ne q this]; exact e3, e4⟩
  | iv d0 o0 =>
    obtain ⟨q, o, e, e2, e3, e4⟩ := r
    subst e
    have : q ≠ p := fun z => ho (by rw [← z]; exact owns_mem_get i h2 h1 rfl)
    exact ⟨q, o, rfl, e2, by rw [ne q this]; exact e3, e4⟩
  | ob q0 a0 =>
    obtain ⟨q, o, e, e2, e3, e4⟩ := r
    subst e
    have : q ≠ p := fun z => ho (by rw [← z]; exact owns_mem_get i h2 h1 rfl)
    exact ⟨q, o, rfl, e2, by rw [ne q this]; exact e3, e4⟩
theorem wipeE_get {env : List Sl} {i : Nat} : ∀ {vs : List Nat}, i ∉ vs → (wipeE env vs)[i]? = env[i]?
  | [], _ => rfl
  | v :: vs, h => by
    unfold wipeE
    simp at h
    rw [List.getElem?_set_ne (Ne.symm h.1), wipeE_get h.2]
theorem wipe_get {σ : St} {i : Nat} : ∀ {vs : List Nat}, i ∉ vs → (wipe σ vs)[i]? = σ[i]?
  | [], _ => rfl
  | v :: vs, h => by
    unfold L2.wipe
    simp at h
    rw [List.getElem?_set_ne (Ne.symm h.1), wipe_get h.2]
theorem wipe_wipe {σ : St} (vs : List Nat) : wipe (wipe σ vs) vs = wipe σ vs := wipe_same (wipe_length σ vs) fun i hi => wipe_get hi
theorem drop_cons {xs : List α} {i : Nat} {a : α} (h : xs[i]? = some a) : xs.drop i = a :: xs.drop (i + 1) := by
  obtain ⟨h1, h2⟩ := List.getElem?_eq_some_iff.mp h
  rw [List.drop_eq_getElem_cons h1, h2]
theorem tN_of_E {m : W (List α)} {σ : St} {H : Hp} {Q : VK} (h : tE C env (qL r) m σ H Q) : tN C env r m σ H Q :=
  let ⟨S, g0, P, F, em, q⟩ := h
  ⟨S, g0, P, F, em, fun xs g1 px p vs S' H' F' eS hp ha => by
    have sp : S' p = none := F'.e1.back hp
    exact q xs g1 px _ _ _ (F'.new (o := .lst vs) hp) (eS.trans (Ex.new sp)) ⟨p, vs, rfl, upd_same, ha.mono fun _ _ z => r.mono (Ex.new sp) z⟩⟩
theorem lc_use {own : List (Str × Nat)} {mx : W (List α)} {up : Up α} {cf : α → W Bool} {ef : α → W β} (hjs : (up.js.all fun j => (own.map (·.2)).contains j) = true) (hw : ∀ g, wipeOk (env g) (own.map (·.2)) = true) (hE : ∀ g g', Gs (env g) (env g'))
    {σ : St} {H : Hp} {Q : VK} (h : tN C env rb (mx.bind fun xs => lcW cf ef xs) σ H Q) :
    tLc (tS C env re mx) (tG re up) (fun σ H Q => ∃ p : Cs × α, tT p.1 (fun g => up.f p.2 (wipeE (env g) (own.map (·.2)))) (cf p.2) σ H Q) (fun σ H Q => ∃ p : Cs × α, tE p.1 (fun g => up.f p.2 (wipeE (env g) (own.map (·.2)))) rb (ef p.2) σ H Q) (own.map (·.2)) σ H Q := by
  have hjs' : ∀ j, j ∉ own.map (·.2) → j ∉ up.js := fun j hj z => hj (by
    have := List.all_eq_true.mp hjs j z
    simpa using this)
  obtain ⟨S, g0, P, F, em, q⟩ := h
  refine ⟨S, g0, _, F, em, fun xs g1 em J S1 H1 F1 x1 W1 D hD => ?_⟩
  have dS : S1 D = none := F1.e1.back hD
  have d0 : C.H0 D = none := F1.H0none hD
  have dO1 : D ∉ owns σ (env g1) := fun z => by
    obtain ⟨_, o, e⟩ := F1.sl.own z
    rw [hD] at e
    cases e
  have dO : ∀ g, D ∉ owns σ (env g) := fun g z => dO1 ((hE g g1).owns σ ▸ z)
  refine ⟨fun i m H => m = xs.length - i ∧ i ≤ xs.length ∧ ∃ S g acc ys, Fr C S H σ (env g) ∧ Ex S1 S ∧ H D = some (.lst acc) ∧ S D = none ∧ lcW cf ef (xs.drop i) g (fun zs => P (ys ++ zs)) ∧ All2 (rb.p S) acc ys ∧ ys.length ≤ i,
    ⟨xs.length, rfl, Nat.zero_le _, S1, g1, [], [], F1.add hD, Ex.refl S1, upd_same, dS, em, True.intro, Nat.le_refl _⟩, ?_⟩
  rintro i m H2 ⟨rfl, hi2, S2, g2, acc, ys, F2, x2, hD2, sD2, hz, ha, hy⟩
  by_cases hlt : i < xs.length
  · have hxi : xs[i]? = some xs[i] := List.getElem?_eq_getElem hlt
    have hz' := hz
    rw [drop_cons hxi] at hz'
    unfold lcW at hz'
    refine .inr ⟨W1.go i hlt F2 x2, fun H' => ∃ S g acc ys, Fr C S H' σ (env g) ∧ Ex S1 S ∧ H' D = some (.lst acc) ∧ S D = none ∧ lcW cf ef (xs.drop (i + 1)) g (fun zs => P (ys ++ zs)) ∧ All2 (rb.p S) acc ys ∧ ys.length ≤ i + 1,
      fun H' h' => ⟨xs.length - (i + 1), by omega, rfl, hlt, h'⟩, fun x H3 hy3 => ?_⟩
    have Fb := F2.here.wipe (own.map (·.2))
    obtain ⟨S3, F3, x3, xH3, n3, r3⟩ := W1.yld i x H3 xs[i] Fb x2 hy3 hxi
    refine ⟨Cs.at S2 H2 σ (env g2), S3, _, xs[i], F3, r3, fun σ4 l4 n4 F4 => ?_⟩
    have hσ4 : ∀ j, j ∉ own.map (·.2) → σ4[j]? = σ[j]? := fun j hj => (n4 j (hjs' j hj)).trans (wipe_get hj)
    have hev : ∀ g j, j ∉ own.map (·.2) → (up.f xs[i] (wipeE (env g) (own.map (·.2))))[j]? = (env g)[j]? := fun g j hj => (up.ok _ _ j (hjs' j hj)).trans (wipeE_get hj)
    have hlen4 : σ4.length = σ.length := l4.trans (wipe_length _ _)
    refine ⟨wipe_same hlen4 hσ4, (Cs.at S2 H2 σ (env g2), xs[i]), ?_⟩
    have keepD : ∀ {S' H' g}, Fr (Cs.at S2 H2 σ (env g2)) S' H' σ4 (up.f xs[i] (wipeE (env g) (own.map (·.2)))) → H' D = some (.lst acc) ∧ S' D = none ∧ Ex S2 S' ∧ Fr C S' H' σ (env g) := fun {S' H' g} G =>
      ⟨G.e2 D _ hD2 (dO g2), G.nw D sD2 (by show H2 D ≠ none; rw [hD2]; exact fun z => nomatch z), G.e0, F2.unwipe (hE g2 g) (hw g2) G hσ4 (hev g)⟩
    refine ⟨S3, g2, _, F4, hz', fun b g5 hb S5 H5 F5 x5 => ?_⟩
    cases b with
    | false =>
      obtain ⟨k1, k2, k3, k4⟩ := keepD F5
      exact ⟨S5, g5, acc, ys, k4, x2.trans k3, k1, k2, hb, ha.mono fun _ _ z => rb.mono k3 z, by omega⟩
    | true =>
      refine ⟨(Cs.at S2 H2 σ (env g2), xs[i]), S5, g5, _, F5, hb, fun y g6 hyw v S6 H6 F6 x6 hv => ?_⟩
      obtain ⟨k1, k2, k3, k4⟩ := keepD F6
      have l1 := All2.length ha
      have e1 : (fun ws => P (ys ++ (y :: ws))) = (fun zs => P ((ys ++ [y]) ++ zs)) := by
        funext zs
        rw [List.append_assoc]
        rfl
      have hyw : lcW cf ef (xs.drop (i + 1)) g6 (fun ws => P (ys ++ (y :: ws))) := hyw
      rw [e1] at hyw
      exact ⟨acc, k1, by rw [l1]; exact Nat.lt_of_le_of_lt hy (Nat.lt_of_lt_of_le hlt W1.len), S6, g6, acc ++ [v], ys ++ [y], k4.other k1 k2 d0 (dO g6), x2.trans k3, upd_same, k2, hyw, (ha.mono fun _ _ z => rb.mono k3 z).snoc hv, by simp; omega⟩
  · have e : i = xs.length := by omega
    subst e
    rw [List.drop_length] at hz
    have hz : P (ys ++ []) g2 := hz
    rw [List.append_nil] at hz
    refine .inl ⟨W1.stop _ (Nat.le_refl _) F2 x2, ?_⟩
    have := q ys g2 hz D acc S2 (del H2 D) (F2.del sD2 d0 (dO g2)) (x1.trans x2) (by unfold del; simp) ha
    rw [upd_del hD2] at this
    exact this
theorem xn_lc {scope : Scope} {own : List (Str × Nat)} {ifs : List Expr} {elt : Expr} {mx : W (List α)} {up : Up α} {cf : α → W Bool} {ef : α → W β} (hc : X.calm = true) (hN : X.N.Nodup) (hi : PI X tg iter (tS C env re mx)) (ok : BlkOk X.N X.env.scope scope own)
    (hjs : (up.js.all fun j => (own.map (·.2)).contains j) = true) (hw : ∀ g, wipeOk (env g) (own.map (·.2)) = true)
    (hg : ∀ (s : Shared) (H : Hp) (C0 : Addr) (cl : List (Str × Addr)) (fp : List Addr), PG (X.blk s H scope (compEnvC scope cl C0 X.env) fp) tg (tG re up))
    (ht : ∀ (s : Shared) (H : Hp) (C0 : Addr) (cl : List (Str × Addr)) (fp : List Addr) (C' : Cs) (a : α), PTs (X.blk s H scope (compEnvC scope cl C0 X.env) fp) ifs (tT C' (fun g => up.f a (wipeE (env g) (own.map (·.2)))) (cf a)))
    (he : ∀ (s : Shared) (H : Hp) (C0 : Addr) (cl : List (Str × Addr)) (fp : List Addr) (C' : Cs) (a : α), PE (X.blk s H scope (compEnvC scope cl C0 X.env) fp) elt (tE C' (fun g => up.f a (wipeE (env g) (own.map (·.2)))) rb (ef a)))
    (hs : ∀ x, foldedSetIterable iter X.env x = pure x := by intro _; rfl) (hE : ∀ g g', Gs (env g) (env g') := by intro _ _; repeat (first | exact Gs.nil | apply Gs.keep | apply Gs.gh)) :
    PE X (.ListComp elt [⟨tg, iter, ifs, 0⟩] scope pos) (tN C env rb (mx.bind fun xs => lcW cf ef xs)) := by
  refine pe_imp (pe_lc (tt := fun σ H Q => ∃ p : Cs × α, tT p.1 (fun g => up.f p.2 (wipeE (env g) (own.map (·.2)))) (cf p.2) σ H Q) (te := fun σ H Q => ∃ p : Cs × α, tE p.1 (fun g => up.f p.2 (wipeE (env g) (own.map (·.2)))) rb (ef p.2) σ H Q) hc hN hi ok hg
    (fun s H C0 cl fp => ⟨fun pins s' σ H' Q I ⟨p, q⟩ => (ht s H C0 cl fp p.1 p.2).run pins s' σ H' Q I q⟩) (fun s H C0 cl fp => pe_ex fun p => he s H C0 cl fp p.1 p.2) hs) fun σ H Q _ h => lc_use hjs hw hE (by
      obtain ⟨S, g0, P, F, em, q⟩ := h
      exact ⟨S, g0, P, F, em, fun xs g1 px p vs S' H' F' eS hp ha _ => q xs g1 px p vs S' H' F' eS hp ha⟩)
/-- as long as there is room -/
def roomW {β : Type} (n : Nat) (w : W β) : W β := fun g P => n < 1000000 ∧ w g P
def roomO {β : Type} (n : Nat) (o : Option β) : Option β := if n < 1000000 then o else none
theorem ofO_room {β : Type} (n : Nat) (o : Option β) : ofO (roomO n o) = roomW n (ofO o) := by
  funext g P
  apply propext
  unfold roomO roomW
  split
  · rename_i h
    exact Iff.intro (fun z => ⟨h, z⟩) fun z => z.2
  · rename_i h
    exact Iff.intro (fun ⟨_, e, _⟩ => nomatch e) fun z => absurd z.1 h
/-- acc and [f y for y in ys if c y] -/
def lcWa {α β : Type} (c : α → W Bool) (f : α → W β) : List α → List β → W (List β)
  | [], acc => .ret acc
  | y :: ys, acc => (c y).bind fun b => if b = true then (f y).bind fun v => roomW acc.length (lcWa c f ys (acc ++ [v])) else lcWa c f ys acc
def lcOa {α β : Type} (c : α → Option Bool) (f : α → Option β) : List α → List β → Option (List β)
  | [], acc => some acc
  | y :: ys, acc => (c y).bind fun b => if b = true then (f y).bind fun v => roomO acc.length (lcOa c f ys (acc ++ [v])) else lcOa c f ys acc
theorem ofO_lca {α β : Type} (c : α → Option Bool) (f : α → Option β) : ∀ (ys : List α) (acc : List β), ofO (lcOa c f ys acc) = lcWa (fun x => ofO (c x)) (fun x => ofO (f x)) ys acc
  | [], acc => ofO_some acc
  | y :: ys, acc => by
    unfold lcOa lcWa
    rw [ofO_bind]
    congr 1
    funext b
    rw [ofO_if]
    congr 1
    · rw [ofO_bind]
      congr 1
      funext v
      rw [ofO_room, ofO_lca c f ys]
    · exact ofO_lca c f ys acc
/-- [f x y for x in xs if c x for y in ..]: h x adds to what there is -/
def lcW2 {α β : Type} (c : α → W Bool) (h : α → List β → W (List β)) : List α → List β → W (List β)
  | [], acc => .ret acc
  | x :: xs, acc => (c x).bind fun b => if b = true then (h x acc).bind fun acc' => lcW2 c h xs acc' else lcW2 c h xs acc
def lcO2 {α β : Type} (c : α → Option Bool) (h : α → List β → Option (List β)) : List α → List β → Option (List β)
  | [], acc => some acc
  | x :: xs, acc => (c x).bind fun b => if b = true then (h x acc).bind fun acc' => lcO2 c h xs acc' else lcO2 c h xs acc
theorem ofO_lc2 {α β : Type} (c : α → Option Bool) (h : α → List β → Option (List β)) : ∀ (xs : List α) (acc : List β), ofO (lcO2 c h xs acc) = lcW2 (fun x => ofO (c x)) (fun x acc => ofO (h x acc)) xs acc
  | [], acc => ofO_some acc
  | x :: xs, acc => by
    unfold lcO2 lcW2
    rw [ofO_bind]
    congr 1
    funext b
    rw [ofO_if]
    congr 1
    · rw [ofO_bind]
      congr 1
      funext acc'
      exact ofO_lc2 c h xs acc'
    · exact ofO_lc2 c h xs acc
theorem Fr.unwipeD {C : Cs} {S H S' H' : Hp} {σ σ2 : St} {env env' env2 : List Sl} {vs : List Nat} {D : Addr} (F : Fr C S H σ env) (d0 : C.H0 D = none) (hG : Gs env env') (hv : wipeOk env vs = true) (G : Fr ⟨owns σ env, S, Rt.del H D⟩ S' H' σ2 env2) (hσ : ∀ i, i ∉ vs → σ2[i]? = σ[i]?) (he : ∀ i, i ∉ vs → env2[i]? = env'[i]?) : Fr C S' H' σ env' := by
  have eo := (hG.owns σ).symm
  have nD : ∀ {b}, C.H0 b ≠ none → Rt.del H D b = H b := fun {b} e => by
    have : b ≠ D := fun z => e (by rw [z]; exact d0)
    unfold Rt.del
    rw [if_neg this]
  refine ⟨F.e0.trans G.e0, G.e1, fun b o e n => ?_, fun b s0 h0 => G.nw b (F.nw b s0 h0) (by show Rt.del H D b ≠ none; rw [nD h0]; exact F.al b h0), fun b h0 => G.al b (by show Rt.del H D b ≠ none; rw [nD h0]; exact F.al b h0), SlAll.of_get (σ := σ) (env := env') (F.sl.len.trans hG.length) fun i v s h1 h2 => ?_, fun p hp => F.ow p (by rw [← eo]; exact hp), by rw [eo]; exact F.nd, G.tc⟩
  · refine G.e2 b o (by show Rt.del H D b = some o; rw [nD (by rw [e]; exact fun z => nomatch z)]; exact F.e2 b o e n) fun hb => ?_
    rcases F.ow b hb with z | z
    · rw [z] at e
      cases e
    · exact n z
  · by_cases hi : i ∈ vs
    · have q := List.all_eq_true.mp hv i hi
      rcases hG.get i with e | ⟨d0, o0, o1, e1, e2⟩
      · have h2' : env[i]? = some s := e.trans h2
        obtain ⟨v', e', r⟩ := F.sl.get i h2'
        rw [h1] at e'
        cases e'
        rw [h2'] at q
        cases s with
        | un => exact True.intro
        | im r' a =>
          obtain ⟨x, e, z⟩ := r
          exact ⟨x, e, r'.mono G.e0 z⟩
        | ow _ _ => cases q
        | iv _ _ => cases q
        | ob _ _ => cases q
      · rw [e1] at q
        cases q
    · obtain ⟨v', e', r⟩ := G.sl.get i ((he i hi).trans h2)
      rw [hσ i hi, h1] at e'
      cases e'
      exact r
theorem Fr.hereD {C : Cs} {S H : Hp} {σ : St} {env : List Sl} (F : Fr C S H σ env) (D : Addr) : Fr ⟨owns σ env, S, Rt.del H D⟩ S H σ env := by
  have nD : ∀ {b}, Rt.del H D b ≠ none → Rt.del H D b = H b := fun {b} e => by
    unfold Rt.del at e ⊢
    split
    · rename_i z
      rw [if_pos z] at e
      exact absurd rfl e
    · rfl
  exact ⟨Ex.refl S, F.e1, fun b o e _ => by rw [← nD (by show Rt.del H D b ≠ none; rw [show Rt.del H D b = some o from e]; exact fun z => nomatch z)]; exact e, fun _ e _ => e, fun b h => by rw [← nD h]; exact h, F.sl, fun p hp => .inr hp, F.nd, F.tc⟩
theorem xn_lc2 {scope : Scope} {own : List (Str × Nat)} {vs1 : List Nat} {ifs ifs1 : List Expr} {elt tg1 iter1 : Expr} {mx : W (List α)} {up : Up α} {up1 : Up γ} {cf : α → W Bool} {mi : α → W (List γ)} {cf1 : α → γ → W Bool} {ef : α → γ → W β} (hc : X.calm = true) (hN : X.N.Nodup) (hi : PI X tg iter (tS C env re mx)) (ok : BlkOk X.N X.env.scope scope own) (hv1 : ∀ i ∈ vs1, i ∈ own.map (·.2))
    (hjs : (up.js.all fun j => (own.map (·.2)).contains j) = true) (hjs1 : (up1.js.all fun j => vs1.contains j) = true) (hw : ∀ g, wipeOk (env g) (own.map (·.2)) = true) (hw1 : ∀ g a, wipeOk (up.f a (wipeE (env g) (own.map (·.2)))) vs1 = true) (hw2 : ∀ g a, wipeOk (up.f a (wipeE (env g) (own.map (·.2)))) (own.map (·.2)) = true)
    (hg : ∀ (s : Shared) (H : Hp) (C0 : Addr) (cl : List (Str × Addr)) (fp : List Addr), PG (X.blk s H scope (compEnvC scope cl C0 X.env) fp) tg (tG re up))
    (ht : ∀ (s : Shared) (H : Hp) (C0 : Addr) (cl : List (Str × Addr)) (fp : List Addr) (C' : Cs) (a : α), PTs (X.blk s H scope (compEnvC scope cl C0 X.env) fp) ifs (tT C' (fun g => up.f a (wipeE (env g) (own.map (·.2)))) (cf a)))
    (hi1 : ∀ (s : Shared) (H : Hp) (C0 : Addr) (cl : List (Str × Addr)) (fp : List Addr) (C' : Cs) (a : α), PI (X.blk s H scope (compEnvC scope cl C0 X.env) fp) tg1 iter1 (tS C' (fun g => up.f a (wipeE (env g) (own.map (·.2)))) rc (mi a)))
    (hg1 : ∀ (s : Shared) (H : Hp) (C0 : Addr) (cl : List (Str × Addr)) (fp : List Addr), PG (X.blk s H scope (compEnvC scope cl C0 X.env) fp) tg1 (tG rc up1))
    (ht1 : ∀ (s : Shared) (H : Hp) (C0 : Addr) (cl : List (Str × Addr)) (fp : List Addr) (C' : Cs) (a : α) (b : γ), PTs (X.blk s H scope (compEnvC scope cl C0 X.env) fp) ifs1 (tT C' (fun g => up1.f b (wipeE (up.f a (wipeE (env g) (own.map (·.2)))) vs1)) (cf1 a b)))
    (he : ∀ (s : Shared) (H : Hp) (C0 : Addr) (cl : List (Str × Addr)) (fp : List Addr) (C' : Cs) (a : α) (b : γ), PE (X.blk s H scope (compEnvC scope cl C0 X.env) fp) elt (tE C' (fun g => up1.f b (wipeE (up.f a (wipeE (env g) (own.map (·.2)))) vs1)) rb (ef a b)))
    (hs : ∀ x, foldedSetIterable iter X.env x = pure x := by intro _; rfl) (hs1 : ∀ env x, foldedSetIterable iter1 env x = pure x := by intro _ _; rfl)
    (hE : ∀ g g', Gs (env g) (env g') := by intro _ _; repeat (first | exact Gs.nil | apply Gs.keep | apply Gs.gh)) (hE1 : ∀ g g' a, Gs (up.f a (wipeE (env g) (own.map (·.2)))) (up.f a (wipeE (env g') (own.map (·.2)))) := by intro _ _ _; repeat (first | exact Gs.nil | apply Gs.keep | apply Gs.gh)) :
    PE X (.ListComp elt [⟨tg, iter, ifs, 0⟩, ⟨tg1, iter1, ifs1, 0⟩] scope pos) (tN C env rb (mx.bind fun xs => lcW2 cf (fun a acc => (mi a).bind fun ys => lcWa (cf1 a) (ef a) ys acc) xs [])) := by
  have hjs' : ∀ j, j ∉ own.map (·.2) → j ∉ up.js := fun j hj z => hj (by
    have := List.all_eq_true.mp hjs j z
    simpa using this)
  have hjs1' : ∀ j, j ∉ vs1 → j ∉ up1.js := fun j hj z => hj (by
    have := List.all_eq_true.mp hjs1 j z
    simpa using this)
  refine pe_imp (pe_lc2 (tt := fun σ H Q => ∃ p : Cs × α, tT p.1 (fun g => up.f p.2 (wipeE (env g) (own.map (·.2)))) (cf p.2) σ H Q)
    (wi1 := fun σ H Q => ∃ p : Cs × α, tS p.1 (fun g => up.f p.2 (wipeE (env g) (own.map (·.2)))) rc (mi p.2) σ H Q)
    (tt1 := fun σ H Q => ∃ p : Cs × α × γ, tT p.1 (fun g => up1.f p.2.2 (wipeE (up.f p.2.1 (wipeE (env g) (own.map (·.2)))) vs1)) (cf1 p.2.1 p.2.2) σ H Q)
    (te := fun σ H Q => ∃ p : Cs × α × γ, tE p.1 (fun g => up1.f p.2.2 (wipeE (up.f p.2.1 (wipeE (env g) (own.map (·.2)))) vs1)) rb (ef p.2.1 p.2.2) σ H Q) hc hN hi ok hv1 hg
    (fun s H C0 cl fp => ⟨fun pins s' σ H' Q I ⟨p, q⟩ => (ht s H C0 cl fp p.1 p.2).run pins s' σ H' Q I q⟩)
    (fun s H C0 cl fp => ⟨fun pins s' σ H' Q I ⟨p, q⟩ => (hi1 s H C0 cl fp p.1 p.2).run pins s' σ H' Q I q⟩) hg1
    (fun s H C0 cl fp => ⟨fun pins s' σ H' Q I ⟨p, q⟩ => (ht1 s H C0 cl fp p.1 p.2.1 p.2.2).run pins s' σ H' Q I q⟩) (fun s H C0 cl fp => pe_ex fun p => he s H C0 cl fp p.1 p.2.1 p.2.2) hs hs1) fun σ H Q _ ⟨S, g0, P, F, em, q⟩ => ?_
  refine ⟨S, g0, _, F, em, fun xs g1 em J S1 H1 F1 x1 W1 D hD => ?_⟩
  have d0 : C.H0 D = none := F1.H0none hD
  have dO1 : D ∉ owns σ (env g1) := fun z => by
    obtain ⟨_, o, e⟩ := F1.sl.own z
    rw [hD] at e
    cases e
  have dO : ∀ g, D ∉ owns σ (env g) := fun g z => dO1 ((hE g g1).owns σ ▸ z)
  have dS : S1 D = none := F1.e1.back hD
  refine ⟨fun i m H => m = xs.length - i ∧ i ≤ xs.length ∧ ∃ S g acc ys, Fr C S H σ (env g) ∧ Ex S1 S ∧ H D = some (.lst acc) ∧ S D = none ∧ lcW2 cf (fun a acc => (mi a).bind fun ys => lcWa (cf1 a) (ef a) ys acc) (xs.drop i) ys g P ∧ All2 (rb.p S) acc ys,
    ⟨xs.length, rfl, Nat.zero_le _, S1, g1, [], [], F1.add hD, Ex.refl S1, upd_same, dS, em, True.intro⟩, ?_⟩
  rintro i m H2 ⟨rfl, hi2, S2, g2, acc, ys, F2, x2, hD2, sD2, hz, ha⟩
  by_cases hlt : i < xs.length
  · have hxi : xs[i]? = some xs[i] := List.getElem?_eq_getElem hlt
    have hz' := hz
    rw [drop_cons hxi] at hz'
    unfold lcW2 at hz'
    refine .inr ⟨W1.go i hlt F2 x2, fun H' => ∃ S g acc ys, Fr C S H' σ (env g) ∧ Ex S1 S ∧ H' D = some (.lst acc) ∧ S D = none ∧ lcW2 cf (fun a acc => (mi a).bind fun ys => lcWa (cf1 a) (ef a) ys acc) (xs.drop (i + 1)) ys g P ∧ All2 (rb.p S) acc ys,
      fun H' h' => ⟨xs.length - (i + 1), by omega, rfl, hlt, h'⟩, fun x H3 hy3 => ?_⟩
    let C' : Cs := ⟨owns σ (env g2), S2, Rt.del H2 D⟩
    have c0 : C'.H0 D = none := by
      show Rt.del H2 D D = none
      unfold Rt.del
      simp
    have F2' : Fr C' S2 H2 σ (env g2) := F2.hereD D
    have Fb := F2'.wipe (own.map (·.2))
    obtain ⟨S3, F3, x3, xH3, n3, r3⟩ := W1.yld i x H3 xs[i] Fb x2 hy3 hxi
    have hD3 : H3 D = some (.lst acc) := xH3 _ _ hD2
    have sD3 : S3 D = none := n3 D sD2 (by rw [hD2]; exact fun z => nomatch z)
    refine ⟨C', S3, _, xs[i], F3, r3, fun σ4 l4 n4 F4 => ?_⟩
    have hσ4 : ∀ j, j ∉ own.map (·.2) → σ4[j]? = σ[j]? := fun j hj => (n4 j (hjs' j hj)).trans (wipe_get hj)
    have hev : ∀ g j, j ∉ own.map (·.2) → (up.f xs[i] (wipeE (env g) (own.map (·.2))))[j]? = (env g)[j]? := fun g j hj => (up.ok _ _ j (hjs' j hj)).trans (wipeE_get hj)
    have hlen4 : σ4.length = σ.length := l4.trans (wipe_length _ _)
    refine ⟨wipe_same hlen4 hσ4, (Cs.at S3 H3 σ4 (up.f xs[i] (wipeE (env g2) (own.map (·.2)))), xs[i]), ?_⟩
    -- back at the outer one
    have back : ∀ {S' H' g}, Fr C' S' H' σ4 (up.f xs[i] (wipeE (env g) (own.map (·.2)))) → Fr C S' H' σ (env g) := fun {S' H' g} G => F2.unwipeD d0 (hE g2 g) (hw g2) G hσ4 (hev g)
    -- D is none of the own ones
    have dO4 : ∀ {S' H' g}, Fr C' S' H' σ4 (up.f xs[i] (wipeE (env g) (own.map (·.2)))) → D ∉ owns σ4 (up.f xs[i] (wipeE (env g) (own.map (·.2)))) := fun {S' H' g} G z => by
      have G2 := back G
      obtain ⟨j, s, e1, e2, e3⟩ := owns_of z
      by_cases hj : j ∈ own.map (·.2)
      · have q := List.all_eq_true.mp (hw2 g xs[i]) j hj
        rw [e1] at q
        cases s with
        | un => cases e3
        | im _ _ => cases e3
        | ow _ _ => cases q
        | iv _ _ => cases q
        | ob _ _ => cases q
      · have : D ∈ owns σ (env g) := owns_mem_get j ((hev g j hj).symm.trans e1) ((hσ4 j hj).symm.trans e2) e3
        exact dO g this
    have keep : ∀ {S' H' S'' H'' g g'}, Fr C' S' H' σ4 (up.f xs[i] (wipeE (env g) (own.map (·.2)))) → H' D = some (.lst acc) → S' D = none → Fr (Cs.at S' H' σ4 (up.f xs[i] (wipeE (env g) (own.map (·.2))))) S'' H'' σ4 (up.f xs[i] (wipeE (env g') (own.map (·.2)))) →
        Fr C' S'' H'' σ4 (up.f xs[i] (wipeE (env g') (own.map (·.2)))) ∧ H'' D = some (.lst acc) ∧ S'' D = none ∧ Ex S' S'' := fun {S' H' S'' H'' g g'} G h1 h2 G' =>
      ⟨G.backG ((hE1 g' g xs[i]).owns σ4) G', G'.e2 D _ h1 (dO4 G), G'.nw D h2 (by show H' D ≠ none; rw [h1]; exact fun z => nomatch z), G'.e0⟩
    refine ⟨S3, g2, _, F4.here, hz', fun b g5 hb S5 H5 F5 x5 => ?_⟩
    obtain ⟨G5, hD5, sD5, _⟩ := keep F4 hD3 sD3 F5
    cases b with
    | false => exact ⟨S5, g5, acc, ys, back G5, x2.trans (x3.trans x5), hD5, sD5, hb, ha.mono fun _ _ z => rb.mono (x3.trans x5) z⟩
    | true =>
      refine ⟨(Cs.at S5 H5 σ4 _, xs[i]), S5, g5, _, G5.here, hb, fun zs1 g6 hz6 J1 S6 H6 F6 x6 W2 => ?_⟩
      obtain ⟨G6, hD6, sD6, _⟩ := keep G5 hD5 sD5 F6
      refine ⟨fun j k H => k = zs1.length - j ∧ j ≤ zs1.length ∧ ∃ S g acc ys, Fr C' S H σ4 (up.f xs[i] (wipeE (env g) (own.map (·.2)))) ∧ Ex S6 S ∧ H D = some (.lst acc) ∧ S D = none ∧
          lcWa (cf1 xs[i]) (ef xs[i]) (zs1.drop j) ys g (fun acc' g' => lcW2 cf (fun a acc => (mi a).bind fun ys => lcWa (cf1 a) (ef a) ys acc) (xs.drop (i + 1)) acc' g' P) ∧ All2 (rb.p S) acc ys,
        ⟨zs1.length, rfl, Nat.zero_le _, S6, g6, acc, ys, G6, Ex.refl S6, hD6, sD6, hz6, ha.mono fun _ _ z => rb.mono (x3.trans (x5.trans x6)) z⟩, ?_⟩
      rintro j k H7 ⟨rfl, hj2, S7, g7, acc7, ys7, G7, x7, hD7, sD7, hz7, ha7⟩
      by_cases hlt1 : j < zs1.length
      · have hxj : zs1[j]? = some zs1[j] := List.getElem?_eq_getElem hlt1
        have hz8 := hz7
        rw [drop_cons hxj] at hz8
        unfold lcWa at hz8
        refine .inr ⟨W2.go j hlt1 G7 x7, fun H => ∃ S g acc ys, Fr C' S H σ4 (up.f xs[i] (wipeE (env g) (own.map (·.2)))) ∧ Ex S6 S ∧ H D = some (.lst acc) ∧ S D = none ∧
          lcWa (cf1 xs[i]) (ef xs[i]) (zs1.drop (j + 1)) ys g (fun acc' g' => lcW2 cf (fun a acc => (mi a).bind fun ys => lcWa (cf1 a) (ef a) ys acc) (xs.drop (i + 1)) acc' g' P) ∧ All2 (rb.p S) acc ys,
          fun H' h' => ⟨zs1.length - (j + 1), by omega, rfl, hlt1, h'⟩, fun y H8 hy8 => ?_⟩
        have Gb := G7.here.wipe vs1
        obtain ⟨S8, F8, x8, xH8, n8, r8⟩ := W2.yld j y H8 zs1[j] Gb x7 hy8 hxj
        refine ⟨Cs.at S7 H7 σ4 (up.f xs[i] (wipeE (env g7) (own.map (·.2)))), S8, _, zs1[j], F8, r8, fun σ5 l5 n5 F9 => ?_⟩
        have hσ5 : ∀ j, j ∉ vs1 → σ5[j]? = σ4[j]? := fun j hj => (n5 j (hjs1' j hj)).trans (wipe_get hj)
        have hev1 : ∀ g j', j' ∉ vs1 → (up1.f zs1[j] (wipeE (up.f xs[i] (wipeE (env g) (own.map (·.2)))) vs1))[j']? = (up.f xs[i] (wipeE (env g) (own.map (·.2))))[j']? := fun g j' hj => (up1.ok _ _ j' (hjs1' j' hj)).trans (wipeE_get hj)
        have hlen5 : σ5.length = σ4.length := l5.trans (wipe_length _ _)
        refine ⟨wipe_same hlen5 hσ5, (Cs.at S7 H7 σ4 (up.f xs[i] (wipeE (env g7) (own.map (·.2)))), xs[i], zs1[j]), ?_⟩
        have keep1 : ∀ {S' H' g}, Fr (Cs.at S7 H7 σ4 (up.f xs[i] (wipeE (env g7) (own.map (·.2))))) S' H' σ5 (up1.f zs1[j] (wipeE (up.f xs[i] (wipeE (env g) (own.map (·.2)))) vs1)) →
            H' D = some (.lst acc7) ∧ S' D = none ∧ Ex S7 S' ∧ Fr C' S' H' σ4 (up.f xs[i] (wipeE (env g) (own.map (·.2)))) := fun {S' H' g} G =>
          ⟨G.e2 D _ hD7 (dO4 G7), G.nw D sD7 (by show H7 D ≠ none; rw [hD7]; exact fun z => nomatch z), G.e0, G7.unwipe (hE1 g7 g xs[i]) (hw1 g7 xs[i]) G hσ5 (hev1 g)⟩
        refine ⟨S8, g7, _, F9, hz8, fun b g10 hb10 S10 H10 F10 x10 => ?_⟩
        cases b with
        | false =>
          obtain ⟨k1, k2, k3, k4⟩ := keep1 F10
          exact ⟨S10, g10, acc7, ys7, k4, x7.trans k3, k1, k2, hb10, ha7.mono fun _ _ z => rb.mono k3 z⟩
        | true =>
          refine ⟨(Cs.at S7 H7 σ4 (up.f xs[i] (wipeE (env g7) (own.map (·.2)))), xs[i], zs1[j]), S10, g10, _, F10, hb10, fun v g11 ⟨hroom, hv11⟩ u S11 H11 F11 x11 hu => ?_⟩
          obtain ⟨k1, k2, k3, k4⟩ := keep1 F11
          have l1 := All2.length ha7
          exact ⟨acc7, k1, by rw [l1, sizeLine_eq]; omega, S11, g11, acc7 ++ [u], ys7 ++ [v], k4.other k1 k2 c0 (dO4 k4), x7.trans k3, upd_same, k2, hv11, (ha7.mono fun _ _ z => rb.mono k3 z).snoc hu⟩
      · have e : j = zs1.length := by omega
        subst e
        rw [List.drop_length] at hz7
        exact .inl ⟨W2.stop _ (Nat.le_refl _) G7 x7, S7, g7, acc7, ys7, back G7, x2.trans (x3.trans (x5.trans (x6.trans x7))), hD7, sD7, hz7, ha7⟩
  · have e : i = xs.length := by omega
    subst e
    rw [List.drop_length] at hz
    have hz : P ys g2 := hz
    refine .inl ⟨W1.stop _ (Nat.le_refl _) F2 x2, ?_⟩
    have := q ys g2 hz D acc S2 (del H2 D) (F2.del sD2 d0 (dO g2)) (x1.trans x2) (by unfold del; simp) ha
    rw [upd_del hD2] at this
    exact fun _ => this
theorem xts_nil {env' : Gh → List Sl} {C' : Cs} : PTs X [] (tT C' env' (.ret true)) := ⟨fun pins s σ H Q I ⟨S, g0, P, F, em, q⟩ => pts_nil.run pins s σ H Q I (q _ _ em S H F (Ex.refl S))⟩
theorem xts_one {env' : Gh → List Sl} {C' : Cs} {m : W Bool} (h : PT X a (tT C' env' m)) : PTs X [a] (tT C' env' m) := pts_one h
end

/-! ### the text's own defs -/
def Post {ρ : Type} (S H : Hp) (r : Rp ρ) (o : ρ) (Q : VK) : Prop := ∀ v S' H', Ex S S' → Ex S' H' → Ex H H' → (∀ b, S b = none → H b ≠ none → S' b = none) → Tc S' H' → r.p S' v o → Q v H'
/-- f(..) gives what f gives, and changes nothing -/
def SpF {α ρ : Type} (ra : Ra α) (r : Rp ρ) (f : α → Option ρ) : Sp := fun vs H Q _ => ∃ S a o, Ex S H ∧ Tc S H ∧ ra.p S vs a ∧ f a = some o ∧ Post S H r o Q
section
variable {X : Cx} {C : Cs} {env : Gh → List Sl} {e : Expr} {es : List Expr} {pos p : Pos} {α ρ : Type} {ra : Ra α} {r : Rp ρ} {f : α → Option ρ} {m : W α}
theorem xe_call {π : Around → Prop} {k : Nat} {fa : Addr} {fd : FuncData} {ps : List Str} {x : Str} (F : FnP π X.prog X.w X.K X.mg X.base CX0 k fa fd ps (SpF ra r f)) (hpi : π X.A) (hr : Room k X.A) (hg : Gl X x) (hm : X.mg x = some (.ref fa)) (hk : PySem.W.keepIn X.K (.ref fa) = true) (hb : Binds X.K fd ps [])
    (ha : PA X (e :: es) (tA C env ra m)) (hdb : (x == ("__debug__" : Str)) = false := by decide) (he : starEach (e :: es) X.env = (false, eval e X.env) :: starEach es X.env := by rfl) (hpl : (backTo pos (starEach es X.env)).any (·.1) = false := by rfl) :
    PE X (.Call (.Name x p) (e :: es) [] pos) (tE C env r (m.bind fun a => ofO (f a))) :=
  pe_imp (pe_callP F hpi hr hg hm hk hb .nil pass0 ha hdb he hpl) fun σ H Q _ ⟨S, g0, P, Fr1, em, q⟩ => ⟨S, g0, _, Fr1, em, fun a g1 ⟨o, eo, po⟩ vs S1 H1 F1 x1 hv => by
    show SpF ra r f (vs ++ []) H1 _ E0
    rw [List.append_nil]
    exact ⟨S1, a, o, F1.e1, F1.tc, hv, eo, fun v S' H' eS eH eHH n t hr' _ => q o g1 po v S' H' (F1.call eS eH eHH n t) (x1.trans eS) hr'⟩⟩
end
end Rt

set_option maxRecDepth 100000
set_option maxHeartbeats 4000000
/-! Rt6: statements over data, defs. -/
namespace Rt
open PySem L2

/-- how a block ends: it goes on with data, gives a value back, breaks, goes on with the next turn -/
inductive Fl (ρ β γ : Type) where
  | nx (b : β) | rt (a : ρ) | br (c : γ) | ct (c : γ)
def Fl.up {ρ β γ : Type} : Fl ρ Empty γ → Fl ρ β γ
  | .nx b => nomatch b
  | .rt a => .rt a
  | .br c => .br c
  | .ct c => .ct c
def W.no {α : Type} : W α := fun _ _ => False
theorem ofO_no {α : Type} : ofO (none : Option α) = W.no := by
  funext g P
  exact propext (Iff.intro (fun ⟨_, e, _⟩ => nomatch e) fun h => h.elim)
def upF {ρ β γ : Type} (o : W (Fl ρ Empty γ)) : W (Fl ρ β γ) := o.bind fun x => .ret x.up
def bindK {ρ β β' γ : Type} (k : β → W (Fl ρ β' γ)) : Fl ρ β γ → W (Fl ρ β' γ)
  | .nx b => k b
  | .rt a => .ret (.rt a)
  | .br c => .ret (.br c)
  | .ct c => .ret (.ct c)
def bindF {ρ β β' γ : Type} (o : W (Fl ρ β γ)) (k : β → W (Fl ρ β' γ)) : W (Fl ρ β' γ) := o.bind (bindK k)
/-- how a turn ends -/
def turnK {ρ γ γ' : Type} (k : γ → W (Fl ρ γ γ')) : Fl ρ γ γ → W (Fl ρ γ γ')
  | .nx s => k s
  | .ct s => k s
  | .br s => .ret (.nx s)
  | .rt a => .ret (.rt a)
/-- a loop over a list, from s on -/
def forL {ρ α γ γ' : Type} (f : γ → α → W (Fl ρ γ γ)) : List α → γ → W (Fl ρ γ γ')
  | [], s => .ret (.nx s)
  | x :: xs, s => (f s x).bind (turnK (forL f xs))
def whileL {ρ γ γ' : Type} (c : γ → W Bool) (f : γ → W (Fl ρ γ γ)) : Nat → γ → W (Fl ρ γ γ')
  | 0, _ => .no
  | n + 1, s => (c s).bind fun b => if b = true then (f s).bind (turnK (whileL c f n)) else .ret (.nx s)
/-- what a def gives -/
def rtK {ρ β γ : Type} : Fl ρ β γ → W ρ
  | .rt a => .ret a
  | _ => .no
def rtOf {ρ β γ : Type} (o : W (Fl ρ β γ)) : W ρ := o.bind rtK
/-- .. a def that gives None -/
def rtKN {β γ : Type} : Fl Unit β γ → W Unit
  | .rt a => .ret a
  | .nx _ => .ret ()
  | _ => .no
def rtN {β γ : Type} (o : W (Fl Unit β γ)) : W Unit := o.bind rtKN

/-! the same, reckoned -/
def upO {ρ β γ : Type} (o : Option (Fl ρ Empty γ)) : Option (Fl ρ β γ) := o.bind fun x => some x.up
def bindKO {ρ β β' γ : Type} (k : β → Option (Fl ρ β' γ)) : Fl ρ β γ → Option (Fl ρ β' γ)
  | .nx b => k b
  | .rt a => some (.rt a)
  | .br c => some (.br c)
  | .ct c => some (.ct c)
def bindFO {ρ β β' γ : Type} (o : Option (Fl ρ β γ)) (k : β → Option (Fl ρ β' γ)) : Option (Fl ρ β' γ) := o.bind (bindKO k)
def turnKO {ρ γ γ' : Type} (k : γ → Option (Fl ρ γ γ')) : Fl ρ γ γ → Option (Fl ρ γ γ')
  | .nx s => k s
  | .ct s => k s
  | .br s => some (.nx s)
  | .rt a => some (.rt a)
def forO {ρ α γ γ' : Type} (f : γ → α → Option (Fl ρ γ γ)) : List α → γ → Option (Fl ρ γ γ')
  | [], s => some (.nx s)
  | x :: xs, s => (f s x).bind (turnKO (forO f xs))
def whileO {ρ γ γ' : Type} (c : γ → Option Bool) (f : γ → Option (Fl ρ γ γ)) : Nat → γ → Option (Fl ρ γ γ')
  | 0, _ => none
  | n + 1, s => (c s).bind fun b => if b = true then (f s).bind (turnKO (whileO c f n)) else some (.nx s)
def rtKO {ρ β γ : Type} : Fl ρ β γ → Option ρ
  | .rt a => some a
  | _ => none
def rtO {ρ β γ : Type} (o : Option (Fl ρ β γ)) : Option ρ := o.bind rtKO
def rtKNO {β γ : Type} : Fl Unit β γ → Option Unit
  | .rt a => some a
  | .nx _ => some ()
  | _ => none
def rtNO {β γ : Type} (o : Option (Fl Unit β γ)) : Option Unit := o.bind rtKNO
theorem ofO_up {ρ β γ : Type} (o : Option (Fl ρ Empty γ)) : ofO (upO (β := β) o) = upF (ofO o) := by
  unfold upO upF
  rw [ofO_bind]
  congr 1
  funext x
  exact ofO_some _
theorem ofO_bindK {ρ β β' γ : Type} (k : β → Option (Fl ρ β' γ)) (x : Fl ρ β γ) : ofO (bindKO k x) = bindK (fun b => ofO (k b)) x := by
  cases x with
  | nx b => rfl
  | rt a => exact ofO_some _
  | br c => exact ofO_some _
  | ct c => exact ofO_some _
theorem ofO_bindF {ρ β β' γ : Type} (o : Option (Fl ρ β γ)) (k : β → Option (Fl ρ β' γ)) : ofO (bindFO o k) = bindF (ofO o) fun b => ofO (k b) := by
  unfold bindFO bindF
  rw [ofO_bind]
  congr 1
  funext x
  exact ofO_bindK k x
theorem ofO_turnK {ρ γ γ' : Type} (k : γ → Option (Fl ρ γ γ')) (x : Fl ρ γ γ) : ofO (turnKO k x) = turnK (fun b => ofO (k b)) x := by
  cases x with
  | nx b => rfl
  | ct b => rfl
  | rt a => exact ofO_some _
  | br c => exact ofO_some _
theorem ofO_for {ρ α γ γ' : Type} (f : γ → α → Option (Fl ρ γ γ)) : ∀ (xs : List α) (s : γ), ofO (forO (γ' := γ') f xs s) = forL (fun s x => ofO (f s x)) xs s
  | [], s => ofO_some _
  | x :: xs, s => by
    unfold forO forL
    rw [ofO_bind]
    congr 1
    funext o
    rw [ofO_turnK]
    congr 1
    funext s'
    exact ofO_for f xs s'
theorem ofO_while {ρ γ γ' : Type} (c : γ → Option Bool) (f : γ → Option (Fl ρ γ γ)) : ∀ (n : Nat) (s : γ), ofO (whileO (γ' := γ') c f n s) = whileL (fun s => ofO (c s)) (fun s => ofO (f s)) n s
  | 0, s => ofO_no
  | n + 1, s => by
    unfold whileO whileL
    rw [ofO_bind]
    congr 1
    funext b
    rw [ofO_if, ofO_bind, ofO_some]
    congr 1
    congr 1
    funext o
    rw [ofO_turnK]
    congr 1
    funext s'
    exact ofO_while c f n s'
theorem ofO_rt {ρ β γ : Type} (o : Option (Fl ρ β γ)) : ofO (rtO o) = rtOf (ofO o) := by
  unfold rtO rtOf
  rw [ofO_bind]
  congr 1
  funext x
  cases x with
  | rt a => exact ofO_some _
  | nx b => exact ofO_no
  | br c => exact ofO_no
  | ct c => exact ofO_no
theorem ofO_rtN {β γ : Type} (o : Option (Fl Unit β γ)) : ofO (rtNO o) = rtN (ofO o) := by
  unfold rtNO rtN
  rw [ofO_bind]
  congr 1
  funext x
  cases x with
  | rt a => exact ofO_some _
  | nx b => exact ofO_some _
  | br c => exact ofO_no
  | ct c => exact ofO_no

/-- the shared object: a list of ints -/
def oD (g : Gh) : HO := .lst (g.map V.int)
/-- the ends, by the data; kp: what is known still where a value is given back -/
def EndF (C : Cs) (S : Hp) {ρ β γ : Type} (kp : Gh → List Sl) (pn : β → Gh → List Sl) (pl : γ → Gh → List Sl) (r : Rp ρ) (D : Ends) (g : Gh) : Fl ρ β γ → Prop
  | .nx b => ∀ S' H' σ', Fr C S' H' σ' (pn b g) → Ex S S' → D.nx σ' H'
  | .rt a => ∀ v S' H' σ', Fr C S' H' σ' (kp g) → Ex S S' → r.p S' v a → D.rt v H'
  | .br c => ∀ S' H' σ', Fr C S' H' σ' (pl c g) → Ex S S' → D.bk σ' H'
  | .ct c => ∀ S' H' σ', Fr C S' H' σ' (pl c g) → Ex S S' → D.ct σ' H'
def tF (C : Cs) (env : Gh → List Sl) {ρ β γ : Type} (m : W (Fl ρ β γ)) (pn : β → Gh → List Sl) (pl : γ → Gh → List Sl) (kp : Gh → List Sl) (r : Rp ρ) : TS := fun D σ H => ∃ S g P, Fr C S H σ (env g) ∧ m g P ∧ ∀ o g', P o g' → EndF C S kp pn pl r D g' o
theorem EndF.mono {C : Cs} {S S2 : Hp} {ρ β γ : Type} {kp : Gh → List Sl} {pn : β → Gh → List Sl} {pl : γ → Gh → List Sl} {r : Rp ρ} {D : Ends} {g : Gh} {o : Fl ρ β γ} (e : Ex S S2) (h : EndF C S kp pn pl r D g o) : EndF C S2 kp pn pl r D g o := by
  cases o with
  | nx b => exact fun S' H' σ' F x => h S' H' σ' F (e.trans x)
  | rt a => exact fun v S' H' σ' F x q => h v S' H' σ' F (e.trans x) q
  | br c => exact fun S' H' σ' F x => h S' H' σ' F (e.trans x)
  | ct c => exact fun S' H' σ' F x => h S' H' σ' F (e.trans x)
/-- less is known -/
inductive Le : List Sl → List Sl → Prop
  | nil : Le [] []
  | keep {s : Sl} {a b : List Sl} : Le a b → Le (s :: a) (s :: b)
  | drop {s : Sl} {a b : List Sl} : Le a b → Le (s :: a) (.un :: b)
theorem Le.refl : ∀ a : List Sl, Le a a
  | [] => .nil
  | _ :: a => .keep (Le.refl a)
theorem Le.sl {S H : Hp} : ∀ {σ : St} {a b : List Sl}, Le a b → SlAll S H σ a → SlAll S H σ b
  | [], _, _, .nil, _ => True.intro
  | _ :: _, _, _, .keep l, ⟨x, y⟩ => ⟨x, Le.sl l y⟩
  | _ :: _, _, _, .drop l, ⟨_, y⟩ => ⟨True.intro, Le.sl l y⟩
  | _ :: _, _, _, .nil, h => h.elim
  | [], _, _, .keep _, h => h.elim
  | [], _, _, .drop _, h => h.elim
theorem Le.owns : ∀ {σ : St} {a b : List Sl}, Le a b → (owns σ b).Sublist (owns σ a)
  | [], _, _, _ => by simp [Rt.owns]
  | _ :: _, _, _, .nil => by simp [Rt.owns]
  | v :: _, _, _, .keep l => by
    unfold Rt.owns
    exact (List.Sublist.refl _).append (Le.owns l)
  | v :: _, s :: _, _, .drop l => by
    unfold Rt.owns
    have : ownOf v Sl.un = [] := by cases v with | none => rfl | some v => cases v <;> rfl
    rw [this, List.nil_append]
    exact (Le.owns l).trans (List.sublist_append_right _ _)
theorem Fr.le {C : Cs} {S H : Hp} {σ : St} {a b : List Sl} (F : Fr C S H σ a) (l : Le a b) : Fr C S H σ b :=
  ⟨F.e0, F.e1, F.e2, F.nw, F.al, l.sl F.sl, fun p hp => F.ow p (l.owns.subset hp), F.nd.sublist l.owns, F.tc⟩
theorem SlAll.take {S H : Hp} : ∀ (n : Nat) {σ : St} {a : List Sl}, SlAll S H σ a → SlAll S H (σ.take n) (a.take n)
  | 0, _, _, _ => by simp [SlAll]
  | n + 1, [], [], _ => True.intro
  | n + 1, _ :: _, _ :: _, h => ⟨h.1, SlAll.take n h.2⟩
  | _ + 1, [], _ :: _, h => h.elim
  | _ + 1, _ :: _, [], h => h.elim
theorem owns_take : ∀ (n : Nat) {σ : St} {a : List Sl}, (Rt.owns (σ.take n) (a.take n)).Sublist (Rt.owns σ a)
  | 0, _, _ => by simp [Rt.owns]
  | n + 1, [], _ => by simp [Rt.owns]
  | n + 1, _ :: _, [] => by simp [Rt.owns]
  | n + 1, v :: σ, s :: a => by
    show (ownOf v s ++ Rt.owns (σ.take n) (a.take n)).Sublist (ownOf v s ++ Rt.owns σ a)
    exact (List.Sublist.refl _).append (owns_take n)
theorem Fr.take {C : Cs} {S H : Hp} {σ : St} {a : List Sl} (n : Nat) (F : Fr C S H σ a) : Fr C S H (σ.take n) (a.take n) :=
  ⟨F.e0, F.e1, F.e2, F.nw, F.al, F.sl.take n, fun p hp => F.ow p ((owns_take n).subset hp), F.nd.sublist (owns_take n), F.tc⟩
/-- what is kept: the first slots -/
def Kp (env kp : Gh → List Sl) : Prop := ∃ n, ∀ g, kp g = (env g).take n
theorem Fr.kp {C : Cs} {S H : Hp} {σ : St} {env kp : Gh → List Sl} {g : Gh} (k : Kp env kp) (F : Fr C S H σ (env g)) : ∃ σ', Fr C S H σ' (kp g) := by
  obtain ⟨n, e⟩ := k
  exact ⟨σ.take n, by rw [e g]; exact F.take n⟩

section
variable {X : Cx} {C : Cs} {env kp : Gh → List Sl} {e a b c tg iter : Expr} {es : List Expr} {A B rest : List Stmt} {st : Stmt} {pos : Pos} {α β γ δ ρ τ : Type} {r : Rp ρ} {ra re : Rp α} {rb : Rp β} {ma : W α} {mb : W β} {k : Bool} {pn : β → Gh → List Sl} {pl : γ → Gh → List Sl} {pt : τ → Gh → List Sl}
/-! ### blocks -/
theorem xs_nil {v : β} (l : ∀ g, Le (env g) (pn v g)) : PSs X [] (tF C env (.ret (.nx v)) pn pl kp r) := pss_imp pss_nil fun D σ H _ ⟨S, g0, P, F, em, q⟩ => q _ _ em S H σ (F.le (l _)) (Ex.refl S)
theorem xs_ret {m : W ρ} (h : PE X e (tE C env r m)) (hk : Kp env kp := by first | exact ⟨0, fun _ => rfl⟩ | exact ⟨1, fun _ => rfl⟩) : PSs X (.Return (some e) pos :: rest) (tF C env (m.bind fun x => .ret (.rt x)) pn pl kp r) := pss_imp (pss_cons (ps_ret h) pss_never) fun D σ H _ ⟨S, g0, P, F, em, q⟩ =>
  ⟨S, g0, _, F, em, fun x g1 px v S1 H1 F1 x1 hv => let ⟨σ', F'⟩ := F1.kp hk; q _ _ px v S1 H1 σ' F' x1 hv⟩
theorem xs_brk {v : γ} (l : ∀ g, Le (env g) (pl v g)) : PSs X (.Break pos :: rest) (tF C env (.ret (.br v)) pn pl kp r) := pss_imp (pss_cons ps_break pss_never) fun D σ H _ ⟨S, g0, P, F, em, q⟩ => q _ _ em S H σ (F.le (l _)) (Ex.refl S)
theorem xs_cont {v : γ} (l : ∀ g, Le (env g) (pl v g)) : PSs X (.Continue pos :: rest) (tF C env (.ret (.ct v)) pn pl kp r) := pss_imp (pss_cons ps_continue pss_never) fun D σ H _ ⟨S, g0, P, F, em, q⟩ => q _ _ em S H σ (F.le (l _)) (Ex.refl S)
/-- what isn't come to -/
theorem xs_never : PSs X A (tF C env (.no : W (Fl ρ β γ)) pn pl kp r) := pss_imp pss_never fun D σ H _ ⟨S, g0, P, F, em, q⟩ => em.elim
/-- name = e -/
theorem xs_set {i : Nat} {x : Str} {py : Pos} {m : W α} {K : α → W (Fl ρ β γ)} (h : PE X e (tE C env re m)) (hr : ∀ a, PSs X rest (tF C (fun g => (env g).set i (.im re a)) (K a) pn pl kp r)) (hN : X.N.Nodup) (hi : X.N[i]? = some x) (hx : Loc X.env.scope x) (hs : swapsWith e (some (.Name x py)) pos.line X.env = pure false)
    (hf : X.fn x = true) : PSs X (.Assign [.Name x py] e pos :: rest) (tF C env (m.bind K) pn pl kp r) :=
  pss_imp (pss_cons (ps_set hN hi hx h hs (.inl hf)) (pss_ex hr)) fun D σ H _ ⟨S, g0, P, F, em, q⟩ =>
    ⟨S, g0, _, F, em, fun a g1 pa v S1 H1 F1 x1 hv => ⟨a, S1, _, P, F1.setIm i hv, pa, fun o g9 po => (q o g9 po).mono x1⟩⟩
/-- name = a new list, the def's own -/
theorem xs_setN {i : Nat} {x : Str} {py : Pos} {m : W (List α)} {K : List α → W (Fl ρ β γ)} (h : PE X e (tN C env re m)) (hr : ∀ a, PSs X rest (tF C (fun g => (env g).set i (.ow re a)) (K a) pn pl kp r)) (hN : X.N.Nodup) (hi : X.N[i]? = some x) (hx : Loc X.env.scope x) (hs : swapsWith e (some (.Name x py)) pos.line X.env = pure false)
    (hf : X.fn x = true) : PSs X (.Assign [.Name x py] e pos :: rest) (tF C env (m.bind K) pn pl kp r) :=
  pss_imp (pss_cons (ps_set hN hi hx h hs (.inl hf)) (pss_ex hr)) fun D σ H _ ⟨S, g0, P, F, em, q⟩ =>
    ⟨S, g0, _, F, em, fun xs g1 px p vs S1 H1 F1 x1 hp hv => ⟨xs, S1, _, P, F1.setOw i hp hv, px, fun o g9 po => (q o g9 po).mono x1⟩⟩
/-- any target -/
theorem xs_asg {m : W α} {up : Up α} {K : α → W (Fl ρ β γ)} (h : PE X e (tE C env re m)) (hg : PG X tg (tG re up)) (hr : ∀ a, PSs X rest (tF C (fun g => up.f a (env g)) (K a) pn pl kp r)) (hs : swapsWithSole [tg] e pos.line X.env = pure false := by rfl) (hw : swappedStores [tg] e X.env = pure none := by rfl)
    (h1 : (assignEach [tg] X.env).map (·.2) = [assign tg X.env] := by rfl) : PSs X (.Assign [tg] e pos :: rest) (tF C env (m.bind K) pn pl kp r) :=
  pss_imp (pss_cons (ps_asg h hg hs hw h1) (pss_ex hr)) fun D σ H _ ⟨S, g0, P, F, em, q⟩ =>
    ⟨S, g0, _, F, em, fun a g1 pa v S1 H1 F1 x1 hv => ⟨C, S1, _, a, F1, hv, fun σ' _ _ F2 => ⟨a, S1, _, P, F2, pa, fun o g9 po => (q o g9 po).mono x1⟩⟩⟩
/-- x, y = a, b of two locals -/
theorem xs_par {i j : Nat} {x y : Str} {px py pt0 : Pos} {kt k2 : Nat} {pt2 : Pos} {α1 α2 : Type} {r1 : Rp α1} {r2 : Rp α2} {m1 : W α1} {m2 : W α2} {K : α1 → α2 → W (Fl ρ β γ)} (ha : PE X a (tE C env r1 m1)) (hb : PE X b (tE C env r2 m2)) (hr : ∀ a b, PSs X rest (tF C (fun g => ((env g).set i (.im r1 a)).set j (.im r2 b)) (K a b) pn pl kp r))
    (hc : X.calm = true) (hN : X.N.Nodup) (hi : X.N[i]? = some x) (hj : X.N[j]? = some y) (hij : i ≠ j) (hx : X.env.scope.names.lookup x = some .local) (hy : X.env.scope.names.lookup y = some .local)
    (hw : swappedStores [.Tuple [.Name x px, .Name y py] kt pt0] (.Tuple [a, b] k2 pt2) X.env = pure (some [x, y])) (hs : swapsWithSole [.Tuple [.Name x px, .Name y py] kt pt0] (.Tuple [a, b] k2 pt2) pos.line X.env = pure false := by rfl)
    (h1 : starEach [a, b] X.env = (false, eval a X.env) :: starEach [b] X.env := by rfl) (h2 : starEach [b] X.env = (false, eval b X.env) :: starEach [] X.env := by rfl) :
    PSs X (.Assign [.Tuple [.Name x px, .Name y py] kt pt0] (.Tuple [a, b] k2 pt2) pos :: rest) (tF C env (m1.bind fun a => m2.bind fun b => K a b) pn pl kp r) :=
  pss_imp (pss_cons (ps_par hc hN hi hj hij hx hy (pa_cons ha (pa_cons hb pa_nil h2) h1) hw hs) (pss_ex fun p : α1 × α2 => hr p.1 p.2)) fun D σ H _ ⟨S, g0, P, F, em, q⟩ =>
    ⟨S, g0, _, F, em, fun u g1 pu v S1 H1 F1 x1 hv => ⟨S1, g1, _, F1, pu, fun w g2 pw v2 S2 H2 F2 x2 hv2 => ⟨v, v2, rfl, (u, w), S2, _, P, (F2.setIm i (r1.mono x2 hv)).setIm j hv2, pw, fun o g9 po => (q o g9 po).mono (x1.trans x2)⟩⟩⟩
/-- .. the second one a new list -/
theorem xs_parN {i j : Nat} {x y : Str} {px py pt0 : Pos} {kt k2 : Nat} {pt2 : Pos} {α1 α2 : Type} {r1 : Rp α1} {r2 : Rp α2} {m1 : W α1} {m2 : W (List α2)} {K : α1 → List α2 → W (Fl ρ β γ)} (ha : PE X a (tE C env r1 m1)) (hb : PE X b (tN C env r2 m2)) (hr : ∀ a b, PSs X rest (tF C (fun g => ((env g).set i (.im r1 a)).set j (.ow r2 b)) (K a b) pn pl kp r))
    (hc : X.calm = true) (hN : X.N.Nodup) (hi : X.N[i]? = some x) (hj : X.N[j]? = some y) (hij : i ≠ j) (hx : X.env.scope.names.lookup x = some .local) (hy : X.env.scope.names.lookup y = some .local)
    (hw : swappedStores [.Tuple [.Name x px, .Name y py] kt pt0] (.Tuple [a, b] k2 pt2) X.env = pure (some [x, y])) (hs : swapsWithSole [.Tuple [.Name x px, .Name y py] kt pt0] (.Tuple [a, b] k2 pt2) pos.line X.env = pure false := by rfl)
    (h1 : starEach [a, b] X.env = (false, eval a X.env) :: starEach [b] X.env := by rfl) (h2 : starEach [b] X.env = (false, eval b X.env) :: starEach [] X.env := by rfl) :
    PSs X (.Assign [.Tuple [.Name x px, .Name y py] kt pt0] (.Tuple [a, b] k2 pt2) pos :: rest) (tF C env (m1.bind fun a => m2.bind fun b => K a b) pn pl kp r) :=
  pss_imp (pss_cons (ps_par hc hN hi hj hij hx hy (pa_cons ha (pa_cons hb pa_nil h2) h1) hw hs) (pss_ex fun p : α1 × List α2 => hr p.1 p.2)) fun D σ H _ ⟨S, g0, P, F, em, q⟩ =>
    ⟨S, g0, _, F, em, fun u g1 pu v S1 H1 F1 x1 hv => ⟨S1, g1, _, F1, pu, fun w g2 pw p vs S2 H2 F2 x2 hp hv2 => ⟨v, .ref p, rfl, (u, w), S2, _, P, (F2.setIm i (r1.mono x2 hv)).setOw j hp hv2, pw, fun o g9 po => (q o g9 po).mono (x1.trans x2)⟩⟩⟩
/-- an expression whose value is dropped -/
theorem xs_exp {m : W α} {K : α → W (Fl ρ β γ)} (h : PE X e (tE C env re m)) (hr : ∀ a, PSs X rest (tF C env (K a) pn pl kp r)) (hs : swapsWith e none pos.line X.env = pure false := by rfl) : PSs X (.Expr e pos :: rest) (tF C env (m.bind K) pn pl kp r) :=
  pss_imp (pss_cons (ps_expr h hs) (pss_ex hr)) fun D σ H _ ⟨S, g0, P, F, em, q⟩ =>
    ⟨S, g0, _, F, em, fun a g1 pa v S1 H1 F1 x1 hv => ⟨a, S1, _, P, F1, pa, fun o g9 po => (q o g9 po).mono x1⟩⟩
theorem xs_pass {mc : W (Fl ρ β γ)} (hr : PSs X rest (tF C env mc pn pl kp r)) : PSs X (.Pass pos :: rest) (tF C env mc pn pl kp r) := pss_imp (pss_cons ps_pass hr) fun D σ H _ h => h
theorem xs_doc {x : Str} {j : Nat} {pos' : Pos} {mc : W (Fl ρ β γ)} (hr : PSs X rest (tF C env mc pn pl kp r)) : PSs X (.Expr (.Constant (.str x) j pos) pos' :: rest) (tF C env mc pn pl kp r) := pss_imp (pss_cons ps_doc hr) fun D σ H _ h => h
/-! ### if -/
/-- if c: a block that doesn't go on; and the rest -/
theorem xs_ifx {m : W Bool} {MA : W (Fl ρ Empty γ)} {MR : W (Fl ρ β γ)} (hc : PT X c (tT C env m)) (hA : PSs X A (tF C env MA (fun z _ => nomatch z) pl kp r)) (hR : PSs X rest (tF C env MR pn pl kp r)) :
    PSs X (.If c A [] pos :: rest) (tF C env (m.bind fun b => if b = true then upF MA else MR) pn pl kp r) :=
  pss_imp (pss_cons (ps_if hc hA pss_nil) hR) fun D σ H _ ⟨S, g0, P, F, em, q⟩ => ⟨S, g0, _, F, em, fun x g1 px S1 H1 F1 x1 => by
    cases x with
    | true =>
      refine ⟨S1, g1, _, F1, px, fun w g9 pw => ?_⟩
      have q := (q _ _ pw).mono x1
      cases w with
      | nx z => exact nomatch z
      | rt a => exact q
      | br c => exact q
      | ct c => exact q
    | false => exact ⟨S1, g1, P, F1, px, fun o g9 po => (q o g9 po).mono x1⟩⟩
/-- if with both ways, the last statement -/
theorem xs_ifT {m : W Bool} {MA MB : W (Fl ρ β γ)} (hc : PT X c (tT C env m)) (hA : PSs X A (tF C env MA pn pl kp r)) (hB : PSs X B (tF C env MB pn pl kp r)) :
    PSs X [.If c A B pos] (tF C env (m.bind fun b => if b = true then MA else MB) pn pl kp r) :=
  pss_imp (pss_one (ps_if hc hA hB)) fun D σ H _ ⟨S, g0, P, F, em, q⟩ => ⟨S, g0, _, F, em, fun x g1 px S1 H1 F1 x1 => by
    cases x with
    | true => exact ⟨S1, g1, P, F1, px, fun o g9 po => (q o g9 po).mono x1⟩
    | false => exact ⟨S1, g1, P, F1, px, fun o g9 po => (q o g9 po).mono x1⟩⟩
/-- if, and the rest behind where they meet -/
theorem xs_if {m : W Bool} {MA MB : W (Fl ρ τ γ)} {MR : τ → W (Fl ρ β γ)} (hc : PT X c (tT C env m)) (hA : PSs X A (tF C env MA pt pl kp r)) (hB : PSs X B (tF C env MB pt pl kp r)) (hR : ∀ t, PSs X rest (tF C (pt t) (MR t) pn pl kp r)) :
    PSs X (.If c A B pos :: rest) (tF C env (m.bind fun b => bindF (if b = true then MA else MB) MR) pn pl kp r) :=
  pss_imp (pss_cons (ps_if hc hA hB) (pss_ex hR)) fun D σ H _ ⟨S, g0, P, F, em, q⟩ => ⟨S, g0, _, F, em, fun x g1 px S1 H1 F1 x1 => by
    have go : ∀ M : W (Fl ρ τ γ), bindF M MR g1 P → tF C env M pt pl kp r { D with nx := fun σ H => ∃ t, tF C (pt t) (MR t) pn pl kp r D σ H } σ H1 := fun M hM => ⟨S1, g1, _, F1, hM, fun w g9 pw => by
      cases w with
      | nx t => exact fun S2 H2 σ2 F2 x2 => ⟨t, S2, _, P, F2, pw, fun o g9 po => (q o g9 po).mono (x1.trans x2)⟩
      | rt a => exact fun v S2 H2 σ2 F2 x2 hv => q _ _ pw v S2 H2 σ2 F2 (x1.trans x2) hv
      | br c => exact fun S2 H2 σ2 F2 x2 => q _ _ pw S2 H2 σ2 F2 (x1.trans x2)
      | ct c => exact fun S2 H2 σ2 F2 x2 => q _ _ pw S2 H2 σ2 F2 (x1.trans x2)⟩
    cases x with
    | true => exact go MA px
    | false => exact go MB px⟩
/-! ### loops -/
theorem xs_for {up : Up α} {mx : W (List α)} {s0 : τ} {f : τ → α → W (Fl ρ τ τ)} {MR : τ → W (Fl ρ β γ)} (hp : PassesOwn (model X.prog X.w) X.A X.env X.xe) (hc : X.calm = true) (hi : PI X tg iter (tS C env re mx)) (hg : PG X tg (tG re up)) (l0 : ∀ g, Le (env g) (pt s0 g))
    (hb : ∀ s a, PSs X A (tF C (fun g => up.f a (pt s g)) (f s a) pt pt kp r)) (hR : ∀ s, PSs X rest (tF C (pt s) (MR s) pn pl kp r)) (hs : ∀ x, foldedSetIterable iter X.env x = pure x := by intro _; rfl) :
    PSs X (.For tg iter A [] pos :: rest) (tF C env (mx.bind fun xs => bindF (forL f xs s0) MR) pn pl kp r) :=
  pss_imp (pss_cons (ps_for hp hc hi hg (pss_ex fun p : τ × α => hb p.1 p.2) hs) (pss_ex hR)) fun D σ H _ ⟨S, g0, P, F, em, q⟩ => ⟨S, g0, _, F, em, fun xs g1 em J S1 H1 F1 x1 W1 => by
    refine ⟨fun i m σ H => m = xs.length - i ∧ i ≤ xs.length ∧ ∃ S g s, Fr C S H σ (pt s g) ∧ Ex S1 S ∧ bindF (forL f (xs.drop i) s) MR g P, ⟨xs.length, rfl, Nat.zero_le _, S1, g1, s0, F1.le (l0 _), Ex.refl S1, em⟩, ?_⟩
    rintro i m σ2 H2 ⟨rfl, hi2, S2, g2, s, F2, x2, h2⟩
    by_cases hlt : i < xs.length
    · have hxi : xs[i]? = some xs[i] := List.getElem?_eq_getElem hlt
      rw [drop_cons hxi] at h2
      unfold forL at h2
      refine .inr ⟨W1.go i hlt F2 x2, fun σ' H' => ∃ S g s, Fr C S H' σ' (pt s g) ∧ Ex S1 S ∧ bindF (forL f (xs.drop (i + 1)) s) MR g P, fun σ' H' h' => ⟨xs.length - (i + 1), by omega, rfl, hlt, h'⟩, fun x H3 hy3 => ?_⟩
      obtain ⟨S3, F3, x3, _, _, r3⟩ := W1.yld i x H3 xs[i] F2 x2 hy3 hxi
      refine ⟨C, S3, _, xs[i], F3, r3, fun σ4 _ _ F4 => ⟨(s, xs[i]), S3, g2, _, F4, h2, fun w g9 pw => ?_⟩⟩
      cases w with
      | nx t => exact fun S5 H5 σ5 F5 x5 => ⟨S5, g9, t, F5, x2.trans (x3.trans x5), pw⟩
      | ct t => exact fun S5 H5 σ5 F5 x5 => ⟨S5, g9, t, F5, x2.trans (x3.trans x5), pw⟩
      | br t => exact fun S5 H5 σ5 F5 x5 => ⟨t, S5, _, P, F5, pw, fun o g9 po => (q o g9 po).mono (x1.trans (x2.trans (x3.trans x5)))⟩
      | rt a => exact fun v S5 H5 σ5 F5 x5 hv => q _ _ pw v S5 H5 σ5 F5 (x1.trans (x2.trans (x3.trans x5))) hv
    · have e : i = xs.length := by omega
      subst e
      rw [List.drop_length] at h2
      exact .inl ⟨W1.stop _ (Nat.le_refl _) F2 x2, s, S2, _, P, F2, h2, fun o g9 po => (q o g9 po).mono (x1.trans x2)⟩⟩
theorem xs_while {s0 : τ} {n : Nat} {cf : τ → W Bool} {f : τ → W (Fl ρ τ τ)} {MR : τ → W (Fl ρ β γ)} (hp : PassesOwn (model X.prog X.w) X.A X.env X.xe) (l0 : ∀ g, Le (env g) (pt s0 g)) (hc : ∀ s, PT X c (tT C (pt s) (cf s)))
    (hb : ∀ s, PSs X A (tF C (pt s) (f s) pt pt kp r)) (hR : ∀ s, PSs X rest (tF C (pt s) (MR s) pn pl kp r)) :
    PSs X (.While c A [] pos :: rest) (tF C env (bindF (whileL cf f n s0) MR) pn pl kp r) :=
  pss_imp (pss_cons (ps_while hp (pt_ex hc) (pss_ex hb)) (pss_ex hR)) fun D σ H _ ⟨S, g0, P, F, em, q⟩ => by
    refine ⟨fun m σ H => ∃ S2 g s, Fr C S2 H σ (pt s g) ∧ Ex S S2 ∧ bindF (whileL cf f m s) MR g P, ⟨n, S, g0, s0, F.le (l0 _), Ex.refl S, em⟩, ?_⟩
    rintro m σ2 H2 ⟨S2, g2, s, F2, x2, h2⟩
    cases m with
    | zero => exact h2.elim
    | succ m =>
      unfold whileL at h2
      refine ⟨s, S2, g2, _, F2, h2, fun b g3 pb S3 H3 F3 x3 => ?_⟩
      cases b with
      | false => exact ⟨s, S3, _, P, F3, pb, fun o g9 po => (q o g9 po).mono (x2.trans x3)⟩
      | true =>
        refine ⟨fun σ' H' => ∃ S2 g s, Fr C S2 H' σ' (pt s g) ∧ Ex S S2 ∧ bindF (whileL cf f m s) MR g P, fun σ' H' h' => ⟨m, Nat.lt_succ_self m, h'⟩, s, S3, g3, _, F3, pb, fun w g9 pw => ?_⟩
        cases w with
        | nx t => exact fun S5 H5 σ5 F5 x5 => ⟨S5, g9, t, F5, x2.trans (x3.trans x5), pw⟩
        | ct t => exact fun S5 H5 σ5 F5 x5 => ⟨S5, g9, t, F5, x2.trans (x3.trans x5), pw⟩
        | br t => exact fun S5 H5 σ5 F5 x5 => ⟨t, S5, _, P, F5, pw, fun o g9 po => (q o g9 po).mono (x2.trans (x3.trans x5))⟩
        | rt a => exact fun v S5 H5 σ5 F5 x5 hv => q _ _ pw v S5 H5 σ5 F5 (x2.trans (x3.trans x5)) hv
/-! ### lists of the def's own -/
def addO {α : Type} (xs : List α) (v : α) : Option (List α) := if xs.length ≤ 1000000 then some (xs ++ [v]) else none
theorem xs_app {i : Nat} {x : Str} {px pa pe : Pos} {xs : List α} {m : W α} {K : List α → W (Fl ρ β γ)} (hv : PE X (.Name x px) (tVar i)) (h : PE X e (tE C env re m)) (hr : ∀ ys, PSs X rest (tF C (fun g => (env g).set i (.ow re ys)) (K ys) pn pl kp r)) (hi : ∀ g, (env g)[i]? = some (.ow re xs) := by intro _; rfl)
    (hs : swapsWith (.Call (.Attribute (.Name x px) "append" pa) [e] [] pe) none pos.line X.env = pure false := by rfl) (h1 : starEach [e] X.env = (false, eval e X.env) :: starEach [] X.env := by rfl)
    (hb : PE X (.Call (.Attribute (.Name x px) "append" pa) [e] [] pe) (tBM X.K "list" rAppend (tVar i) (tCons (tE C env re m) tNil))) :
    PSs X (.Expr (.Call (.Attribute (.Name x px) "append" pa) [e] [] pe) pos :: rest) (tF C env (m.bind fun v => (ofO (addO xs v)).bind K) pn pl kp r) :=
  pss_imp (pss_cons (ps_expr hb hs) (pss_ex hr)) fun D σ H _ ⟨S, g0, P, F, em, q⟩ => by
    obtain ⟨w, ew, p, vs, e2, sp, hp, ha⟩ := F.sl.get i (hi _)
    subst e2
    refine ⟨.ref p, ew, .inl ⟨rfl, vs, SqL.of hp⟩, S, g0, _, F, em, fun v g1 ⟨zs, ez, pv⟩ u S1 H1 F1 x1 hu => ?_⟩
    unfold addO at ez
    split at ez
    case isFalse => cases ez
    rename_i hl
    cases ez
    obtain ⟨w1, ew1, p1, vs1, e21, sp1, hp1, ha1⟩ := F1.sl.get i (hi _)
    subst e21
    rw [ew] at ew1
    cases ew1
    refine ⟨p, vs1, u, rfl, rfl, hp1, by rw [All2.length ha1, sizeLine_eq]; omega, xs ++ [v], S1, _, P, ?_, pv, fun o g9 po => (q o g9 po).mono x1⟩
    exact F1.write (hi _) ew (ha1.snoc hu)
/-- a list of the def's own changes no more -/
theorem xs_frz (i : Nat) {xs : List α} {m : W (Fl ρ β γ)} (hA : C.A0 = []) (hr : PSs X A (tF C (fun g => (env g).set i (.im (qL re) xs)) m pn pl kp r)) (hi : ∀ g, (env g)[i]? = some (.ow re xs) := by intro _; rfl) : PSs X A (tF C env m pn pl kp r) :=
  pss_imp hr fun D σ H _ ⟨S, g0, P, F, em, q⟩ => by
    obtain ⟨S', x1, F1⟩ := F.freeze (hi _) fun p _ => by rw [hA]; simp
    exact ⟨S', g0, P, F1, em, fun o g9 po => (q o g9 po).mono x1⟩
end

/-! ### defs -/
section
variable {α ρ : Type} {ra : Ra α} {r : Rp ρ}
/-- a frame at the entry -/
theorem Fr.entry {S H : Hp} {σ : St} {env : List Sl} (e : Ex S H) (t : Tc S H) (h : SlAll S H σ env) (ho : owns σ env = []) : Fr ⟨[], S, H⟩ S H σ env :=
  ⟨Ex.refl S, e, fun _ _ h _ => h, fun _ h _ => h, fun _ h => h, h, fun p hp => (by rw [ho] at hp; cases hp), by rw [ho]; exact List.nodup_nil, t⟩
theorem Fr.post {S H S' H' : Hp} {σ : St} {env : List Sl} {Q : VK} {o : ρ} (h : Post S H r o Q) (F : Fr ⟨[], S, H⟩ S' H' σ env) {v : V} (hv : r.p S' v o) : Q v H' :=
  h v S' H' F.e0 F.e1 (fun b u e => F.e2 b u e (by simp)) F.nw F.tc hv
theorem body_of {X : Cx} {body : List Stmt} {N : List Str} {β γ : Type} {f : α → Option ρ} {env : α → List Sl} {m : α → W (Fl ρ β γ)} {pn : β → Gh → List Sl} {pl : γ → Gh → List Sl} {kp : Gh → List Sl} {vs : List V} {H : Hp} {Q : VK} {E : XK} (h : SpF ra r f vs H Q E) (hg : ∀ a, ofO (f a) = rtOf (m a))
    (hs : ∀ S H a, ra.p S vs a → SlAll S H (start N vs) (env a) ∧ owns (start N vs) (env a) = []) (hb : ∀ (C : Cs) (a : α), C.A0 = [] → PSs X body (tF C (fun _ => env a) (m a) pn pl kp r)) :
    ∃ t, PSs X body t ∧ t { nx := fun _ H' => Q .non H', rt := Q } (start N vs) H := by
  obtain ⟨S, a, o, e, t, hv, eo, k⟩ := h
  obtain ⟨s1, s2⟩ := hs S H a hv
  have hm : rtOf (m a) [] (fun x _ => x = o) := by
    rw [← hg a]
    exact ⟨o, eo, rfl⟩
  refine ⟨_, hb ⟨[], S, H⟩ a rfl, S, [], _, Fr.entry e t s1 s2, hm, fun w g' pw => ?_⟩
  cases w with
  | rt x =>
    have pw : x = o := pw
    subst pw
    exact fun v S' H' σ' F _ hv => F.post k hv
  | nx _ => exact pw.elim
  | br _ => exact pw.elim
  | ct _ => exact pw.elim
theorem body_ofN {X : Cx} {body : List Stmt} {N : List Str} {β γ : Type} {f : α → Option Unit} {env : α → List Sl} {m : α → W (Fl Unit β γ)} {pn : β → Gh → List Sl} {pl : γ → Gh → List Sl} {kp : Gh → List Sl} {vs : List V} {H : Hp} {Q : VK} {E : XK} (h : SpF ra qN f vs H Q E) (hg : ∀ a, ofO (f a) = rtN (m a))
    (hs : ∀ S H a, ra.p S vs a → SlAll S H (start N vs) (env a) ∧ owns (start N vs) (env a) = []) (hb : ∀ (C : Cs) (a : α), C.A0 = [] → PSs X body (tF C (fun _ => env a) (m a) pn pl kp qN)) :
    ∃ t, PSs X body t ∧ t { nx := fun _ H' => Q .non H', rt := Q } (start N vs) H := by
  obtain ⟨S, a, o, e, t, hv, eo, k⟩ := h
  obtain ⟨s1, s2⟩ := hs S H a hv
  have hm : rtN (m a) [] (fun x _ => x = o) := by
    rw [← hg a]
    exact ⟨o, eo, rfl⟩
  refine ⟨_, hb ⟨[], S, H⟩ a rfl, S, [], _, Fr.entry e t s1 s2, hm, fun w g' pw => ?_⟩
  cases w with
  | rt x => exact fun v S' H' σ' F _ hv => F.post k hv
  | nx _ => exact fun S' H' σ' F _ => F.post k (show qN.p S' .non () from rfl)
  | br _ => exact pw.elim
  | ct _ => exact pw.elim
/-- behind a call that changes the shared object -/
def PostD {ρ : Type} (d : Addr) (S H : Hp) (r : Rp ρ) (o : ρ) (g : Gh) (Q : VK) : Prop := ∀ v S' H', Ex S S' → Ex S' H' → (∀ b u, H b = some u → b ≠ d → H' b = some u) → H' d = some (oD g) → S' d = none → (∀ b, S b = none → H b ≠ none → S' b = none) → Tc S' H' → r.p S' v o → Q v H'
/-- f(object, ..) gives what f gives, and changes the object alone -/
def SpD {α ρ : Type} (ra : Ra α) (r : Rp ρ) (f : α → W ρ) : Sp := fun vs H Q _ => ∃ S a d ws g P, vs = .ref d :: ws ∧ Ex S H ∧ Tc S H ∧ S d = none ∧ H d = some (oD g) ∧ ra.p S ws a ∧ f a g P ∧ ∀ o g', P o g' → PostD d S H r o g' Q
theorem Fr.entryD {S H : Hp} {σ : St} {env : List Sl} {d : Addr} {g : Gh} (e : Ex S H) (t : Tc S H) (sd : S d = none) (hd : H d = some (oD g)) (h : SlAll S H σ env) (ho : owns σ env = []) : Fr ⟨[d], S, H⟩ S H (some (.ref d) :: σ) (.iv d (oD g) :: env) := by
  have eo : owns (some (.ref d) :: σ) (.iv d (oD g) :: env) = [d] := by
    show ownOf (some (.ref d)) (Sl.iv d (oD g)) ++ owns σ env = [d]
    rw [ho]
    rfl
  exact ⟨Ex.refl S, e, fun _ _ h _ => h, fun _ h _ => h, fun _ h => h, ⟨⟨d, _, rfl, sd, hd, rfl, rfl⟩, h⟩, fun p hp => .inr (by rw [eo] at hp; exact hp), by rw [eo]; simp, t⟩
theorem Fr.postD {S H S' H' : Hp} {σ : St} {Q : VK} {o : ρ} {d : Addr} {g : Gh} (h : PostD d S H r o g Q) (F : Fr ⟨[d], S, H⟩ S' H' σ [.iv d (oD g)]) {v : V} (hv : r.p S' v o) : Q v H' := by
  obtain ⟨x, e, p, u, e1, sp, hp, e2, e3⟩ := F.sl.get 0 (s := .iv d (oD g)) rfl
  subst e2 e3
  exact h v S' H' F.e0 F.e1 (fun b u e n => F.e2 b u e (by simpa using n)) hp sp F.nw F.tc hv
theorem body_ofD {X : Cx} {body : List Stmt} {N : List Str} {x0 : Str} {β γ : Type} {f : α → W ρ} {env : α → List Sl} {m : α → W (Fl ρ β γ)} {pn : β → Gh → List Sl} {pl : γ → Gh → List Sl} {vs : List V} {H : Hp} {Q : VK} {E : XK} (h : SpD ra r f vs H Q E) (hg : ∀ a, f a = rtOf (m a))
    (hs : ∀ S H ws a, ra.p S ws a → SlAll S H (start N ws) (env a) ∧ owns (start N ws) (env a) = []) (hb : ∀ (C : Cs) (d : Addr) (a : α), C.A0 = [d] → PSs X body (tF C (fun g => .iv d (oD g) :: env a) (m a) pn pl (fun g => [.iv d (oD g)]) r)) :
    ∃ t, PSs X body t ∧ t { nx := fun _ H' => Q .non H', rt := Q } (start (x0 :: N) vs) H := by
  obtain ⟨S, a, d, ws, g, P, ev, e, t, sd, hd, hv, eo, k⟩ := h
  subst ev
  obtain ⟨s1, s2⟩ := hs S H ws a hv
  rw [hg a] at eo
  have es : start (x0 :: N) (.ref d :: ws) = some (.ref d) :: start N ws := by
    unfold L2.start
    simp
  rw [es]
  refine ⟨_, hb ⟨[d], S, H⟩ d a rfl, S, g, _, Fr.entryD e t sd hd s1 s2, eo, fun w g' pw => ?_⟩
  cases w with
  | rt x => exact fun v S' H' σ' F _ hv => Fr.postD (k x g' pw) F hv
  | nx _ => exact pw.elim
  | br _ => exact pw.elim
  | ct _ => exact pw.elim
/-- parameters: what they stand for, their slots -/
structure Pr (α : Type) where
  ra : Ra α
  n : Nat
  sl : α → List Sl
  ok : ∀ {S H : Hp} {vs : List V} {a : α}, ra.p S vs a → SlAll S H (vs.map some) (sl a) ∧ owns (vs.map some) (sl a) = [] ∧ vs.length = n
def p0 : Pr Unit := ⟨q0, 0, fun _ => [], fun {S H vs a} h => by
  rw [show vs = [] from h]
  exact ⟨True.intro, rfl, rfl⟩⟩
def pC {β : Type} (r : Rp α) (p : Pr β) : Pr (α × β) := ⟨qC r p.ra, p.n + 1, fun a => .im r a.1 :: p.sl a.2, fun {S H vs a} ⟨v, ws, e, h1, h2⟩ => by
  obtain ⟨q1, q2, q3⟩ := p.ok (H := H) h2
  rw [e]
  refine ⟨⟨⟨v, rfl, h1⟩, q1⟩, ?_, by rw [List.length_cons, q3]⟩
  show ownOf (some v) (Sl.im r a.1) ++ owns (ws.map some) (p.sl a.2) = []
  rw [q2]
  cases v <;> rfl⟩
theorem SlAll.unN {S H : Hp} : ∀ n : Nat, SlAll S H (List.replicate n none) (List.replicate n .un) ∧ owns (List.replicate n none) (List.replicate n Sl.un) = []
  | 0 => ⟨True.intro, rfl⟩
  | n + 1 => by
    obtain ⟨a, b⟩ := SlAll.unN (S := S) (H := H) n
    refine ⟨⟨True.intro, a⟩, ?_⟩
    show ownOf none Sl.un ++ owns (List.replicate n none) (List.replicate n Sl.un) = []
    rw [b]
    rfl
theorem SlAll.cat {S H : Hp} : ∀ {σ τ : St} {a b : List Sl}, SlAll S H σ a → SlAll S H τ b → SlAll S H (σ ++ τ) (a ++ b)
  | [], _, [], _, _, h => h
  | _ :: _, _, _ :: _, _, h1, h2 => ⟨h1.1, SlAll.cat h1.2 h2⟩
  | [], _, _ :: _, _, h, _ => h.elim
  | _ :: _, _, [], _, h, _ => h.elim
theorem owns_cat {S H : Hp} : ∀ {σ τ : St} {a b : List Sl}, SlAll S H σ a → owns (σ ++ τ) (a ++ b) = owns σ a ++ owns τ b
  | [], _, [], _, _ => rfl
  | v :: σ, τ, s :: a, b, h => by
    show ownOf v s ++ owns (σ ++ τ) (a ++ b) = (ownOf v s ++ owns σ a) ++ owns τ b
    rw [owns_cat h.2, List.append_assoc]
  | [], _, _ :: _, _, h => h.elim
  | _ :: _, _, [], _, h => h.elim
theorem Pr.start {p : Pr α} {N : List Str} {j : Nat} (hN : N.length = p.n + j) {S H : Hp} {vs : List V} {a : α} (h : p.ra.p S vs a) : SlAll S H (L2.start N vs) (p.sl a ++ List.replicate j .un) ∧ owns (L2.start N vs) (p.sl a ++ List.replicate j .un) = [] := by
  obtain ⟨q1, q2, q3⟩ := p.ok (H := H) h
  obtain ⟨u1, u2⟩ := SlAll.unN (S := S) (H := H) j
  have e : N.length - vs.length = j := by omega
  unfold L2.start
  rw [e]
  refine ⟨q1.cat u1, ?_⟩
  rw [owns_cat q1, q2, u2]
  rfl
section
variable {P : Program} {w : World} {K : PySem.W.Frag} {mg : Str → Option Value} {base : Heap} {p : Pr α} {N ps : List Str} {k : Nat} {st : Stmt} {x qual : Str} {f : Addr} {fd : FuncData} {β γ : Type}
/-- a def, by what its body gives -/
theorem fn_okF {π : Around → Prop} {g : α → Option ρ} {env : α → List Sl} {m : α → W (Fl ρ β γ)} {pn : β → Gh → List Sl} {pl : γ → Gh → List Sl} (j : Nat) (sπ : Stb π) (F : Fun K x qual st f fd) (S : FnScope N ps (defScope st)) (hn : p.n = ps.length) (hN : N.length = ps.length + j) (he : ∀ a, env a = p.sl a ++ List.replicate j .un)
    (hb : ∀ (cdv : Value) (A : Around) (outer : List Env) (s : Shared) (H : Hp) (E : XK), π (A.deeper (PyProof.Rows.envOfC qual (defScope st) s.heap.objs.size f cdv)) → Room k (A.deeper (PyProof.Rows.envOfC qual (defScope st) s.heap.objs.size f cdv)) → ∀ (C : Cs) (a : α), C.A0 = [] → PSs (cxOf CX0 P w K mg base N qual (defScope st) f cdv A outer s H E).nox (defBody st) (tF C (fun _ => env a) (m a) pn pl (fun _ => []) r))
    (hg : ∀ a, ofO (g a) = rtOf (m a)) : FnP π P w K mg base CX0 (k + 1) f fd ps (SpF p.ra r g) := by
  refine funP_ok sπ F S (fun vs H Q E h => ?_) (fun cdv A outer s H vs Q E hp hr h => ?_)
  · obtain ⟨_, _, _, _, _, hv, _⟩ := h
    rw [(p.ok (H := H) hv).2.2, hn]
  · exact body_of (E := E) h hg (fun S H a hv => by rw [he a]; exact p.start (by rw [hN, hn]) hv) (hb cdv A outer s H E hp hr)
theorem fn_okN {π : Around → Prop} {g : α → Option Unit} {env : α → List Sl} {m : α → W (Fl Unit β γ)} {pn : β → Gh → List Sl} {pl : γ → Gh → List Sl} (j : Nat) (sπ : Stb π) (F : Fun K x qual st f fd) (S : FnScope N ps (defScope st)) (hn : p.n = ps.length) (hN : N.length = ps.length + j) (he : ∀ a, env a = p.sl a ++ List.replicate j .un)
    (hb : ∀ (cdv : Value) (A : Around) (outer : List Env) (s : Shared) (H : Hp) (E : XK), π (A.deeper (PyProof.Rows.envOfC qual (defScope st) s.heap.objs.size f cdv)) → Room k (A.deeper (PyProof.Rows.envOfC qual (defScope st) s.heap.objs.size f cdv)) → ∀ (C : Cs) (a : α), C.A0 = [] → PSs (cxOf CX0 P w K mg base N qual (defScope st) f cdv A outer s H E).nox (defBody st) (tF C (fun _ => env a) (m a) pn pl (fun _ => []) qN))
    (hg : ∀ a, ofO (g a) = rtN (m a)) : FnP π P w K mg base CX0 (k + 1) f fd ps (SpF p.ra qN g) := by
  refine funP_ok sπ F S (fun vs H Q E h => ?_) (fun cdv A outer s H vs Q E hp hr h => ?_)
  · obtain ⟨_, _, _, _, _, hv, _⟩ := h
    rw [(p.ok (H := H) hv).2.2, hn]
  · exact body_ofN (E := E) h hg (fun S H a hv => by rw [he a]; exact p.start (by rw [hN, hn]) hv) (hb cdv A outer s H E hp hr)
/-- .. whose first parameter is the shared object -/
theorem fn_okD {π : Around → Prop} {x0 : Str} {g : α → W ρ} {env : α → List Sl} {m : α → W (Fl ρ β γ)} {pn : β → Gh → List Sl} {pl : γ → Gh → List Sl} (j : Nat) (sπ : Stb π) (F : Fun K x qual st f fd) (S : FnScope (x0 :: N) (x0 :: ps) (defScope st)) (hn : p.n = ps.length) (hN : N.length = ps.length + j) (he : ∀ a, env a = p.sl a ++ List.replicate j .un)
    (hb : ∀ (cdv : Value) (A : Around) (outer : List Env) (s : Shared) (H : Hp) (E : XK), π (A.deeper (PyProof.Rows.envOfC qual (defScope st) s.heap.objs.size f cdv)) → Room k (A.deeper (PyProof.Rows.envOfC qual (defScope st) s.heap.objs.size f cdv)) → ∀ (C : Cs) (d : Addr) (a : α), C.A0 = [d] → PSs (cxOf CX0 P w K mg base (x0 :: N) qual (defScope st) f cdv A outer s H E).nox (defBody st) (tF C (fun g => .iv d (oD g) :: env a) (m a) pn pl (fun g => [.iv d (oD g)]) r))
    (hg : ∀ a, g a = rtOf (m a)) : FnP π P w K mg base CX0 (k + 1) f fd (x0 :: ps) (SpD p.ra r g) := by
  refine funP_ok sπ F S (fun vs H Q E h => ?_) (fun cdv A outer s H vs Q E hp hr h => ?_)
  · obtain ⟨_, _, _, ws, _, _, ev, _, _, _, _, hv, _⟩ := h
    rw [ev, List.length_cons, List.length_cons, (p.ok (H := H) hv).2.2, hn]
  · exact body_ofD (E := E) h hg (fun S H ws a hv => by rw [he a]; exact p.start (by rw [hN, hn]) hv) (hb cdv A outer s H E hp hr)
end
end
end Rt

set_option maxRecDepth 100000
set_option maxHeartbeats 4000000
/-! Rt7: the shared object, more of lists, the end. -/
namespace Rt
open PySem L2

/-! ### the end of a proof -/
/-- as walk_of, where what the written part says of loose names is known -/
theorem walk_ofX {π : Around → Prop} {l : PySem.W.OpenLaw} {n k : Nat} {q : Program} {loose : List Str} {XP : (Str → Option Value) → Heap → Prop} {YP : World → Heap → Prop} {d : DefRec} {K : Params → PySem.W.Frag} {CX : World → CXT} {sp : World → Sp} {x : Str}
    (hpi : π callerA) (hn : l.most = some n) (hn2 : n ≤ sizeLine) (hdf : d.params.defaults = []) (hr : Room k callerA)
    (hY : ∀ (w : World) (h : Heap), YP w h → (K w.params).In h)
    (F : ∀ (w : World) (mg : Str → Option Value) (fa : Addr) (h : Heap), (K w.params).In h → h.Ns mainGlobals mg → mg d.name = some (.ref fa) → XP mg h →
      ∃ fd : FuncData, (∀ (s : Shared) (u : Value), BindsTo s fd ⟨[u], []⟩ [(x, u)]) ∧
        ∀ base : Heap, (K w.params).In base → base.Ns mainGlobals mg → FnP π l.prog w (K w.params) mg base (CX w) k fa fd [x] (sp w))
    (hsp : ∀ (w : World) (H : Hp) (a : Addr) (ns : List Int), ns.length ≤ n → Only H → SqL (K w.params) H a (ns.map V.int) → sp w [.ref a] H (fun v _ => v = .bl true) fun _ _ _ => False)
    (hCX : ∀ (w : World) (H : Hp) (s : Shared) (e : Value) (s' : Shared), CX w [] H s (fun _ _ _ => False) e s' → False) :
    PySem.W.WalkO q loose XP YP l.row.toRowW d [] (fun f vs => PySem.call f vs) := by
  refine Att.attach_call hn hdf fun w s₀ s₁ mg mb fa o pm cd doc a vs ns G Y ho hd hcd hmg hobj hints hlen hg => ?_
  have KX := hY w _ Y
  obtain ⟨fd, hb, hF⟩ := F w mg fa _ KX G.T.g hmg G.X
  exact law_callP hpi KX G.T.g G.T.b G.T.builtins G.T.nolimit hg hobj hints (Nat.le_trans hlen hn2) hr hF hb (fun H hO hS => hsp w H a ns hlen hO hS) fun H e s' => hCX w H s₁ e s'
theorem gint_of {p : Program} {lv : List (Str × PySem.W.WData)} {mg : Str → Option Value} {h : Heap} {x : Str} {n : Int} (X : PySem.W.XL p lv mg h) (hm : (x, PySem.W.WData.int n) ∈ lv) : ∃ t, mg x = some (.int n t) := by
  obtain ⟨v, e, r⟩ := X.2.val _ hm
  cases r
  exact ⟨_, e⟩

/-! ### the object that more than one def changes -/
theorem Fr.writeIv {C : Cs} {S H : Hp} {σ : St} {env : List Sl} (F : Fr C S H σ env) {i : Nat} {d : Addr} {o o' : HO} (hi : env[i]? = some (.iv d o)) (nt : ∀ vs, o' ≠ .tup vs := by intro _ z; cases z) : Fr C S (upd H d o') σ (env.set i (.iv d o')) := by
  obtain ⟨v, hp, p, u, e1, sp, ho, e2, e3⟩ := F.sl.get i hi
  subst e1 e2 e3
  have m : p ∈ owns σ env := owns_mem_get i hi hp rfl
  have eo : owns σ (env.set i (.iv p o')) = owns σ env := owns_same hi hp rfl rfl
  refine ⟨F.e0, F.e1.mut sp, fun b u' e n => ?_, F.nw, fun b h0 => ?_, F.sl.mutOne F.nd hi hp rfl ⟨p, o', rfl, sp, upd_same, rfl, rfl⟩, by rw [eo]; exact F.ow, by rw [eo]; exact F.nd, F.tc.up nt⟩
  · have nb : b ≠ p := fun z => by
      subst z
      rcases F.ow b m with q | q
      · rw [q] at e
        cases e
      · exact n q
    rw [upd_ne nb]
    exact F.e2 b u' e n
  · by_cases z : b = p
    · rw [z, upd_same]
      exact fun z => nomatch z
    · rw [upd_ne z]
      exact F.al b h0
theorem Fr.iv {C : Cs} {S H : Hp} {σ : St} {env : List Sl} (F : Fr C S H σ env) {i : Nat} {d : Addr} {o : HO} (hi : env[i]? = some (.iv d o)) : σ[i]? = some (some (.ref d)) ∧ S d = none ∧ H d = some o := by
  obtain ⟨v, hp, p, u, e1, sp, ho, e2, e3⟩ := F.sl.get i hi
  subst e1 e2 e3
  exact ⟨hp, sp, ho⟩
section
variable {X : Cx} {C : Cs} {env kp : Gh → List Sl} {e a b c tg iter : Expr} {es : List Expr} {A B rest : List Stmt} {pos p px : Pos} {α β γ ρ τ : Type} {r : Rp ρ} {ra re : Rp α} {rb : Rp β} {ma : W α} {mb : W β} {k : Bool} {pn : β → Gh → List Sl} {pl : γ → Gh → List Sl} {d : Addr} {i : Nat}
/-- a call that hands the object on -/
theorem xe_callD {π : Around → Prop} {ra : Ra α} {f : α → W ρ} {m : W α} {k : Nat} {fa : Addr} {fd : FuncData} {ps : List Str} {x xd : Str} (F : FnP π X.prog X.w X.K X.mg X.base CX0 k fa fd ps (SpD ra r f)) (hpi : π X.A) (hr : Room k X.A) (hg : Gl X x) (hm : X.mg x = some (.ref fa)) (hk : PySem.W.keepIn X.K (.ref fa) = true) (hb : Binds X.K fd ps [])
    (hd : PE X (.Name xd px) (tVar i)) (ha : PA X es (tA C env ra m)) (hi : ∀ g, (env g)[i]? = some (.iv d (oD g)) := by intro _; rfl) (hE : ∀ g g', env g' = (env g).set i (.iv d (oD g')) := by intro _ _; rfl)
    (hdb : (x == ("__debug__" : Str)) = false := by decide) (he : starEach (.Name xd px :: es) X.env = (false, eval (.Name xd px) X.env) :: starEach es X.env := by rfl) (hpl : (backTo pos (starEach es X.env)).any (·.1) = false := by rfl) :
    PE X (.Call (.Name x p) (.Name xd px :: es) [] pos) (tE C env r (m.bind f)) :=
  pe_imp (pe_callP F hpi hr hg hm hk hb .nil pass0 (pa_cons hd ha he) hdb he hpl) fun σ H Q _ ⟨S, g0, P, Fr1, em, q⟩ => by
    obtain ⟨s0, _, _⟩ := Fr1.iv (hi g0)
    refine ⟨.ref d, s0, S, g0, _, Fr1, em, fun a g1 pa vs S1 H1 F1 x1 hv => ?_⟩
    show SpD ra r f ((.ref d :: vs) ++ []) H1 _ E0
    rw [List.append_nil]
    obtain ⟨_, sp, hp⟩ := F1.iv (hi g1)
    refine ⟨S1, a, d, vs, g1, P, rfl, F1.e1, F1.tc, sp, hp, hv, pa, fun o g' po v S' H' eS eH eHH hd' sd' n t hr' _ => ?_⟩
    have F2 := F1.writeIv (hi g1) (o' := oD g')
    rw [← hE g1 g'] at F2
    refine q o g' po v S' H' (F2.call eS eH (fun b u hb => ?_) (fun b s0 h0 => ?_) t) (x1.trans eS) hr'
    · by_cases z : b = d
      · subst z
        rw [upd_same] at hb
        cases hb
        exact hd'
      · rw [upd_ne z] at hb
        exact eHH b u hb z
    · by_cases z : b = d
      · rw [z]
        exact sd'
      · rw [upd_ne z] at h0
        exact n b s0 h0
/-- the object's item -/
theorem xe_gix {xd : Str} {mi : W Int} (hd : PE X (.Name xd px) (tVar i)) (hb : PE X b (tE C env qI mi)) (hi : ∀ g, (env g)[i]? = some (.iv d (oD g)) := by intro _; rfl) (hs : PlainIx b := by intro _ _; rfl) :
    PE X (.Subscript (.Name xd px) b pos) (tE C env qI (mi.bind fun j => W.get.bind fun g => ofO (L2.atI g j))) :=
  pe_imp (pe_ix ix_list hd hb hs) fun σ H Q _ ⟨S, g0, P, F, em, q⟩ => by
    obtain ⟨s0, _, _⟩ := F.iv (hi g0)
    refine ⟨.ref d, s0, S, g0, _, F, em, fun j g1 ⟨z, ez, pz⟩ y S1 H1 F1 x1 hy => ?_⟩
    obtain ⟨_, _, hp⟩ := F1.iv (hi g1)
    have hy : y = .int j := hy
    subst hy
    obtain ⟨v, ev, hv⟩ := (All2.of_map (f := V.int) g1).atI ez
    exact ⟨d, _, j, v, rfl, rfl, SqL.of hp, ev, fun _ => q _ _ pz v S1 H1 F1 x1 hv⟩
/-- object[j] = e -/
def W.gset (j v : Int) : W Unit := fun g P => ∃ n, ixN g.length j = some n ∧ P () (g.set n v)
theorem xs_gset {xd : Str} {ps : Pos} {mv mi : W Int} {K : W (Fl ρ β γ)} (hv : PE X e (tE C env qI mv)) (hd : PE X (.Name xd px) (tVar i)) (hb : PE X b (tE C env qI mi)) (hr : PSs X rest (tF C env K pn pl kp r)) (hi : ∀ g, (env g)[i]? = some (.iv d (oD g)) := by intro _; rfl) (hE : ∀ g g', env g' = (env g).set i (.iv d (oD g')) := by intro _ _; rfl)
    (ha : ∀ v, assign (.Subscript (.Name xd px) b ps) X.env v = (do
      let ov ← holding [v] (eval (.Name xd px) X.env)
      let iv ← holding [v, ov] (eval b X.env)
      standAt ps
      holding [v, ov, iv] (setItem ov iv v)
      release [v, ov, iv] []) := by intro _; rfl)
    (hs : swapsWithSole [.Subscript (.Name xd px) b ps] e pos.line X.env = pure false := by rfl) (hw : swappedStores [.Subscript (.Name xd px) b ps] e X.env = pure none := by rfl) (h1 : (assignEach [.Subscript (.Name xd px) b ps] X.env).map (·.2) = [assign (.Subscript (.Name xd px) b ps) X.env] := by rfl) :
    PSs X (.Assign [.Subscript (.Name xd px) b ps] e pos :: rest) (tF C env (mv.bind fun v => mi.bind fun j => (W.gset j v).bind fun _ => K) pn pl kp r) :=
  pss_imp (pss_cons (ps_asg hv (pg_sub hd hb set_list ha) hs hw h1) hr) fun D σ H _ ⟨S, g0, P, F, em, q⟩ => ⟨S, g0, _, F, em, fun v g1 pv u S1 H1 F1 x1 hu => by
    obtain ⟨s1, _, _⟩ := F1.iv (hi g1)
    refine ⟨.ref d, s1, S1, g1, _, F1, pv, fun j g2 ⟨n, en, pn⟩ y S2 H2 F2 x2 hy => ?_⟩
    obtain ⟨_, _, hp⟩ := F2.iv (hi g2)
    have hy : y = .int j := hy
    have hu : u = .int v := hu
    subst hy hu
    refine ⟨d, _, j, n, rfl, rfl, hp, by rw [List.length_map]; exact en, ?_⟩
    have F3 := F2.writeIv (hi g2) (o' := oD (g2.set n v))
    rw [← hE g2 (g2.set n v)] at F3
    have eo : oD (g2.set n v) = .lst ((g2.map V.int).set n (.int v)) := by
      unfold oD
      rw [List.map_set]
    rw [eo] at F3
    exact ⟨S2, g2.set n v, P, F3, pn, fun o g9 po => (q o g9 po).mono (x1.trans x2)⟩⟩
/-- a list of ints of the def's own becomes the object -/
theorem xs_gh (i : Nat) {xs : List Int} {m : W (Fl ρ β γ)} (hr : ∀ d, PSs X A (tF C (fun g => (env g).set i (.iv d (oD g))) m pn pl kp r)) (hi : ∀ g, (env g)[i]? = some (.ow qI xs) := by intro _; rfl) (hE : ∀ g g', env g = env g' := by intro _ _; rfl) :
    PSs X A (tF C env ((W.put xs).bind fun _ => m) pn pl kp r) :=
  pss_imp (pss_ex hr) fun D σ H _ ⟨S, g0, P, F, em, q⟩ => by
    obtain ⟨v, ev, p, vs, e1, sp, hp, ha⟩ := F.sl.get i (hi g0)
    subst e1
    have hvs : vs = xs.map V.int := flat_ints ha
    subst hvs
    have eo : owns σ ((env g0).set i (.iv p (oD xs))) = owns σ (env g0) := owns_same (hi g0) ev rfl rfl
    refine ⟨p, S, xs, P, ?_, em, q⟩
    show Fr C S H σ ((env xs).set i (.iv p (oD xs)))
    rw [hE xs g0]
    exact ⟨F.e0, F.e1, F.e2, F.nw, F.al, F.sl.setEnv i ev ⟨p, _, rfl, sp, hp, rfl, rfl⟩, by rw [eo]; exact F.ow, by rw [eo]; exact F.nd, F.tc⟩

/-! ### in another dress, where it can be worn -/
theorem xe_asO {f : α → Option β} {m : W α} (hf : ∀ H v a b, ra.p H v a → f a = some b → rb.p H v b) (h : PE X e (tE C env ra m)) : PE X e (tE C env rb (m.bind fun x => ofO (f x))) := pe_imp h fun σ H Q _ ⟨S, g0, P, F, em, k⟩ =>
  ⟨S, g0, _, F, em, fun x g1 ⟨z, ez, pz⟩ v S1 H1 F1 x1 hv _ => k _ _ pz v S1 H1 F1 x1 (hf S1 v x z hv ez)⟩
def two {α : Type} : List α → Option (α × α)
  | [x, y] => some (x, y)
  | _ => none
def three {α : Type} : List α → Option (α × α × α)
  | [x, y, z] => some (x, y, z)
  | _ => none
theorem as_two (H : Hp) (v : V) (a : List α) (b : α × α) (h : (qT ra).p H v a) (e : two a = some b) : (qP ra ra).p H v b := by
  obtain ⟨p, vs, ev, hp, h2⟩ := h
  match a, e with
  | [x, y], e =>
    cases e
    match vs, h2 with
    | [v1, v2], ⟨a1, a2, _⟩ => exact ⟨p, v1, v2, ev, hp, a1, a2⟩
theorem as_three (H : Hp) (v : V) (a : List α) (b : α × α × α) (h : (qT ra).p H v a) (e : three a = some b) : (qP3 ra ra ra).p H v b := by
  obtain ⟨p, vs, ev, hp, h2⟩ := h
  match a, e with
  | [x, y, z], e =>
    cases e
    match vs, h2 with
    | [v1, v2, v3], ⟨a1, a2, a3, _⟩ => exact ⟨p, v1, v2, v3, ev, hp, a1, a2, a3⟩
theorem xe_unT2 {m : W (List α)} (h : PE X e (tE C env (qT ra) m)) : PE X e (tE C env (qP ra ra) (m.bind fun x => ofO (two x))) := xe_asO as_two h
theorem xe_unT3 {m : W (List α)} (h : PE X e (tE C env (qT ra) m)) : PE X e (tE C env (qP3 ra ra ra) (m.bind fun x => ofO (three x))) := xe_asO as_three h
theorem xe_row2 {m : W (α × α)} (h : PE X e (tE C env (qP ra ra) m)) : PE X e (tE C env (qT ra) (m.bind fun x => .ret [x.1, x.2])) :=
  xe_as (r := qP ra ra) (rb := qT ra) (f := fun x => [x.1, x.2]) (fun H v a ⟨p, x, y, ev, hp, h1, h2⟩ => ⟨p, [x, y], ev, hp, h1, h2, True.intro⟩) h
theorem xe_row3 {m : W (α × α × α)} (h : PE X e (tE C env (qP3 ra ra ra) m)) : PE X e (tE C env (qT ra) (m.bind fun x => .ret [x.1, x.2.1, x.2.2])) :=
  xe_as (r := qP3 ra ra ra) (rb := qT ra) (f := fun x => [x.1, x.2.1, x.2.2]) (fun H v a ⟨p, x, y, z, ev, hp, h1, h2, h3⟩ => ⟨p, [x, y, z], ev, hp, h1, h2, h3, True.intro⟩) h

/-! ### lists of the def's own, further -/
/-- xs.extend(a new list) -/
theorem xs_ext {x : Str} {pa pe : Pos} {xs : List α} {m : W (List α)} {K : List α → W (Fl ρ β γ)} (hr : ∀ ys, PSs X rest (tF C (fun g => (env g).set i (.ow re ys)) (K ys) pn pl kp r))
    (hb : PE X (.Call (.Attribute (.Name x px) "extend" pa) [e] [] pe) (tBM X.K "list" rExtend (tVar i) (tCons (tN C env re m) tNil))) (hi : ∀ g, (env g)[i]? = some (.ow re xs) := by intro _; rfl)
    (hs : swapsWith (.Call (.Attribute (.Name x px) "extend" pa) [e] [] pe) none pos.line X.env = pure false := by rfl) :
    PSs X (.Expr (.Call (.Attribute (.Name x px) "extend" pa) [e] [] pe) pos :: rest) (tF C env (m.bind fun zs => (ofO (catC xs zs)).bind K) pn pl kp r) :=
  pss_imp (pss_cons (ps_expr hb hs) (pss_ex hr)) fun D σ H _ ⟨S, g0, P, F, em, q⟩ => by
    obtain ⟨w, ew, p, vs, e2, sp, hp, ha⟩ := F.sl.get i (hi _)
    subst e2
    refine ⟨.ref p, ew, .inl ⟨rfl, vs, SqL.of hp⟩, S, g0, _, F, em, fun zs g1 ⟨out, eo, po⟩ b ws S1 H1 F1 x1 hb hw => ?_⟩
    obtain ⟨w1, ew1, p1, vs1, e21, sp1, hp1, ha1⟩ := F1.sl.get i (hi _)
    subst e21
    rw [ew] at ew1
    cases ew1
    unfold catC at eo
    split at eo
    · rename_i hl
      cases eo
      have npb : p ≠ b := fun z => by
        rw [z, hb] at hp1
        cases hp1
      refine ⟨p, b, vs1, ws, rfl, rfl, by rw [upd_ne npb]; exact hp1, upd_same, by rw [All2.length ha1, All2.length hw, sizeLine_eq]; omega, xs ++ zs, S1, g1, P, ?_, po, fun o g9 po => (q o g9 po).mono x1⟩
      exact (F1.add hb).write (hi _) ew (ha1.append hw)
    · cases eo

/-! ### the greatest, the least one of a list, a tuple of ints -/
def maxL : List Int → Option Int
  | [] => none
  | x :: xs => some (xs.foldl max x)
def minL : List Int → Option Int
  | [] => none
  | x :: xs => some (xs.foldl min x)
def rExt (K : PySem.W.Frag) (f : Int → Int → Int) : List V → Hp → VK → Prop := fun vs H Q => ∃ (a : Addr) (n : Int) (ns : List Int), vs = [V.ref a] ∧ (SqL K H a ((n :: ns).map V.int) ∨ SqT K H a ((n :: ns).map V.int)) ∧ Q (.int (ns.foldl f n)) H
theorem alike_all (ns : List Int) : PySem.W.AlikeAll (ns.map PyData.int) := by
  refine ⟨fun x hx y hy => ?_, fun x hx => ?_⟩
  · obtain ⟨i, _, rfl⟩ := List.mem_map.mp hx
    obtain ⟨j, _, rfl⟩ := List.mem_map.mp hy
    simp only [PySem.W.alike]
  · obtain ⟨i, _, rfl⟩ := List.mem_map.mp hx
    exact fun z => nomatch z
theorem dep_ints (ns : List Int) : PyData.depthAll (ns.map PyData.int) ≤ 0 := depthAll_map (fun a => by simp [PyData.depth]) ns
theorem cr_maxQ (hc : X.calm = true) (hu : X.A.units + 64 < cLine) : CallR X (.builtin "max") (rExt X.K max) := by
  intro pins s σ H vs us Q I r h
  obtain ⟨a, n, ns, rfl, hs, q⟩ := h
  rw [Vals.ref1 r]
  have hd : DpAll X.K H ((n :: ns).map V.int) ((n :: ns).map PyData.int) := dpAll (r := qI) (f := PyData.int) (fun h => dI.rep h) (All2.of_map (f := V.int) (n :: ns))
  have h0 := dep_ints (n :: ns)
  rcases hs with hs | hs
  · obtain ⟨its, rv, hl, _⟩ := I.list hs
    obtain ⟨as, rd⟩ := Dp.readsAll I _ _ _ hd rv
    refine PySem.W.max_list_data (I.ok.hd hc) hl.isList rd (alike_all (n :: ns)) (by
      show X.A.units + 1 + PyData.depthAll ((n :: ns).map PyData.int) < cLine
      omega) fun i v h' tk bs hv hr hk => ?_
    rw [PySem.W.maxD_ints] at hr
    cases hr
    exact ⟨.int _, H, I.kept hk, ⟨_, rfl⟩, q⟩
  · obtain ⟨its, rv, hl, _⟩ := I.tuple hs
    obtain ⟨as, rd⟩ := Dp.readsAll I _ _ _ hd rv
    refine PySem.W.max_tuple_data (I.ok.hd hc) (show s.heap.IsTuple a its.toArray from hl) rd (alike_all (n :: ns)) (by
      show X.A.units + 1 + PyData.depthAll ((n :: ns).map PyData.int) < cLine
      omega) fun i v h' tk bs hv hr hk => ?_
    rw [PySem.W.maxD_ints] at hr
    cases hr
    exact ⟨.int _, H, I.kept hk, ⟨_, rfl⟩, q⟩
theorem cr_minQ (hc : X.calm = true) (hu : X.A.units + 64 < cLine) : CallR X (.builtin "min") (rExt X.K min) := by
  intro pins s σ H vs us Q I r h
  obtain ⟨a, n, ns, rfl, hs, q⟩ := h
  rw [Vals.ref1 r]
  have hd : DpAll X.K H ((n :: ns).map V.int) ((n :: ns).map PyData.int) := dpAll (r := qI) (f := PyData.int) (fun h => dI.rep h) (All2.of_map (f := V.int) (n :: ns))
  have h0 := dep_ints (n :: ns)
  rcases hs with hs | hs
  · obtain ⟨its, rv, hl, _⟩ := I.list hs
    obtain ⟨as, rd⟩ := Dp.readsAll I _ _ _ hd rv
    refine PySem.W.min_list_data (I.ok.hd hc) hl.isList rd (alike_all (n :: ns)) (by
      show X.A.units + 1 + PyData.depthAll ((n :: ns).map PyData.int) < cLine
      omega) fun i v h' tk bs hv hr hk => ?_
    rw [PySem.W.minD_ints] at hr
    cases hr
    exact ⟨.int _, H, I.kept hk, ⟨_, rfl⟩, q⟩
  · obtain ⟨its, rv, hl, _⟩ := I.tuple hs
    obtain ⟨as, rd⟩ := Dp.readsAll I _ _ _ hd rv
    refine PySem.W.min_tuple_data (I.ok.hd hc) (show s.heap.IsTuple a its.toArray from hl) rd (alike_all (n :: ns)) (by
      show X.A.units + 1 + PyData.depthAll ((n :: ns).map PyData.int) < cLine
      omega) fun i v h' tk bs hv hr hk => ?_
    rw [PySem.W.minD_ints] at hr
    cases hr
    exact ⟨.int _, H, I.kept hk, ⟨_, rfl⟩, q⟩
theorem xe_max1 {mx : W (List Int)} (hc : X.calm = true) (hu : X.A.units + 64 < cLine) (hg : Gl X "max") (hm : X.mg "max" = none) (ha : PE X a (tQ C env k qI mx)) (hs : starEach [a] X.env = (false, eval a X.env) :: starEach [] X.env := by rfl) :
    PE X (.Call (.Name "max" p) [a] [] pos) (tE C env qI (mx.bind fun xs => ofO (maxL xs))) :=
  xe_b1 (f := maxL) (cr_maxQ hc hu) (by decide +kernel) hg hm ha (fun _ S H σ p vs xs z Q F _ hp h2 ez kk => by
    cases xs with
    | nil => cases ez
    | cons n ns =>
      cases ez
      exact ⟨p, n, ns, rfl, by rw [← flat_ints h2]; exact sq_seq hp, kk _ S H F (Ex.refl S) rfl⟩) hs
theorem xe_min1 {mx : W (List Int)} (hc : X.calm = true) (hu : X.A.units + 64 < cLine) (hg : Gl X "min") (hm : X.mg "min" = none) (ha : PE X a (tQ C env k qI mx)) (hs : starEach [a] X.env = (false, eval a X.env) :: starEach [] X.env := by rfl) :
    PE X (.Call (.Name "min" p) [a] [] pos) (tE C env qI (mx.bind fun xs => ofO (minL xs))) :=
  xe_b1 (f := minL) (cr_minQ hc hu) (by decide +kernel) hg hm ha (fun _ S H σ p vs xs z Q F _ hp h2 ez kk => by
    cases xs with
    | nil => cases ez
    | cons n ns =>
      cases ez
      exact ⟨p, n, ns, rfl, by rw [← flat_ints h2]; exact sq_seq hp, kk _ S H F (Ex.refl S) rfl⟩) hs

/-! ### name = [..], the name a local -/
section
variable {δ : Type} {rd : Rp δ} {y : Str} {py spos : Pos} {elt : Expr} {ifs : List Expr} {scope : Scope} {own : List (Str × Nat)} {mx : W (List α)} {up : Up α} {cf : α → W Bool} {ef : α → W δ}
theorem xs_setLcN {K : List δ → W (Fl ρ β γ)} (hc : X.calm = true) (hN : X.N.Nodup) (hy : X.N[i]? = some y) (hyl : X.env.scope.names.lookup y = some .local) (hsw : swapsWith (.ListComp elt [⟨tg, iter, ifs, 0⟩] scope pos) (some (.Name y py)) spos.line X.env = pure true)
    (hi : PI X tg iter (tS C env re mx)) (ok : BlkOk X.N X.env.scope scope own) (hjs : (up.js.all fun j => (own.map (·.2)).contains j) = true) (hw : ∀ g, wipeOk (env g) (own.map (·.2)) = true)
    (hg : ∀ (s : Shared) (H : Hp) (C0 : Addr) (cl : List (Str × Addr)) (fp : List Addr), PG (X.blk s H scope (compEnvC scope cl C0 X.env) fp) tg (tG re up))
    (ht : ∀ (s : Shared) (H : Hp) (C0 : Addr) (cl : List (Str × Addr)) (fp : List Addr) (C' : Cs) (a : α), PTs (X.blk s H scope (compEnvC scope cl C0 X.env) fp) ifs (tT C' (fun g => up.f a (wipeE (env g) (own.map (·.2)))) (cf a)))
    (he : ∀ (s : Shared) (H : Hp) (C0 : Addr) (cl : List (Str × Addr)) (fp : List Addr) (C' : Cs) (a : α), PE (X.blk s H scope (compEnvC scope cl C0 X.env) fp) elt (tE C' (fun g => up.f a (wipeE (env g) (own.map (·.2)))) rd (ef a)))
    (hr : ∀ a, PSs X rest (tF C (fun g => (env g).set i (.ow rd a)) (K a) pn pl kp r))
    (hs : ∀ x, foldedSetIterable iter X.env x = pure x := by intro _; rfl) (hE : ∀ g g', Gs (env g) (env g') := by intro _ _; repeat (first | exact Gs.nil | apply Gs.keep | apply Gs.gh)) :
    PSs X (.Assign [.Name y py] (.ListComp elt [⟨tg, iter, ifs, 0⟩] scope pos) spos :: rest) (tF C env ((mx.bind fun xs => lcW cf ef xs).bind K) pn pl kp r) :=
  pss_imp (pss_cons (ps_setLc (tt := fun σ H Q => ∃ p : Cs × α, tT p.1 (fun g => up.f p.2 (wipeE (env g) (own.map (·.2)))) (cf p.2) σ H Q) (te := fun σ H Q => ∃ p : Cs × α, tE p.1 (fun g => up.f p.2 (wipeE (env g) (own.map (·.2)))) rd (ef p.2) σ H Q) hc hN hy hyl hsw hi ok hg
    (fun s H C0 cl fp => ⟨fun pins s' σ H' Q I ⟨p, q⟩ => (ht s H C0 cl fp p.1 p.2).run pins s' σ H' Q I q⟩) (fun s H C0 cl fp => pe_ex fun p => he s H C0 cl fp p.1 p.2) hs) (pss_ex hr)) fun D σ H _ ⟨S, g0, P, F, em, q⟩ =>
    lc_use (re := re) (rb := rd) (mx := mx) (up := up) (cf := cf) (ef := ef) (Q := fun x H1 => ∃ a, tF C (fun g => (env g).set i (.ow rd a)) (K a) pn pl kp r D (σ.set i (some x)) H1) hjs hw hE ⟨S, g0, _, F, em, fun xs g1 px p vs S' H' F' eS hp ha => ⟨xs, _, g1, P, F'.setOw i hp ha, px, fun o g9 po => (q o g9 po).mono eS⟩⟩
theorem xs_setLc {K : List δ → W (Fl ρ β γ)} (hc : X.calm = true) (hN : X.N.Nodup) (hy : X.N[i]? = some y) (hyl : X.env.scope.names.lookup y = some .local) (hsw : swapsWith (.ListComp elt [⟨tg, iter, ifs, 0⟩] scope pos) (some (.Name y py)) spos.line X.env = pure true)
    (hi : PI X tg iter (tS C env re mx)) (ok : BlkOk X.N X.env.scope scope own) (hjs : (up.js.all fun j => (own.map (·.2)).contains j) = true) (hw : ∀ g, wipeOk (env g) (own.map (·.2)) = true)
    (hg : ∀ (s : Shared) (H : Hp) (C0 : Addr) (cl : List (Str × Addr)) (fp : List Addr), PG (X.blk s H scope (compEnvC scope cl C0 X.env) fp) tg (tG re up))
    (ht : ∀ (s : Shared) (H : Hp) (C0 : Addr) (cl : List (Str × Addr)) (fp : List Addr) (C' : Cs) (a : α), PTs (X.blk s H scope (compEnvC scope cl C0 X.env) fp) ifs (tT C' (fun g => up.f a (wipeE (env g) (own.map (·.2)))) (cf a)))
    (he : ∀ (s : Shared) (H : Hp) (C0 : Addr) (cl : List (Str × Addr)) (fp : List Addr) (C' : Cs) (a : α), PE (X.blk s H scope (compEnvC scope cl C0 X.env) fp) elt (tE C' (fun g => up.f a (wipeE (env g) (own.map (·.2)))) rd (ef a)))
    (hr : ∀ a, PSs X rest (tF C (fun g => (env g).set i (.im (qL rd) a)) (K a) pn pl kp r))
    (hs : ∀ x, foldedSetIterable iter X.env x = pure x := by intro _; rfl) (hE : ∀ g g', Gs (env g) (env g') := by intro _ _; repeat (first | exact Gs.nil | apply Gs.keep | apply Gs.gh)) :
    PSs X (.Assign [.Name y py] (.ListComp elt [⟨tg, iter, ifs, 0⟩] scope pos) spos :: rest) (tF C env ((mx.bind fun xs => lcW cf ef xs).bind K) pn pl kp r) :=
  pss_imp (pss_cons (ps_setLc (tt := fun σ H Q => ∃ p : Cs × α, tT p.1 (fun g => up.f p.2 (wipeE (env g) (own.map (·.2)))) (cf p.2) σ H Q) (te := fun σ H Q => ∃ p : Cs × α, tE p.1 (fun g => up.f p.2 (wipeE (env g) (own.map (·.2)))) rd (ef p.2) σ H Q) hc hN hy hyl hsw hi ok hg
    (fun s H C0 cl fp => ⟨fun pins s' σ H' Q I ⟨p, q⟩ => (ht s H C0 cl fp p.1 p.2).run pins s' σ H' Q I q⟩) (fun s H C0 cl fp => pe_ex fun p => he s H C0 cl fp p.1 p.2) hs) (pss_ex hr)) fun D σ H _ ⟨S, g0, P, F, em, q⟩ =>
    lc_use (re := re) (rb := rd) (mx := mx) (up := up) (cf := cf) (ef := ef) (Q := fun x H1 => ∃ a, tF C (fun g => (env g).set i (.im (qL rd) a)) (K a) pn pl kp r D (σ.set i (some x)) H1) hjs hw hE (tN_of_E ⟨S, g0, _, F, em, fun xs g1 px v S' H' F' eS hv => ⟨xs, S', g1, P, F'.setIm i hv, px, fun o g9 po => (q o g9 po).mono eS⟩⟩)
end
end

/-! ### defs by their names -/
section
variable (P : Program) (w : World) (K : PySem.W.Frag) (mg : Str → Option Value) (base : Heap)
def Has (π : Around → Prop) (x : Str) (k : Nat) (ps : List Str) (sp : Sp) : Prop := ∃ fa fd, FnP π P w K mg base CX0 k fa fd ps sp ∧ mg x = some (.ref fa) ∧ PySem.W.keepIn K (.ref fa) = true ∧ Binds K fd ps []
end
section
variable {X : Cx} {C : Cs} {env kp : Gh → List Sl} {e a b : Expr} {es : List Expr} {A B rest : List Stmt} {pos p px : Pos} {α β γ ρ : Type} {r : Rp ρ} {pn : β → Gh → List Sl} {pl : γ → Gh → List Sl} {d : Addr} {i : Nat} {ra : Ra α}
theorem xe_callH {π : Around → Prop} {f : α → Option ρ} {m : W α} {j k : Nat} {ps : List Str} {x : Str} (h : Has X.prog X.w X.K X.mg X.base π x j ps (SpF ra r f)) (hpi : π X.A) (hr : Room k X.A) (hj : j ≤ k) (hg : Gl X x)
    (ha : PA X (e :: es) (tA C env ra m)) (hdb : (x == ("__debug__" : Str)) = false := by decide) (he : starEach (e :: es) X.env = (false, eval e X.env) :: starEach es X.env := by rfl) (hpl : (backTo pos (starEach es X.env)).any (·.1) = false := by rfl) :
    PE X (.Call (.Name x p) (e :: es) [] pos) (tE C env r (m.bind fun a => ofO (f a))) :=
  let ⟨_, _, F, hm, hk, hb⟩ := h
  xe_call F hpi (hr.mono hj) hg hm hk hb ha hdb he hpl
theorem xe_callDH {π : Around → Prop} {f : α → W ρ} {m : W α} {j k : Nat} {ps : List Str} {x xd : Str} (h : Has X.prog X.w X.K X.mg X.base π x j ps (SpD ra r f)) (hpi : π X.A) (hr : Room k X.A) (hj : j ≤ k) (hg : Gl X x)
    (hd : PE X (.Name xd px) (tVar i)) (ha : PA X es (tA C env ra m)) (hi : ∀ g, (env g)[i]? = some (.iv d (oD g)) := by intro _; rfl) (hE : ∀ g g', env g' = (env g).set i (.iv d (oD g')) := by intro _ _; rfl)
    (hdb : (x == ("__debug__" : Str)) = false := by decide) (he : starEach (.Name xd px :: es) X.env = (false, eval (.Name xd px) X.env) :: starEach es X.env := by rfl) (hpl : (backTo pos (starEach es X.env)).any (·.1) = false := by rfl) :
    PE X (.Call (.Name x p) (.Name xd px :: es) [] pos) (tE C env r (m.bind f)) :=
  let ⟨_, _, F, hm, hk, hb⟩ := h
  xe_callD F hpi (hr.mono hj) hg hm hk hb hd ha hi hE hdb he hpl
theorem xs_parN1 {i j : Nat} {x y : Str} {px py pt0 : Pos} {kt k2 : Nat} {pt2 : Pos} {α1 α2 : Type} {r1 : Rp α1} {r2 : Rp α2} {m1 : W (List α1)} {m2 : W α2} {K : List α1 → α2 → W (Fl ρ β γ)} (ha : PE X a (tN C env r1 m1)) (hb : ∀ C', PE X b (tE C' env r2 m2)) (hr : ∀ a b, PSs X rest (tF C (fun g => ((env g).set i (.ow r1 a)).set j (.im r2 b)) (K a b) pn pl kp r))
    (hc : X.calm = true) (hN : X.N.Nodup) (hi : X.N[i]? = some x) (hj : X.N[j]? = some y) (hij : i ≠ j) (hx : X.env.scope.names.lookup x = some .local) (hy : X.env.scope.names.lookup y = some .local)
    (hw : swappedStores [.Tuple [.Name x px, .Name y py] kt pt0] (.Tuple [a, b] k2 pt2) X.env = pure (some [x, y])) (hs : swapsWithSole [.Tuple [.Name x px, .Name y py] kt pt0] (.Tuple [a, b] k2 pt2) pos.line X.env = pure false := by rfl)
    (h1 : starEach [a, b] X.env = (false, eval a X.env) :: starEach [b] X.env := by rfl) (h2 : starEach [b] X.env = (false, eval b X.env) :: starEach [] X.env := by rfl) (hE : ∀ g g', Gs (env g) (env g') := by intro _ _; repeat (first | exact Gs.nil | apply Gs.keep | apply Gs.gh)) :
    PSs X (.Assign [.Tuple [.Name x px, .Name y py] kt pt0] (.Tuple [a, b] k2 pt2) pos :: rest) (tF C env (m1.bind fun a => m2.bind fun b => K a b) pn pl kp r) :=
  pss_imp (pss_cons (ps_par hc hN hi hj hij hx hy (pa_cons ha (pa_cons (pe_ex hb) pa_nil h2) h1) hw hs) (pss_ex fun p : List α1 × α2 => hr p.1 p.2)) fun D σ H _ ⟨S, g0, P, F, em, q⟩ => ⟨S, g0, _, F, em, fun xs g1 px p vs S1 H1 F1 x1 hp hv => by
    have G0 := F1.add hp (o := .lst vs)
    have np : ∀ g, p ∉ owns σ (env g) := fun g z => by
      obtain ⟨_, o, e⟩ := F1.sl.own ((hE g g1).owns σ ▸ z)
      rw [hp] at e
      cases e
    refine ⟨_, S1, g1, _, G0.here, px, fun w g2 pw v2 S2 H2 F2 x2 hv2 => ⟨.ref p, v2, rfl, (xs, w), S2, g2, P, ?_, pw, fun o g9 po => (q o g9 po).mono (x1.trans x2)⟩⟩
    have hp2 : H2 p = some (.lst vs) := F2.e2 p _ upd_same (np g1)
    have sp2 : S2 p = none := F2.nw p (F1.e1.back hp) (by show upd H1 p (.lst vs) p ≠ none; rw [upd_same]; exact fun z => nomatch z)
    have G2 : Fr C S2 H2 σ (env g2) := G0.backG ((hE g2 g1).owns σ) F2
    have G3 := (G2.del sp2 (F1.H0none hp) (np g2)).setOw i (r := r1) (p := p) (vs := vs) (xs := xs) (by unfold Rt.del; simp) (hv.mono fun _ _ z => r1.mono x2 z)
    rw [upd_del hp2] at G3
    exact G3.setIm j hv2⟩
theorem xe_gintE {x : Str} {i : Int} (hg : Gl X x) (hm : ∃ t, X.mg x = some (.int i t)) (hd : (x == ("__debug__" : Str)) = false := by decide) : PE X (.Name x pos) (tE C env qI (.ret i)) :=
  let ⟨_, h⟩ := hm
  xe_gint hg h hd
end
/-! ### defs that give a new list -/
theorem del_ne {H : Hp} {p b : Addr} (h : b ≠ p) : del H p b = H b := by
  unfold del
  rw [if_neg h]
theorem del_same {H : Hp} {p : Addr} : del H p p = none := by
  unfold del
  simp
theorem Ex.del {S S' : Hp} (p : Addr) (e : Ex S S') : Ex (Rt.del S p) (Rt.del S' p) := fun b u h => by
  by_cases z : b = p
  · rw [z, del_same] at h
    cases h
  · rw [del_ne z] at h ⊢
    exact e b u h
theorem Ex.toDel {S S' : Hp} {p : Addr} (e : Ex S S') (h : S p = none) : Ex S (Rt.del S' p) := fun b u hb => by
  have z : b ≠ p := fun z => by
    rw [z, h] at hb
    cases hb
  rw [del_ne z]
  exact e b u hb
theorem del_upd {S : Hp} {p : Addr} {o : HO} (h : S p = none) : del (upd S p o) p = S := by
  funext b
  by_cases z : b = p
  · rw [z, del_same, h]
  · rw [del_ne z, upd_ne z]
/-- a list that is new behind C -/
def qNew (C : Cs) {α : Type} (r : Rp α) : Rp (List α) := ⟨fun S v xs => ∃ p vs, v = .ref p ∧ S p = some (.lst vs) ∧ C.S0 p = none ∧ C.H0 p = none ∧ All2 (r.p (Rt.del S p)) vs xs, fun e ⟨p, vs, h1, h2, h3, h4, h5⟩ => ⟨p, vs, h1, e _ _ h2, h3, h4, h5.mono fun _ _ z => r.mono (e.del p) z⟩⟩
def SpN {α β : Type} (ra : Ra α) (r : Rp β) (f : α → Option (List β)) : Sp := fun vs H Q _ => ∃ S a o, Ex S H ∧ Tc S H ∧ ra.p S vs a ∧ f a = some o ∧
  ∀ p us S' H', Ex S S' → Ex S' H' → Ex H H' → (∀ b, S b = none → H b ≠ none → S' b = none) → Tc S' H' → H' p = none → All2 (r.p S') us o → Q (.ref p) (upd H' p (.lst us))
section
variable {X : Cx} {C : Cs} {env kp : Gh → List Sl} {e a b : Expr} {es : List Expr} {A B rest : List Stmt} {pos p : Pos} {α β γ δ : Type} {re : Rp δ} {pn : β → Gh → List Sl} {pl : γ → Gh → List Sl} {ra : Ra α}
theorem xs_retN {m : W (List δ)} (h : PE X e (tN C env re m)) (hk : Kp env kp := by first | exact ⟨0, fun _ => rfl⟩ | exact ⟨1, fun _ => rfl⟩) : PSs X (.Return (some e) pos :: rest) (tF C env (m.bind fun x => .ret (.rt x)) pn pl kp (qNew C re)) := pss_imp (pss_cons (ps_ret h) pss_never) fun D σ H _ ⟨S, g0, P, F, em, q⟩ =>
  ⟨S, g0, _, F, em, fun x g1 px p vs S1 H1 F1 x1 hp ha => by
    obtain ⟨σ', F'⟩ := (F1.new (o := .lst vs) hp).kp hk
    have sp : S1 p = none := F1.e1.back hp
    exact q _ _ px (.ref p) _ _ σ' F' (x1.trans (Ex.new sp)) ⟨p, vs, rfl, upd_same, F1.e0.back sp, F1.H0none hp, by rw [del_upd sp]; exact ha⟩⟩
theorem body_ofL {body : List Stmt} {N : List Str} {f : α → Option (List δ)} {env : α → List Sl} {m : α → W (Fl (List δ) β γ)} {vs : List V} {H : Hp} {Q : VK} {E : XK} (h : SpN ra re f vs H Q E) (hg : ∀ a, ofO (f a) = rtOf (m a))
    (hs : ∀ S H a, ra.p S vs a → SlAll S H (start N vs) (env a) ∧ owns (start N vs) (env a) = []) (hb : ∀ (C : Cs) (a : α), C.A0 = [] → PSs X body (tF C (fun _ => env a) (m a) pn pl kp (qNew C re))) :
    ∃ t, PSs X body t ∧ t { nx := fun _ H' => Q .non H', rt := Q } (start N vs) H := by
  obtain ⟨S, a, o, e, t, hv, eo, k⟩ := h
  obtain ⟨s1, s2⟩ := hs S H a hv
  have hm : rtOf (m a) [] (fun x _ => x = o) := by
    rw [← hg a]
    exact ⟨o, eo, rfl⟩
  refine ⟨_, hb ⟨[], S, H⟩ a rfl, S, [], _, Fr.entry e t s1 s2, hm, fun w g' pw => ?_⟩
  cases w with
  | rt x =>
    have pw : x = o := pw
    subst pw
    rintro v S' H' σ' F _ ⟨p, us, ev, sp, s0, h0, ha⟩
    subst ev
    have := k p us (Rt.del S' p) (Rt.del H' p) (F.e0.toDel s0) (F.e1.del p) (Ex.toDel (fun b u e => F.e2 b u e (by simp)) h0) (fun b z1 z2 => by
      by_cases z : b = p
      · rw [z]
        exact del_same
      · rw [del_ne z]
        exact F.nw b z1 z2) (F.tc.del2 p) del_same ha
    rw [upd_del (F.e1 _ _ sp)] at this
    exact this
  | nx _ => exact pw.elim
  | br _ => exact pw.elim
  | ct _ => exact pw.elim
theorem xe_callL {π : Around → Prop} {f : α → Option (List δ)} {m : W α} {j k : Nat} {ps : List Str} {x : Str} (h : Has X.prog X.w X.K X.mg X.base π x j ps (SpN ra re f)) (hpi : π X.A) (hr : Room k X.A) (hj : j ≤ k) (hg : Gl X x)
    (ha : PA X (e :: es) (tA C env ra m)) (hdb : (x == ("__debug__" : Str)) = false := by decide) (he : starEach (e :: es) X.env = (false, eval e X.env) :: starEach es X.env := by rfl) (hpl : (backTo pos (starEach es X.env)).any (·.1) = false := by rfl) :
    PE X (.Call (.Name x p) (e :: es) [] pos) (tN C env re (m.bind fun a => ofO (f a))) := by
  obtain ⟨fa, fd, F, hm, hk, hb⟩ := h
  exact pe_imp (pe_callP F hpi (hr.mono hj) hg hm hk hb .nil pass0 ha hdb he hpl) fun σ H Q _ ⟨S, g0, P, Fr1, em, q⟩ => ⟨S, g0, _, Fr1, em, fun a g1 ⟨o, eo, po⟩ vs S1 H1 F1 x1 hv => by
    show SpN ra re f (vs ++ []) H1 _ E0
    rw [List.append_nil]
    exact ⟨S1, a, o, F1.e1, F1.tc, hv, eo, fun p us S' H' eS eH eHH n t hp ha _ => q o g1 po p us S' H' (F1.call eS eH eHH n t) (x1.trans eS) hp ha⟩⟩
end
section
variable {P : Program} {w : World} {K : PySem.W.Frag} {mg : Str → Option Value} {base : Heap} {α β γ δ : Type} {re : Rp δ} {p : Pr α} {N ps : List Str} {k : Nat} {st : Stmt} {x qual : Str} {f : Addr} {fd : FuncData}
theorem fn_okL {π : Around → Prop} {g : α → Option (List δ)} {env : α → List Sl} {m : α → W (Fl (List δ) β γ)} {pn : β → Gh → List Sl} {pl : γ → Gh → List Sl} (j : Nat) (sπ : Stb π) (F : Fun K x qual st f fd) (S : FnScope N ps (defScope st)) (hn : p.n = ps.length) (hN : N.length = ps.length + j) (he : ∀ a, env a = p.sl a ++ List.replicate j .un)
    (hb : ∀ (cdv : Value) (A : Around) (outer : List Env) (s : Shared) (H : Hp) (E : XK), π (A.deeper (PyProof.Rows.envOfC qual (defScope st) s.heap.objs.size f cdv)) → Room k (A.deeper (PyProof.Rows.envOfC qual (defScope st) s.heap.objs.size f cdv)) → ∀ (C : Cs) (a : α), C.A0 = [] → PSs (cxOf CX0 P w K mg base N qual (defScope st) f cdv A outer s H E).nox (defBody st) (tF C (fun _ => env a) (m a) pn pl (fun _ => []) (qNew C re)))
    (hg : ∀ a, ofO (g a) = rtOf (m a)) : FnP π P w K mg base CX0 (k + 1) f fd ps (SpN p.ra re g) := by
  refine funP_ok sπ F S (fun vs H Q E h => ?_) (fun cdv A outer s H vs Q E hp hr h => ?_)
  · obtain ⟨_, _, _, _, _, hv, _⟩ := h
    rw [(p.ok (H := H) hv).2.2, hn]
  · exact body_ofL (E := E) h hg (fun S H a hv => by rw [he a]; exact p.start (by rw [hN, hn]) hv) (hb cdv A outer s H E hp hr)
end

/-! ### defs within which a shared object is made -/
def SpW {α ρ : Type} (ra : Ra α) (r : Rp ρ) (f : α → W ρ) : Sp := fun vs H Q _ => ∃ S a P, Ex S H ∧ Tc S H ∧ ra.p S vs a ∧ f a [] P ∧ ∀ o g, P o g → Post S H r o Q
section
variable {P : Program} {w : World} {K : PySem.W.Frag} {mg : Str → Option Value} {base : Heap} {α β γ ρ : Type} {r : Rp ρ} {p : Pr α} {N ps : List Str} {k : Nat} {st : Stmt} {x qual : Str} {f : Addr} {fd : FuncData}
theorem fn_okW {π : Around → Prop} {g : α → W ρ} {env : α → List Sl} {m : α → W (Fl ρ β γ)} {pn : β → Gh → List Sl} {pl : γ → Gh → List Sl} (j : Nat) (sπ : Stb π) (F : Fun K x qual st f fd) (S : FnScope N ps (defScope st)) (hn : p.n = ps.length) (hN : N.length = ps.length + j) (he : ∀ a, env a = p.sl a ++ List.replicate j .un)
    (hb : ∀ (cdv : Value) (A : Around) (outer : List Env) (s : Shared) (H : Hp) (E : XK), π (A.deeper (PyProof.Rows.envOfC qual (defScope st) s.heap.objs.size f cdv)) → Room k (A.deeper (PyProof.Rows.envOfC qual (defScope st) s.heap.objs.size f cdv)) → ∀ (C : Cs) (a : α), C.A0 = [] → PSs (cxOf CX0 P w K mg base N qual (defScope st) f cdv A outer s H E).nox (defBody st) (tF C (fun _ => env a) (m a) pn pl (fun _ => []) r))
    (hg : ∀ a, g a = rtOf (m a)) : FnP π P w K mg base CX0 (k + 1) f fd ps (SpW p.ra r g) := by
  refine funP_ok sπ F S (fun vs H Q E h => ?_) (fun cdv A outer s H vs Q E hp hr h => ?_)
  · obtain ⟨_, _, _, _, _, hv, _⟩ := h
    rw [(p.ok (H := H) hv).2.2, hn]
  · obtain ⟨S, a, P', e, t, hv, eo, kk⟩ := h
    obtain ⟨s1, s2⟩ := p.start (N := N) (j := j) (by rw [hN, hn]) (H := H) hv
    rw [hg a] at eo
    refine ⟨_, hb cdv A outer s H E hp hr ⟨[], S, H⟩ a rfl, S, [], _, Fr.entry e t (by rw [he a]; exact s1) (by rw [he a]; exact s2), eo, fun w g' pw => ?_⟩
    cases w with
    | rt x => exact fun v S' H' σ' F _ hv => F.post (kk _ _ pw) hv
    | nx _ => exact pw.elim
    | br _ => exact pw.elim
    | ct _ => exact pw.elim
end

section
variable {X : Cx} {C : Cs} {env kp : Gh → List Sl} {A : List Stmt} {α β γ ρ : Type} {r : Rp ρ} {re : Rp α} {pn : β → Gh → List Sl} {pl : γ → Gh → List Sl}
/-- a list of the def's own changes no more, the shared object stands by -/
theorem xs_frzD (i : Nat) {d : Addr} {xs : List α} {m : W (Fl ρ β γ)} (hA : C.A0 = [d]) (hr : PSs X A (tF C (fun g => (env g).set i (.im (qL re) xs)) m pn pl kp r)) (hi : ∀ g, (env g)[i]? = some (.ow re xs) := by intro _; rfl) (h0 : ∀ g, (env g)[0]? = some (.iv d (oD g)) := by intro _; rfl) (hne : i ≠ 0 := by decide) : PSs X A (tF C env m pn pl kp r) :=
  pss_imp hr fun D σ H _ ⟨S, g0, P, F, em, q⟩ => by
    obtain ⟨s0, _, _⟩ := F.iv (h0 g0)
    obtain ⟨S', x1, F1⟩ := F.freeze (hi _) fun p hp z => by
      rw [hA] at z
      have z : p = d := by simpa using z
      subst z
      exact hne (owns_inj F.nd (hi g0) hp rfl (h0 g0) s0 rfl)
    exact ⟨S', g0, P, F1, em, fun o g9 po => (q o g9 po).mono x1⟩
end

/-! ### lists of data as data -/
theorem dpAllD {K : PySem.W.Frag} {H : Hp} : ∀ {vs : List V} {xs : List PyData}, All2 ((qD K).p H) vs xs → DpAll K H vs xs
  | [], [], _ => .nil
  | v :: vs, x :: xs, ⟨a, b⟩ => .cons a (dpAllD b)
  | [], _ :: _, z => z.elim
  | _ :: _, [], z => z.elim
section
variable {X : Cx} {C : Cs} {env : Gh → List Sl} {e : Expr} {m : W (List PyData)}
theorem xe_dataL (h : PE X e (tE C env (qL (qD X.K)) m)) : PE X e (tE C env (qD X.K) (m.bind fun xs => .ret (PyData.list xs))) :=
  xe_as (r := qL (qD X.K)) (rb := qD X.K) (f := PyData.list) (fun H v a ⟨p, vs, ev, hp, ha⟩ => by rw [ev]; exact .lst (SqL.of hp) (dpAllD ha)) h
theorem xe_dataT (h : PE X e (tE C env (qT (qD X.K)) m)) : PE X e (tE C env (qD X.K) (m.bind fun xs => .ret (PyData.tuple xs))) :=
  xe_as (r := qT (qD X.K)) (rb := qD X.K) (f := PyData.tuple) (fun H v a ⟨p, vs, ev, hp, ha⟩ => by rw [ev]; exact .tup (TupAt.sq hp) (dpAllD ha)) h
end
theorem units65 {k : Nat} {A : Around} (r : Room k A) : A.units + 65 < cLine := by
  have := r.un
  omega
end Rt

set_option maxRecDepth 100000
set_option maxHeartbeats 4000000
/-! Rt8: sorted(a tuple of ints). -/
namespace Rt
open PySem L2 PyProof.Rows
section
variable {prog : Program} {w : World} {A : Around} {E : Value → Shared → Prop} {s : Shared}
/-- the heap behind which a tuple's items stand in a list of their own -/
def gath (h : Heap) (its : List Value) : Heap := (h.push (seqObj "list" #[] 0)).update h.objs.size (Obj.mapSeq (· ++ its.toArray))
theorem gather {t : Addr} {its : List Value} {R : List Value → Shared → Prop} (ht : s.heap.IsTuple t its.toArray) (hn : its.length ≤ sizeLine) (k : R its { s with heap := gath s.heap its }) : wpAny (model prog w) A (collect (.ref t)) R E s := by
  obtain ⟨u, hu, cu, m, du⟩ := id ht
  unfold collect
  apply wpAny_bind
  apply wpAny_runValue
  apply codeAny_builtin entry_proto_collect'
  show wpAny _ _ (do
    again (.builtin "list.__iadd__" ⟨[← newList [], .ref t], []⟩)) _ _ s
  apply wpAny_bind
  refine wpAny_newList ?_
  apply wpAny_pure
  refine ⟨Code.quiet_builtin _ (by decide +kernel), codeAny_builtin entry_list_iadd' ?_⟩
  have hu1 : (s.heap.push (seqObj "list" #[] 0)).get? t = some u := Heap.get?_push_of_some _ hu
  have hL : (s.heap.push (seqObj "list" #[] 0)).get? s.heap.objs.size = some (seqObj "list" #[] 0) := Heap.get?_push_size _ rfl
  show wpAny _ _ (Builtin.List.listExtendWith (.ref s.heap.objs.size) (.ref t) (.ref s.heap.objs.size)) _ _ { s with
    heap := s.heap.push (seqObj "list" #[] 0) }
  unfold Builtin.List.listExtendWith
  apply wpAny_bind
  refine wpAny_typeOf (T := "tuple") ?_ ?_
  · exact ⟨u, hu1, cu⟩
  have e1 : (Value.type "tuple" == Value.type "tuple") = true := rfl
  rw [if_pos (by rw [e1, Bool.or_true])]
  apply wpAny_bind
  apply listItems_at hu1 du
  apply wpAny_bind
  apply listItems_at (xs := #[]) (n := 0) hL rfl
  rw [if_neg (by simp)]
  apply wpAny_bind
  refine listUpdate_at (xs := #[]) (n := 0) hL rfl ?_ (Nat.zero_le _) (by
    show (#[] ++ its.toArray).size ≤ sizeLine + 1
    rw [Array.size_append, List.size_toArray]
    show 0 + its.length ≤ sizeLine + 1
    omega)
  apply wpAny_pure
  show wpAny (model prog w) A (do
    let x ← load s.heap.objs.size
    match x.data with
    | .seq ys _ => pure ys.toList
    | _ => unsupported "internal:collect") R E { s with heap := gath s.heap its }
  apply wpAny_bind
  refine wpAny_load (get?_update_seq hL _) ?_
  show wpAny _ _ (pure ((#[] : Array Value) ++ its.toArray).toList) R E _
  rw [Array.toList_append, List.toList_toArray]
  exact wpAny_pure k
theorem sortedT_ord {t : Addr} {its : List Value} {lt : Value → Value → Bool} {R : Value → Shared → Prop} (O : SrtO.Swo lt) (ht : s.heap.IsTuple t its.toArray) (hn : its.length ≤ sizeLine)
    (hS : 2 ≤ its.length → ∀ (h1 : Heap) (a : Addr), SrtO.SortableO prog w A.in1.in1 { s with heap := h1 } a its lt)
    (k : ∀ out : List Value, SrtO.Srtd lt out → SrtO.Stb lt out its → R (.ref (s.heap.objs.size + 1)) { s with heap := sortedAll s.heap its out.toArray }) :
    wpAny (model prog w) A (call (.builtin "sorted") [.ref t]) R E s := by
  apply Calls.call_function_entry kind_sorted plain_sorted entry_sorted (args_sorted1 _)
  unfold Builtin.«sorted»
  refine wpAny_bind (m := checkCount "sorted" 1 1 _) (wpAny_pure ?_)
  apply wpAny_bind
  refine gather ht hn ?_
  apply wpAny_bind
  refine wpAny_newList ?_ hn
  have z : (gath s.heap its).objs.size = s.heap.objs.size + 1 := by
    unfold gath
    rw [Heap.size_update, size_push']
  have hq : ((gath s.heap its).push (seqObj "list" its.toArray 0)).get? (s.heap.objs.size + 1) = some (seqObj "list" its.toArray 0) := by
    rw [← z]
    exact Heap.get?_push_size _ rfl
  show wpAny _ _ _ _ _ { s with heap := (gath s.heap its).push (seqObj "list" its.toArray 0) }
  rw [z]
  apply wpAny_bind
  apply wpAny_holding
  refine wpAny_call_entry slot_list_sort ⟨_, hq, rfl⟩ entry_list_sort ?_ (args_list_sort _)
  refine SrtO.list_sort_ord O hq hn (fun h2 => hS h2 _ _) fun out hs hb => ?_
  exact ⟨_, rfl, wpAny_pure ⟨_, rfl, k out hs hb⟩⟩
end
section
variable {X : Cx} {C : Cs} {env : Gh → List Sl} {a : Expr} {pos p : Pos}
def rSortTI (K : PySem.W.Frag) : List V → Hp → VK → Prop := fun vs H Q => ∃ (a : Addr) (ns : List Int), vs = [V.ref a] ∧ SqT K H a (ns.map V.int) ∧ ∀ (p : Addr), H p = none → Q (.ref p) (upd H p (.lst ((sortI ns).map V.int)))
theorem cr_sortTI : CallR X (.builtin "sorted") (rSortTI X.K) := by
  intro pins s σ H vs us Q I r h
  obtain ⟨a, ns, rfl, hs, q⟩ := h
  obtain ⟨its, rv, hl, hz⟩ := I.tuple hs
  rw [Vals.ref1 r]
  have hi := rv.ints
  have hn : its.length ≤ sizeLine := by
    rw [← rv.length]
    exact hz
  refine sortedT_ord SrtO.swo_int (show s.heap.IsTuple a its.toArray from hl) hn (fun h2 _ _ => SrtO.ints_sortable hi h2) fun out h1 h2 => ?_
  obtain ⟨k1, k2, k3⟩ := SrtO.ints_out hi h1 h2
  have e : out.map SrtO.iv = sortI ns := sorted_unique (k2.trans (sortI_perm ns).symm) k3 (sortI_sorted ns)
  rw [e] at k1
  obtain ⟨ep, he⟩ := sortedAll_at s.heap its out.toArray
  have hlen : ((sortI ns).map V.int).length ≤ sizeLine := by
    rw [List.length_map, (sortI_perm ns).length_eq]
    rw [List.length_map] at hz
    exact hz
  refine ⟨.ref _, upd H (s.heap.objs.size + 1) (.lst ((sortI ns).map V.int)), ?_, rfl, q _ (I.hok.fresh (Nat.le_succ _))⟩
  exact I.laid (t' := s.toks) (fun _ _ => sortedAll_old) (Nat.le_succ _) ⟨hlen, out, ep, vals_of_ints k1, he⟩
theorem xn_sortedT {mx : W (List Int)} (hg : Gl X "sorted") (hm : X.mg "sorted" = none) (ha : PE X a (tQ C env false qI mx)) (hs : starEach [a] X.env = (false, eval a X.env) :: starEach [] X.env := by rfl) :
    PE X (.Call (.Name "sorted" p) [a] [] pos) (tN C env qI (mx.bind fun xs => .ret (sortI xs))) :=
  pe_imp (pe_callB cr_sortTI hg hm (by decide +kernel) (pa_cons ha pa_nil hs) (by decide) (by decide) hs (by rfl)) fun σ H Q _ ⟨S, g0, P, F, em, kk⟩ => ⟨S, g0, _, F, em, fun xs g1 px p S1 H1 F1 x1 rd => by
    obtain ⟨vs, hp, h2⟩ := rd _ S1 H1 F1 (Ex.refl S1)
    exact ⟨p, xs, rfl, by rw [← flat_ints h2]; exact TupAt.sq hp, fun l hl _ => kk _ _ px l _ S1 H1 F1 x1 hl (All2.of_map _)⟩⟩
end

/-! ### the script: a list of ints that nobody changes, laid before the law begins -/
def qX (K : PySem.W.Frag) : Rp (List Int) := ⟨fun H v xs => ∃ p, v = .ref p ∧ SqL K H p (xs.map V.int), fun e ⟨p, h1, h2⟩ => ⟨p, h1, by
  rcases h2 with (h2 | ⟨o, h2⟩) | h2
  · exact .inl (.inl (e _ _ h2))
  · exact .inl (.inr ⟨o, e _ _ h2⟩)
  · exact .inr h2⟩⟩
section
variable {X : Cx} {C : Cs} {env : Gh → List Sl} {a b : Expr} {pos p : Pos}
theorem xe_lenX {mx : W (List Int)} (hg : Gl X "len") (hm : X.mg "len" = none) (ha : PE X a (tE C env (qX X.K) mx)) (hs : starEach [a] X.env = (false, eval a X.env) :: starEach [] X.env := by rfl) :
    PE X (.Call (.Name "len" p) [a] [] pos) (tE C env qI (mx.bind fun xs => .ret (xs.length : Int))) :=
  pe_imp (pe_callB call_len_seq hg hm PySem.boot_len (pa_cons ha pa_nil hs) (by decide) (by decide) hs (by rfl)) fun σ H Q _ ⟨S, g0, P, F, em, k⟩ => ⟨S, g0, _, F, em, fun xs g1 px v S1 H1 F1 x1 hv => by
    obtain ⟨p, ev, h2⟩ := (qX X.K).mono F1.e1 hv
    exact ⟨p, _, by rw [ev], .inl h2, fun _ => k _ _ px _ S1 H1 F1 x1 (by rw [List.length_map]; rfl)⟩⟩
theorem xe_ixX {mx : W (List Int)} {mi : W Int} (ha : PE X a (tE C env (qX X.K) mx)) (hb : PE X b (tE C env qI mi)) (hs : PlainIx b := by intro _ _; rfl) : PE X (.Subscript a b pos) (tE C env qI (mx.bind fun xs => mi.bind fun i => ofO (L2.atI xs i))) :=
  pe_imp (pe_ix ix_list ha hb hs) fun σ H Q _ ⟨S, g0, P, F, em, k⟩ => ⟨S, g0, _, F, em, fun xs g1 hx v S1 H1 F1 x1 hv => ⟨S1, g1, _, F1, hx, fun i g2 ⟨z, ez, pz⟩ y S2 H2 F2 x2 hy => by
    have hy : y = .int i := hy
    subst hy
    obtain ⟨p, ev, h2⟩ := (qX X.K).mono (x2.trans F2.e1) hv
    obtain ⟨u, eu, hu⟩ := (All2.of_map (f := V.int) xs).atI ez
    exact ⟨p, _, i, u, ev, rfl, h2, eu, fun _ => k _ _ pz u S2 H2 F2 (x1.trans x2) hu⟩⟩⟩
end

/-! ### the law -/
/-- a def that the text has written -/
def Dfn (K : PySem.W.Frag) (x : Str) (st : Stmt) (f : Addr) : Prop := ∃ fd, Fun K x x st f fd
theorem law_end {K : PySem.W.Frag} {m : List Int × Unit → W Bool} (hm : ∀ ns : List Int, ns.length ≤ 63 → m (ns, ()) [] (fun b _ => b = true)) (H : Hp) (a : Addr) (ns : List Int) (hl : ns.length ≤ 63) (hS : SqL K H a (ns.map V.int)) :
    SpW (pC (qX K) p0).ra qB m [.ref a] H (fun v _ => v = .bl true) fun _ _ _ => False :=
  ⟨H, (ns, ()), _, Ex.refl H, (fun b vs e z => by rw [e] at z; cases z), ⟨.ref a, [], rfl, ⟨a, rfl, hS⟩, rfl⟩, hm ns hl, fun o g ho v S' H' _ _ _ _ _ hv => by
    have hv : v = .bl o := hv
    rw [hv, ho]⟩
end Rt

set_option maxRecDepth 100000
set_option maxHeartbeats 4000000
/-! RtS: sorted(a list of tuples of ints), of any length. -/
namespace Rt
open PySem L2 PyProof.Rows
section
variable {prog : Program} {w : World} {A : Around} {s : Shared}
theorem kat_ints : ∀ {vs ws : List Value} {ns ms : List Int} (i : Nat) {fin : Bool}, IntsAre vs ns → IntsAre ws ms → fin = decide (ns.length < ms.length) → PySem.W.KatLex prog w A true fin (fun r s' => s' = s ∧ r = HT.lexLt ns ms) (vs.zip ws) i s
  | _, _, _, _, i, fin, .nil, .nil, hf => by
    rw [List.zip_nil_left]
    refine PySem.W.kat_nil ⟨rfl, ?_⟩
    rw [hf, HT.lexLt_nil_nil]
    rfl
  | _, _, _, _, i, fin, .nil, .cons y u t, hf => by
    rw [List.zip_nil_left]
    refine PySem.W.kat_nil ⟨rfl, ?_⟩
    rw [hf, HT.lexLt_nil_cons]
    simp
  | _, _, _, _, i, fin, .cons x u t, .nil, hf => by
    rw [List.zip_nil_right]
    refine PySem.W.kat_nil ⟨rfl, ?_⟩
    rw [hf, HT.lexLt_cons_nil]
    simp
  | _, _, _, _, i, fin, .cons x u t, .cons y v t', hf => by
    rw [List.zip_cons_cons, HT.lexLt_cons]
    refine PySem.W.kat_cons (SeqAt.EqAt.int_int x u y v prog w _ _ ?_)
    refine PySem.W.kat_go (fun e1 => ?_) (fun e1 => ?_)
    · have ex : x = y := by simpa using e1
      rw [if_pos ex]
      refine PySem.W.kat_yes (kat_ints (i + 1) t t' ?_)
      rw [hf]
      simp
    · have ex : ¬ x = y := by simpa using e1
      rw [if_neg ex]
      refine PySem.W.kat_no ?_
      cases i with
      | zero => exact oneLt_int ⟨rfl, rfl⟩
      | succ i => exact PySem.W.kat_one _ _ (PyProof.Rows.lt_int ⟨rfl, rfl⟩)
theorem tups_cmp {vs : List Value} {k : Value → List Int} (hp : ∀ v ∈ vs, TS.TupInts s.heap v (k v)) : SrtO.Cmp prog w A s (tuples' true) (fun p => p.1 ∈ vs) (SrtO.lt2 fun v u => HT.lexLt (k v) (k u)) := by
  intro p q hm hm'
  have h1 := hp _ hm
  have h2 := hp _ hm'
  show wpAny (model prog w) A (keyLt' (tuples' true) p.1 q.1) (fun r s' => s' = s ∧ r = HT.lexLt (k p.1) (k q.1)) (fun _ _ => False) s
  generalize k p.1 = ns at h1 ⊢
  generalize k q.1 = ms at h2 ⊢
  obtain ⟨a, its, e, ⟨o, ho, hc, n, hd⟩, hi⟩ := h1
  obtain ⟨a', its', e', ⟨o', ho', hc', n', hd'⟩, hi'⟩ := h2
  rw [e, e']
  refine PySem.W.kat_lt ho hd ho' hd' (kat_ints 0 hi hi' ?_)
  rw [← hi.length, ← hi'.length]
  simp
theorem katTups_of : ∀ {vs : List Value} {k : Value → List Int}, (∀ v ∈ vs, TS.TupInts s.heap v (k v) ∧ k v ≠ []) → ∃ fs, PySem.W.KatTups s.heap vs fs ∧ fs.length = vs.length ∧ ∀ f ∈ fs, ∃ (x : Int) (t : Tok), f = Value.int x t
  | [], k, _ => ⟨[], PySem.W.KatTups.nil, rfl, fun f hf => absurd hf (by simp)⟩
  | v :: vs, k, h => by
    obtain ⟨fs, h1, h2, h3⟩ := katTups_of (vs := vs) fun u hu => h u (List.mem_cons_of_mem _ hu)
    obtain ⟨⟨a, its, e, ⟨o, ho, hc, n, hd⟩, hi⟩, hne⟩ := h v List.mem_cons_self
    subst e
    obtain ⟨x, t, hx⟩ : ∃ x t, its[0]? = some (Value.int x t) := by
      generalize hl : its.toList = l at hi
      generalize k (.ref a) = ns at hi hne
      cases hi with
      | nil => exact absurd rfl hne
      | cons x t _ =>
        refine ⟨x, t, ?_⟩
        rw [← Array.getElem?_toList, hl]
        rfl
    refine ⟨_ :: fs, PySem.W.KatTups.cons ho hc hd hx h1, by simp [h2], fun f hf => ?_⟩
    rcases List.mem_cons.mp hf with e | hf
    · exact ⟨x, t, e⟩
    · exact h3 f hf
theorem tups_sortableO {a : Addr} {vs : List Value} {k : Value → List Int} (h0 : 0 < vs.length) (hp : ∀ v ∈ vs, TS.TupInts s.heap v (k v) ∧ k v ≠ []) (ha : ∀ o, s.heap.get? a = some o → o.cls ≠ .type "tuple") : SrtO.SortableO prog w A s a vs fun v u => HT.lexLt (k v) (k u) := by
  intro h' keep
  have hp' : ∀ v ∈ vs, TS.TupInts h' v (k v) ∧ k v ≠ [] := fun v hm => ⟨(hp v hm).1.keeps fun b o e c => keep b o (fun z => by subst z; exact ha o e c) e, (hp v hm).2⟩
  obtain ⟨fs, h1, h2, h3⟩ := katTups_of (s := { s with heap := h' }) hp'
  refine ⟨tuples' true, fun Q E hq => ?_, tups_cmp (s := { s with heap := h' }) fun v hm => (hp' v hm).1⟩
  refine PySem.W.kat_kind (T := .type "int") h1 (by omega) (fun f hm => ?_) (by rfl) ?_
  · obtain ⟨x, t, rfl⟩ := h3 f hm
    exact PySem.W.Looks.now
  · have e : (Value.type "int" != Value.type "tuple") = true := by first | decide +kernel | rfl | decide
    rw [e]
    exact hq
theorem sorted_tupsO {l : Addr} {vs : List Value} {k : Value → List Int} {E : Value → Shared → Prop} {Q : Value → Shared → Prop} (hl : s.heap.IsList l vs.toArray) (hz : vs.length ≤ sizeLine) (hp : 2 ≤ vs.length → ∀ v ∈ vs, TS.TupInts s.heap v (k v) ∧ k v ≠ [])
    (h : ∀ out : List Value, SrtO.Srtd (fun v u => HT.lexLt (k v) (k u)) out → SrtO.Stb (fun v u => HT.lexLt (k v) (k u)) out vs → Q (.ref (s.heap.objs.size + 1)) { s with heap := sortedAll s.heap vs out.toArray }) :
    wpAny (model prog w) A (call (.builtin "sorted") [.ref l]) Q E s := by
  refine SrtO.sorted_ord (NtL.swo_lexL k) hl hz (fun h2 h₁ a ha kk => ?_) h
  refine tups_sortableO (s := { s with heap := h₁ }) (by omega) (fun v hm => ⟨(hp h2 v hm).1.keeps fun b o e _ => (kk b o e).2, (hp h2 v hm).2⟩) fun o e => ?_
  have e' : some o = some (seqObj "list" vs.toArray 0) := e.symm.trans ha
  cases e'
  intro c
  exact absurd (Value.type.inj c) (by decide)
end
/-! ### the data -/
def insX (x : List Int) : List (List Int) → List (List Int)
  | [] => [x]
  | y :: ys => if HT.lexLt y x = true then y :: insX x ys else x :: y :: ys
def sortX : List (List Int) → List (List Int)
  | [] => []
  | x :: xs => insX x (sortX xs)
theorem insX_perm (x : List Int) : ∀ ys, (insX x ys).Perm (x :: ys)
  | [] => .refl _
  | y :: ys => by
    unfold insX
    split
    · exact ((insX_perm x ys).cons y).trans (.swap x y ys)
    · exact .refl _
theorem sortX_perm : ∀ xs, (sortX xs).Perm xs
  | [] => .refl _
  | x :: xs => (insX_perm x (sortX xs)).trans ((sortX_perm xs).cons x)
def LeX (x y : List Int) : Prop := HT.lexLt y x = false
theorem LeX.trans {x y z : List Int} (a : LeX x y) (b : LeX y z) : LeX x z := NtL.lex_tr x y z a b
theorem lex_anti : ∀ {x y : List Int}, LeX x y → LeX y x → x = y
  | [], [], _, _ => rfl
  | [], y :: ys, h, h2 => by
    unfold LeX at h2
    rw [HT.lexLt_nil_cons] at h2
    cases h2
  | x :: xs, [], h, h2 => by
    unfold LeX at h
    rw [HT.lexLt_nil_cons] at h
    cases h
  | x :: xs, y :: ys, h, h2 => by
    unfold LeX at h h2
    rw [HT.lexLt_cons] at h h2
    by_cases e : x = y
    · subst e
      rw [if_pos rfl] at h h2
      rw [lex_anti (x := xs) (y := ys) h h2]
    · rw [if_neg e] at h2
      rw [if_neg (Ne.symm e)] at h
      have a := of_decide_eq_false h
      have b := of_decide_eq_false h2
      omega
theorem insX_sorted (x : List Int) : ∀ ys : List (List Int), ys.Pairwise LeX → (insX x ys).Pairwise LeX
  | [], _ => by simp [insX]
  | y :: ys, h => by
    unfold insX
    have h' := List.pairwise_cons.mp h
    split
    · rename_i hxy
      refine List.pairwise_cons.mpr ⟨fun z hz => ?_, insX_sorted x ys h'.2⟩
      rcases List.mem_cons.mp ((insX_perm x ys).mem_iff.mp hz) with e | hz
      · rw [e]
        exact NtL.lex_asym _ _ hxy
      · exact h'.1 z hz
    · rename_i hxy
      have hxy : LeX x y := by
        unfold LeX
        simpa using hxy
      refine List.pairwise_cons.mpr ⟨fun z hz => ?_, h⟩
      rcases List.mem_cons.mp hz with e | hz
      · rw [e]; exact hxy
      · exact hxy.trans (h'.1 z hz)
theorem sortX_sorted : ∀ xs : List (List Int), (sortX xs).Pairwise LeX
  | [] => .nil
  | x :: xs => insX_sorted x _ (sortX_sorted xs)
theorem sortedX_unique : ∀ {xs ys : List (List Int)}, xs.Perm ys → xs.Pairwise LeX → ys.Pairwise LeX → xs = ys
  | [], ys, h, _, _ => (List.Perm.nil_eq h)
  | x :: xs, [], h, _, _ => absurd h.length_eq (by simp)
  | x :: xs, y :: ys, h, h1, h2 => by
    have a1 := List.pairwise_cons.mp h1
    have a2 := List.pairwise_cons.mp h2
    have rf : ∀ z : List Int, LeX z z := fun z => by
      have := (NtL.swo_lexL (α := List Int) id).refl z
      exact this
    have e : x = y := by
      have m1 : x ∈ y :: ys := h.mem_iff.mp List.mem_cons_self
      have m2 : y ∈ x :: xs := h.mem_iff.mpr List.mem_cons_self
      have l1 : LeX y x := by
        rcases List.mem_cons.mp m1 with e | m
        · rw [e]; exact rf y
        · exact a2.1 x m
      have l2 : LeX x y := by
        rcases List.mem_cons.mp m2 with e | m
        · rw [e]; exact rf x
        · exact a1.1 y m
      exact lex_anti l2 l1
    subst e
    rw [sortedX_unique (List.Perm.cons_inv h) a1.2 a2.2]
theorem All2.memL {α β : Type} {R : α → β → Prop} : ∀ {as : List α} {bs : List β} {a : α}, All2 R as bs → a ∈ as → ∃ b, b ∈ bs ∧ R a b
  | a :: as, b :: bs, x, ⟨h, t⟩, m => by
    rcases List.mem_cons.mp m with e | m
    · exact ⟨b, List.mem_cons_self, e ▸ h⟩
    · obtain ⟨c, h1, h2⟩ := All2.memL t m
      exact ⟨c, List.mem_cons_of_mem _ h1, h2⟩
  | [], _, _, _, m => absurd m (by simp)
  | _ :: _, [], _, z, _ => z.elim
theorem All2.of_fn {α β : Type} {R : α → β → Prop} {f : α → β} : ∀ {as : List α}, (∀ a ∈ as, R a (f a)) → All2 R as (as.map f)
  | [], _ => True.intro
  | a :: as, h => ⟨h a List.mem_cons_self, All2.of_fn fun b hb => h b (List.mem_cons_of_mem _ hb)⟩
theorem All2.fn {α β : Type} {R : α → β → Prop} {f : α → β} (hf : ∀ a b, R a b → f a = b) : ∀ {as : List α} {bs : List β}, All2 R as bs → as.map f = bs
  | [], [], _ => rfl
  | a :: as, b :: bs, ⟨h, t⟩ => by rw [List.map_cons, hf a b h, All2.fn hf t]
  | [], _ :: _, z => z.elim
  | _ :: _, [], z => z.elim
def rSortTT (K : PySem.W.Frag) : List V → Hp → VK → Prop := fun vs H Q => ∃ (a : Addr) (xs : List V) (nss : List (List Int)) (R : V → List Int → Prop), vs = [V.ref a] ∧ SqL K H a xs ∧ All2 R xs nss ∧ (∀ x n, R x n → TupI K H x n) ∧ (2 ≤ nss.length → ∀ n ∈ nss, n ≠ []) ∧
  ∀ (ys : List V) (p : Addr), H p = none → All2 R ys (sortX nss) → Q (.ref p) (upd H p (.lst ys))
section
variable {X : Cx} {pins : List (Addr × Obj)} {σ : L2.St} {H : Hp} {s : Shared}
theorem bkv_back {t : Addr} : bkV (.ref t) = V.ref t := rfl
theorem cr_sortTT : CallR X (.builtin "sorted") (rSortTT X.K) := by
  intro pins s σ H vs us Q I r h
  obtain ⟨a, xs, nss, R, rfl, hs, hR, hT, hne, q⟩ := h
  obtain ⟨its, rv, hl, hz⟩ := I.list hs
  rw [Vals.ref1 r]
  obtain ⟨e1, e2⟩ := bkV_refs rv fun x m => by
    obtain ⟨n, _, h⟩ := hR.memL m
    obtain ⟨t, e, _⟩ := hT x n h
    exact ⟨t, e⟩
  -- what stands at an item
  have at_ : ∀ v ∈ its, ∃ n, n ∈ nss ∧ R (bkV v) n ∧ TS.TupInts s.heap v n := fun v hv => by
    obtain ⟨t, rfl⟩ := e2 v hv
    have hm : V.ref t ∈ xs := by
      rw [e1]
      exact List.mem_map.mpr ⟨_, hv, rfl⟩
    obtain ⟨n, hn, h⟩ := hR.memL hm
    obtain ⟨t', e, ht⟩ := hT _ n h
    cases e
    exact ⟨n, hn, h, tupI_raw I ht⟩
  have lens : its.length = nss.length := by rw [← rv.length, hR.length]
  have eN : its.map (TS.intsOf s.heap) = nss := by
    have e : xs.map (fun x => TS.intsOf s.heap (match x with | .ref t => .ref t | _ => .none)) = nss := All2.fn (fun x n h => by
      obtain ⟨t, rfl, ht⟩ := hT x n h
      exact (tupI_raw I ht).ints) hR
    rw [e1, List.map_map] at e
    rw [← e]
    refine List.map_congr_left fun v hv => ?_
    obtain ⟨t, rfl⟩ := e2 v hv
    rfl
  refine sorted_tupsO (k := TS.intsOf s.heap) hl.isList (by rw [← rv.length]; exact hz) (fun h2 v hv => ?_) fun out h1 h2 => ?_
  · obtain ⟨n, hn, _, ht⟩ := at_ v hv
    rw [ht.ints]
    exact ⟨ht, hne (by omega) n hn⟩
  · have hp := h2.perm
    have h3 : ∀ u ∈ out, ∃ a, u = Value.ref a := fun u hu => e2 u (hp.mem_iff.mp hu)
    obtain ⟨ep, he'⟩ := PyProof.Rows.sortedAll_at s.heap its out.toArray
    have eo : out.map (TS.intsOf s.heap) = sortX nss := by
      refine sortedX_unique ?_ (List.pairwise_map.mpr h1) (sortX_sorted _)
      have p1 := hp.map (TS.intsOf s.heap)
      rw [eN] at p1
      exact p1.trans (sortX_perm nss).symm
    have hlen : (out.map bkV).length ≤ sizeLine := by
      rw [List.length_map, hp.length_eq, ← rv.length]
      exact hz
    refine ⟨.ref _, upd H (s.heap.objs.size + 1) (.lst (out.map bkV)), I.laid (t' := s.toks) (fun _ _ => PyProof.Rows.sortedAll_old) (Nat.le_succ _) ⟨hlen, out, ep, bkV_vals h3, by simpa using he'⟩, rfl, q _ _ (I.hok.fresh (Nat.le_succ _)) ?_⟩
    rw [← eo]
    have key : ∀ l : List Value, (∀ u ∈ l, u ∈ its) → All2 R (l.map bkV) (l.map (TS.intsOf s.heap)) := by
      intro l
      induction l with
      | nil => intro _; exact True.intro
      | cons u l ih =>
        intro hu
        obtain ⟨n, _, hr, ht⟩ := at_ u (hu u List.mem_cons_self)
        refine ⟨?_, ih fun w hw => hu w (List.mem_cons_of_mem _ hw)⟩
        rw [ht.ints]
        exact hr
    exact key out fun u hu => hp.mem_iff.mp hu
end
def sortTT (xs : List (List Int)) : Option (List (List Int)) := if (xs.length < 2 || xs.all fun n => !n.isEmpty) = true then some (sortX xs) else none
section
variable {X : Cx} {C : Cs} {env : Gh → List Sl} {a : Expr} {pos p : Pos}
theorem tupI_of {K : PySem.W.Frag} {S H : Hp} {v : V} {n : List Int} (e : Ex S H) (h : (qT qI).p S v n) : TupI K H v n := by
  obtain ⟨t, vs, ev, hp, ha⟩ := h
  have : vs = n.map V.int := flat_ints ha
  subst this
  exact ⟨t, ev, TupAt.sq (TupAt.mono e hp)⟩
theorem xn_sortedTT {mx : W (List (List Int))} (hg : Gl X "sorted") (hm : X.mg "sorted" = none) (ha : PE X a (tQ C env true (qT qI) mx)) (hs : starEach [a] X.env = (false, eval a X.env) :: starEach [] X.env := by rfl) :
    PE X (.Call (.Name "sorted" p) [a] [] pos) (tN C env (qT qI) (mx.bind fun xs => ofO (sortTT xs))) :=
  pe_imp (pe_callB cr_sortTT hg hm (by decide +kernel) (pa_cons ha pa_nil hs) (by decide) (by decide) hs (by rfl)) fun σ H Q _ ⟨S, g0, P, F, em, kk⟩ => ⟨S, g0, _, F, em, fun xs g1 ⟨z, ez, pz⟩ p S1 H1 F1 x1 rd => by
    obtain ⟨vs, hp, h2⟩ := rd _ S1 H1 F1 (Ex.refl S1)
    unfold sortTT at ez
    split at ez
    · rename_i hc
      cases ez
      refine ⟨p, vs, xs, fun x n => (qT qI).p S1 x n, rfl, SqL.of hp, h2, fun x n h => tupI_of F1.e1 h, fun h n hn e => ?_, fun ys l hl hy _ => kk _ _ pz l ys S1 H1 F1 x1 hl hy⟩
      rw [Bool.or_eq_true] at hc
      rcases hc with hc | hc
      · have := of_decide_eq_true hc
        omega
      · have := List.all_eq_true.mp hc n hn
        rw [e] at this
        simp at this
    · cases ez⟩
end
end Rt

set_option maxRecDepth 100000
set_option maxHeartbeats 4000000
/-! RtM: lists by their places, ranges as lists, [x] * n, pop, t[::-1], sorted with reverse. -/
namespace HT
open PySem PyProof.Rows
section
variable {prog : Program} {w : World} {A : Around} {E : Value → Shared → Prop} {s : Shared}
theorem sliceApplied_rev {sl : Addr} {vl vu vs : Value} {n : Nat} {Q : Int × Int × Nat → Shared → Prop} (hs : s.heap.IsSliceOf sl vl vu vs) (pl : IsPart vl none) (pu : IsPart vu none) (ps : IsPart vs (some (-1)))
    (h : Q ((n : Int) - 1, -1, n) s) : wpAny (model prog w) A (Builtin.Slice.sliceApplied (.ref sl) (pure (n : Int))) Q E s := by
  obtain ⟨os, hos, hcs, hds⟩ := id hs
  unfold Builtin.Slice.sliceApplied Builtin.Slice.sliceFields
  refine wpAny_bind (wpAny_bind (wpAny_field hos hds (x := vl) rfl (wpAny_bind (wpAny_field hos hds (x := vu) rfl (wpAny_bind (wpAny_field hos hds (x := vs) rfl (wpAny_pure ?_)))))))
  refine wpAny_bind (slicePart_ ps ?_)
  show wpAny _ _ (if ((-1 : Int) == 0) = true then _ else _) _ _ s
  rw [if_neg (by decide)]
  refine wpAny_bind (slicePart_ pl (wpAny_bind (slicePart_ pu (wpAny_bind (wpAny_pure ?_)))))
  show wpAny _ _ (match Builtin.Slice.sliceAdjust none none (-1) (n : Int) with | (lo, hi) => pure (lo, (-1 : Int), Builtin.Slice.slicePlaces lo hi (-1))) _ _ s
  have e : Builtin.Slice.sliceAdjust none none (-1) (n : Int) = ((n : Int) - 1, -1) := by
    simp [Builtin.Slice.sliceAdjust]
  rw [e]
  show wpAny _ _ (pure ((n : Int) - 1, (-1 : Int), Builtin.Slice.slicePlaces ((n : Int) - 1) (-1) (-1))) _ _ s
  have e2 : Builtin.Slice.slicePlaces ((n : Int) - 1) (-1) (-1) = n := by
    unfold Builtin.Slice.slicePlaces
    simp
    try omega
  rw [e2]
  exact wpAny_pure h
end
end HT
namespace HT
open PySem PyProof.Rows
section
variable {prog : Program} {w : World} {A : Around} {E : Value → Shared → Prop} {s : Shared}
theorem filterMap_some {α β : Type} {f : α → Option β} {g : α → β} : ∀ {l : List α}, (∀ x ∈ l, f x = some (g x)) → l.filterMap f = l.map g
  | [], _ => rfl
  | x :: l, h => by
    rw [List.filterMap_cons, h x List.mem_cons_self, List.map_cons]
    exact congrArg _ (filterMap_some fun y hy => h y (List.mem_cons_of_mem _ hy))
theorem pick_rev (xs : Array Value) : ((List.range xs.size).filterMap fun (m : Nat) => xs[(((xs.size : Int) - 1) + (m : Int) * (-1)).toNat]?).toArray = xs.toList.reverse.toArray := by
  congr 1
  refine List.ext_getElem? fun i => ?_
  have e : (List.range xs.size).filterMap (fun (m : Nat) => xs[(((xs.size : Int) - 1) + (m : Int) * (-1)).toNat]?) = (List.range xs.size).map fun m => xs.toList.reverse.getD m .none := by
    refine filterMap_some fun m hm => ?_
    have hm := List.mem_range.mp hm
    have h1 : (((xs.size : Int) - 1) + (m : Int) * (-1)).toNat = xs.size - 1 - m := by omega
    have h2 : xs.size - 1 - m < xs.size := by omega
    rw [h1, Array.getElem?_eq_getElem h2]
    simp [List.getElem?_reverse, hm, h2]
  rw [e, List.getElem?_map]
  by_cases hi : i < xs.size
  · rw [List.getElem?_range hi]
    simp [hi]
  · have h1 : (List.range xs.size)[i]? = none := by simp; omega
    have h2 : xs.toList.reverse[i]? = none := by simp; omega
    rw [h1, h2]
    rfl
theorem getItem_tuple_rev {t sl : Addr} {items : Array Value} {vl vu vs : Value} {Q : Value → Shared → Prop} (ht : IsTup s.heap t items) (hs : s.heap.IsSliceOf sl vl vu vs) (pl : IsPart vl none) (pu : IsPart vu none) (ps : IsPart vs (some (-1)))
    (h : Q (.ref s.heap.objs.size) { s with heap := s.heap.push { cls := .type "tuple", data := .seq items.toList.reverse.toArray } })
    (hsz : items.size ≤ sizeLine) : wpAny (model prog w) A (getItem (.ref t) (.ref sl)) Q E s := by
  have htake : sizeOk (.seq items.toList.reverse.toArray) := by
    show items.toList.reverse.toArray.size ≤ sizeLine
    simpa using hsz
  obtain ⟨os, hos, hcs, hds⟩ := id hs
  have hTs : s.TypeIs (.ref sl) "slice" := ⟨os, hos, hcs⟩
  unfold getItem
  try with_reducible refine wpAny_holding ?_
  first | refine wpAny_bind (wpAny_pure ?_) | skip
  refine wpAny_bind (wpAny_sequenceKey ht.typeIs (by decide) ?_)
  refine wpAny_bind (wpAny_callSpecial?_slot (name := Str.ofString "__getitem__") ht.typeIs PyProof.Rows.slot_tuple_getitem
    (wpAny_call_entry PyProof.Rows.slot_tuple_getitem ht.typeIs entry_tuple_getitem ?_ (args_tuple_getitem _ _)))
  show wpAny _ _ (Builtin.Tuple.tupleItemsOf (.ref t) >>= _) _ _ s
  refine wpAny_bind (tupleItemsOf_ ht ?_)
  refine wpAny_bind (wpAny_typeOf hTs ?_)
  rw [if_pos (by decide)]
  refine wpAny_bind (sliceApplied_rev hs pl pu ps ?_)
  have hno : ¬ (((((items.size : Int) - 1) == 0) && (-1 : Int) == 1 && items.size == items.size) = true) := by simp
  show wpAny _ _ (if ((((items.size : Int) - 1) == 0) && (-1 : Int) == 1 && items.size == items.size) = true then _ else _) _ _ s
  rw [if_neg hno, pick_rev]
  first
    | exact wpAny_bind (m := Builtin.Tuple.tupleExact _) (wpAny_newObj_type (wpAny_pure ⟨_, rfl, wpAny_pure h⟩) htake)
    | exact wpAny_bind (m := Builtin.Tuple.tupleExact _) (wpAny_newObj_type (wpAny_bind (wpAny_pure (wpAny_pure ⟨_, rfl, wpAny_pure h⟩))) htake)
    | exact wpAny_bind (wpAny_bind (m := Builtin.Tuple.tupleExact _) (wpAny_newObj_type (wpAny_pure (wpAny_pure ⟨_, rfl, wpAny_pure h⟩)) htake))
    | exact wpAny_bind (wpAny_bind (m := Builtin.Tuple.tupleExact _) (wpAny_newObj_type (wpAny_pure ⟨_, rfl, wpAny_pure h⟩) htake))
end
end HT
namespace L2
open PySem PySem.Spec PyProof.Rows
section
variable {X : Cx}
def tRevT (K : PySem.W.Frag) (te : TE) : TE := fun σ H Q => te σ H fun x H1 => ∃ a xs, x = .ref a ∧ SqT K H1 a xs ∧ RtU.NewT Q H1 xs.reverse
theorem pe_revT {e : Expr} {te : TE} {k : Nat} {p1 p2 p3 pos : Pos} (he : PE X e te) : PE X (.Subscript e (.Slice none none (some (.UnaryOp .USub (.Constant (.int 1) k p1) p2)) p3) pos) (tRevT X.K te) := by
  refine ⟨fun pins s σ H Q I h => ?_⟩
  refine Subscript_ (thn (he.run pins s σ H _ I h) fun v s1 ⟨x, H1, I1, r1, q1⟩ => ?_)
  obtain ⟨a, xs, ex, hx, q⟩ := q1
  subst ex
  cases r1
  have hst : PO X (some (.UnaryOp .USub (.Constant (.int 1) k p1) p2)) (tPart (tUn (rU fun i => .int (-i)) (tC (.int 1)))) := po_some (pe_un un_neg pe_int)
  refine wpAny_Slice (thn (po_none.run pins s1 σ H1 (fun o H2 => o = none ∧ H2 = H1) I1 ⟨rfl, rfl⟩) fun vl s2 ⟨l, H2, I2, pl, el, e2⟩ => ?_)
  subst el e2
  refine thn (po_none.run pins s2 σ H2 (fun o H3 => o = none ∧ H3 = H2) I2 ⟨rfl, rfl⟩) fun vu s3 ⟨u, H3, I3, pu, eu, e3⟩ => ?_
  subst eu e3
  refine thn (hst.run pins s3 σ H3 (fun o H4 => o = some (-1) ∧ H4 = H3) I3 ⟨1, rfl, -1, rfl, rfl, rfl⟩) fun vs s4 ⟨o, H4, I4, ps, eo, e4⟩ => ?_
  subst eo e4
  have I5 : Inv X pins σ H4 { s4 with heap := s4.heap.push { cls := .type "slice", data := .fields #[vl, vu, vs] } } := I4.kept (t' := s4.toks) fun b ob q => Heap.get?_push_of_some _ q
  obtain ⟨its, r, ht, hz⟩ := I5.tuple hx
  have hlen := r.length
  show wpAny (model X.prog X.w) X.A (subscriptTail e (.Slice none none (some (.UnaryOp .USub (.Constant (.int 1) k p1) p2)) p3) (.ref a) (.ref s4.heap.objs.size)) (EP X pins σ Q) X.xe { s4 with heap := s4.heap.push { cls := .type "slice", data := .fields #[vl, vu, vs] } }
  refine tail_any (ops := [.ref a, .ref s4.heap.objs.size]) ht.typeIs (PyProof.Rows.slot_tuple_getitem.lookup) ?_ (by with_unfolding_all rfl)
  refine HT.getItem_tuple_rev ht (Heap.IsSliceOf.new _ vl vu vs) pl pu ps ?_ (by rw [List.size_toArray]; omega)
  have key : ∀ {xs : List V} {us : List Value}, Vals xs us → Vals xs.reverse us.reverse := by
    intro xs
    induction xs with
    | nil => intro us h; cases h; exact .nil
    | cons x xs ih => intro us h; cases h with | cons a b => rw [List.reverse_cons, List.reverse_cons]; exact (ih b).append (.cons a .nil)
  obtain ⟨I6, hf⟩ := RtU.laidU (s := s4) (n := 0) (h' := s4.heap.push { cls := .type "slice", data := .fields #[vl, vu, vs] }) (tk := s4.toks) I5 (key r) (by rw [List.length_reverse]; exact hz)
  exact ⟨.ref _, _, I6, rfl, q _ _ rfl hf⟩
end
end L2

set_option maxRecDepth 100000
set_option maxHeartbeats 4000000
/-! RtN: the same, as data. -/
namespace Rt
open PySem L2
section
variable {X : Cx} {C : Cs} {env kp : Gh → List Sl} {e a b c a2 b2 : Expr} {es : List Expr} {A B rest : List Stmt} {pos p px : Pos} {α β γ δ ρ : Type} {r : Rp ρ} {ra re : Rp α} {rb : Rp δ} {mi mj : W Int} {pn : β → Gh → List Sl} {pl : γ → Gh → List Sl} {i j : Nat}
/-- t[::-1] -/
theorem xe_revT {k : Nat} {p1 p2 p3 : Pos} {mx : W (List α)} (ha : PE X a (tE C env (qT ra) mx)) : PE X (.Subscript a (.Slice none none (some (.UnaryOp .USub (.Constant (.int 1) k p1) p2)) p3) pos) (tE C env (qT ra) (mx.bind fun xs => .ret xs.reverse)) :=
  pe_imp (pe_revT ha) fun σ H Q _ ⟨S, g0, P, F, em, kk⟩ => ⟨S, g0, _, F, em, fun xs g1 px v S1 H1 F1 x1 ⟨p, vs, ev, hp, h2⟩ => ⟨p, vs, ev, TupAt.sq (TupAt.mono F1.e1 hp), fun t o ho ht _ => by
    have ex := Ex.new (o := .frz o (.tup vs.reverse)) (F1.e1.back ht)
    exact kk _ _ px _ _ _ (F1.new ht) (x1.trans ex) ⟨t, _, rfl, TupAt.new ho, (h2.mono fun _ _ z => ra.mono ex z).reverse⟩⟩⟩
/-- list(range(..)), tuple(range(..)) -/
theorem rgV_ints (a b : Int) : rgV a b = (irange a b).map V.int := by
  unfold rgV irange
  rw [List.map_map]
  rfl
theorem rgOk_of {i j : Int} {xs : List Int} (h : rngC i j = some xs) : RgOk i j ∧ rgV i j = xs.map V.int := by
  obtain ⟨rfl, h1, h2, h3, h4⟩ := rngC_some h
  exact ⟨⟨by omega, by omega, by omega, by omega, by omega⟩, rgV_ints i j⟩
theorem xn_listRg1 {p1 p2 : Pos} (hc : X.calm = true) (hg : Gl X "list") (hm : X.mg "list" = none) (hg2 : Gl X "range") (hm2 : X.mg "range" = none) (ha : PE X a (tE C env qI mi)) (na : starEach [a] X.env = (false, eval a X.env) :: starEach [] X.env := by rfl)
    (nb : starEach [.Call (.Name "range" p2) [a] [] p1] X.env = (false, eval (.Call (.Name "range" p2) [a] [] p1) X.env) :: starEach [] X.env := by rfl) : PE X (.Call (.Name "list" p) [.Call (.Name "range" p2) [a] [] p1] [] pos) (tN C env qI (mi.bind fun i => ofO (rngC 0 i))) :=
  pe_imp (pe_listRg hc hg hm (prg_1 hg2 hm2 ha na) nb) fun σ H Q _ ⟨S, g0, P, F, em, kk⟩ => ⟨S, g0, _, F, em, fun i g1 ⟨z, ez, pz⟩ v S1 H1 F1 x1 hv => by
    obtain ⟨h1, h2⟩ := rgOk_of ez
    exact ⟨i, hv, h1, fun q hq _ => kk _ _ pz q _ S1 H1 F1 x1 hq (by rw [h2]; exact All2.of_map _)⟩⟩
theorem xn_listRg2 {p1 p2 : Pos} (hc : X.calm = true) (hg : Gl X "list") (hm : X.mg "list" = none) (hg2 : Gl X "range") (hm2 : X.mg "range" = none) (ha : PE X a (tE C env qI mi)) (hb : PE X b (tE C env qI mj)) (na : starEach [a, b] X.env = (false, eval a X.env) :: starEach [b] X.env := by rfl) (nb0 : starEach [b] X.env = (false, eval b X.env) :: starEach [] X.env := by rfl) (nbp : (backTo p1 (starEach [b] X.env)).any (fun x => x.1) = false := by rfl)
    (nb : starEach [.Call (.Name "range" p2) [a, b] [] p1] X.env = (false, eval (.Call (.Name "range" p2) [a, b] [] p1) X.env) :: starEach [] X.env := by rfl) : PE X (.Call (.Name "list" p) [.Call (.Name "range" p2) [a, b] [] p1] [] pos) (tN C env qI (mi.bind fun i => mj.bind fun j => ofO (rngC i j))) :=
  pe_imp (pe_listRg hc hg hm (prg_2 hg2 hm2 ha hb na nb0 nbp) nb) fun σ H Q _ ⟨S, g0, P, F, em, kk⟩ => ⟨S, g0, _, F, em, fun i g1 hi v S1 H1 F1 x1 hv => ⟨S1, g1, _, F1, hi, fun j g2 ⟨z, ez, pz⟩ w S2 H2 F2 x2 hw => by
    obtain ⟨h1, h2⟩ := rgOk_of ez
    exact ⟨i, j, hv, hw, h1, fun q hq _ => kk _ _ pz q _ S2 H2 F2 (x1.trans x2) hq (by rw [h2]; exact All2.of_map _)⟩⟩⟩
theorem xe_tupRg1 {p1 p2 : Pos} (hc : X.calm = true) (hg : Gl X "tuple") (hm : X.mg "tuple" = none) (hg2 : Gl X "range") (hm2 : X.mg "range" = none) (ha : PE X a (tE C env qI mi)) (na : starEach [a] X.env = (false, eval a X.env) :: starEach [] X.env := by rfl)
    (nb : starEach [.Call (.Name "range" p2) [a] [] p1] X.env = (false, eval (.Call (.Name "range" p2) [a] [] p1) X.env) :: starEach [] X.env := by rfl) : PE X (.Call (.Name "tuple" p) [.Call (.Name "range" p2) [a] [] p1] [] pos) (tE C env (qT qI) (mi.bind fun i => ofO (rngC 0 i))) :=
  pe_imp (RtU.pe_tupRgU hc hg hm (prg_1 hg2 hm2 ha na) nb) fun σ H Q _ ⟨S, g0, P, F, em, kk⟩ => ⟨S, g0, _, F, em, fun i g1 ⟨z, ez, pz⟩ v S1 H1 F1 x1 hv => by
    obtain ⟨h1, h2⟩ := rgOk_of ez
    exact ⟨i, hv, h1, fun q o ho hq _ => kk _ _ pz _ _ _ (F1.new (o := .frz o (.tup (rgV 0 i))) hq) (x1.trans (Ex.new (F1.e1.back hq))) ⟨q, _, rfl, TupAt.new ho, by rw [h2]; exact All2.of_map _⟩⟩⟩
/-- [x] * n -/
def repC {α : Type} (xs : List α) (k : Int) : Option (List α) := if k ≤ 1000000 ∧ xs.length ≤ 1 ∧ -1000000 ≤ k then some (List.replicate k.toNat xs).flatten else none
theorem All2.rep {R : V → α → Prop} {vs : List V} {xs : List α} (h : All2 R vs xs) : ∀ n : Nat, All2 R (List.replicate n vs).flatten (List.replicate n xs).flatten
  | 0 => True.intro
  | n + 1 => by
    rw [List.replicate_succ, List.replicate_succ, List.flatten_cons, List.flatten_cons]
    exact h.append (All2.rep h n)
theorem xn_rep {mx : W (List α)} (ha : PE X a (tN C env ra mx)) (hb : ∀ C', PE X b (tE C' env qI mi)) (hE : ∀ g g', Gs (env g) (env g') := by intro _ _; repeat (first | exact Gs.nil | apply Gs.keep | apply Gs.gh)) :
    PE X (.BinOp a .Mult b pos) (tN C env ra (mx.bind fun xs => mi.bind fun k => ofO (repC xs k))) :=
  pe_imp (pe_op op_rep ha (pe_ex hb)) fun σ H Q _ ⟨S, g0, P, F, em, kk⟩ => ⟨S, g0, _, F, em, fun xs g1 px p vs S1 H1 F1 x1 hp hv => by
    have G0 := F1.add hp (o := .lst vs)
    have np : ∀ g, p ∉ owns σ (env g) := fun g z => by
      obtain ⟨_, o, e⟩ := F1.sl.own ((hE g g1).owns σ ▸ z)
      rw [hp] at e
      cases e
    refine ⟨_, S1, g1, _, G0.here, px, fun k g2 ⟨z, ez, pz⟩ y S2 H2 F2 x2 hy => ?_⟩
    have hp2 : H2 p = some (.lst vs) := F2.e2 p _ upd_same (np g1)
    have G2 : Fr C S2 H2 σ (env g2) := G0.backG ((hE g2 g1).owns σ) F2
    unfold repC at ez
    split at ez
    · rename_i h
      cases ez
      have hl := All2.length hv
      have hk : k.toNat ≤ 1000000 := by omega
      have hlen : vs.length * k.toNat ≤ 1 * 1000000 := Nat.mul_le_mul (by omega) hk
      refine ⟨p, k, vs, rfl, hy, hp2, by omega, by omega, by rw [sizeLine_eq]; omega, fun q hq _ => ?_⟩
      exact kk _ _ pz q _ S2 H2 G2 (x1.trans x2) hq ((hv.mono fun _ _ z => ra.mono x2 z).rep _)
    · cases ez⟩
/-- xs[j] = e, xs a list of the def's own -/
def setC {α : Type} (xs : List α) (j : Int) (v : α) : Option (List α) := (ixN xs.length j).map fun n => xs.set n v
theorem xs_oset {x : Str} {ps : Pos} {xs : List α} {mv : W α} {K : List α → W (Fl ρ β γ)} (hv : PE X e (tE C env re mv)) (hd : PE X (.Name x px) (tVar i)) (hb : PE X b (tE C env qI mi)) (hr : ∀ ys, PSs X rest (tF C (fun g => (env g).set i (.ow re ys)) (K ys) pn pl kp r)) (hi : ∀ g, (env g)[i]? = some (.ow re xs) := by intro _; rfl)
    (ha : ∀ v, assign (.Subscript (.Name x px) b ps) X.env v = (do
      let ov ← holding [v] (eval (.Name x px) X.env)
      let iv ← holding [v, ov] (eval b X.env)
      standAt ps
      holding [v, ov, iv] (setItem ov iv v)
      release [v, ov, iv] []) := by intro _; rfl)
    (hs : swapsWithSole [.Subscript (.Name x px) b ps] e pos.line X.env = pure false := by rfl) (hw : swappedStores [.Subscript (.Name x px) b ps] e X.env = pure none := by rfl) (h1 : (assignEach [.Subscript (.Name x px) b ps] X.env).map (·.2) = [assign (.Subscript (.Name x px) b ps) X.env] := by rfl) :
    PSs X (.Assign [.Subscript (.Name x px) b ps] e pos :: rest) (tF C env (mv.bind fun v => mi.bind fun j => (ofO (setC xs j v)).bind K) pn pl kp r) :=
  pss_imp (pss_cons (ps_asg hv (pg_sub hd hb set_list ha) hs hw h1) (pss_ex hr)) fun D σ H _ ⟨S, g0, P, F, em, q⟩ => ⟨S, g0, _, F, em, fun v g1 pv u S1 H1 F1 x1 hu => by
    obtain ⟨w1, ew1, p1, vs1, e1, sp1, hp1, ha1⟩ := F1.sl.get i (hi _)
    subst e1
    refine ⟨.ref p1, ew1, S1, g1, _, F1, pv, fun j g2 ⟨ys, ey, py⟩ y S2 H2 F2 x2 hy => ?_⟩
    obtain ⟨w2, ew2, p2, vs2, e2, sp2, hp2, ha2⟩ := F2.sl.get i (hi _)
    subst e2
    rw [ew1] at ew2
    cases ew2
    unfold setC at ey
    obtain ⟨n, en, rfl⟩ := Option.map_eq_some_iff.mp ey
    refine ⟨p1, vs2, j, n, rfl, hy, hp2, by rw [All2.length ha2]; exact en, xs.set n v, S2, g2, P, ?_, py, fun o g9 po => (q o g9 po).mono (x1.trans x2)⟩
    exact F2.write (hi _) ew1 (ha2.set n (re.mono x2 hu))⟩
/-- xs[a], xs[b] = e -/
theorem xs_set2 {x : Str} {ps ps2 pt : Pos} {px2 : Pos} {kt : Nat} {xs : List α} {mv : W (α × α)} {K : List α → W (Fl ρ β γ)} (hv : PE X e (tE C env (qP re re) mv)) (hc : X.calm = true) (hd : PE X (.Name x px) (tVar i)) (hd2 : PE X (.Name x px2) (tVar i)) (hb : PE X b (tE C env qI mi)) (hb2 : ∀ ys, PE X b2 (tE C (fun g => (env g).set i (.ow re ys)) qI mj))
    (hr : ∀ ys, PSs X rest (tF C (fun g => (env g).set i (.ow re ys)) (K ys) pn pl kp r)) (hi : ∀ g, (env g)[i]? = some (.ow re xs) := by intro _; rfl) (hi2 : ∀ g ys, ((env g).set i (.ow re ys))[i]? = some (.ow re ys) := by intro _ _; rfl)
    (ha : ∀ v, assign (.Subscript (.Name x px) b ps) X.env v = (do
      let ov ← holding [v] (eval (.Name x px) X.env)
      let iv ← holding [v, ov] (eval b X.env)
      standAt ps
      holding [v, ov, iv] (setItem ov iv v)
      release [v, ov, iv] []) := by intro _; rfl)
    (ha2 : ∀ v, assign (.Subscript (.Name x px2) b2 ps2) X.env v = (do
      let ov ← holding [v] (eval (.Name x px2) X.env)
      let iv ← holding [v, ov] (eval b2 X.env)
      standAt ps2
      holding [v, ov, iv] (setItem ov iv v)
      release [v, ov, iv] []) := by intro _; rfl)
    (n1 : (assignEach [.Subscript (.Name x px) b ps, .Subscript (.Name x px2) b2 ps2] X.env).map (·.2) = assign (.Subscript (.Name x px) b ps) X.env :: (assignEach [.Subscript (.Name x px2) b2 ps2] X.env).map (·.2) := by rfl) (n2 : (assignEach [.Subscript (.Name x px2) b2 ps2] X.env).map (·.2) = assign (.Subscript (.Name x px2) b2 ps2) X.env :: (assignEach [] X.env).map (·.2) := by rfl)
    (hn : (assignEach [.Subscript (.Name x px) b ps, .Subscript (.Name x px2) b2 ps2] X.env).length = 2 := by rfl) (hst : (assignEach [.Subscript (.Name x px) b ps, .Subscript (.Name x px2) b2 ps2] X.env).findIdx? (·.1) = none := by rfl)
    (hs : swapsWithSole [.Tuple [.Subscript (.Name x px) b ps, .Subscript (.Name x px2) b2 ps2] kt pt] e pos.line X.env = pure false := by rfl) (hw : swappedStores [.Tuple [.Subscript (.Name x px) b ps, .Subscript (.Name x px2) b2 ps2] kt pt] e X.env = pure none := by rfl)
    (h1 : (assignEach [.Tuple [.Subscript (.Name x px) b ps, .Subscript (.Name x px2) b2 ps2] kt pt] X.env).map (·.2) = [assign (.Tuple [.Subscript (.Name x px) b ps, .Subscript (.Name x px2) b2 ps2] kt pt) X.env] := by rfl) :
    PSs X (.Assign [.Tuple [.Subscript (.Name x px) b ps, .Subscript (.Name x px2) b2 ps2] kt pt] e pos :: rest) (tF C env (mv.bind fun v => mi.bind fun j => (ofO (setC xs j v.1)).bind fun ys => mj.bind fun k => (ofO (setC ys k v.2)).bind K) pn pl kp r) :=
  pss_imp (pss_cons (ps_asg hv (pg_tup hc (pgs_cons (pg_sub hd hb set_list ha) (pgs_cons (pg_sub hd2 (pe_ex hb2) set_list ha2) pgs_nil n2) n1) hn hst) hs hw h1) (pss_ex hr)) fun D σ H _ ⟨S, g0, P, F, em, q⟩ => ⟨S, g0, _, F, em, fun v g1 pv u S1 H1 F1 x1 ⟨pt, y1, y2, eu, hpt, hy1, hy2⟩ => by
    subst eu
    obtain ⟨w1, ew1, p1, vs1, e1, sp1, hp1, ha1⟩ := F1.sl.get i (hi _)
    subst e1
    refine ⟨pt, [y1, y2], rfl, TupAt.sq (TupAt.mono F1.e1 hpt), rfl, y1, [y2], rfl, .ref p1, ew1, S1, g1, _, F1, pv, fun j g2 ⟨ys, ey, py⟩ y S2 H2 F2 x2 hy => ?_⟩
    obtain ⟨w2, ew2, p2, vs2, e2, sp2, hp2, ha2⟩ := F2.sl.get i (hi _)
    subst e2
    rw [ew1] at ew2
    cases ew2
    unfold setC at ey
    obtain ⟨n, en, rfl⟩ := Option.map_eq_some_iff.mp ey
    have F3 := F2.write (ys := xs.set n v.1) (vs := vs2.set n y1) (hi _) ew1 (ha2.set n (re.mono x2 hy1))
    refine ⟨p1, vs2, j, n, rfl, hy, hp2, by rw [All2.length ha2]; exact en, y2, [], rfl, .ref p1, ew1, xs.set n v.1, S2, g2, _, F3, py, fun k g4 ⟨zs, ez, pz⟩ yk S4 H4 F4 x4 hk => ?_⟩
    obtain ⟨w4, ew4, p4, vs4, e4, sp4, hp4, ha4⟩ := F4.sl.get i (hi2 _ _)
    subst e4
    rw [ew1] at ew4
    cases ew4
    unfold setC at ez
    obtain ⟨n4, en4, rfl⟩ := Option.map_eq_some_iff.mp ez
    have F5 := F4.write (ys := (xs.set n v.1).set n4 v.2) (vs := vs4.set n4 y2) (hi2 _ _) ew1 (ha4.set n4 (re.mono (x2.trans x4) hy2))
    rw [List.set_set] at F5
    exact ⟨p1, vs4, k, n4, rfl, hk, hp4, by rw [All2.length ha4]; exact en4, rfl, (xs.set n v.1).set n4 v.2, S4, g4, P, F5, pz, fun o g9 po => (q o g9 po).mono (x1.trans (x2.trans x4))⟩⟩
/-- found.append(left.pop(e)) -/
def popC {α : Type} (xs : List α) (k : Int) : Option (α × List α) := if -1000000 ≤ k ∧ k ≤ 1000000 then (seqIndex? k xs.length).bind fun n => (xs[n]?).map fun v => (v, xs.eraseIdx n) else none
theorem All2.erase {R : V → α → Prop} : ∀ (n : Nat) {vs : List V} {xs : List α}, All2 R vs xs → All2 R (vs.eraseIdx n) (xs.eraseIdx n)
  | _, [], [], _ => True.intro
  | 0, v :: vs, x :: xs, ⟨a, b⟩ => b
  | n + 1, v :: vs, x :: xs, ⟨a, b⟩ => ⟨a, All2.erase n b⟩
  | _, [], _ :: _, z => z.elim
  | _, _ :: _, [], z => z.elim
theorem xs_appPop {x y : Str} {pa pe pa2 pe2 px2 : Pos} {xs ys : List α} {mk : W Int} {K : α × List α → List α → W (Fl ρ β γ)} (he : PE X e (tE C env qI mk)) (hr : ∀ (v : α × List α) (xs : List α), PSs X rest (tF C (fun g => ((env g).set j (.ow re v.2)).set i (.ow re xs)) (K v xs) pn pl kp r)) (hi : ∀ g, (env g)[i]? = some (.ow re xs) := by intro _; rfl) (hj : ∀ g, (env g)[j]? = some (.ow re ys) := by intro _; rfl) (hi2 : ∀ g zs, ((env g).set j (.ow re zs))[i]? = some (.ow re xs) := by intro _ _; rfl) (hij : i ≠ j := by decide)
    (hb : PE X (.Call (.Attribute (.Name x px) "append" pa) [.Call (.Attribute (.Name y px2) "pop" pa2) [e] [] pe2] [] pe) (tBM X.K "list" rAppend (tVar i) (tCons (tBM X.K "list" rPopAt (tVar j) (tCons (tE C env qI mk) tNil)) tNil)))
    (hs : swapsWith (.Call (.Attribute (.Name x px) "append" pa) [.Call (.Attribute (.Name y px2) "pop" pa2) [e] [] pe2] [] pe) none pos.line X.env = pure false := by rfl) :
    PSs X (.Expr (.Call (.Attribute (.Name x px) "append" pa) [.Call (.Attribute (.Name y px2) "pop" pa2) [e] [] pe2] [] pe) pos :: rest) (tF C env (mk.bind fun k => (ofO (popC ys k)).bind fun v => (ofO (addO xs v.1)).bind fun zs => K v zs) pn pl kp r) :=
  pss_imp (pss_cons (ps_expr hb hs) (pss_ex fun q : (α × List α) × List α => hr q.1 q.2)) fun D σ H _ ⟨S, g0, P, F, em, q⟩ => by
    obtain ⟨wx, ewx, p, vs, e2, sp, hp, ha⟩ := F.sl.get i (hi _)
    subst e2
    obtain ⟨wy, ewy, py, us, e3, spy, hpy, hay⟩ := F.sl.get j (hj _)
    subst e3
    refine ⟨.ref p, ewx, .inl ⟨rfl, vs, SqL.of hp⟩, .ref py, ewy, .inl ⟨rfl, us, SqL.of hpy⟩, S, g0, _, F, em, fun k g1 ⟨v, ev, zs, ez, pz⟩ u S1 H1 F1 x1 hu => ?_⟩
    obtain ⟨wx1, ewx1, p1, vs1, e21, sp1, hp1, ha1⟩ := F1.sl.get i (hi _)
    subst e21
    rw [ewx] at ewx1
    cases ewx1
    obtain ⟨wy1, ewy1, py1, us1, e31, spy1, hpy1, hay1⟩ := F1.sl.get j (hj _)
    subst e31
    rw [ewy] at ewy1
    cases ewy1
    unfold popC at ev
    split at ev
    · rename_i hk
      obtain ⟨n, en, ev⟩ := Option.bind_eq_some_iff.mp ev
      obtain ⟨v0, ev0, rfl⟩ := Option.map_eq_some_iff.mp ev
      obtain ⟨w0, ew0, hw0⟩ := hay1.get n ev0
      have F2 := F1.write (ys := ys.eraseIdx n) (vs := us1.eraseIdx n) (hj _) ewy (hay1.erase n)
      have np : p ≠ py := fun z => by
        subst z
        exact hij (owns_inj F1.nd (hi _) ewx rfl (hj _) ewy rfl)
      refine ⟨py, us1, k, n, w0, rfl, by rw [show u = V.int k from hu], hpy1, by omega, by omega, by rw [All2.length hay1]; exact en, ew0, ?_⟩
      have hp2 : upd H1 py (.lst (us1.eraseIdx n)) p = some (.lst vs1) := by
        rw [upd_ne np]
        exact hp1
      unfold addO at ez
      split at ez
      case isFalse => cases ez
      rename_i hl
      cases ez
      refine ⟨p, vs1, w0, rfl, rfl, hp2, by rw [All2.length ha1, sizeLine_eq]; omega, ((v0, ys.eraseIdx n), xs ++ [v0]), S1, _, P, ?_, pz, fun o g9 po => (q o g9 po).mono x1⟩
      exact F2.write (hi2 _ _) ewx (ha1.snoc hw0)
    · cases ev
/-- xs.extend(ys), ys a list that nobody changes -/
theorem xs_extQ {x : Str} {pa pe : Pos} {xs : List α} {m : W (List α)} {K : List α → W (Fl ρ β γ)} (hb : PE X (.Call (.Attribute (.Name x px) "extend" pa) [e] [] pe) (tBM X.K "list" rExtend (tVar i) (tCons (tE C env (qL re) m) tNil))) (hr : ∀ ys, PSs X rest (tF C (fun g => (env g).set i (.ow re ys)) (K ys) pn pl kp r))
    (hi : ∀ g, (env g)[i]? = some (.ow re xs) := by intro _; rfl) (hs : swapsWith (.Call (.Attribute (.Name x px) "extend" pa) [e] [] pe) none pos.line X.env = pure false := by rfl) :
    PSs X (.Expr (.Call (.Attribute (.Name x px) "extend" pa) [e] [] pe) pos :: rest) (tF C env (m.bind fun zs => (ofO (catC xs zs)).bind K) pn pl kp r) :=
  pss_imp (pss_cons (ps_expr hb hs) (pss_ex hr)) fun D σ H _ ⟨S, g0, P, F, em, q⟩ => by
    obtain ⟨w, ew, p, vs, e2, sp, hp, ha⟩ := F.sl.get i (hi _)
    subst e2
    refine ⟨.ref p, ew, .inl ⟨rfl, vs, SqL.of hp⟩, S, g0, _, F, em, fun zs g1 ⟨out, eo, po⟩ y S1 H1 F1 x1 ⟨b, ws, ey, hb, hw⟩ => ?_⟩
    subst ey
    obtain ⟨w1, ew1, p1, vs1, e21, sp1, hp1, ha1⟩ := F1.sl.get i (hi _)
    subst e21
    rw [ew] at ew1
    cases ew1
    unfold catC at eo
    split at eo
    · rename_i hl
      cases eo
      exact ⟨p, b, vs1, ws, rfl, rfl, hp1, F1.e1 _ _ hb, by rw [All2.length ha1, All2.length hw, sizeLine_eq]; omega, xs ++ zs, S1, g1, P, F1.write (hi _) ew (ha1.append hw), po, fun o g9 po => (q o g9 po).mono x1⟩
    · cases eo
/-- sorted(xs, reverse=True) -/
theorem cr_sortRev : CallRK X (.builtin "sorted") [Str.ofString "reverse"] (fun vs zs H Q => ∃ (a : Addr) (ns : List Int), vs = [V.ref a] ∧ zs = [.bl true] ∧ SqL X.K H a (ns.map V.int) ∧ ∀ (p : Addr), H p = none → Q (.ref p) (upd H p (.lst ((sortI ns).reverse.map V.int)))) := by
  intro pins s σ H vs zs us ws Q I r rz h
  obtain ⟨a, ns, rfl, rfl, hs, q⟩ := h
  refine cr_sortedRev (b := true) pins s σ H _ _ us ws Q I r rz ⟨a, ns, rfl, rfl, hs, fun ns' p h1 h2 hp => ?_⟩
  have h2 : ns'.Pairwise (· ≥ ·) := h2
  have e : ns'.reverse = sortI ns := sorted_unique ((List.reverse_perm _).trans (h1.trans (sortI_perm ns).symm)) (List.pairwise_reverse.mpr (h2.imp fun h => h)) (sortI_sorted ns)
  rw [← e, List.reverse_reverse] at q
  exact q p hp
theorem xn_sortRev {mx : W (List Int)} {kws : List Keyword} (hg : Gl X "sorted") (hm : X.mg "sorted" = none) (ha : PE X a (tQ C env true qI mx)) (hk : PK X kws (tCons (tC (.bl true)) tNil)) (hs : starEach [a] X.env = (false, eval a X.env) :: starEach [] X.env := by rfl)
    (he : backTo pos (starEach [a] X.env) = (false, eval a X.env) :: backTo pos (starEach [] X.env) := by rfl) (hpl : (backTo pos (starEach [a] X.env)).any (·.1) = false := by rfl)
    (hall : (backToKw pos (keywordEach kws X.env)).all (·.1.isSome) = true := by rfl) (hnone : (backToKw pos (keywordEach kws X.env)).any (·.1.isNone) = false := by rfl) (hks : (backToKw pos (keywordEach kws X.env)).filterMap (·.1) = [Str.ofString "reverse"] := by rfl) :
    PE X (.Call (.Name "sorted" p) [a] kws pos) (tN C env qI (mx.bind fun xs => .ret (sortI xs).reverse)) :=
  pe_imp (pe_callBK cr_sortRev hg hm (by decide +kernel) (pa_cons ha pa_nil hs) hk (by decide) (by decide) he hpl hall hnone hks) fun σ H Q _ ⟨S, g0, P, F, em, kk⟩ => ⟨S, g0, _, F, em, fun xs g1 px p S1 H1 F1 x1 rd => by
    obtain ⟨vs, hp, h2⟩ := rd _ S1 H1 F1 (Ex.refl S1)
    exact ⟨p, xs, rfl, rfl, by rw [← flat_ints h2]; exact SqL.of hp, fun l hl _ => kk _ _ px l _ S1 H1 F1 x1 hl (All2.of_map _)⟩⟩
/-- a, b = a list of two -/
theorem xg_pairL {up1 : Up α} {up2 : Up α} {kk : Nat} (hc : X.calm = true) (h1 : PG X a (tG ra up1)) (h2 : PG X b (tG ra up2))
    (hs : (assignEach [a, b] X.env).map (·.2) = assign a X.env :: (assignEach [b] X.env).map (·.2) := by rfl) (hs2 : (assignEach [b] X.env).map (·.2) = assign b X.env :: (assignEach [] X.env).map (·.2) := by rfl)
    (hn : (assignEach [a, b] X.env).length = 2 := by rfl) (hst : (assignEach [a, b] X.env).findIdx? (·.1) = none := by rfl) :
    PG X (.Tuple [a, b] kk pos) (tG (⟨fun H v (x : α × α) => (qL ra).p H v [x.1, x.2], fun e h => (qL ra).mono e h⟩ : Rp (α × α)) (uP up1 up2)) :=
  pg_imp (pg_lst hc (pgs_cons h1 (pgs_cons h2 pgs_nil hs2) hs) hn hst) fun v σ H Q ⟨C, S, env, x, F, ⟨p, vs, ev, hp, hall⟩, q⟩ => by
    match vs, hall with
    | [v1, v2], ⟨r1, r2, _⟩ =>
      exact ⟨p, [v1, v2], ev, SqL.of (F.e1 _ _ hp), rfl, v1, [v2], rfl, C, S, env, x.1, F, r1, fun σ1 l1 n1 F1 => ⟨v2, [], rfl, C, S, _, x.2, F1, r2, fun σ2 l2 n2 F2 => ⟨rfl, q σ2 (l2.trans l1) (fun i hi => by
        have hi : i ∉ up1.js ++ up2.js := hi
        simp at hi
        rw [n2 i hi.2, n1 i hi.1]) F2⟩⟩⟩
theorem xe_unL2 {m : W (List α)} (h : PE X e (tE C env (qL ra) m)) : PE X e (tE C env (⟨fun H v (x : α × α) => (qL ra).p H v [x.1, x.2], fun e h => (qL ra).mono e h⟩ : Rp (α × α)) (m.bind fun x => ofO (two x))) :=
  xe_asO (ra := qL ra) (rb := (⟨fun H v (x : α × α) => (qL ra).p H v [x.1, x.2], fun e h => (qL ra).mono e h⟩ : Rp (α × α))) (fun H v a b h e => by
    match a, e with
    | [x, y], e =>
      cases e
      exact h) h
/-- a, b = two new lists -/
theorem xs_parNN {i j : Nat} {x y : Str} {px py pt0 : Pos} {kt k2 : Nat} {pt2 : Pos} {α1 α2 : Type} {r1 : Rp α1} {r2 : Rp α2} {m1 : W (List α1)} {m2 : W (List α2)} {K : List α1 → List α2 → W (Fl ρ β γ)} (ha : PE X a (tN C env r1 m1)) (hb : ∀ C', PE X b (tN C' env r2 m2)) (hr : ∀ a b, PSs X rest (tF C (fun g => ((env g).set i (.ow r1 a)).set j (.ow r2 b)) (K a b) pn pl kp r))
    (hc : X.calm = true) (hN : X.N.Nodup) (hi : X.N[i]? = some x) (hj : X.N[j]? = some y) (hij : i ≠ j) (hx : X.env.scope.names.lookup x = some .local) (hy : X.env.scope.names.lookup y = some .local)
    (hw : swappedStores [.Tuple [.Name x px, .Name y py] kt pt0] (.Tuple [a, b] k2 pt2) X.env = pure (some [x, y])) (hs : swapsWithSole [.Tuple [.Name x px, .Name y py] kt pt0] (.Tuple [a, b] k2 pt2) pos.line X.env = pure false := by rfl)
    (h1 : starEach [a, b] X.env = (false, eval a X.env) :: starEach [b] X.env := by rfl) (h2 : starEach [b] X.env = (false, eval b X.env) :: starEach [] X.env := by rfl) (hE : ∀ g g', Gs (env g) (env g') := by intro _ _; repeat (first | exact Gs.nil | apply Gs.keep | apply Gs.gh)) :
    PSs X (.Assign [.Tuple [.Name x px, .Name y py] kt pt0] (.Tuple [a, b] k2 pt2) pos :: rest) (tF C env (m1.bind fun a => m2.bind fun b => K a b) pn pl kp r) :=
  pss_imp (pss_cons (ps_par hc hN hi hj hij hx hy (pa_cons ha (pa_cons (pe_ex hb) pa_nil h2) h1) hw hs) (pss_ex fun p : List α1 × List α2 => hr p.1 p.2)) fun D σ H _ ⟨S, g0, P, F, em, q⟩ => ⟨S, g0, _, F, em, fun xs g1 px p vs S1 H1 F1 x1 hp hv => by
    have G0 := F1.add hp (o := .lst vs)
    have np : ∀ g, p ∉ owns σ (env g) := fun g z => by
      obtain ⟨_, o, e⟩ := F1.sl.own ((hE g g1).owns σ ▸ z)
      rw [hp] at e
      cases e
    refine ⟨_, S1, g1, _, G0.here, px, fun zs g2 pw p2 us S2 H2 F2 x2 hq hu => ⟨.ref p, .ref p2, rfl, (xs, zs), S2, g2, P, ?_, pw, fun o g9 po => (q o g9 po).mono (x1.trans x2)⟩⟩
    have hp2 : H2 p = some (.lst vs) := F2.e2 p _ upd_same (np g1)
    have sp2 : S2 p = none := F2.nw p (F1.e1.back hp) (by show upd H1 p (.lst vs) p ≠ none; rw [upd_same]; exact fun z => nomatch z)
    have G2 : Fr C S2 H2 σ (env g2) := G0.backG ((hE g2 g1).owns σ) F2
    have G3 := (G2.del sp2 (F1.H0none hp) (np g2)).setOw i (r := r1) (p := p) (vs := vs) (xs := xs) (by unfold Rt.del; simp) (hv.mono fun _ _ z => r1.mono x2 z)
    rw [upd_del hp2] at G3
    exact G3.setOw j hq hu⟩
/-- comparisons as tests -/
theorem ct_in {k : Bool} {op : CmpOp} {neg : Bool} {mx : W (List Int)} (ho : OpR X (compareOp op) (rIn X.K neg)) (ha : PE X a (tE C env qI mi)) (hb : PE X b (tQ C env k qI mx)) (hm : behindInMarks op b = false) :
    PT X (.Compare a [op] [b] pos) (tT C env (mi.bind fun i => mx.bind fun xs => .ret (if neg then !(xs.any fun y => decide (y = i)) else xs.any fun y => decide (y = i)))) :=
  pt_imp (pt_cmpR ho ha hb hm) fun σ H Q _ ⟨S, g0, P, F, em, kk⟩ => ⟨S, g0, _, F, em, fun i g1 hi v S1 H1 F1 x1 hv => ⟨S1, g1, _, F1, hi, fun xs g2 px p S2 H2 F2 x2 rd => by
    obtain ⟨vs, hp, h2⟩ := rd _ S2 H2 F2 (Ex.refl S2)
    have ev : vs = xs.map V.int := flat_ints h2
    have hv : v = .int i := hv
    subst ev hv
    exact ⟨p, _, rfl, sq_seq hp, rfl, all_flat xs, _, rfl, fun _ => by
      rw [inV_int]
      exact kk _ _ px S2 H2 F2 (x1.trans x2)⟩⟩⟩
theorem xt_in {k : Bool} {mx : W (List Int)} (ha : PE X a (tE C env qI mi)) (hb : PE X b (tQ C env k qI mx)) (hm : behindInMarks .In b = false := by with_unfolding_all rfl) : PT X (.Compare a [.In] [b] pos) (tT C env (mi.bind fun i => mx.bind fun xs => .ret (xs.any fun y => decide (y = i)))) := ct_in op_in_seq ha hb hm
theorem xt_nin {k : Bool} {mx : W (List Int)} (ha : PE X a (tE C env qI mi)) (hb : PE X b (tQ C env k qI mx)) (hm : behindInMarks .NotIn b = false := by with_unfolding_all rfl) : PT X (.Compare a [.NotIn] [b] pos) (tT C env (mi.bind fun i => mx.bind fun xs => .ret !(xs.any fun y => decide (y = i)))) := ct_in op_notIn_seq ha hb hm
theorem ct_inD {k : Bool} {ma : W α} {op : CmpOp} {neg : Bool} {mx : W (List δ)} (D : Dt ra) (E : Dt rb) (ho : OpR X (compareOp op) (rInT X.K neg)) (ha : PE X a (tE C env ra ma)) (hb : PE X b (tQ C env k rb mx)) (hm : behindInMarks op b = false) (h1 : D.dep ≤ 64 := by decide) (h2 : E.dep < 64 := by decide) :
    PT X (.Compare a [op] [b] pos) (tT C env (ma.bind fun i => mx.bind fun xs => .ret (if neg then !(xs.any fun y => PyData.eqv (E.d y) (D.d i)) else xs.any fun y => PyData.eqv (E.d y) (D.d i)))) :=
  pt_imp (pt_cmpR ho ha hb hm) fun σ H Q _ ⟨S, g0, P, F, em, kk⟩ => ⟨S, g0, _, F, em, fun i g1 hi v S1 H1 F1 x1 hv => ⟨S1, g1, _, F1, hi, fun xs g2 px p S2 H2 F2 x2 rd => by
    obtain ⟨vs, hp, h3⟩ := rd _ S2 H2 F2 (Ex.refl S2)
    refine ⟨D.d i, xs.map E.d, Dp.up (x2.trans F2.e1) (D.rep hv), ?_, D.shaped h1 i, _, rfl, fun _ => by
      rw [List.any_map]
      exact kk _ _ px S2 H2 F2 (x1.trans x2)⟩
    have hall : DpAll X.K H2 vs (xs.map E.d) := dpAll (r := rb) (f := E.d) (fun h => E.rep h) (h3.mono fun _ _ z => rb.mono F2.e1 z)
    cases k with
    | true => exact .inl ⟨.lst (SqL.of hp) hall, (dL E).shaped (by show E.dep + 1 ≤ 64; omega) xs⟩
    | false => exact .inr ⟨.tup (TupAt.sq hp) hall, (dT E).shaped (by show E.dep + 1 ≤ 64; omega) xs⟩⟩⟩
theorem xt_inD {k : Bool} {ma : W α} {mx : W (List δ)} (D : Dt ra) (E : Dt rb) (hu : X.A.units + 65 < cLine) (ha : PE X a (tE C env ra ma)) (hb : PE X b (tQ C env k rb mx)) (hm : behindInMarks .In b = false := by with_unfolding_all rfl) (h1 : D.dep ≤ 64 := by decide) (h2 : E.dep < 64 := by decide) :
    PT X (.Compare a [.In] [b] pos) (tT C env (ma.bind fun i => mx.bind fun xs => .ret (xs.any fun y => PyData.eqv (E.d y) (D.d i)))) := ct_inD D E (op_inT hu) ha hb hm h1 h2
theorem xt_ninD {k : Bool} {ma : W α} {mx : W (List δ)} (D : Dt ra) (E : Dt rb) (hu : X.A.units + 65 < cLine) (ha : PE X a (tE C env ra ma)) (hb : PE X b (tQ C env k rb mx)) (hm : behindInMarks .NotIn b = false := by with_unfolding_all rfl) (h1 : D.dep ≤ 64 := by decide) (h2 : E.dep < 64 := by decide) :
    PT X (.Compare a [.NotIn] [b] pos) (tT C env (ma.bind fun i => mx.bind fun xs => .ret !(xs.any fun y => PyData.eqv (E.d y) (D.d i)))) := ct_inD D E (op_ninT hu) ha hb hm h1 h2
theorem xt_chainD {c : Expr} {rc : Rp γ} {rb : Rp β} {ma : W α} {mb : W β} {op op' : CmpOp} {f : α → β → Option Bool} {g : β → γ → Option Bool} {mc : W γ} (d1 : CmpD X C op ra rb f) (d2 : CmpD X C op' rb rc g) (ha : PE X a (tE C env ra ma)) (hb : PE X b (tE C env rb mb)) (hc : PE X c (tE C env rc mc))
    (hm : lastMarks [op, op'] [b, c] = false := by with_unfolding_all rfl) : PT X (.Compare a [op, op'] [b, c] pos) (tT C env (ma.bind fun p => mb.bind fun q => (ofO (f p q)).bind fun t => if t = true then mc.bind fun w => ofO (g q w) else .ret false)) := by
  obtain ⟨R, h1, hr⟩ := d1
  obtain ⟨R', h2, hr'⟩ := d2
  refine pt_imp (pt_chain h1 h2 ha (tE_len hb) (tE_len hc) hm) fun σ H Q _ ⟨S, g0, P, F, em, q⟩ => ?_
  refine ⟨S, g0, _, F, em, fun p g1 hp x S1 H1 F1 e1 hx => ⟨S1, g1, _, F1, hp, fun w g2 ⟨t, et, ht⟩ y S2 H2 F2 e2 hy l2 => ?_⟩⟩
  refine hr _ S2 H2 σ x y p w t _ F2 l2 (ra.mono e2 hx) hy et fun S3 H3 F3 e3 => ⟨t, rfl, ?_⟩
  cases t with
  | false => exact ⟨_, rfl, fun _ => q _ _ ht S3 H3 F3 (e1.trans (e2.trans e3))⟩
  | true =>
    refine ⟨S3, _, _, F3, ht, fun u g4 ⟨z, ez, pz⟩ y' S4 H4 F4 e4 hy' l4 => ?_⟩
    exact hr' _ S4 H4 σ y y' w u z _ F4 l4 (rb.mono (e3.trans e4) hy) hy' ez fun S5 H5 F5 e5 => ⟨_, rfl, fun _ => q z _ pz S5 H5 F5 (e1.trans (e2.trans (e3.trans (e4.trans e5))))⟩
end
end Rt

set_option maxRecDepth 100000
set_option maxHeartbeats 4000000
/-! RtF: dicts, further: displays, walks, lengths; zip; texts of truth values; defs that call themselves. -/
namespace Rt
open PySem L2 Rt PyProof.Rows
section
variable {X : Cx} {C : Cs} {env kp : Gh → List Sl} {e a b c : Expr} {A rest : List Stmt} {pos p px : Pos} {α β γ ρ : Type} {r : Rp ρ} {pn : β → Gh → List Sl} {pl : γ → Gh → List Sl} {i j : Nat} {ra re : Rp α} {rb : Rp β}
/-! ### zip -/
theorem zip_get {xs : List α} {ys : List β} {i : Nat} {y : α × β} (h : (xs.zip ys)[i]? = some y) : xs[i]? = some y.1 ∧ ys[i]? = some y.2 := by
  rw [List.getElem?_zip_eq_some] at h
  exact h
theorem xi_zipT {elts : List Expr} {kk : Nat} {tpos p : Pos} {mx : W (List α)} {my : W (List β)} (hg : Gl X "zip") (hm : X.mg "zip" = none) (ha : PE X a (tE C env (qT ra) mx)) (hb : PE X b (tE C env (qT rb) my)) (hs : starEach [a, b] X.env = (false, eval a X.env) :: starEach [b] X.env := by rfl) (hs2 : starEach [b] X.env = (false, eval b X.env) :: starEach [] X.env := by rfl) (hpl : (backTo pos (starEach [b] X.env)).any (·.1) = false := by rfl) :
    PI X (.Tuple elts kk tpos) (.Call (.Name "zip" p) [a, b] [] pos) (tS C env (qW ra rb) (mx.bind fun xs => my.bind fun ys => .ret (xs.zip ys))) := by
  refine pi_imp (RZ.pi_zipA hg hm (pa_cons (tE_len ha) (pa_cons hb pa_nil hs2) hs) (hs := hs) (hpl := hpl)) fun σ H R _ ⟨S, g0, P, F, em, q⟩ => ⟨S, g0, _, F, em, fun xs g1 px v S1 H1 F1 x1 ⟨p1, vs, ev, hp, h2⟩ l => ⟨S1, g1, _, F1, px, fun ys g2 py w S2 H2 F2 x2 ⟨p2, ws, ew, hq, h3⟩ => ?_⟩⟩
  subst ev ew
  have hp2 : TupAt S2 p1 vs := TupAt.mono x2 hp
  have h2' := h2.mono fun _ _ z => ra.mono x2 z
  have lx := All2.length h2
  have ly := All2.length h3
  have hz : (xs.zip ys).length = min xs.length ys.length := List.length_zip
  have lm : vs.length ≤ sizeLine := l p1 false vs (TupAt.mono F1.e1 hp)
  refine ⟨p1, p2, vs, ws, rfl, .inr ⟨TupAt.sq (TupAt.mono F2.e1 hp2), TupAt.sq (TupAt.mono F2.e1 hq), q _ _ py _ S2 H2 F2 (x1.trans x2) (wk_new (by rw [hz]; omega) (fun {C S H σ env} i hi F e => ?_) (fun {C S H σ env} i hi F e => ?_) fun {C S H σ env} i x H' y F e hy ha => ?_)⟩⟩
  · rw [hz] at hi
    have h1 : i < vs.length := by omega
    have h4 : i < ws.length := by omega
    exact ⟨vs, ws, vs[i], ws[i], TupAt.sq (TupAt.mono F.e1 (TupAt.mono e hp2)), TupAt.sq (TupAt.mono F.e1 (TupAt.mono e hq)), by simp [h1], by simp [h4]⟩
  · rw [hz] at hi
    exact ⟨vs, ws, TupAt.sq (TupAt.mono F.e1 (TupAt.mono e hp2)), TupAt.sq (TupAt.mono F.e1 (TupAt.mono e hq)), by omega⟩
  · obtain ⟨T, u, w, ev, hT, eH, hq1, hq2⟩ := hy
    obtain ⟨y1, y2⟩ := zip_get ha
    obtain ⟨u', hu', ru⟩ := All2.get i h2' y1
    obtain ⟨w', hw', rw'⟩ := All2.get i h3 y2
    have z1 := hq1 vs (TupAt.sq (TupAt.mono F.e1 (TupAt.mono e hp2)))
    have z2 := hq2 ws (TupAt.sq (TupAt.mono F.e1 (TupAt.mono e hq)))
    rw [hu'] at z1
    rw [hw'] at z2
    cases z1
    cases z2
    have ex := e.trans (Ex.new (o := .tup [u, w]) (F.e1.back hT))
    exact ⟨T, _, ev, hT, eH, T, u, w, ev, .inl upd_same, ra.mono ex ru, rb.mono ex rw'⟩
/-! ### texts of truth values -/
def reprB (b : Bool) : Str := if b then "True" else "False"
theorem call_repr_bl : CallR X (.builtin "repr") (fun xs H Q => ∃ b, xs = [.bl b] ∧ Q (.str (reprB b)) H) := by
  intro pins s σ H xs us Q I r h
  obtain ⟨b, rfl, q⟩ := h
  obtain ⟨u, rfl, rx⟩ := vals1 r
  obtain rfl : u = .bool b := rx
  exact PySem.P.repr_of_bool ⟨.str _, H, I.tok _, ⟨_, rfl⟩, q⟩
theorem xe_reprB {mb : W Bool} (hg : Gl X "repr") (hm : X.mg "repr" = none) (ha : PE X a (tE C env qB mb)) (hs : starEach [a] X.env = (false, eval a X.env) :: starEach [] X.env := by rfl) :
    PE X (.Call (.Name "repr" p) [a] [] pos) (tE C env qS (mb.bind fun b => .ret (reprB b))) :=
  pe_imp (pe_callB call_repr_bl hg hm (by decide +kernel) (pa_cons ha pa_nil hs) (by decide) (by decide) hs (by rfl)) fun σ H Q _ ⟨S, g0, P, F, em, k⟩ => ⟨S, g0, _, F, em, fun b g1 pb v S1 H1 F1 x1 hv => ⟨b, by rw [show v = .bl b from hv], fun _ => k _ _ pb _ S1 H1 F1 x1 rfl⟩⟩
theorem cd_eqS : CmpD X C .Eq qS qS fun i j => some (decide (i = j)) := ⟨_, op_eq, fun _ S H σ x y p q z Q F _ hx hy ez k => by
  rw [show x = V.str p from hx, show y = V.str q from hy]
  refine ⟨rfl, ?_⟩
  cases ez
  have e : decide (V.str p = V.str q) = decide (p = q) := by
    rw [Bool.eq_iff_iff]
    simp
  rw [e]
  exact k S H F (Ex.refl S)⟩
theorem cd_neS : CmpD X C .NotEq qS qS fun i j => some (!decide (i = j)) := ⟨_, op_ne, fun _ S H σ x y p q z Q F _ hx hy ez k => by
  rw [show x = V.str p from hx, show y = V.str q from hy]
  refine ⟨rfl, ?_⟩
  cases ez
  have e : decide (V.str p = V.str q) = decide (p = q) := by
    rw [Bool.eq_iff_iff]
    simp
  rw [e]
  exact k S H F (Ex.refl S)⟩
/-! ### defs that call themselves -/
theorem has_none {π : Around → Prop} {P : Program} {w : World} {K : PySem.W.Frag} {mg : Str → Option Value} {base : Heap} {x : Str} {k : Nat} {ps : List Str} {rA : Ra α} {fa : Addr} {fd : FuncData} (hm : mg x = some (.ref fa)) (hk : PySem.W.keepIn K (.ref fa) = true) (hb : Binds K fd ps []) : Has P w K mg base π x k ps (SpN rA re fun _ => none) :=
  ⟨fa, fd, ⟨fun vs H Q E ⟨_, _, _, _, _, _, z, _⟩ => (nomatch z), fun A outer s H args us vs Q E _ _ _ _ _ ⟨_, _, _, _, _, _, z, _⟩ => (nomatch z)⟩, hm, hk, hb⟩
theorem has_noneF {π : Around → Prop} {P : Program} {w : World} {K : PySem.W.Frag} {mg : Str → Option Value} {base : Heap} {x : Str} {k : Nat} {ps : List Str} {rA : Ra α} {fa : Addr} {fd : FuncData} (hm : mg x = some (.ref fa)) (hk : PySem.W.keepIn K (.ref fa) = true) (hb : Binds K fd ps []) : Has P w K mg base π x k ps (SpF rA r fun _ => none) :=
  ⟨fa, fd, ⟨fun vs H Q E ⟨_, _, _, _, _, _, z, _⟩ => (nomatch z), fun A outer s H args us vs Q E _ _ _ _ _ ⟨_, _, _, _, _, _, z, _⟩ => (nomatch z)⟩, hm, hk, hb⟩
end
theorem units1 {k : Nat} {A : Around} (r : Room k A) : A.units + 1 < cLine := by
  have := units65 r
  omega
end Rt



set_option maxRecDepth 100000
set_option maxHeartbeats 4000000
/-! RtG: ranges that go down, the place of an int in a list, sums of lists, dicts of pairs, sorted dicts. -/
namespace Rt
open PySem L2 Rt PyProof.Rows
section
variable {X : Cx} {C : Cs} {env kp : Gh → List Sl} {e a b c tg : Expr} {A rest : List Stmt} {pos p px : Pos} {α β γ δ ρ : Type}  {r : Rp ρ}  {rv : Rp δ}  {mv : W δ}  {mi mj : W Int} {pn : β → Gh → List Sl} {pl : γ → Gh → List Sl} {i j : Nat} {ra re : Rp α} {rb : Rp β}
/-! ### range(a, b, -1) -/
def idown (a b : Int) : List Int := (List.range (a - b).toNat).map fun i => a + (i : Nat) * (-1)
def rngD (a b : Int) : Option (List Int) := if -1000000 ≤ a ∧ a ≤ 1000000 ∧ -1000000 ≤ b ∧ b ≤ 1000000 then some (idown a b) else none
theorem wk_rngD {lo hi : Int} {S0 : Hp} (hl : (lo - hi).toNat ≤ sizeLine) : Wk (Itc lo (-1) (lo - hi).toNat) qI (idown lo hi) S0 := by
  have l : (idown lo hi).length = (lo - hi).toNat := by unfold idown; rw [List.length_map, List.length_range]
  refine ⟨by rw [l]; exact hl, fun {C S H σ env} i hi' F e => ?_, fun {C S H σ env} i x H' y F e hy ha => ?_, fun {C S H σ env} i hi' F e => ?_⟩
  · show i < _
    omega
  · obtain ⟨eH, ex⟩ := hy
    subst eH
    refine ⟨S, F, Ex.refl S, Ex.refl _, fun _ z _ => z, ?_⟩
    show x = V.int y
    unfold idown at ha
    rw [List.getElem?_map] at ha
    cases q : (List.range (lo - hi).toNat)[i]? with
    | none => rw [q] at ha; cases ha
    | some j =>
      rw [q] at ha
      have : j = i := by
        obtain ⟨h1, h2⟩ := List.getElem?_eq_some_iff.mp q
        simpa using h2.symm
      subst this
      rw [ex, ← Option.some.inj ha]
  · show _ ≤ i
    omega
theorem xi_rngD {p : Pos} (hg : Gl X "range") (hm : X.mg "range" = none) (ha : PE X a (tE C env qI mi)) (hb : PE X b (tE C env qI mj)) (hc : PE X c (tE C env qI (.ret (-1)))) (hs : starEach [a, b, c] X.env = (false, eval a X.env) :: starEach [b, c] X.env := by rfl) (hsb : starEach [b, c] X.env = (false, eval b X.env) :: starEach [c] X.env := by rfl) (hsc : starEach [c] X.env = (false, eval c X.env) :: starEach [] X.env := by rfl)
    (hpl : (backTo pos (starEach [b, c] X.env)).any (·.1) = false := by rfl) :
    PI X tg (.Call (.Name "range" p) [a, b, c] [] pos) (tS C env qI (mi.bind fun i => mj.bind fun j => ofO (rngD i j))) :=
  pi_imp (pi_range3 hg hm (pa_cons ha (pa_cons hb (pa_cons hc pa_nil hsc) hsb) hs) (hs := hs) (hpl := hpl)) fun σ H R _ ⟨S, g0, P, F, em, q⟩ => ⟨S, g0, _, F, em, fun i g1 hi v S1 H1 F1 x1 hv => ⟨S1, g1, _, F1, hi, fun j g2 ⟨z, ez, pz⟩ w S2 H2 F2 x2 hw => ⟨S2, g2, fun m g3 => m = -1 ∧ P z g3, F2, ⟨rfl, pz⟩, fun m g3 ⟨em, pm⟩ u S3 H3 F3 x3 hu => by
    subst em
    unfold rngD at ez
    split at ez
    case isFalse => cases ez
    rename_i hl
    cases ez
    have hv : v = .int i := hv
    have hw : w = .int j := hw
    have hu : u = .int (-1) := hu
    subst hv hw hu
    exact ⟨i, j, -1, (i - j).toNat, rfl, RgC.neg (by omega) (by omega) (by omega) (by omega), q _ _ pm _ S3 H3 F3 (x1.trans (x2.trans x3)) (wk_rngD (by rw [sizeLine_eq]; omega))⟩⟩⟩⟩
/-! ### xs.index(e), xs a list of the def's own -/
def idxC (xs : List Int) (v : Int) : Option Int := Option.map (fun n : Nat => Int.ofNat n) (xs.findIdx? fun y => decide (y = v))
theorem idx_at {xs : List Int} {v : Int} {n : Nat} (h : (xs.findIdx? fun y => decide (y = v)) = some n) : (xs.map V.int)[n]? = some (.int v) ∧ ∀ (m : Nat) (z' : V), m < n → (xs.map V.int)[m]? = some z' → eqV z' (.int v) = false := by
  obtain ⟨h1, h2, h3⟩ := List.findIdx?_eq_some_iff_getElem.mp h
  refine ⟨by simp [h1, of_decide_eq_true h2], fun m z' hm hz => ?_⟩
  have := h3 m hm
  rw [List.getElem?_map, List.getElem?_eq_getElem (Nat.lt_trans hm h1)] at hz
  cases Option.some.inj hz
  show (xs[m]'_ == v) = false
  simpa using this
theorem xe_index {x : Str} {pa pe : Pos} {xs : List Int} (hb : PE X (.Call (.Attribute (.Name x px) "index" pa) [e] [] pe) (tBM X.K "list" (rIndex X.K) (tVar i) (tCons (tE C env qI mi) tNil))) (hi : ∀ g, (env g)[i]? = some (.ow qI xs) := by intro _; rfl) :
    PE X (.Call (.Attribute (.Name x px) "index" pa) [e] [] pe) (tE C env qI (mi.bind fun v => ofO (idxC xs v))) :=
  pe_imp hb fun σ H Q _ ⟨S, g0, P, F, em, k⟩ => by
    obtain ⟨w, ew, p, vs, e2, sp, hp, ha⟩ := F.sl.get i (hi _)
    subst e2
    refine ⟨.ref p, ew, .inl ⟨rfl, vs, SqL.of hp⟩, S, g0, _, F, em, fun v g1 ⟨z, ez, pz⟩ u S1 H1 F1 x1 hu => ?_⟩
    obtain ⟨w1, ew1, p1, vs1, e21, sp1, hp1, ha1⟩ := F1.sl.get i (hi _)
    subst e21
    rw [ew] at ew1
    cases ew1
    have e3 : vs1 = xs.map V.int := flat_ints ha1
    subst e3
    unfold idxC at ez
    obtain ⟨n, en, rfl⟩ := Option.map_eq_some_iff.mp ez
    obtain ⟨q1, q2⟩ := idx_at en
    rw [show u = V.int v from hu]
    exact ⟨p, _, .int v, n, .int v, rfl, rfl, SqL.of hp1, rfl, all_flat xs, q1, by show (v == v) = true; simp, q2, fun _ => k _ _ pz _ S1 H1 F1 x1 rfl⟩
/-! ### xs + ys of lists -/
theorem xn_catL {mx my : W (List α)} (ha : PE X a (tE C env (qL re) mx)) (hb : PE X b (tE C env (qL re) my)) : PE X (.BinOp a .Add b pos) (tN C env re (mx.bind fun xs => my.bind fun ys => ofO (catC xs ys))) :=
  pe_imp (pe_op op_cat ha hb) fun σ H Q _ ⟨S, g0, P, F, em, k⟩ => ⟨S, g0, _, F, em, fun xs g1 px v S1 H1 F1 x1 ⟨p1, vs, ev, hp, h2⟩ => ⟨S1, g1, _, F1, px, fun ys g2 ⟨z, ez, pz⟩ w S2 H2 F2 x2 ⟨p2, ws, ew, hq, h3⟩ => by
    subst ev ew
    unfold catC at ez
    split at ez
    case isFalse => cases ez
    rename_i hl
    cases ez
    have h2' := h2.mono fun _ _ z => re.mono x2 z
    exact ⟨p1, p2, vs, ws, rfl, rfl, F2.e1 _ _ (x2 _ _ hp), F2.e1 _ _ hq, by rw [All2.length h2, All2.length h3, sizeLine_eq]; omega, fun q hq' _ => k _ _ pz q _ S2 H2 F2 (x1.trans x2) hq' (h2'.append h3)⟩⟩⟩
end
end Rt

set_option maxRecDepth 100000
set_option maxHeartbeats 4000000
/-! RtI: a chain of three comparisons. -/
namespace Rt
open PySem L2 Rt PyProof.Rows
section
variable {X : Cx} {C : Cs} {env kp : Gh → List Sl} {a b c d : Expr} {pos : Pos} {α β γ δ : Type} {ra : Rp α} {rb : Rp β} {rc : Rp γ} {rd : Rp δ} {ma : W α} {mb : W β} {mc : W γ} {md : W δ} {ta tb tc td : TE}
def tChain3 (r r' r2 : R2) (ta tb tc td : TE) : TE := fun σ H Q => ta σ H fun x H1 => tb σ H1 fun y H2 => r x y H2 fun z H3 => ∃ k, z = .bl k ∧
  (if k = true then tc σ H3 fun w' H4 => r' y w' H4 fun z2 H5 => ∃ k2, z2 = .bl k2 ∧ (if k2 = true then td σ H5 fun u' H6 => r2 w' u' H6 Q else Q (.bl false) H5) else Q (.bl false) H3)
theorem pe_chain3 {op op' op2 : CmpOp} {r r' r2 : R2} (ho : OpR X (compareOp op) r) (ho' : OpR X (compareOp op') r') (ho2 : OpR X (compareOp op2) r2) (ha : PE X a ta) (hb : PE X b tb) (hc : PE X c tc) (hd : PE X d td)
    (hm : lastMarks [op, op', op2] [b, c, d] = false := by with_unfolding_all rfl) : PE X (.Compare a [op, op', op2] [b, c, d] pos) (tChain3 r r' r2 ta tb tc td) := by
  refine ⟨fun pins s σ H Q I h => ?_⟩
  refine Compare_chain (thn (ha.run pins s σ H _ I h) fun v s1 ⟨x, H1, I1, r1, q1⟩ => chain_link (thn (hb.run pins s1 σ H1 _ I1 q1) fun u s2 ⟨y, H2, I2, rr2, q2⟩ =>
    thn (ho pins s2 σ H2 x y v u _ I2 r1 rr2 q2) fun e s3 ⟨z, H3, I3, r3, k, ek, q3⟩ => ?_)) hm
  subst ek
  cases r3
  refine wpAny_truthy_bool ?_
  cases k with
  | false => exact ite_ff ⟨.bl false, H3, I3, rfl, q3⟩
  | true =>
    refine ite_tt (chain_link (thn (hc.run pins s3 σ H3 _ I3 q3) fun w' s4 ⟨z', H4, I4, r4, q4⟩ => thn (ho' pins s4 σ H4 y z' u w' _ I4 rr2 r4 q4) fun d' s5 ⟨z2, H5, I5, r5, k2, e2, q5⟩ => ?_))
    subst e2
    cases r5
    refine wpAny_truthy_bool ?_
    cases k2 with
    | false => exact ite_ff ⟨.bl false, H5, I5, rfl, q5⟩
    | true => exact ite_tt (chain_last (thn (hd.run pins s5 σ H5 _ I5 q5) fun u' s6 ⟨z3, H6, I6, r6, q6⟩ => ho2 pins s6 σ H6 z' z3 w' u' Q I6 r4 r6 q6))
theorem pt_chain3 {op op' op2 : CmpOp} {r r' r2 : R2} (ho : OpR X (compareOp op) r) (ho' : OpR X (compareOp op') r') (ho2 : OpR X (compareOp op2) r2) (ha : PE X a ta) (hb : PE X b tb) (hc : PE X c tc) (hd : PE X d td)
    (hm : lastMarks [op, op', op2] [b, c, d] = false := by with_unfolding_all rfl) : PT X (.Compare a [op, op', op2] [b, c, d] pos) (tTest (tChain3 r r' r2 ta tb tc td)) := by
  refine ⟨fun pins s σ H Q I h => ?_⟩
  refine isTrue_chain (thn (ha.run pins s σ H _ I h) fun v s1 ⟨x, H1, I1, r1, q1⟩ => test_link (thn (hb.run pins s1 σ H1 _ I1 q1) fun u s2 ⟨y, H2, I2, rr2, q2⟩ =>
    thn (ho pins s2 σ H2 x y v u _ I2 r1 rr2 q2) fun e s3 ⟨z, H3, I3, r3, k, ek, q3⟩ => ?_)) hm
  subst ek
  cases r3
  refine wpAny_truthy_bool ?_
  cases k with
  | false =>
    obtain ⟨k', e', q'⟩ := q3
    cases e'
    exact ite_ff ⟨H3, I3, q'⟩
  | true =>
    refine ite_tt (test_link (thn (hc.run pins s3 σ H3 _ I3 q3) fun w' s4 ⟨z', H4, I4, r4, q4⟩ => thn (ho' pins s4 σ H4 y z' u w' _ I4 rr2 r4 q4) fun d' s5 ⟨z2, H5, I5, r5, k2, e2, q5⟩ => ?_))
    subst e2
    cases r5
    refine wpAny_truthy_bool ?_
    cases k2 with
    | false =>
      obtain ⟨k', e', q'⟩ := q5
      cases e'
      exact ite_ff ⟨H5, I5, q'⟩
    | true =>
      refine ite_tt (test_last (thn (hd.run pins s5 σ H5 _ I5 q5) fun u' s6 ⟨z3, H6, I6, r6, q6⟩ => thn (ho2 pins s6 σ H6 z' z3 w' u' _ I6 r4 r6 q6) fun d2 s7 ⟨z4, H7, I7, r7, k3, e3, q7⟩ => ?_))
      subst e3
      cases r7
      exact wpAny_truthy_bool ⟨H7, I7, q7⟩
def wChain3 (f : α → β → Option Bool) (g : β → γ → Option Bool) (h : γ → δ → Option Bool) (ma : W α) (mb : W β) (mc : W γ) (md : W δ) : W Bool :=
  ma.bind fun p => mb.bind fun q => (ofO (f p q)).bind fun t => if t = true then mc.bind fun w => (ofO (g q w)).bind fun t2 => if t2 = true then md.bind fun u => ofO (h w u) else .ret false else .ret false
theorem xe_chainD3 {op op' op2 : CmpOp} {f : α → β → Option Bool} {g : β → γ → Option Bool} {h : γ → δ → Option Bool} (d1 : CmpD X C op ra rb f) (d2 : CmpD X C op' rb rc g) (d3 : CmpD X C op2 rc rd h) (ha : PE X a (tE C env ra ma)) (hb : PE X b (tE C env rb mb)) (hc : PE X c (tE C env rc mc)) (hd : PE X d (tE C env rd md))
    (hm : lastMarks [op, op', op2] [b, c, d] = false := by with_unfolding_all rfl) : PE X (.Compare a [op, op', op2] [b, c, d] pos) (tE C env qB (ma.bind fun p => mb.bind fun q => (ofO (f p q)).bind fun t => if t = true then mc.bind fun w => (ofO (g q w)).bind fun t2 => if t2 = true then md.bind fun u => ofO (h w u) else .ret false else .ret false)) := by
  obtain ⟨R, h1, hr⟩ := d1
  obtain ⟨R', h2, hr'⟩ := d2
  obtain ⟨R2, h3, hr2⟩ := d3
  refine pe_imp (pe_chain3 h1 h2 h3 ha (tE_len hb) (tE_len hc) (tE_len hd) hm) fun σ H Q _ ⟨S, g0, P, F, em, q⟩ => ?_
  refine ⟨S, g0, _, F, em, fun p g1 hp x S1 H1 F1 e1 hx => ⟨S1, g1, _, F1, hp, fun w g2 ⟨t, et, ht⟩ y S2 H2 F2 e2 hy l2 => ?_⟩⟩
  refine hr _ S2 H2 σ x y p w t _ F2 l2 (ra.mono e2 hx) hy et fun S3 H3 F3 e3 => ⟨t, rfl, ?_⟩
  cases t with
  | false => exact fun _ => q _ _ ht _ S3 H3 F3 (e1.trans (e2.trans e3)) rfl
  | true =>
    refine ⟨S3, _, _, F3, ht, fun u g4 ⟨z, ez, pz⟩ y' S4 H4 F4 e4 hy' l4 => ?_⟩
    refine hr' _ S4 H4 σ y y' w u z _ F4 l4 (rb.mono (e3.trans e4) hy) hy' ez fun S5 H5 F5 e5 => ⟨z, rfl, ?_⟩
    cases z with
    | false => exact fun _ => q _ _ pz _ S5 H5 F5 (e1.trans (e2.trans (e3.trans (e4.trans e5)))) rfl
    | true =>
      refine ⟨S5, _, _, F5, pz, fun u2 g6 ⟨z2, ez2, pz2⟩ y2 S6 H6 F6 e6 hy2 l6 => ?_⟩
      exact hr2 _ S6 H6 σ y' y2 u u2 z2 _ F6 l6 (rc.mono (e5.trans e6) hy') hy2 ez2 fun S7 H7 F7 e7 _ => q z2 _ pz2 _ S7 H7 F7 (e1.trans (e2.trans (e3.trans (e4.trans (e5.trans (e6.trans e7)))))) rfl
theorem xt_chainD3 {op op' op2 : CmpOp} {f : α → β → Option Bool} {g : β → γ → Option Bool} {h : γ → δ → Option Bool} (d1 : CmpD X C op ra rb f) (d2 : CmpD X C op' rb rc g) (d3 : CmpD X C op2 rc rd h) (ha : PE X a (tE C env ra ma)) (hb : PE X b (tE C env rb mb)) (hc : PE X c (tE C env rc mc)) (hd : PE X d (tE C env rd md))
    (hm : lastMarks [op, op', op2] [b, c, d] = false := by with_unfolding_all rfl) : PT X (.Compare a [op, op', op2] [b, c, d] pos) (tT C env (ma.bind fun p => mb.bind fun q => (ofO (f p q)).bind fun t => if t = true then mc.bind fun w => (ofO (g q w)).bind fun t2 => if t2 = true then md.bind fun u => ofO (h w u) else .ret false else .ret false)) := by
  obtain ⟨R, h1, hr⟩ := d1
  obtain ⟨R', h2, hr'⟩ := d2
  obtain ⟨R2, h3, hr2⟩ := d3
  refine pt_imp (pt_chain3 h1 h2 h3 ha (tE_len hb) (tE_len hc) (tE_len hd) hm) fun σ H Q _ ⟨S, g0, P, F, em, q⟩ => ?_
  refine ⟨S, g0, _, F, em, fun p g1 hp x S1 H1 F1 e1 hx => ⟨S1, g1, _, F1, hp, fun w g2 ⟨t, et, ht⟩ y S2 H2 F2 e2 hy l2 => ?_⟩⟩
  refine hr _ S2 H2 σ x y p w t _ F2 l2 (ra.mono e2 hx) hy et fun S3 H3 F3 e3 => ⟨t, rfl, ?_⟩
  cases t with
  | false => exact ⟨_, rfl, fun _ => q _ _ ht S3 H3 F3 (e1.trans (e2.trans e3))⟩
  | true =>
    refine ⟨S3, _, _, F3, ht, fun u g4 ⟨z, ez, pz⟩ y' S4 H4 F4 e4 hy' l4 => ?_⟩
    refine hr' _ S4 H4 σ y y' w u z _ F4 l4 (rb.mono (e3.trans e4) hy) hy' ez fun S5 H5 F5 e5 => ⟨z, rfl, ?_⟩
    cases z with
    | false => exact ⟨_, rfl, fun _ => q _ _ pz S5 H5 F5 (e1.trans (e2.trans (e3.trans (e4.trans e5))))⟩
    | true =>
      refine ⟨S5, _, _, F5, pz, fun u2 g6 ⟨z2, ez2, pz2⟩ y2 S6 H6 F6 e6 hy2 l6 => ?_⟩
      exact hr2 _ S6 H6 σ y' y2 u u2 z2 _ F6 l6 (rc.mono (e5.trans e6) hy') hy2 ez2 fun S7 H7 F7 e7 => ⟨_, rfl, fun _ => q z2 _ pz2 _ _ F7 (e1.trans (e2.trans (e3.trans (e4.trans (e5.trans (e6.trans e7))))))⟩
end
end Rt

set_option maxRecDepth 100000
set_option maxHeartbeats 4000000
/-! RtV: values of any kind; a tuple, many times. -/
namespace Rt
open PySem L2 Rt PyProof.Rows
/-! ### t * k -/
def repT {α : Type} (xs : List α) (k : Int) : Option (List α) := if xs ≠ [] ∧ (k = 0 ∨ 2 ≤ k) ∧ k ≤ 1000 ∧ xs.length ≤ 1000 then some (List.replicate k.toNat xs).flatten else none
section
variable {X : Cx} {C : Cs} {env kp : Gh → List Sl} {a b c d e : Expr} {pos : Pos} {α β γ δ : Type} {r ra : Rp α} {rb : Rp β} {mi : W Int}
theorem xe_repT {mx : W (List α)} (ha : PE X a (tE C env (qT r) mx)) (hb : PE X b (tE C env qI mi)) : PE X (.BinOp a .Mult b pos) (tE C env (qT r) (mx.bind fun xs => mi.bind fun k => ofO (repT xs k))) :=
  xe_op RtU.op_repU ha hb fun _ S H σ x y xs k z Q F _ ⟨p, vs, e1, h1, h2⟩ hk ez kk => by
    unfold repT at ez
    split at ez
    · rename_i hl
      cases ez
      obtain ⟨n1, n2, n3, n4⟩ := hl
      have lv := All2.length h2
      have nv : vs ≠ [] := fun e => n1 (by
        rw [e] at lv
        exact List.eq_nil_of_length_eq_zero lv.symm)
      refine ⟨p, k, vs, e1, hk, TupAt.sq (TupAt.mono F.e1 h1), nv, n2, n3, by omega, fun u o ho hu => ?_⟩
      have ex := Ex.new (o := .frz o (.tup (List.replicate k.toNat vs).flatten)) (F.e1.back hu)
      exact kk _ _ _ (F.new hu) ex ⟨u, _, rfl, TupAt.new ho, All2.rep (h2.mono fun _ _ z => r.mono ex z) k.toNat⟩
    · cases ez
end
/-! ### values of any kind -/
mutual
def Vp (H : Hp) : PyData → V → Prop
  | .none, v => v = .non
  | .bool b, v => v = .bl b
  | .int i, v => v = .int i
  | .str x, v => v = .str x
  | .list ds, v => ∃ p vs, v = .ref p ∧ H p = some (.lst vs) ∧ VpL H ds vs
  | .tuple ds, v => ∃ p vs, v = .ref p ∧ TupAt H p vs ∧ VpL H ds vs
  | .dict kvs, v => kvs = [] ∧ ∃ p, v = .ref p ∧ H p = some (.dT [])
def VpL (H : Hp) : List PyData → List V → Prop
  | [], vs => vs = []
  | d :: ds, vs => ∃ w ws, vs = w :: ws ∧ Vp H d w ∧ VpL H ds ws
end
mutual
theorem Vp.mono {H H' : Hp} (e : Ex H H') : ∀ (d : PyData) (v : V), Vp H d v → Vp H' d v
  | .none, v, h => by unfold Vp at *; exact h
  | .bool b, v, h => by unfold Vp at *; exact h
  | .int i, v, h => by unfold Vp at *; exact h
  | .str x, v, h => by unfold Vp at *; exact h
  | .list ds, v, h => by
    unfold Vp at *
    obtain ⟨p, vs, h1, h2, h3⟩ := h
    exact ⟨p, vs, h1, e _ _ h2, VpL.mono e ds vs h3⟩
  | .tuple ds, v, h => by
    unfold Vp at *
    obtain ⟨p, vs, h1, h2, h3⟩ := h
    exact ⟨p, vs, h1, h2.mono e, VpL.mono e ds vs h3⟩
  | .dict kvs, v, h => by
    unfold Vp at *
    obtain ⟨h1, p, h2, h3⟩ := h
    exact ⟨h1, p, h2, e _ _ h3⟩
theorem VpL.mono {H H' : Hp} (e : Ex H H') : ∀ (ds : List PyData) (vs : List V), VpL H ds vs → VpL H' ds vs
  | [], vs, h => by unfold VpL at *; exact h
  | d :: ds, vs, h => by
    unfold VpL at *
    obtain ⟨w, ws, h1, h2, h3⟩ := h
    exact ⟨w, ws, h1, Vp.mono e d w h2, VpL.mono e ds ws h3⟩
end
def qV : Rp PyData := ⟨fun H v d => Vp H d v, fun {H H' v d} e h => Vp.mono e d v h⟩
theorem vpl_of {H : Hp} : ∀ {vs : List V} {ds : List PyData}, All2 (qV.p H) vs ds → VpL H ds vs
  | [], [], _ => by unfold VpL; rfl
  | v :: vs, d :: ds, ⟨a, b⟩ => by unfold VpL; exact ⟨v, vs, rfl, a, vpl_of b⟩
  | [], _ :: _, z => z.elim
  | _ :: _, [], z => z.elim
theorem vpl_to {H : Hp} : ∀ {vs : List V} {ds : List PyData}, VpL H ds vs → All2 (qV.p H) vs ds
  | vs, [], h => by unfold VpL at h; subst h; exact True.intro
  | vs, d :: ds, h => by
    unfold VpL at h
    obtain ⟨w, ws, rfl, h2, h3⟩ := h
    exact ⟨h2, vpl_to h3⟩
/-- data of a kind as values of any kind, and back where it can be -/
structure Ve {α : Type} (r : Rp α) where
  enc : α → PyData
  dec : PyData → Option α
  rep : ∀ {H : Hp} {v : V} {a : α}, r.p H v a → Vp H (enc a) v
  und : ∀ {H : Hp} {v : V} {d : PyData} {a : α}, Vp H d v → dec d = some a → r.p H v a
  ret : ∀ a : α, dec (enc a) = some a
def decI : PyData → Option Int
  | .int i => some i
  | _ => none
def decB : PyData → Option Bool
  | .bool i => some i
  | _ => none
def decS : PyData → Option Str
  | .str i => some i
  | _ => none
def decN : PyData → Option Unit
  | .none => some ()
  | _ => none
def decAll {α : Type} (f : PyData → Option α) : List PyData → Option (List α)
  | [] => some []
  | d :: ds => (f d).bind fun a => (decAll f ds).bind fun as => some (a :: as)
def decT {α : Type} (f : PyData → Option α) : PyData → Option (List α)
  | .tuple ds => decAll f ds
  | _ => none
def decL {α : Type} (f : PyData → Option α) : PyData → Option (List α)
  | .list ds => decAll f ds
  | _ => none
def decP {α β : Type} (f : PyData → Option α) (g : PyData → Option β) : PyData → Option (α × β)
  | .tuple [x, y] => (f x).bind fun a => (g y).bind fun b => some (a, b)
  | _ => none
def decP3 {α β γ : Type} (f : PyData → Option α) (g : PyData → Option β) (h : PyData → Option γ) : PyData → Option (α × β × γ)
  | .tuple [x, y, z] => (f x).bind fun a => (g y).bind fun b => (h z).bind fun c => some (a, b, c)
  | _ => none
def eI : Ve qI := ⟨.int, decI, fun {H v a} h => by unfold Vp; exact h, fun {H v d a} h e => by
  cases d <;> cases e
  unfold Vp at h
  exact h, fun _ => rfl⟩
def eB : Ve qB := ⟨.bool, decB, fun {H v a} h => by unfold Vp; exact h, fun {H v d a} h e => by
  cases d <;> cases e
  unfold Vp at h
  exact h, fun _ => rfl⟩
def eS : Ve qS := ⟨.str, decS, fun {H v a} h => by unfold Vp; exact h, fun {H v d a} h e => by
  cases d <;> cases e
  unfold Vp at h
  exact h, fun _ => rfl⟩
def eN : Ve qN := ⟨fun _ => .none, decN, fun {H v a} h => by unfold Vp; exact h, fun {H v d a} h e => by
  cases d <;> cases e
  unfold Vp at h
  exact h, fun _ => rfl⟩
def eV : Ve qV := ⟨id, some, fun h => h, fun h e => by cases e; exact h, fun _ => rfl⟩
theorem vpl_enc {α : Type} {r : Rp α} (E : Ve r) {H : Hp} : ∀ {vs : List V} {xs : List α}, All2 (r.p H) vs xs → VpL H (xs.map E.enc) vs
  | [], [], _ => by unfold List.map VpL; rfl
  | v :: vs, x :: xs, ⟨a, b⟩ => by
    show VpL H (E.enc x :: xs.map E.enc) (v :: vs)
    unfold VpL
    exact ⟨v, vs, rfl, E.rep a, vpl_enc E b⟩
  | [], _ :: _, z => z.elim
  | _ :: _, [], z => z.elim
theorem vpl_dec {α : Type} {r : Rp α} (E : Ve r) {H : Hp} : ∀ {vs : List V} {ds : List PyData} {xs : List α}, VpL H ds vs → decAll E.dec ds = some xs → All2 (r.p H) vs xs
  | vs, [], xs, h, e => by
    unfold VpL at h
    subst h
    cases e
    exact True.intro
  | vs, d :: ds, xs, h, e => by
    unfold VpL at h
    obtain ⟨w, ws, rfl, h2, h3⟩ := h
    unfold decAll at e
    obtain ⟨a, e1, e⟩ := Option.bind_eq_some_iff.mp e
    obtain ⟨as, e2, e⟩ := Option.bind_eq_some_iff.mp e
    cases e
    exact ⟨E.und h2 e1, vpl_dec E h3 e2⟩
theorem dec_enc {α : Type} {r : Rp α} (E : Ve r) : ∀ xs : List α, decAll E.dec (xs.map E.enc) = some xs
  | [] => rfl
  | x :: xs => by
    show (E.dec (E.enc x)).bind (fun a => (decAll E.dec (xs.map E.enc)).bind fun as => some (a :: as)) = _
    rw [E.ret, dec_enc E xs]
    rfl
def eT {α : Type} {r : Rp α} (E : Ve r) : Ve (qT r) := ⟨fun xs => .tuple (xs.map E.enc), decT E.dec, fun {H v a} ⟨p, vs, h1, h2, h3⟩ => by
  unfold Vp
  exact ⟨p, vs, h1, h2, vpl_enc E h3⟩, fun {H v d a} h e => by
  cases d <;> first | cases e | skip
  unfold Vp at h
  obtain ⟨p, vs, h1, h2, h3⟩ := h
  exact ⟨p, vs, h1, h2, vpl_dec E h3 e⟩, fun xs => dec_enc E xs⟩
def eL {α : Type} {r : Rp α} (E : Ve r) : Ve (qL r) := ⟨fun xs => .list (xs.map E.enc), decL E.dec, fun {H v a} ⟨p, vs, h1, h2, h3⟩ => by
  unfold Vp
  exact ⟨p, vs, h1, h2, vpl_enc E h3⟩, fun {H v d a} h e => by
  cases d <;> first | cases e | skip
  unfold Vp at h
  obtain ⟨p, vs, h1, h2, h3⟩ := h
  exact ⟨p, vs, h1, h2, vpl_dec E h3 e⟩, fun xs => dec_enc E xs⟩
theorem eP_rep {α β : Type} {r : Rp α} {q : Rp β} (E : Ve r) (F : Ve q) {H : Hp} {v : V} {a : α × β} (h : (qP r q).p H v a) : Vp H (.tuple [E.enc a.1, F.enc a.2]) v := by
  obtain ⟨p, x, y, h1, h2, h3, h4⟩ := h
  unfold Vp
  refine ⟨p, _, h1, h2, ?_⟩
  unfold VpL
  refine ⟨_, _, rfl, E.rep h3, ?_⟩
  unfold VpL
  refine ⟨_, _, rfl, F.rep h4, ?_⟩
  unfold VpL
  rfl
theorem eP_und {α β : Type} {r : Rp α} {q : Rp β} (E : Ve r) (F : Ve q) {H : Hp} {v : V} {d : PyData} {a : α × β} (h : Vp H d v) (e : decP E.dec F.dec d = some a) : (qP r q).p H v a := by
  unfold decP at e
  split at e
  · obtain ⟨u, e1, e⟩ := Option.bind_eq_some_iff.mp e
    obtain ⟨w, e2, e⟩ := Option.bind_eq_some_iff.mp e
    cases e
    unfold Vp at h
    obtain ⟨p, vs, h1, h2, h3⟩ := h
    unfold VpL at h3
    obtain ⟨_, _, rfl, h4, h3⟩ := h3
    unfold VpL at h3
    obtain ⟨_, _, rfl, h5, h3⟩ := h3
    unfold VpL at h3
    subst h3
    exact ⟨p, _, _, h1, h2, E.und h4 e1, F.und h5 e2⟩
  · cases e
def eP {α β : Type} {r : Rp α} {q : Rp β} (E : Ve r) (F : Ve q) : Ve (qP r q) := ⟨fun x => .tuple [E.enc x.1, F.enc x.2], decP E.dec F.dec, fun h => eP_rep E F h, fun h e => eP_und E F h e, fun x => by
  show ((E.dec (E.enc x.1)).bind fun a => (F.dec (F.enc x.2)).bind fun b => some (a, b)) = some x
  rw [E.ret, F.ret]
  rfl⟩
theorem eP3_rep {α β γ : Type} {r : Rp α} {q : Rp β} {t : Rp γ} (E : Ve r) (F : Ve q) (G : Ve t) {H : Hp} {v : V} {a : α × β × γ} (h : (qP3 r q t).p H v a) : Vp H (.tuple [E.enc a.1, F.enc a.2.1, G.enc a.2.2]) v := by
  obtain ⟨p, x, y, z, h1, h2, h3, h4, h5⟩ := h
  unfold Vp
  refine ⟨p, _, h1, h2, ?_⟩
  unfold VpL
  refine ⟨_, _, rfl, E.rep h3, ?_⟩
  unfold VpL
  refine ⟨_, _, rfl, F.rep h4, ?_⟩
  unfold VpL
  refine ⟨_, _, rfl, G.rep h5, ?_⟩
  unfold VpL
  rfl
theorem eP3_und {α β γ : Type} {r : Rp α} {q : Rp β} {t : Rp γ} (E : Ve r) (F : Ve q) (G : Ve t) {H : Hp} {v : V} {d : PyData} {a : α × β × γ} (h : Vp H d v) (e : decP3 E.dec F.dec G.dec d = some a) : (qP3 r q t).p H v a := by
  unfold decP3 at e
  split at e
  · obtain ⟨u, e1, e⟩ := Option.bind_eq_some_iff.mp e
    obtain ⟨w, e2, e⟩ := Option.bind_eq_some_iff.mp e
    obtain ⟨w3, e3, e⟩ := Option.bind_eq_some_iff.mp e
    cases e
    unfold Vp at h
    obtain ⟨p, vs, h1, h2, h3⟩ := h
    unfold VpL at h3
    obtain ⟨_, _, rfl, h4, h3⟩ := h3
    unfold VpL at h3
    obtain ⟨_, _, rfl, h5, h3⟩ := h3
    unfold VpL at h3
    obtain ⟨_, _, rfl, h6, h3⟩ := h3
    unfold VpL at h3
    subst h3
    exact ⟨p, _, _, _, h1, h2, E.und h4 e1, F.und h5 e2, G.und h6 e3⟩
  · cases e
def eP3 {α β γ : Type} {r : Rp α} {q : Rp β} {t : Rp γ} (E : Ve r) (F : Ve q) (G : Ve t) : Ve (qP3 r q t) := ⟨fun x => .tuple [E.enc x.1, F.enc x.2.1, G.enc x.2.2], decP3 E.dec F.dec G.dec, fun h => eP3_rep E F G h, fun h e => eP3_und E F G h e, fun x => by
  show ((E.dec (E.enc x.1)).bind fun a => (F.dec (F.enc x.2.1)).bind fun b => (G.dec (G.enc x.2.2)).bind fun c => some (a, b, c)) = some x
  rw [E.ret, F.ret, G.ret]
  rfl⟩
def tyV : PyData → String
  | .none => "NoneType"
  | .bool _ => "bool"
  | .int _ => "int"
  | .str _ => "str"
  | .list _ => "list"
  | .tuple _ => "tuple"
  | .dict _ => "dict"
def isTupV : PyData → Bool
  | .tuple _ => true
  | _ => false
def isListV : PyData → Bool
  | .list _ => true
  | _ => false
def isIntV : PyData → Bool
  | .int _ => true
  | .bool _ => true
  | _ => false
def isBoolV : PyData → Bool
  | .bool _ => true
  | _ => false
def isStrV : PyData → Bool
  | .str _ => true
  | _ => false
def isDictV : PyData → Bool
  | .dict _ => true
  | _ => false
def isNonV : PyData → Bool
  | .none => true
  | _ => false
theorem Vp.ty {K : PySem.W.Frag} {H : Hp} {v : V} {d : PyData} (h : Vp H d v) : RtU.TyU K H v (.type (tyV d)) := by
  cases d <;> unfold Vp at h
  case none => rw [h]; exact .inl .non
  case bool b => rw [h]; exact .inl (.bl b)
  case int i => rw [h]; exact .inl (.int i)
  case str i => rw [h]; exact .inl (.str i)
  case list ds => obtain ⟨p, vs, h1, h2, _⟩ := h; rw [h1]; exact .inl (.lst h2)
  case tuple ds => obtain ⟨p, vs, h1, h2, _⟩ := h; rw [h1]; exact .inr ⟨rfl, _, h2.choose, _, rfl, h2.choose_spec.2⟩
  case dict ds => obtain ⟨_, p, h1, h2⟩ := h; rw [h1]; exact .inl (.dT h2)
theorem Vp.isNon {H : Hp} {v : V} {d : PyData} (h : Vp H d v) : decide (v = .non) = isNonV d := by
  cases d <;> unfold Vp at h
  case none => rw [h]; rfl
  case bool b => rw [h]; rfl
  case int i => rw [h]; rfl
  case str i => rw [h]; rfl
  case list ds => obtain ⟨p, vs, h1, h2, _⟩ := h; rw [h1]; rfl
  case tuple ds => obtain ⟨p, vs, h1, h2, _⟩ := h; rw [h1]; rfl
  case dict ds => obtain ⟨_, p, h1, h2⟩ := h; rw [h1]; rfl
mutual
def cleanD : PyData → Bool
  | .list ds => cleanL ds
  | .tuple ds => cleanL ds
  | .dict _ => false
  | _ => true
def cleanL : List PyData → Bool
  | [] => true
  | d :: ds => cleanD d && cleanL ds
end
mutual
theorem Vp.dp {K : PySem.W.Frag} {H : Hp} : ∀ (d : PyData) (v : V), Vp H d v → cleanD d = true → Dp K H v d
  | .none, v, h, _ => by unfold Vp at h; rw [h]; exact .non
  | .bool b, v, h, _ => by unfold Vp at h; rw [h]; exact .bl b
  | .int i, v, h, _ => by unfold Vp at h; rw [h]; exact .int i
  | .str x, v, h, _ => by unfold Vp at h; rw [h]; exact .str x
  | .list ds, v, h, c => by
    unfold Vp at h
    unfold cleanD at c
    obtain ⟨p, vs, h1, h2, h3⟩ := h
    rw [h1]
    exact .lst (SqL.of h2) (VpL.dp ds vs h3 c)
  | .tuple ds, v, h, c => by
    unfold Vp at h
    unfold cleanD at c
    obtain ⟨p, vs, h1, h2, h3⟩ := h
    rw [h1]
    exact .tup (TupAt.sq h2) (VpL.dp ds vs h3 c)
  | .dict kvs, v, h, c => by unfold cleanD at c; cases c
theorem VpL.dp {K : PySem.W.Frag} {H : Hp} : ∀ (ds : List PyData) (vs : List V), VpL H ds vs → cleanL ds = true → DpAll K H vs ds
  | [], vs, h, _ => by unfold VpL at h; rw [h]; exact .nil
  | d :: ds, vs, h, c => by
    unfold VpL at h
    unfold cleanL at c
    obtain ⟨w, ws, h1, h2, h3⟩ := h
    obtain ⟨c1, c2⟩ := Bool.and_eq_true_iff.mp c
    rw [h1]
    exact .cons (Vp.dp d w h2 c1) (VpL.dp ds ws h3 c2)
end
def cleanO (d : PyData) : Option PyData := if cleanD d = true then some d else none
section
variable {X : Cx} {C : Cs} {env kp : Gh → List Sl} {a b c d e : Expr} {pos : Pos} {α β γ δ : Type} {r ra : Rp α} {rb : Rp β} {m : W α}
theorem xe_enc (E : Ve r) (h : PE X e (tE C env r m)) : PE X e (tE C env qV (m.bind fun x => .ret (E.enc x))) := xe_as (rb := qV) (fun H v a h => E.rep h) h
theorem xe_dec {m : W PyData} (E : Ve r) (h : PE X e (tE C env qV m)) : PE X e (tE C env r (m.bind fun x => ofO (E.dec x))) := xe_asO (ra := qV) (fun H v a b h e => E.und h e) h
theorem xe_VD {m : W PyData} (h : PE X e (tE C env qV m)) : PE X e (tE C env (qD X.K) (m.bind fun x => ofO (cleanO x))) := xe_asO (ra := qV) (fun H v a b h e => by
  unfold cleanO at e
  split at e
  · rename_i c
    cases e
    exact Vp.dp a v h c
  · cases e) h
theorem xe_isNV {j : Nat} {p1 : Pos} {m : W PyData} (h : PE X a (tE C env qV m)) : PE X (.Compare a [.Is] [.Constant .none j p1] pos) (tE C env qB (m.bind fun x => .ret (isNonV x))) := xe_isN h fun H v x h => Vp.isNon h
theorem xe_notNV {j : Nat} {p1 : Pos} {m : W PyData} (h : PE X a (tE C env qV m)) : PE X (.Compare a [.IsNot] [.Constant .none j p1] pos) (tE C env qB (m.bind fun x => .ret (!isNonV x))) :=
  pe_imp (pe_cmp (pc_notN h) rfl) fun σ H Q _ ⟨S, g0, P, F, em, k⟩ => ⟨S, g0, _, F, em, fun x g1 px v S1 H1 F1 x1 hv _ => k _ _ px _ S1 H1 F1 x1 (by rw [Vp.isNon hv]; rfl)⟩
theorem xt_notNV {j : Nat} {p1 : Pos} {m : W PyData} (h : PE X a (tE C env qV m)) : PT X (.Compare a [.IsNot] [.Constant .none j p1] pos) (tT C env (m.bind fun x => .ret (!isNonV x))) :=
  pt_imp (pt_cmp (pc_notN h) rfl) fun σ H Q _ ⟨S, g0, P, F, em, k⟩ => ⟨S, g0, _, F, em, fun x g1 px v S1 H1 F1 x1 hv => ⟨!isNonV x, by rw [Vp.isNon hv], fun _ => k _ _ px S1 H1 F1 x1⟩⟩
theorem xt_isNV {j : Nat} {p1 : Pos} {m : W PyData} (h : PE X a (tE C env qV m)) : PT X (.Compare a [.Is] [.Constant .none j p1] pos) (tT C env (m.bind fun x => .ret (isNonV x))) :=
  pt_imp (pt_cmp (pc_isN h) rfl) fun σ H Q _ ⟨S, g0, P, F, em, k⟩ => ⟨S, g0, _, F, em, fun x g1 px v S1 H1 F1 x1 hv => ⟨isNonV x, by rw [Vp.isNon hv], fun _ => k _ _ px S1 H1 F1 x1⟩⟩
theorem xe_isiV {n : String} {f : PyData → Bool} {m : W PyData} {x : Str} {p p2 : Pos} (hg : Gl X "isinstance") (hm : X.mg "isinstance" = none) (ha : PE X a (tE C env qV m)) (hgx : Gl X x) (hmx : X.mg x = none) (hv : bootBuiltins x = some (.type n)) (hk : ∀ d, kitB (tyV d) n = some (f d))
    (hn : x ≠ "__name__" := by decide) (hdb : (x == ("__debug__" : Str)) = false := by decide) (hs : starEach [a, .Name x p2] X.env = (false, eval a X.env) :: starEach [.Name x p2] X.env := by rfl) (hs2 : starEach [.Name x p2] X.env = (false, eval (.Name x p2) X.env) :: starEach [] X.env := by rfl) (hpl : (backTo pos (starEach [.Name x p2] X.env)).any (·.1) = false := by rfl) :
    PE X (.Call (.Name "isinstance" p) [a, .Name x p2] [] pos) (tE C env qB (m.bind fun y => .ret (f y))) :=
  pe_imp (pe_callB RtU.call_isiU hg hm (by decide +kernel) (pa_cons ha (pa_cons (pe_bltn (v := .ty n) hgx hmx hv rfl hn hdb) pa_nil hs2) hs) (by decide) (by decide) hs hpl) fun σ H Q _ ⟨S, g0, P, F, em, kk⟩ =>
    ⟨S, g0, _, F, em, fun y g1 py v S1 H1 F1 x1 hv => ⟨v, n, tyV y, f y, rfl, Vp.ty (qV.mono F1.e1 hv), hk y, fun _ => kk _ _ py _ S1 H1 F1 x1 rfl⟩⟩
theorem kTup (d : PyData) : kitB (tyV d) "tuple" = some (isTupV d) := by cases d <;> (simp only [tyV, isTupV]; decide +kernel)
theorem kInt (d : PyData) : kitB (tyV d) "int" = some (isIntV d) := by cases d <;> (simp only [tyV, isIntV]; decide +kernel)
theorem kBool (d : PyData) : kitB (tyV d) "bool" = some (isBoolV d) := by cases d <;> (simp only [tyV, isBoolV]; decide +kernel)
theorem kList (d : PyData) : kitB (tyV d) "list" = some (isListV d) := by cases d <;> (simp only [tyV, isListV]; decide +kernel)
theorem kStr (d : PyData) : kitB (tyV d) "str" = some (isStrV d) := by cases d <;> (simp only [tyV, isStrV]; decide +kernel)
theorem kDict (d : PyData) : kitB (tyV d) "dict" = some (isDictV d) := by cases d <;> (simp only [tyV, isDictV]; decide +kernel)
theorem xe_dict0 : PE X (.Dict [] [] pos) (tE C env qV (.ret (.dict []))) := pe_imp pe_dnewT fun σ H Q _ ⟨S, g0, P, F, em, k⟩ p hp _ =>
  k _ _ em _ _ _ (F.new hp) (Ex.new (F.e1.back hp)) (by
    show Vp _ (.dict []) (.ref p)
    unfold Vp
    exact ⟨rfl, p, rfl, upd_same⟩)
end
end Rt

set_option maxRecDepth 100000
set_option maxHeartbeats 4000000
/-! RtK: sorted(t, key=max), t a tuple of pairs of ints. -/
namespace Rt
open PySem PySem.W L2 Rt PyProof.Rows
section
variable {prog : Program} {w : World} {A : Around} {E : Value → Shared → Prop} {s : Shared}
theorem sortedT_of_sort {t : Addr} {vs : List Value} {kw : List (Str × Value)} {Q : Value → Shared → Prop} (ht : s.heap.IsTuple t vs.toArray) (hL : vs.length ≤ sizeLine) (ha1 : argsOk "sorted" ⟨[.ref t], kw⟩) (ha2 : ∀ x, argsOk "list.sort" ⟨[.ref x], kw⟩)
    (body : ∀ E' : Value → Shared → Prop, wpAny (model prog w) A.in1.in1 (Builtin.«list.sort» ⟨[.ref (s.heap.objs.size + 1)], kw⟩) (fun f s' => f = .done (.ret .none) ∧ Q (.ref (s.heap.objs.size + 1)) s') E' { s with heap := copyHeap s.heap vs }) :
    wpAny (model prog w) A (call (.builtin "sorted") [.ref t] kw) Q E s := by
  refine call_function_entry_kw kind_sorted plain_sorted entry_sorted ha1 ?_
  unfold Builtin.«sorted»
  refine wpAny_bind (m := checkCount "sorted" 1 1 _) (wpAny_pure ?_)
  refine wpAny_bind (gather ht hL ?_)
  refine wpAny_bind (wpAny_newList ?_ hL)
  have hsz : (gath s.heap vs).objs.size = s.heap.objs.size + 1 := by
    unfold gath
    rw [Heap.size_update, size_push']
  show wpAny _ _ _ _ _ { s with heap := copyHeap s.heap vs }
  rw [hsz]
  refine wpAny_bind (wpAny_holding (wpAny_call_entry_kw slot_list_sort ⟨_, copyHeap_at s.heap vs, rfl⟩ entry_list_sort ?body (ha2 _)))
  case body =>
    show wpAny (model prog w) A.in1.in1 (Builtin.«list.sort» ⟨[.ref (s.heap.objs.size + 1)], kw⟩) _ _ _
    refine wpAny_mono (body _) (fun f s' hf => ?_) fun _ _ e => e
    obtain ⟨rfl, hq⟩ := hf
    exact ⟨_, rfl, wpAny_pure ⟨_, rfl, hq⟩⟩
variable {β : Type} {R : Value → β → Prop} {vs : List Value} {bs : List β}
theorem sortedT_key {l : Addr} {f : Value} {kw : List (Str × Value)} {b : Bool} {Q : Value → Shared → Prop} (k : β → PyData) (hl : s.heap.IsTuple l vs.toArray) (e : EachIs R vs bs) (hal : AllAlike (bs.map k)) (hk : Sortable (bs.map k)) (hL : bs.length ≤ sizeLine)
    (hu : ∀ x, x ∈ bs → A.units + 2 + (k x).depth < cLine) (ha1 : argsOk "sorted" ⟨[.ref l], kw⟩) (ha2 : ∀ x, argsOk "list.sort" ⟨[.ref x], kw⟩) (ht : ∀ x, Builtin.«list.sort» ⟨[.ref x], kw⟩ = ksk_tree x f b)
    (turn : ∀ (v : Value) (x : β), R v x → x ∈ bs → ∀ (h : Heap) (tk : Nat), (∀ b o, s.heap.get? b = some o → h.get? b = some o) →
      wpAny (model prog w) A.in1.in1 (call f [v]) (KeyPure (k x) { s with heap := h, toks := tk }) (fun _ _ => False) { s with heap := h, toks := tk })
    (h : ∀ out c h' tk, (∀ b o, s.heap.get? b = some o → h'.get? b = some o) → s.heap.get? (s.heap.objs.size + 1) = none → h'.get? (s.heap.objs.size + 1) = some (seqObj "list" (List.toArray out) c) → out.length = bs.length → EachIs R out (bs.mergeSort (dataLe b k)) →
      Q (.ref (s.heap.objs.size + 1)) { s with heap := h', toks := tk }) :
    wpAny (model prog w) A (call (.builtin "sorted") [.ref l] kw) Q E s := by
  have fresh : s.heap.get? (s.heap.objs.size + 1) = none := Heap.get?_none_of_le (Nat.le_succ _)
  have up : ∀ {g : Heap}, KeepsBut (s.heap.objs.size + 1) (copyHeap s.heap vs) g → ∀ b o, s.heap.get? b = some o → g.get? b = some o := fun {g} kp b o q =>
    kp b o (Nat.ne_of_lt (Nat.lt_succ_of_lt (Heap.lt_size q))) (copyHeap_old q)
  refine sortedT_of_sort hl (by rw [e.length]; exact hL) ha1 ha2 fun E' => ?_
  rw [ht]
  refine keyH_tree (kz := bs.map k) (s := { s with heap := copyHeap s.heap vs }) (copyHeap_at s.heap vs) (by rw [List.length_map]; exact e.length.symm) (by rw [e.length]; exact hL) hal hk (bound_map (A := A.in1.in1) hu)
    (keyH_turns (s := { s with heap := copyHeap s.heap vs }) e fun v x hR hx h tk kp => turn v x hR hx h tk (up kp)) fun h' tk out c kp hD ko => ⟨rfl, ?_⟩
  exact h out c h' tk (up kp) fresh hD ((ko.length (by rw [List.length_map]; exact e.length.symm)).trans e.length) (keyedOut_each k ko e)
end
def maxK (p : Int × Int) : PyData := .int (max p.1 p.2)
def sortMx (row : List (Int × Int)) : List (Int × Int) := row.mergeSort (dataLe false maxK)
def rSortMax (K : PySem.W.Frag) : List V → Hp → VK → Prop := fun xs H Q => ∃ (a : Addr) (vs : List V) (row : List (Int × Int)) (R : V → Int × Int → Prop), xs = [.ref a] ∧ SqT K H a vs ∧ All2 R vs row ∧ (∀ v x, R v x → (qP qI qI).p H v x) ∧ row.length ≤ 1000 ∧
  ∀ p ys, H p = none → All2 R ys (sortMx row) → Q (.ref p) (upd H p (.lst ys))
def RV (R : V → Int × Int → Prop) (v : Value) (p : Int × Int) : Prop := ∃ y, RelV y v ∧ R y p
theorem each_rv {R : V → Int × Int → Prop} : ∀ {vs : List V} {us : List Value} {row : List (Int × Int)}, All2 R vs row → Vals vs us → EachIs (RV R) us row
  | [], _, [], _, .nil => .nil
  | v :: vs, _, x :: row, ⟨h1, h⟩, .cons r t => .cons ⟨v, r, h1⟩ (each_rv h t)
  | [], _, _ :: _, z, _ => z.elim
  | _ :: _, _, [], z, _ => z.elim
theorem rv_each {R : V → Int × Int → Prop} : ∀ {us : List Value} {row : List (Int × Int)}, EachIs (RV R) us row → ∃ vs, Vals vs us ∧ All2 R vs row
  | _, _, .nil => ⟨[], .nil, True.intro⟩
  | _, _, .cons ⟨y, h1, h2⟩ h => by
    obtain ⟨vs, a, b⟩ := rv_each h
    exact ⟨y :: vs, .cons h1 a, ⟨h2, b⟩⟩
section
variable {X : Cx}
theorem call_sortMax (hc : X.calm = true) (hu : X.A.units + 66 < cLine) {pins : List (Addr × Obj)} {s : Shared} {σ : L2.St} {H : Hp} {xs : List V} {us : List Value} {Q : VK} (I : Inv X pins σ H s) (r : Vals xs us) (h : rSortMax X.K xs H Q) :
    wpAny (model X.prog X.w) X.A (call (.builtin "sorted") us [(Str.ofString "key", .builtin "max")]) (EP X pins σ Q) X.xe s := by
  obtain ⟨a, vs, row, R, rfl, hs, ha, hRq, hl0, q⟩ := h
  obtain ⟨its, rv, hl, hz⟩ := I.tuple hs
  rw [Vals.ref1 r]
  have e := each_rv ha rv
  have lz : its.length = row.length := e.length
  refine sortedT_key (R := RV R) (b := false) maxK (show s.heap.IsTuple a its.toArray from hl) e (AllAlike.of fun _ _ => by simp [maxK, alike]) (Sortable.others fun _ => ⟨(fun z => nomatch z), (fun _ z => nomatch z)⟩) (by rw [sizeLine_eq]; omega) (fun p _ => ?_) (ksk_s1 _ _) (fun _ => ksk_l1 _ _) (fun _ => ksk_t4 _ _)
    (fun v p hv _ h tk kp => ?_) fun out c h' tk kp hf hD ho eo => ?_
  · have hd : (maxK p).depth = 0 := by simp [maxK, PyData.depth]
    omega
  · obtain ⟨y, ry, hy⟩ := hv
    obtain ⟨t, y1, y2, ey, ⟨ob, _, ht⟩, e1, e2⟩ := hRq _ _ hy
    have e1 : y1 = .int p.1 := e1
    have e2 : y2 = .int p.2 := e2
    subst ey e1 e2
    cases ry
    obtain ⟨_, _, its2, r2, o, ho, hcl, n, hd⟩ := I.hok _ _ ht
    obtain ⟨u1, u2, rfl, ri, rj⟩ := vals2 r2
    obtain ⟨t1, rfl⟩ := ri
    obtain ⟨t2, rfl⟩ := rj
    refine PySem.W.max_tuple_data (s := { s with heap := h, toks := tk }) (vs := #[.int p.1 t1, .int p.2 t2]) (x := .int p.1) (xs := [.int p.2]) (as := []) (I.ok.hd hc) ⟨o, kp _ _ ho, hcl, n, hd⟩ (.cons (.int _ _) (.cons (.int _ _) .nil)) (alike_all (p.1 :: [p.2])) ?_ fun i v h2 tk2 bs hv hr hk => ?_
    · have := dep_ints (p.1 :: [p.2])
      show X.A.units + 1 + 1 + 1 + PyData.depthAll ((p.1 :: [p.2]).map PyData.int) < cLine
      omega
    · have e3 : maxD (.int p.1) [.int p.2] = .int (max p.1 p.2) := PySem.W.maxD_ints p.1 [p.2]
      rw [e3] at hr
      cases hr
      exact ⟨h2, tk2, rfl, hk, .int _ _⟩
  · obtain ⟨ys, y1, y2⟩ := rv_each eo
    refine ⟨.ref _, upd H (s.heap.objs.size + 1) (.lst ys), I.laid (t' := tk) kp (Nat.le_succ _) ⟨?_, out, c, y1, hD⟩, rfl, q _ ys (I.hok.fresh (Nat.le_succ _)) y2⟩
    rw [All2.length y2, List.length_mergeSort, sizeLine_eq]
    omega
end
section
variable {X : Cx} {C : Cs} {env : Gh → List Sl} {a : Expr} {pos p p2 kpos : Pos}
def sortMxO (row : List (Int × Int)) : Option (List (Int × Int)) := if row.length ≤ 1000 then some (sortMx row) else none
theorem pe_sortedMax {t : TA} (hc : X.calm = true) (hu : X.A.units + 66 < cLine) (hg : Gl X "sorted") (hm : X.mg "sorted" = none) (hg2 : Gl X "max") (hm2 : X.mg "max" = none) (ha : PA X [a] t)
    (he : backTo pos (starEach [a] X.env) = (false, eval a X.env) :: backTo pos (starEach [] X.env) := by rfl) (hpl : (backTo pos (starEach [a] X.env)).any (·.1) = false := by rfl)
    (hall : (backToKw pos (keywordEach [⟨some "key", .Name "max" p2, kpos⟩] X.env)).all (·.1.isSome) = true := by rfl) (hnone : (backToKw pos (keywordEach [⟨some "key", .Name "max" p2, kpos⟩] X.env)).any (·.1.isNone) = false := by rfl) (hks : (backToKw pos (keywordEach [⟨some "key", .Name "max" p2, kpos⟩] X.env)).filterMap (·.1) = [Str.ofString "key"] := by rfl) :
    PE X (.Call (.Name "sorted" p) [a] [⟨some "key", .Name "max" p2, kpos⟩] pos) (fun σ H Q => t σ H fun vs H1 => rSortMax X.K vs H1 Q) := by
  refine ⟨fun pins s σ H Q I h => ?_⟩
  refine wpAny_Call_Name_kw (ld_blt (u := .builtin "sorted") I hg hm (by decide +kernel) ?_)
  refine PyProof.Rows.callWith_kw (thn (ha.run pos pins s σ H _ I h) fun us s1 ⟨vs, H1, I1, r1, q1⟩ => ?_) he hpl hall hnone
  show wpAny _ _ (evalAll ((do let v ← eval (.Name "max" p2) X.env; standAt pos; pure v) :: [])) _ _ s1
  refine wpAny_evalAll_cons (wpAny_bind (ld_blt (u := .builtin "max") I1 hg2 hm2 (by decide +kernel) (wpAny_bind (wpAny_standAt (wpAny_pure ?_)))))
  refine wpAny_evalAll_nil ?_
  rw [hks]
  exact call_sortMax hc hu I1 r1 q1
theorem xn_sortedMax {mx : W (List (Int × Int))} (hc : X.calm = true) (hu : X.A.units + 66 < cLine) (hg : Gl X "sorted") (hm : X.mg "sorted" = none) (hg2 : Gl X "max") (hm2 : X.mg "max" = none) (ha : PE X a (tE C env (qT (qP qI qI)) mx)) (hs : starEach [a] X.env = (false, eval a X.env) :: starEach [] X.env := by rfl)
    (he : backTo pos (starEach [a] X.env) = (false, eval a X.env) :: backTo pos (starEach [] X.env) := by rfl) (hpl : (backTo pos (starEach [a] X.env)).any (·.1) = false := by rfl)
    (hall : (backToKw pos (keywordEach [⟨some "key", .Name "max" p2, kpos⟩] X.env)).all (·.1.isSome) = true := by rfl) (hnone : (backToKw pos (keywordEach [⟨some "key", .Name "max" p2, kpos⟩] X.env)).any (·.1.isNone) = false := by rfl) (hks : (backToKw pos (keywordEach [⟨some "key", .Name "max" p2, kpos⟩] X.env)).filterMap (·.1) = [Str.ofString "key"] := by rfl) :
    PE X (.Call (.Name "sorted" p) [a] [⟨some "key", .Name "max" p2, kpos⟩] pos) (tN C env (qP qI qI) (mx.bind fun xs => ofO (sortMxO xs))) :=
  pe_imp (pe_sortedMax hc hu hg hm hg2 hm2 (pa_cons ha pa_nil hs) he hpl hall hnone hks) fun σ H Q _ ⟨S, g0, P, F, em, kk⟩ => ⟨S, g0, _, F, em, fun xs g1 ⟨z, ez, pz⟩ v S1 H1 F1 x1 ⟨t, vs, ev, ht, h2⟩ => by
    unfold sortMxO at ez
    split at ez
    · rename_i hl
      cases ez
      exact ⟨t, vs, xs, (qP qI qI).p S1, by rw [ev], TupAt.sq (TupAt.mono F1.e1 ht), h2, fun v x z => (qP qI qI).mono F1.e1 z, hl, fun u ys hu hy _ => kk _ _ pz u _ S1 H1 F1 x1 hu hy⟩
    · cases ez⟩
end
end Rt

set_option maxRecDepth 100000
set_option maxHeartbeats 4000000
/-! RtW: a generator def that hands out what a name holds till it holds None; list(..) over it. -/
namespace Rt
open PySem L2 Rt PyProof.Rows
section
variable {α β : Type}
/-- what is handed out from d on -/
def genV (dec : PyData → Option β) (f : PyData → Option PyData) : Nat → PyData → Option (List β)
  | 0, _ => none
  | n + 1, d => if isNonV d = true then some [] else (dec d).bind fun x => (f d).bind fun d' => (genV dec f n d').bind fun xs => some (x :: xs)
def SpGn (ra : Ra α) (r : Rp β) (g : α → Option (List β)) : SpG := fun vs H Q _ => ∃ S a xs, Ex S H ∧ Tc S H ∧ ra.p S vs a ∧ g a = some xs ∧ xs.length ≤ 100000 ∧
  ∀ ys S' H', Ex S S' → Ex S' H' → Ex H H' → (∀ b, S b = none → H b ≠ none → S' b = none) → Tc S' H' → All2 (r.p S') ys xs → Q ys H'
variable {X : Cx} {e1 e2 e3 test ey : Expr} {x : Str} {py yp q1 q2 q3 q4 q5 : Pos} {ra : Ra α} {r : Rp β} {i : Nat} {vs : List V} {H : Hp} {N : List Str} {Q : List V → Hp → Prop} {E : XK} {env : α → List Sl}
theorem gbody_of {f1 : α → Option Unit} {f2 : α → Option PyData} {dec : PyData → Option β} {f3 : PyData → Option PyData} (n : Nat) (h : SpGn ra r (fun a => (f1 a).bind fun _ => (f2 a).bind fun d => genV dec f3 n d) vs H Q E)
    (hp : PassesOwn (model X.prog X.w) X.A X.env X.xe) (hs : ∀ S H a, ra.p S vs a → SlAll S H (start N vs) (env a) ∧ owns (start N vs) (env a) = [])
    (p1 : ∀ (C : Cs) a, PE X e1 (tE C (fun _ => env a) qN (ofO (f1 a)))) (p2 : ∀ (C : Cs) a, PE X e2 (tE C (fun _ => env a) qV (ofO (f2 a))))
    (pt : ∀ (C : Cs) a d, PT X test (tT C (fun _ => (env a).set i (.im qV d)) (W.ret (!isNonV d)))) (pey : ∀ (C : Cs) a d, PE X ey (tE C (fun _ => (env a).set i (.im qV d)) r (ofO (dec d))))
    (p3 : ∀ (C : Cs) a d, PE X e3 (tE C (fun _ => (env a).set i (.im qV d)) qV (ofO (f3 d)))) (hN : X.N.Nodup) (hi : X.N[i]? = some x) (hx : Loc X.env.scope x) (hf : X.fn x = true)
    (s1 : swapsWith e1 none q1.line X.env = pure false) (s2 : swapsWith e2 (some (.Name x py)) q2.line X.env = pure false) (s3 : swapsWith e3 (some (.Name x q5)) q4.line X.env = pure false) (hco : X.env.scope.isCoroutine = false) (hit : interactive X.env = false) :
    ∃ t, GSs X [.Expr e1 q1, .Assign [.Name x py] e2 q2, .While test [.Expr (.Yield (some ey) yp) q3, .Assign [.Name x q5] e3 q4] [] wp] t ∧ t { nx := fun ys _ H' => Q ys H', rt := fun ys v H' => v = .non ∧ Q ys H' } [] (start N vs) H := by
  obtain ⟨S, a, xs, e, tc, hv, eo, hl, k⟩ := h
  obtain ⟨l1, l2⟩ := hs S H a hv
  obtain ⟨_, eo1, eo⟩ := Option.bind_eq_some_iff.mp eo
  obtain ⟨d0, eo2, eo⟩ := Option.bind_eq_some_iff.mp eo
  have F0 : Fr ⟨[], S, H⟩ S H (start N vs) (env a) := Fr.entry e tc l1 l2
  refine ⟨_, gss_cons (gs_ps (ps_expr (p1 ⟨[], S, H⟩ a) s1)) (gss_cons (gs_ps (ps_set hN hi hx (p2 ⟨[], S, H⟩ a) s2 (.inl hf))) (gss_cons (gs_while hp (pt_ex fun d => pt ⟨[], S, H⟩ a d) (gss_cons (gs_yield (pe_ex fun d => pey ⟨[], S, H⟩ a d) hco hit) (gss_cons (gs_ps (ps_set hN hi hx (pe_ex fun d => p3 ⟨[], S, H⟩ a d) s3 (.inl hf))) gss_nil))) gss_nil)), ?_⟩
  refine ⟨S, [], fun _ _ => True, F0, ⟨(), eo1, True.intro⟩, fun a1 g1 pa v S1 H1 F1 x1 hv1 => ?_⟩
  refine ⟨S1, [], fun d _ => d = d0, F1, ⟨d0, eo2, rfl⟩, fun d g2 pd v2 S2 H2 F2 x2 hv2 => ?_⟩
  subst pd
  refine ⟨fun m ys σ' H' => ∃ S' d done rest, Fr ⟨[], S, H⟩ S' H' σ' ((env a).set i (.im qV d)) ∧ All2 (r.p S') ys done ∧ genV dec f3 m d = some rest ∧ xs = done ++ rest, ⟨n, S2, d, [], xs, F2.setIm i hv2, True.intro, eo, rfl⟩, fun m ys σ' H' ⟨S', d', done, rest, F', hy, eg, ex⟩ => ?_⟩
  refine ⟨d', S', [], fun b _ => b = !isNonV d', F', rfl, fun b g3 pb S3 H3 F3 x3 => ?_⟩
  subst pb
  cases m with
  | zero => cases eg
  | succ m =>
    unfold genV at eg
    cases hn : isNonV d' with
    | true =>
      rw [hn, if_pos rfl] at eg
      cases eg
      rw [List.append_nil] at ex
      subst ex
      rw [if_neg (by decide)]
      exact k ys S3 H3 F3.e0 F3.e1 (fun b u e => F3.e2 b u e (by simp)) F3.nw F3.tc (hy.mono fun _ _ z => r.mono x3 z)
    | false =>
      rw [hn, if_neg (by decide)] at eg
      obtain ⟨x', ex', eg⟩ := Option.bind_eq_some_iff.mp eg
      obtain ⟨d2, ed2, eg⟩ := Option.bind_eq_some_iff.mp eg
      obtain ⟨xs', exs, eg⟩ := Option.bind_eq_some_iff.mp eg
      cases eg
      rw [if_pos (by decide)]
      have ly := All2.length hy
      have lx : xs.length = done.length + (xs'.length + 1) := by rw [ex, List.length_append, List.length_cons]
      refine ⟨fun ys' σ' H' => ∃ S' d done rest, Fr ⟨[], S, H⟩ S' H' σ' ((env a).set i (.im qV d)) ∧ All2 (r.p S') ys' done ∧ genV dec f3 m d = some rest ∧ xs = done ++ rest, fun ys' σ'' H'' h => ⟨m, Nat.lt_succ_self _, h⟩, by rw [sizeLine_eq]; omega, ?_⟩
      refine ⟨d', S3, [], fun y _ => y = x', F3, ⟨x', ex', rfl⟩, fun y g4 py v4 S4 H4 F4 x4 hv4 => ?_⟩
      subst py
      refine ⟨d', S4, [], fun y _ => y = d2, F4, ⟨d2, ed2, rfl⟩, fun dn g5 pn v5 S5 H5 F5 x5 hv5 => ?_⟩
      subst pn
      refine ⟨S5, dn, done ++ [y], xs', ?_, ?_, exs, by rw [ex, List.append_assoc]; rfl⟩
      · have := F5.setIm i (r := qV) (v := v5) (a := dn) hv5
        rw [List.set_set] at this
        exact this
      · exact All2.snoc (hy.mono fun _ _ z => r.mono (x3.trans (x4.trans x5)) z) (r.mono x5 hv4)
end
section
variable {P : Program} {w : World} {K : PySem.W.Frag} {mg : Str → Option Value} {base : Heap} {k : Nat} {f : Addr} {fd : FuncData} {x qual y : Str} {st : Stmt} {N ps : List Str} {α β : Type} {r : Rp β} {e1 e2 e3 test ey : Expr} {py yp wp q1 q2 q3 q4 q5 : Pos} {i : Nat} {env : α → List Sl} {p : Pr α}
theorem gfn_okV {f1 : α → Option Unit} {f2 : α → Option PyData} {dec : PyData → Option β} {f3 : PyData → Option PyData} (n j : Nat) (F : Fun K x qual st f fd) (S : GScope N ps (defScope st)) (hst : defBody st = [.Expr e1 q1, .Assign [.Name y py] e2 q2, .While test [.Expr (.Yield (some ey) yp) q3, .Assign [.Name y q5] e3 q4] [] wp])
    (hn : p.n = ps.length) (hN : N.length = ps.length + j) (he : ∀ a, env a = p.sl a ++ List.replicate j .un) (hi : N[i]? = some y)
    (hX : ∀ (cdv : Value) (A : Around) (outer : List Env) (s : Shared) (H : Hp) (E : XK) (pn : List (Addr × Obj)), Room k (A.deeper (PyProof.Rows.envOfC qual (defScope st) s.heap.objs.size f cdv)) → ∀ X : Cx, X = gcxOf P w K mg base N qual (defScope st) f cdv A outer s H E pn →
      (∀ (C : Cs) a, PE X e1 (tE C (fun _ => env a) qN (ofO (f1 a)))) ∧ (∀ (C : Cs) a, PE X e2 (tE C (fun _ => env a) qV (ofO (f2 a)))) ∧ (∀ (C : Cs) a d, PT X test (tT C (fun _ => (env a).set i (.im qV d)) (W.ret (!isNonV d)))) ∧ (∀ (C : Cs) a d, PE X ey (tE C (fun _ => (env a).set i (.im qV d)) r (ofO (dec d)))) ∧
      (∀ (C : Cs) a d, PE X e3 (tE C (fun _ => (env a).set i (.im qV d)) qV (ofO (f3 d)))) ∧ Loc X.env.scope y ∧ X.fn y = true ∧ swapsWith e1 none q1.line X.env = pure false ∧ swapsWith e2 (some (.Name y py)) q2.line X.env = pure false ∧ swapsWith e3 (some (.Name y q5)) q4.line X.env = pure false ∧ X.env.scope.isCoroutine = false ∧ interactive X.env = false) :
    GFn P w K mg base (k + 1) f fd ps (SpGn p.ra r (fun a => (f1 a).bind fun _ => (f2 a).bind fun d => genV dec f3 n d)) := by
  obtain ⟨oc, od, kV, doc, pm, an, cdv, ct, osl, rfl, lk, hcd⟩ := F.ex
  refine gfn_of lk hcd S (fun vs H Q E h => ?_) fun A outer s H vs Q E pn hr hsp => ?_
  · obtain ⟨_, _, _, _, _, hv, _⟩ := h
    rw [(p.ok (H := H) hv).2.2, hn]
  · obtain ⟨p1, p2, p3, p4, p5, h1, h2, h3, h4, h5, h6, h7⟩ := hX cdv A outer s H E pn hr _ rfl
    rw [hst]
    exact gbody_of (X := gcxOf P w K mg base N qual (defScope st) f cdv A outer s H E pn) n hsp owns_gcx (fun S H a hv => by rw [he a]; exact p.start (by rw [hN, hn]) hv) p1 p2 p3 p4 p5 S.nd hi h1 h2 h3 h4 h5 h6 h7
variable (P w K mg base)
def HasG (x : Str) (k : Nat) (ps : List Str) (sp : SpG) : Prop := ∃ fa fd, GFn P w K mg base k fa fd ps sp ∧ mg x = some (.ref fa) ∧ PySem.W.keepIn K (.ref fa) = true ∧ Binds K fd ps []
end
def limG {β : Type} (o : Option (List β)) : Option (List β) := o.bind fun xs => if xs.length ≤ 100000 then some xs else none
theorem passX {X : Cx} : Passes (L2.CX X.prog X.w) X E0 := fun _ _ _ _ _ _ _ h => by
  obtain ⟨_, _, _, _, _, _, _, _, _, _, _, _, h⟩ := h
  exact h.elim
section
variable {X : Cx} {C : Cs} {env : Gh → List Sl} {e : Expr} {es : List Expr} {pos pos' p p2 : Pos} {α β : Type} {ra : Ra α} {r : Rp β}
theorem xn_listG {g : α → Option (List β)} {m : W α} {j k : Nat} {ps : List Str} {x : Str} (h : HasG X.prog X.w X.K X.mg X.base x j ps (SpGn ra r g)) (hr : Room k X.A) (hj : j + 3 ≤ k) (hl : Gl X "list") (hml : X.mg "list" = none) (hg : Gl X x)
    (ha : PA X (e :: es) (tA C env ra m)) (hdb : (x == ("__debug__" : Str)) = false := by decide) (he : starEach (e :: es) X.env = (false, eval e X.env) :: starEach es X.env := by rfl) (hpl : (backTo pos' (starEach es X.env)).any (·.1) = false := by rfl)
    (he2 : starEach [.Call (.Name x p2) (e :: es) [] pos'] X.env = (false, eval (.Call (.Name x p2) (e :: es) [] pos') X.env) :: starEach [] X.env := by rfl) :
    PE X (.Call (.Name "list" p) [.Call (.Name x p2) (e :: es) [] pos'] [] pos) (tN C env r (m.bind fun a => ofO (limG (g a)))) := by
  obtain ⟨_, _, F, hm, hk, hb⟩ := h
  refine pe_imp (pe_listG (pgen_call (E := E0) F (hr.mono (by omega)) hg hm hk hb .nil ha hdb he hpl) passX (fun _ _ _ h => h.elim) (hr.mono hj) hl hml (by decide +kernel) (by decide) (by decide) he2) fun σ H Q _ ⟨S, g0, P, F0, em, kk⟩ => ⟨S, g0, _, F0, em, fun a g1 ⟨xs, exs, pxs⟩ vs S1 H1 F1 x1 hv => ?_⟩
  obtain ⟨xs', e1, e2⟩ := Option.bind_eq_some_iff.mp exs
  split at e2
  · rename_i hlen
    cases e2
    refine ⟨S1, a, xs, F1.e1, F1.tc, ?_, e1, hlen, fun ys S' H' eS eH eHH n t hy q hq _ => ?_⟩
    · rw [List.append_nil]; exact hv
    · exact kk _ _ pxs q _ S' H' (F1.call eS eH eHH n t) (x1.trans eS) hq hy
  · cases e2
end
section
variable {X : Cx} {C : Cs} {env kp : Gh → List Sl} {e : Expr} {rest : List Stmt} {pos px : Pos} {β γ ρ : Type} {r : Rp ρ} {pn : β → Gh → List Sl} {pl : γ → Gh → List Sl}
theorem xs_augI {i : Nat} {x : Str} {j : Int} {op : Operator} {f : Int → Int → Int} {m : W Int} {K : Int → W (Fl ρ β γ)} (ho : PIp X op (fun x y H Q => ∃ a b, x = .int a ∧ y = .int b ∧ Q (.int (f a b)) H)) (h : PE X e (tE C env qI m)) (hr : ∀ a, PSs X rest (tF C (fun g => (env g).set i (.im qI a)) (K a) pn pl kp r))
    (hN : X.N.Nodup) (hi : X.N[i]? = some x) (hx : Loc X.env.scope x) (hf : X.fn x = true) (he : ∀ g, (env g)[i]? = some (.im qI j) := by intro _; rfl) :
    PSs X (.AugAssign (.Name x px) op e pos :: rest) (tF C env (m.bind fun b => (W.ret (f j b)).bind K) pn pl kp r) :=
  pss_imp (pss_cons (ps_aug hN hi hx h ho (.inl hf)) (pss_ex hr)) fun D σ H _ ⟨S, g0, P, F, em, q⟩ => by
    obtain ⟨v, ev, hv⟩ := F.sl.get i (he g0)
    obtain ⟨w, ew, hw⟩ := hv
    subst ew
    have hw : w = .int j := hw
    subst hw
    exact ⟨_, ev, S, g0, _, F, em, fun b g1 pb y S1 H1 F1 x1 hy => ⟨j, b, rfl, hy, f j b, S1, g1, P, F1.setIm i (r := qI) (v := .int (f j b)) (a := f j b) rfl, pb, fun o g9 po => (q o g9 po).mono x1⟩⟩
end
end Rt

set_option maxRecDepth 100000
set_option maxHeartbeats 4000000
/-! RtX: defs that raise an own error, and a try that catches it. -/
namespace Rt
open PySem L2 Rt PyProof.Rows
def optM {α β : Type} (o : Option α) (f : α → β) (z : β) : β := match o with
  | some v => f v
  | none => z
theorem ofO_optM {α β : Type} (o : Option α) (f : α → Option β) (z : Option β) : ofO (optM o f z) = optM o (fun v => ofO (f v)) (ofO z) := by cases o <;> rfl
def PostX (S H : Hp) (k : Hp → Prop) : Prop := ∀ S' H', Ex S S' → Ex S' H' → Ex H H' → (∀ b, S b = none → H b ≠ none → S' b = none) → Tc S' H' → k H'
theorem Fr.postX {S H S' H' : Hp} {σ : L2.St} {env : List Sl} {k : Hp → Prop} (h : PostX S H k) (F : Fr ⟨[], S, H⟩ S' H' σ env) : k H' :=
  h S' H' F.e0 F.e1 (fun b u e => F.e2 b u e (by simp)) F.nw F.tc
/-- f(..) gives what f gives, or lets an error of the class at c out -/
def SpX {α ρ : Type} (c : Addr) (ra : Ra α) (r : Rp ρ) (f : α → Option (Option ρ)) : Sp := fun vs H Q E => ∃ S a o, Ex S H ∧ Tc S H ∧ ra.p S vs a ∧ f a = some o ∧ (∀ v, o = some v → Post S H r v Q) ∧ (o = none → PostX S H fun H' => E (.ref c) none H')
theorem takesX {P : Program} {w : World} {K : PySem.W.Frag} {mg : Str → Option Value} {base : Heap} {N : List Str} {qual : Str} {sc : Scope} {f : Addr} {cdv : Value} {A : Around} {outer : List Env} {s : Shared} {H : Hp} {E : XK} :
    Takes (cxOf (L2.CX P w) P w K mg base N qual sc f cdv A outer s H E) (fun cls d _ H' => E cls d H') := takes_of rfl rfl rfl rfl
section
variable {P : Program} {w : World} {K : PySem.W.Frag} {mg : Str → Option Value} {base : Heap} {p : Pr α} {N ps : List Str} {k : Nat} {st : Stmt} {x qual : Str} {f c : Addr} {fd : FuncData} {α ρ : Type} {r : Rp ρ} {env : α → List Sl} {test em e1 e2 e3 : Expr} {q1 q2 q3 : Pos} {p : Pr α}
/-- if test: raise em -/
theorem fn_okRaise {g : α → Option Bool} (j : Nat) (F : Fun K x qual st f fd) (S : FnScope N ps (defScope st)) (hst : defBody st = [.If test [.Raise (some em) none q1] [] q2]) (hn : p.n = ps.length) (hN : N.length = ps.length + j) (he : ∀ a, env a = p.sl a ++ List.replicate j .un)
    (hX : ∀ (cdv : Value) (A : Around) (outer : List Env) (s : Shared) (H : Hp) (E : XK), Room k (A.deeper (PyProof.Rows.envOfC qual (defScope st) s.heap.objs.size f cdv)) → ∀ X : Cx, X = cxOf (L2.CX P w) P w K mg base N qual (defScope st) f cdv A outer s H E →
      (∀ (C : Cs) a, PT X test (tT C (fun _ => env a) (ofO (g a)))) ∧ X.calm = true ∧ ∃ t : Str, ∀ (C : Cs) a, PMk X em (fun σ H Q => tE C (fun _ => env a) qS (W.ret t) σ H fun _ H1 => Q (.ref c) none H1)) :
    FnOk P w K mg base (L2.CX P w) (k + 1) f fd ps (SpX c p.ra qN (fun a => (g a).map fun b => if b = true then none else some ())) := by
  refine F.okX S (fun vs H Q E h => ?_) (fun cdv A outer s H vs Q E hr h => ?_)
  · obtain ⟨_, _, _, _, _, hv, _⟩ := h
    rw [(p.ok (H := H) hv).2.2, hn]
  · obtain ⟨S0, a, o, e, tc, hv, eo, k1, k2⟩ := h
    obtain ⟨pt, hc, t, pm⟩ := hX cdv A outer s H E hr _ rfl
    obtain ⟨b0, eb, eo⟩ := Option.map_eq_some_iff.mp eo
    obtain ⟨l1, l2⟩ := p.start (N := N) (j := j) (by rw [hN, hn]) (H := H) hv
    have F0 : Fr ⟨[], S0, H⟩ S0 H (start N vs) (env a) := by rw [he a]; exact Fr.entry e tc l1 l2
    rw [hst]
    refine ⟨_, pss_cons (ps_if (pt ⟨[], S0, H⟩ a) (pss_cons (ps_raise hc takesX (pm ⟨[], S0, H⟩ a)) pss_nil) pss_nil) pss_nil, ?_⟩
    refine ⟨S0, [], fun b _ => b = b0, F0, ⟨b0, eb, rfl⟩, fun b g1 pb S1 H1 F1 x1 => ?_⟩
    subst pb
    cases b with
    | true =>
      rw [if_pos rfl]
      exact ⟨S1, [], fun _ _ => True, F1, True.intro, fun y g2 py v S2 H2 F2 x2 hv2 => F2.postX (k2 eo.symm)⟩
    | false =>
      rw [if_neg (by decide)]
      exact F1.post (k1 () eo.symm) (show qN.p S1 .non () from rfl)
/-- e1; e2, which may raise; return e3 -/
theorem fn_okSeqX {g1 : α → Option Unit} {g2 : α → Option (Option Unit)} {g3 : α → Option ρ} (j : Nat) (F : Fun K x qual st f fd) (S : FnScope N ps (defScope st)) (hst : defBody st = [.Expr e1 q1, .Expr e2 q2, .Return (some e3) q3]) (hn : p.n = ps.length) (hN : N.length = ps.length + j) (he : ∀ a, env a = p.sl a ++ List.replicate j .un)
    (hX : ∀ (cdv : Value) (A : Around) (outer : List Env) (s : Shared) (H : Hp) (E : XK), Room k (A.deeper (PyProof.Rows.envOfC qual (defScope st) s.heap.objs.size f cdv)) → ∀ X : Cx, X = cxOf (L2.CX P w) P w K mg base N qual (defScope st) f cdv A outer s H E →
      (∀ (C : Cs) a, PE X e1 (tE C (fun _ => env a) qN (ofO (g1 a)))) ∧ (∃ (α2 : Type) (ra2 : Ra α2) (h2 : α2 → Option (Option Unit)) (i2 : α → α2), (∀ a, g2 a = h2 (i2 a)) ∧ ∀ (C : Cs) a, PE X e2 (fun σ H Q => ∃ t : TA, (t = tA C (fun _ => env a) ra2 (W.ret (i2 a))) ∧ t σ H fun vs H1 => SpX c ra2 qN h2 vs H1 Q (fun cls d H' => E cls d H'))) ∧ (∀ (C : Cs) a, PE X e3 (tE C (fun _ => env a) r (ofO (g3 a)))) ∧ swapsWith e1 none q1.line X.env = pure false ∧ swapsWith e2 none q2.line X.env = pure false) :
    FnOk P w K mg base (L2.CX P w) (k + 1) f fd ps (SpX c p.ra r (fun a => (g1 a).bind fun _ => (g2 a).bind fun o => match o with | none => some none | some _ => (g3 a).map some)) := by
  refine F.okX S (fun vs H Q E h => ?_) (fun cdv A outer s H vs Q E hr h => ?_)
  · obtain ⟨_, _, _, _, _, hv, _⟩ := h
    rw [(p.ok (H := H) hv).2.2, hn]
  · obtain ⟨S0, a, o, e, tc, hv, eo, k1, k2⟩ := h
    obtain ⟨p1, ⟨α2, ra2, h2, i2, e2', p2⟩, p3, s1, s2⟩ := hX cdv A outer s H E hr _ rfl
    obtain ⟨_, eo1, eo⟩ := Option.bind_eq_some_iff.mp eo
    obtain ⟨o2, eo2, eo⟩ := Option.bind_eq_some_iff.mp eo
    obtain ⟨l1, l2⟩ := p.start (N := N) (j := j) (by rw [hN, hn]) (H := H) hv
    have F0 : Fr ⟨[], S0, H⟩ S0 H (start N vs) (env a) := by rw [he a]; exact Fr.entry e tc l1 l2
    rw [hst]
    refine ⟨_, pss_cons (ps_expr (p1 ⟨[], S0, H⟩ a) s1) (pss_cons (ps_expr (p2 ⟨[], S0, H⟩ a) s2) (pss_cons (ps_ret (p3 ⟨[], S0, H⟩ a)) pss_never)), ?_⟩
    refine ⟨S0, [], fun _ _ => True, F0, ⟨(), eo1, True.intro⟩, fun a1 g1' pa v S1 H1 F1 x1 hv1 => ?_⟩
    refine ⟨_, rfl, S1, [], fun y _ => y = i2 a, F1, rfl, fun y g2' py vs2 S2 H2 F2 x2 hv2 => ?_⟩
    subst py
    refine ⟨S2, i2 a, o2, F2.e1, F2.tc, hv2, by rw [← e2', eo2], fun u eu v S' H' eS eH eHH n t hr' => ?_, fun en S' H' eS eH eHH n t => ?_⟩
    · subst eu
      obtain ⟨v3, ev3, eo⟩ := Option.map_eq_some_iff.mp eo
      have F3 := F2.call eS eH eHH n t
      exact ⟨S', [], fun y _ => y = v3, F3, ⟨v3, ev3, rfl⟩, fun y g4 py v4 S4 H4 F4 x4 hv4 => by
        subst py
        exact F4.post (k1 _ eo.symm) hv4⟩
    · subst en
      cases eo
      exact (F2.call eS eH eHH n t).postX (k2 rfl)
end
section
variable {X : Cx} {C : Cs} {env kp : Gh → List Sl} {x y : Str} {e eh : Expr} {es : List Expr} {rest : List Stmt} {pos np pos' pp p q1 q2 : Pos} {α ρ β γ : Type} {r : Rp ρ} {ra : Ra α} {pn : β → Gh → List Sl} {pl : γ → Gh → List Sl} {c f : Addr} {fd : FuncData} {ps : List Str} {k : Nat}
/-- try: return y(e, ..) / except x: return eh -/
theorem xs_tryRet {g : α → Option (Option ρ)} {m : W α} {mh : W ρ} (hs : X.stack = X.env :: X.outer) (hf : X.env.frame = some X.env.locals) (hc : Names X x (.ref c)) (hxm : PySem.W.exmOne X.K (.ref c) (.ref c) = some true) (tk : Takes X (fun _ _ _ _ => False))
    (F : FnOk X.prog X.w X.K X.mg X.base (L2.CX X.prog X.w) k f fd ps (SpX c ra r g)) (hr : Room k X.A) (hg : Gl X y) (hm : X.mg y = some (.ref f)) (hk : PySem.W.keepIn X.K (.ref f) = true) (hb : Binds X.K fd ps [])
    (ha : ∀ pn xe, PA (X.tr pn xe) (e :: es) (tA C env ra m)) (hh : ∀ a pn, PE (X.suite a pn) eh (tE C env r mh)) (hdb : (y == ("__debug__" : Str)) = false := by decide) (he : starEach (e :: es) X.env = (false, eval e X.env) :: starEach es X.env := by rfl) (hpl : (backTo pp (starEach es X.env)).any (·.1) = false := by rfl) (hkp : Kp env kp := by first | exact ⟨0, fun _ => rfl⟩ | exact ⟨1, fun _ => rfl⟩) :
    PSs X (.Try [.Return (some (.Call (.Name y p) (e :: es) [] pp)) q1] [.ExceptHandler (some (.Name x np)) none [.Return (some eh) q2] pos'] [] [] pos :: rest) (tF C env ((m.bind fun a => (ofO (g a)).bind fun o => optM o (fun v => .ret v) mh).bind fun v => .ret (.rt v)) pn pl kp r) :=
  pss_imp (pss_cons (ps_try_only (c := .ref c) (ts := fun _ _ _ => tSeq (tRet (tE C env r mh)) (fun _ _ _ => False)) (tb := fun W => tSeq (tRet (tCallS (SpX c ra r g) (WE W) (tA C env ra m))) (fun _ _ _ => False)) hs hf hc tk
      (fun W pn xe tkw _ => pss_cons (ps_ret (pe_callS (X := X.tr pn xe) F hr hg hm hk hb (passAt tkw) (ha pn xe) hdb he hpl)) pss_never)
      (fun a oe cls d pn _ _ => pss_cons (ps_ret (hh a _)) pss_never)) pss_never) fun D σ H _ ⟨S, g0, P, F0, em, q⟩ => by
    refine ⟨S, g0, _, F0, em, fun a g1 ⟨o, eo, po⟩ vs S1 H1 F1 x1 hv => ?_⟩
    refine ⟨S1, a, o, F1.e1, F1.tc, hv, eo, fun v ev w S' H' eS eH eHH n t hw => ?_, fun en S' H' eS eH eHH n t => ?_⟩
    · subst ev
      obtain ⟨σ', F'⟩ := (F1.call eS eH eHH n t).kp hkp
      exact q _ g1 po w S' H' σ' F' (x1.trans eS) hw
    · subst en
      have F2 := F1.call eS eH eHH n t
      refine ⟨true, hxm, fun _ z hz => ?_, fun z => nomatch z⟩
      exact ⟨S', g1, _, F2, po, fun v g2 pv w S3 H3 F3 x3 hw => by
        obtain ⟨σ', F'⟩ := F3.kp hkp
        exact q _ g2 pv w S3 H3 σ' F' (x1.trans (eS.trans x3)) hw⟩
end
/-! ### in another dress: tuples and pairs of values -/
section
variable {X : Cx} {C : Cs} {env : Gh → List Sl} {e : Expr} {α β : Type} {r : Rp α} {q : Rp β}
theorem all2_enc (E : Ve r) {H : Hp} : ∀ {vs : List V} {xs : List α}, All2 (r.p H) vs xs → All2 (qV.p H) vs (xs.map E.enc)
  | [], [], _ => True.intro
  | _ :: _, _ :: _, ⟨a, b⟩ => ⟨E.rep a, all2_enc E b⟩
  | [], _ :: _, z => z.elim
  | _ :: _, [], z => z.elim
theorem xe_encT {m : W (List α)} (E : Ve r) (h : PE X e (tE C env (qT r) m)) : PE X e (tE C env (qT qV) (m.bind fun xs => .ret (xs.map E.enc))) := xe_as (r := qT r) (rb := qT qV) (fun H v a ⟨p, vs, h1, h2, h3⟩ => ⟨p, vs, h1, h2, all2_enc E h3⟩) h
theorem xe_encP1 {m : W (α × β)} (E : Ve r) (h : PE X e (tE C env (qP r q) m)) : PE X e (tE C env (qP qV q) (m.bind fun x => .ret (E.enc x.1, x.2))) := xe_as (r := qP r q) (rb := qP qV q) (fun H v a ⟨p, x, y, h1, h2, h3, h4⟩ => ⟨p, x, y, h1, h2, E.rep h3, h4⟩) h
end
/-! ### by name -/
/-- what the written part says of an own error's class -/
structure ExcT (K : PySem.W.Frag) (mg : Str → Option Value) (x : Str) (c : Addr) : Prop where
  gC : mg x = some (.ref c)
  kC : PySem.W.keepIn K (.ref c) = true
  q : ∃ bm, ExcBaseFacts "ValueError" "ValueError.__new__" "ValueError.__init__" bm ∧ PySem.W.excIn K c bm "ValueError.__new__" = true
  sub : PySem.W.subIn K (.ref c) (.type "BaseException") = some true
  ty : PySem.W.typeIn K (.ref c) = some (.type "type")
  te : PySem.W.exmOne K (.ref c) (.ref c) = some true
theorem exmS {K : PySem.W.Frag} {c : Addr} (h1 : PySem.W.subIn K (.ref c) (.type "BaseException") = some true) (h2 : PySem.W.isClsIn K c = true) (h3 : PySem.W.typeIn K (.ref c) = some (.type "type")) (h4 : PySem.W.subIn K (.ref c) (.ref c) = some true) : PySem.W.exmOne K (.ref c) (.ref c) = some true := by
  have h5 : (PySem.W.clsIn K c).isSome = true := h2
  unfold PySem.W.exmOne PySem.W.kitCls
  simp [h1, h3, h4, h5]
def HasX (P : Program) (w : World) (K : PySem.W.Frag) (mg : Str → Option Value) (base : Heap) (x : Str) (k : Nat) (ps : List Str) (sp : Sp) : Prop := ∃ fa fd, FnOk P w K mg base (L2.CX P w) k fa fd ps sp ∧ mg x = some (.ref fa) ∧ PySem.W.keepIn K (.ref fa) = true ∧ Binds K fd ps []
section
variable {X : Cx} {C : Cs} {env kp : Gh → List Sl} {x y : Str} {e eh : Expr} {es : List Expr} {rest : List Stmt} {pos np pos' pp p q1 q2 : Pos} {α ρ β γ : Type} {r : Rp ρ} {ra : Ra α} {pn : β → Gh → List Sl} {pl : γ → Gh → List Sl} {c : Addr} {ps : List Str} {j k : Nat} {E : XK}
theorem pe_callX {g : α → Option (Option ρ)} {m : W α} (h : HasX X.prog X.w X.K X.mg X.base y j ps (SpX c ra r g)) (hr : Room k X.A) (hj : j ≤ k) (tk : Takes X (fun cls d _ H' => E cls d H')) (hg : Gl X y) (ha : PA X (e :: es) (tA C env ra m)) (hdb : (y == ("__debug__" : Str)) = false := by decide) (he : starEach (e :: es) X.env = (false, eval e X.env) :: starEach es X.env := by rfl) (hpl : (backTo pp (starEach es X.env)).any (·.1) = false := by rfl) :
    PE X (.Call (.Name y p) (e :: es) [] pp) (fun σ H Q => ∃ t : TA, t = tA C env ra m ∧ t σ H fun vs H1 => SpX c ra r g vs H1 Q (fun cls d H' => E cls d H')) := by
  obtain ⟨_, _, F, hm, hk, hb⟩ := h
  refine ⟨fun pins s σ H Q I ⟨t, et, h⟩ => ?_⟩
  subst et
  exact (pe_callS F (hr.mono hj) hg hm hk hb (passAt tk) ha hdb he hpl).run pins s σ H Q I h
theorem pmk_x {a : Expr} {te : TE} (T : ExcT X.K X.mg x c) (hg : Gl X x) (he : PE X a te) (hs : starEach [a] X.env = (false, eval a X.env) :: starEach [] X.env := by rfl) (hdb : (x == ("__debug__" : Str)) = false := by decide) :
    PMk X (.Call (.Name x p) [a] [] pos) (fun σ H Q => te σ H fun _ H1 => Q (.ref c) none H1) := by
  obtain ⟨bm, F, q⟩ := T.q
  exact SkE.pmk_own1 F q T.gC T.kC (raises_own T.sub T.ty) hg he hs hdb
theorem spx_enc (E : Ve r) {g : α → Option (Option ρ)} {vs : List V} {H : Hp} {Q : VK} {E' : XK} (h : SpX c ra qV (fun a => (g a).map fun o => o.map E.enc) vs H Q E') : SpX c ra r g vs H Q E' := by
  obtain ⟨S, a, o, e, t, hv, eo, k1, k2⟩ := h
  obtain ⟨o', eo2, rfl⟩ := Option.map_eq_some_iff.mp eo
  refine ⟨S, a, o', e, t, hv, eo2, fun v ev => ?_, fun en => ?_⟩
  · subst ev
    exact fun w S' H' a1 a2 a3 a4 a5 hw => k1 _ rfl w S' H' a1 a2 a3 a4 a5 (E.rep hw)
  · subst en
    exact k2 rfl
theorem xs_tryX {g : α → Option (Option ρ)} {m : W α} {mh : W PyData} (E : Ve r) (h : HasX X.prog X.w X.K X.mg X.base y j ps (SpX c ra r g)) (T : ExcT X.K X.mg x c) (hgx : Gl X x) (hs : X.stack = X.env :: X.outer) (hf : X.env.frame = some X.env.locals)
    (hr : Room k X.A) (hj : j ≤ k) (hg : Gl X y) (ha : ∀ pn xe, PA (X.tr pn xe) (e :: es) (tA C env ra m)) (hh : ∀ a pn, PE (X.suite a pn) eh (tE C env qV mh)) (hdx : (x == ("__debug__" : Str)) = false := by decide) (hdb : (y == ("__debug__" : Str)) = false := by decide)
    (he : starEach (e :: es) X.env = (false, eval e X.env) :: starEach es X.env := by rfl) (hpl : (backTo pp (starEach es X.env)).any (·.1) = false := by rfl) (hkp : Kp env kp := by first | exact ⟨0, fun _ => rfl⟩ | exact ⟨1, fun _ => rfl⟩) :
    PSs X (.Try [.Return (some (.Call (.Name y p) (e :: es) [] pp)) q1] [.ExceptHandler (some (.Name x np)) none [.Return (some eh) q2] pos'] [] [] pos :: rest) (tF C env ((m.bind fun a => (ofO ((g a).map fun o => o.map E.enc)).bind fun o => optM o (fun v => .ret v) mh).bind fun v => .ret (.rt v)) pn pl kp qV) := by
  obtain ⟨_, _, F, hm, hk, hb⟩ := h
  exact xs_tryRet (r := qV) (g := fun a => (g a).map fun o => o.map E.enc) hs hf ⟨hgx, hdx, .inl T.gC⟩ T.te takes0 (F.imp fun vs H Q E' q => spx_enc E q) (hr.mono hj) hg hm hk hb ha hh hdb he hpl hkp
end
end Rt

set_option maxRecDepth 100000
set_option maxHeartbeats 4000000
/-! RtR: texts of data (repr), where no repr is under way; methods of tuples; three targets at once. -/
namespace Rt
open PySem L2 Rt PyProof.Rows
def isSeqD : PyData → Bool
  | .list _ => true
  | .tuple _ => true
  | _ => false
def reprC (d : PyData) : Option Str := if isSeqD d = true ∧ d.showable = true ∧ d.hasDict = false ∧ d.depth ≤ 50 ∧ d.shown.length ≤ 1000000 then some d.shown else none
theorem call_reprD {X : Cx} (hG : X.A.guards = some []) (hu : X.A.units + 64 < cLine) : CallR X (.builtin "repr") (fun xs H Q => ∃ v d z, xs = [v] ∧ Dp X.K H v d ∧ reprC d = some z ∧ Q (.str z) H) := by
  intro pins s σ H xs us Q I r ⟨v, d, z, ex, hd, ez, q⟩
  subst ex
  obtain ⟨u, rfl, rx⟩ := vals1 r
  unfold reprC at ez
  split at ez
  case isFalse => cases ez
  rename_i c
  cases ez
  obtain ⟨c1, c2, c3, c4, c5⟩ := c
  obtain ⟨as, hr⟩ := Dp.reads I d v u hd rx
  have ha : ∃ a, u = .ref a := by
    cases hd with
    | lst _ _ => exact ⟨_, rx⟩
    | tup _ _ => exact ⟨_, rx⟩
    | _ => cases c1
  obtain ⟨a, rfl⟩ := ha
  exact repr_of_reads' (h₀ := s.heap) hr c2 (fun h => by rw [c3] at h; cases h) hG (by omega) (fun _ _ e => e) (fun h' u tk hk => ⟨.str _, H, I.kept (t' := tk) hk, ⟨_, rfl⟩, q⟩) (by rw [sizeLine_eq]; omega)
section
variable {X : Cx} {C : Cs} {env kp : Gh → List Sl} {a b c e : Expr} {pos p px pa pc : Pos} {α β γ : Type} {r ra : Rp α} {rb : Rp β} {rc : Rp γ} {mi : W Int}
theorem xe_reprD {md : W PyData} (hG : X.A.guards = some []) (hu : X.A.units + 64 < cLine) (hg : Gl X "repr") (hm : X.mg "repr" = none) (ha : PE X a (tE C env (qD X.K) md)) (hs : starEach [a] X.env = (false, eval a X.env) :: starEach [] X.env := by rfl) :
    PE X (.Call (.Name "repr" p) [a] [] pos) (tE C env qS (md.bind fun d => ofO (reprC d))) :=
  pe_imp (pe_callB (call_reprD hG hu) hg hm (by decide +kernel) (pa_cons ha pa_nil hs) (by decide) (by decide) hs (by rfl)) fun σ H Q _ ⟨S, g0, P, F, em, kk⟩ => ⟨S, g0, _, F, em, fun d g1 ⟨z, ez, pz⟩ v S1 H1 F1 x1 hv =>
    ⟨v, d, z, rfl, (qD X.K).mono F1.e1 hv, ez, fun _ => kk z _ pz _ S1 H1 F1 x1 rfl⟩⟩
/-! ### t.index(x), t.count(x) of ints -/
theorem xe_tindex {mx : W (List Int)} (ha : PE X a (tE C env (qT qI) mx)) (hb : PE X b (tE C env qI mi)) (hbase : attributeBase a "index" X.env (eval a X.env) = eval a X.env := by rfl)
    (hfew : ((backTo pc (starEach [b] X.env)).all (fun x => !x.1) && (backToKw pc (keywordEach [] X.env)).all (fun x => x.1.isSome) && decide (([b] : List Expr).length + ([] : List Keyword).length + (if ([] : List Keyword).isEmpty then 0 else 1) < 30)) = true := by rfl)
    (hline : (pa.endLine == pc.line) = true := by rfl) (hs : starEach [b] X.env = (false, eval b X.env) :: starEach [] X.env := by rfl) : PE X (.Call (.Attribute a "index" pa) [b] [] pc) (tE C env qI (mx.bind fun xs => mi.bind fun v => ofO (idxC xs v))) :=
  pe_imp (RtU.pe_bmU PySem.F.slot_tuple_index PySem.F.type_tuple_index RtU.mt_indexU ha (pa_cons hb pa_nil hs) hbase hfew hline hs (by rfl)) fun σ H Q _ ⟨S, g0, P, F, em, k⟩ => ⟨S, g0, _, F, em, fun xs g1 px v S1 H1 F1 x1 ⟨p, vs, ev, hp, h2⟩ =>
    ⟨⟨p, hp.choose, vs, ev, hp.choose_spec.1, F1.e1 _ _ hp.choose_spec.2⟩, S1, g1, _, F1, px, fun i g2 ⟨z, ez, pz⟩ u S2 H2 F2 x2 hu => by
      subst ev
      have e3 : vs = xs.map V.int := flat_ints h2
      subst e3
      unfold idxC at ez
      obtain ⟨n, en, rfl⟩ := Option.map_eq_some_iff.mp ez
      obtain ⟨q1, q2⟩ := idx_at en
      rw [show u = V.int i from hu]
      exact ⟨p, _, .int i, n, .int i, rfl, rfl, TupAt.sq (TupAt.mono F2.e1 (TupAt.mono x2 hp)), rfl, all_flat xs, q1, by show (i == i) = true; simp, q2, fun _ => k _ _ pz _ S2 H2 F2 (x1.trans x2) rfl⟩⟩⟩
def cntI (xs : List Int) (v : Int) : Int := ((xs.countP fun y => decide (y = v) : Nat) : Int)
theorem cnt_eqV (v : Int) : ∀ xs : List Int, (xs.map V.int).countP (fun z => eqV z (.int v)) = xs.countP fun y => decide (y = v)
  | [] => rfl
  | x :: xs => by
    rw [List.map_cons, List.countP_cons, List.countP_cons, cnt_eqV v xs]
    congr 1
theorem xe_tcount {mx : W (List Int)} (ha : PE X a (tE C env (qT qI) mx)) (hb : PE X b (tE C env qI mi)) (hbase : attributeBase a "count" X.env (eval a X.env) = eval a X.env := by rfl)
    (hfew : ((backTo pc (starEach [b] X.env)).all (fun x => !x.1) && (backToKw pc (keywordEach [] X.env)).all (fun x => x.1.isSome) && decide (([b] : List Expr).length + ([] : List Keyword).length + (if ([] : List Keyword).isEmpty then 0 else 1) < 30)) = true := by rfl)
    (hline : (pa.endLine == pc.line) = true := by rfl) (hs : starEach [b] X.env = (false, eval b X.env) :: starEach [] X.env := by rfl) : PE X (.Call (.Attribute a "count" pa) [b] [] pc) (tE C env qI (mx.bind fun xs => mi.bind fun v => .ret (cntI xs v))) :=
  pe_imp (RtU.pe_bmU PySem.F.slot_tuple_count PySem.F.type_tuple_count RtU.mt_countU ha (pa_cons hb pa_nil hs) hbase hfew hline hs (by rfl)) fun σ H Q _ ⟨S, g0, P, F, em, k⟩ => ⟨S, g0, _, F, em, fun xs g1 px v S1 H1 F1 x1 ⟨p, vs, ev, hp, h2⟩ =>
    ⟨⟨p, hp.choose, vs, ev, hp.choose_spec.1, F1.e1 _ _ hp.choose_spec.2⟩, S1, g1, _, F1, px, fun i g2 pz u S2 H2 F2 x2 hu => by
      subst ev
      have e3 : vs = xs.map V.int := flat_ints h2
      subst e3
      rw [show u = V.int i from hu]
      exact ⟨p, _, .int i, rfl, rfl, TupAt.sq (TupAt.mono F2.e1 (TupAt.mono x2 hp)), rfl, all_flat xs, fun _ => k _ _ pz _ S2 H2 F2 (x1.trans x2) (by rw [cnt_eqV]; rfl)⟩⟩⟩
/-! ### a, b, c = a list of three -/
theorem xe_unL3 {m : W (List α)} (h : PE X e (tE C env (qL ra) m)) : PE X e (tE C env (⟨fun H v (x : α × α × α) => (qL ra).p H v [x.1, x.2.1, x.2.2], fun e h => (qL ra).mono e h⟩ : Rp (α × α × α)) (m.bind fun x => ofO (three x))) :=
  xe_asO (ra := qL ra) (rb := (⟨fun H v (x : α × α × α) => (qL ra).p H v [x.1, x.2.1, x.2.2], fun e h => (qL ra).mono e h⟩ : Rp (α × α × α))) (fun H v a b h e => by
    match a, e with
    | [x, y, z], e =>
      cases e
      exact h) h
theorem xg_tripleL {up1 up2 up3 : Up α} {kk : Nat} (hc : X.calm = true) (h1 : PG X a (tG ra up1)) (h2 : PG X b (tG ra up2)) (h3 : PG X c (tG ra up3))
    (hs : (assignEach [a, b, c] X.env).map (·.2) = assign a X.env :: (assignEach [b, c] X.env).map (·.2) := by rfl) (hs2 : (assignEach [b, c] X.env).map (·.2) = assign b X.env :: (assignEach [c] X.env).map (·.2) := by rfl) (hs3 : (assignEach [c] X.env).map (·.2) = assign c X.env :: (assignEach [] X.env).map (·.2) := by rfl)
    (hn : (assignEach [a, b, c] X.env).length = 3 := by rfl) (hst : (assignEach [a, b, c] X.env).findIdx? (·.1) = none := by rfl) :
    PG X (.Tuple [a, b, c] kk pos) (tG (⟨fun H v (x : α × α × α) => (qL ra).p H v [x.1, x.2.1, x.2.2], fun e h => (qL ra).mono e h⟩ : Rp (α × α × α)) (uP3 up1 up2 up3)) :=
  pg_imp (pg_lst hc (pgs_cons h1 (pgs_cons h2 (pgs_cons h3 pgs_nil hs3) hs2) hs) hn hst) fun v σ H Q ⟨C, S, env, x, F, ⟨p, vs, ev, hp, hall⟩, q⟩ => by
    match vs, hall with
    | [v1, v2, v3], ⟨r1, r2, r3, _⟩ =>
      exact ⟨p, [v1, v2, v3], ev, SqL.of (F.e1 _ _ hp), rfl, v1, [v2, v3], rfl, C, S, env, x.1, F, r1, fun σ1 l1 n1 F1 => ⟨v2, [v3], rfl, C, S, _, x.2.1, F1, r2, fun σ2 l2 n2 F2 => ⟨v3, [], rfl, C, S, _, x.2.2, F2, r3, fun σ3 l3 n3 F3 => ⟨rfl, q σ3 (l3.trans (l2.trans l1)) (fun i hi => by
        have hi : i ∉ up1.js ++ (up2.js ++ up3.js) := hi
        simp at hi
        rw [n3 i hi.2.2, n2 i hi.2.1, n1 i hi.1]) F3⟩⟩⟩⟩
end
/-! ### a tuple of texts of the module's own -/
def TupG (K : PySem.W.Frag) (p : Addr) (xs : List Str) : Prop := ∀ H, SqT K H p (xs.map V.str)
theorem tupG_mk {K : PySem.W.Frag} {p : Addr} {its : Array Value} {n : Nat} {dn : Option Addr} {sl : Array (Option Value)} {xs : List Str} (l : K.lookup p = some ⟨.type "tuple", dn, .seq its n, sl⟩) (z : its.size ≤ sizeLine) (hv : Vals (xs.map V.str) its.toList) : TupG K p xs :=
  fun H => .inr ⟨_, its, n, l, rfl, rfl, z, hv⟩
theorem inV_str (x : Str) : ∀ xs : List Str, inV (.str x) (xs.map V.str) = xs.any fun y => decide (y = x)
  | [] => rfl
  | y :: xs => by
    have ih := inV_str x xs
    unfold inV at ih ⊢
    rw [List.map_cons, List.any_cons, List.any_cons, ih]
    congr 1
section
variable {X : Cx} {C : Cs} {env : Gh → List Sl} {a b : Expr} {x : Str} {pos p px : Pos} {ms : W Str} {q : Addr} {xs : List Str}
theorem cq_inG {op : CmpOp} {neg : Bool} (ho : OpR X (compareOp op) (rIn X.K neg)) (ha : PE X a (tE C env qS ms)) (hg : Gl X x) (hm : X.mg x = some (.ref q)) (hK : TupG X.K q xs) (hk : behindInMarks op (.Name x px) = false) (hd : (x == ("__debug__" : Str)) = false) :
    PE X (.Compare a [op] [.Name x px] pos) (tE C env qB (ms.bind fun i => .ret (if neg then !(xs.any fun y => decide (y = i)) else xs.any fun y => decide (y = i)))) :=
  pe_imp (pe_cmpR ho ha (pe_glob (v := .ref q) hg hm rfl hd) hk) fun σ H Q _ ⟨S, g0, P, F, em, kk⟩ => ⟨S, g0, _, F, em, fun i g1 pi v S1 H1 F1 x1 hv => by
    rw [show v = .str i from hv]
    exact ⟨q, _, rfl, .inr (hK H1), rfl, flat_strs xs, fun _ => kk _ _ pi _ S1 H1 F1 x1 (by rw [inV_str]; rfl)⟩⟩
theorem ct_inG {op : CmpOp} {neg : Bool} (ho : OpR X (compareOp op) (rIn X.K neg)) (ha : PE X a (tE C env qS ms)) (hg : Gl X x) (hm : X.mg x = some (.ref q)) (hK : TupG X.K q xs) (hk : behindInMarks op (.Name x px) = false) (hd : (x == ("__debug__" : Str)) = false) :
    PT X (.Compare a [op] [.Name x px] pos) (tT C env (ms.bind fun i => .ret (if neg then !(xs.any fun y => decide (y = i)) else xs.any fun y => decide (y = i)))) :=
  pt_imp (pt_cmpR ho ha (pe_glob (v := .ref q) hg hm rfl hd) hk) fun σ H Q _ ⟨S, g0, P, F, em, kk⟩ => ⟨S, g0, _, F, em, fun i g1 pi v S1 H1 F1 x1 hv => by
    rw [show v = .str i from hv]
    exact ⟨q, _, rfl, .inr (hK H1), rfl, flat_strs xs, _, rfl, fun _ => by
      rw [inV_str]
      exact kk _ _ pi S1 H1 F1 x1⟩⟩
theorem xe_inG (ha : PE X a (tE C env qS ms)) (hg : Gl X x) (hK : ∃ q, X.mg x = some (.ref q) ∧ TupG X.K q xs) (hk : behindInMarks .In (.Name x px) = false := by with_unfolding_all rfl) (hd : (x == ("__debug__" : Str)) = false := by decide) :
    PE X (.Compare a [.In] [.Name x px] pos) (tE C env qB (ms.bind fun i => .ret (xs.any fun y => decide (y = i)))) := let ⟨_, h1, h2⟩ := hK; cq_inG (neg := false) op_in_seq ha hg h1 h2 hk hd
theorem xt_inG (ha : PE X a (tE C env qS ms)) (hg : Gl X x) (hK : ∃ q, X.mg x = some (.ref q) ∧ TupG X.K q xs) (hk : behindInMarks .In (.Name x px) = false := by with_unfolding_all rfl) (hd : (x == ("__debug__" : Str)) = false := by decide) :
    PT X (.Compare a [.In] [.Name x px] pos) (tT C env (ms.bind fun i => .ret (xs.any fun y => decide (y = i)))) := let ⟨_, h1, h2⟩ := hK; ct_inG (neg := false) op_in_seq ha hg h1 h2 hk hd
theorem xe_ninG (ha : PE X a (tE C env qS ms)) (hg : Gl X x) (hK : ∃ q, X.mg x = some (.ref q) ∧ TupG X.K q xs) (hk : behindInMarks .NotIn (.Name x px) = false := by with_unfolding_all rfl) (hd : (x == ("__debug__" : Str)) = false := by decide) :
    PE X (.Compare a [.NotIn] [.Name x px] pos) (tE C env qB (ms.bind fun i => .ret !(xs.any fun y => decide (y = i)))) := let ⟨_, h1, h2⟩ := hK; cq_inG (neg := true) op_notIn_seq ha hg h1 h2 hk hd
theorem xt_ninG (ha : PE X a (tE C env qS ms)) (hg : Gl X x) (hK : ∃ q, X.mg x = some (.ref q) ∧ TupG X.K q xs) (hk : behindInMarks .NotIn (.Name x px) = false := by with_unfolding_all rfl) (hd : (x == ("__debug__" : Str)) = false := by decide) :
    PT X (.Compare a [.NotIn] [.Name x px] pos) (tT C env (ms.bind fun i => .ret !(xs.any fun y => decide (y = i)))) := let ⟨_, h1, h2⟩ := hK; ct_inG (neg := true) op_notIn_seq ha hg h1 h2 hk hd
end
theorem units64 {k : Nat} {A : Around} (r : Room k A) : A.units + 64 < cLine := by
  have := r.un
  omega
theorem units66 {k : Nat} {A : Around} (r : Room k A) : A.units + 66 < cLine := by
  have := r.un
  omega
end Rt

set_option maxRecDepth 100000
set_option maxHeartbeats 4000000
/-! RtY: x, y = a new list, b, one of the two names a cell. -/
namespace Rt
open PySem L2 Rt PyProof.Rows
section
variable {X : Cx} {C : Cs} {env kp : Gh → List Sl} {e a b : Expr} {es : List Expr} {rest : List Stmt} {pos p px : Pos} {α β γ ρ : Type} {r : Rp ρ} {pn : β → Gh → List Sl} {pl : γ → Gh → List Sl}
theorem xs_parN1c {i j : Nat} {x y : Str} {px py pt0 : Pos} {kt k2 : Nat} {pt2 : Pos} {α1 α2 : Type} {r1 : Rp α1} {r2 : Rp α2} {m1 : W (List α1)} {m2 : W α2} {K : List α1 → α2 → W (Fl ρ β γ)} (ha : PE X a (tN C env r1 m1)) (hb : ∀ C', PE X b (tE C' env r2 m2)) (hr : ∀ a b, PSs X rest (tF C (fun g => ((env g).set i (.ow r1 a)).set j (.im r2 b)) (K a b) pn pl kp r))
    (hc : X.calm = true) (hN : X.N.Nodup) (hi : X.N[i]? = some x) (hj : X.N[j]? = some y) (hx : Loc X.env.scope x) (hy : Loc X.env.scope y) (hfx : X.fn x = true) (hfy : X.fn y = true)
    (hw : swappedStores [.Tuple [.Name x px, .Name y py] kt pt0] (.Tuple [a, b] k2 pt2) X.env = pure none := by rfl) (hs : swapsWithSole [.Tuple [.Name x px, .Name y py] kt pt0] (.Tuple [a, b] k2 pt2) pos.line X.env = pure false := by rfl)
    (h3 : (assignEach [.Tuple [.Name x px, .Name y py] kt pt0] X.env).map (·.2) = [assign (.Tuple [.Name x px, .Name y py] kt pt0) X.env] := by rfl)
    (g1 : (assignEach [.Name x px, .Name y py] X.env).map (·.2) = assign (.Name x px) X.env :: (assignEach [.Name y py] X.env).map (·.2) := by rfl) (g2 : (assignEach [.Name y py] X.env).map (·.2) = assign (.Name y py) X.env :: (assignEach [] X.env).map (·.2) := by rfl)
    (hn : (assignEach [.Name x px, .Name y py] X.env).length = 2 := by rfl) (hst : (assignEach [.Name x px, .Name y py] X.env).findIdx? (·.1) = none := by rfl)
    (h1 : starEach [a, b] X.env = (false, eval a X.env) :: starEach [b] X.env := by rfl) (h2 : starEach [b] X.env = (false, eval b X.env) :: starEach [] X.env := by rfl) (hE : ∀ g g', Gs (env g) (env g') := by intro _ _; repeat (first | exact Gs.nil | apply Gs.keep | apply Gs.gh)) :
    PSs X (.Assign [.Tuple [.Name x px, .Name y py] kt pt0] (.Tuple [a, b] k2 pt2) pos :: rest) (tF C env (m1.bind fun a => m2.bind fun b => K a b) pn pl kp r) :=
  pss_imp (pss_cons (ps_asg (RtU.pe_tupU (pa_cons ha (pa_cons (pe_ex hb) pa_nil h2) h1)) (pg_tup hc (pgs_cons (pg_name hN hi hx (.inl hfx)) (pgs_cons (pg_name hN hj hy (.inl hfy)) pgs_nil g2) g1) hn hst) hs hw h3) (pss_ex fun p : List α1 × α2 => hr p.1 p.2)) fun D σ H _ ⟨S, g0, P, F, em, q⟩ => ⟨S, g0, _, F, em, fun xs g1 px p vs S1 H1 F1 x1 hp hv => by
    have G0 := F1.add hp (o := .lst vs)
    have np : ∀ g, p ∉ owns σ (env g) := fun g z => by
      obtain ⟨_, o, e⟩ := F1.sl.own ((hE g g1).owns σ ▸ z)
      rw [hp] at e
      cases e
    refine ⟨_, S1, g1, _, G0.here, px, fun w g2 pw v2 S2 H2 F2 x2 hv2 => ⟨Nat.le_of_ble_eq_true rfl, fun u o ho hu => ?_⟩⟩
    have hp2 : H2 p = some (.lst vs) := F2.e2 p _ upd_same (np g1)
    have sp2 : S2 p = none := F2.nw p (F1.e1.back hp) (by show upd H1 p (.lst vs) p ≠ none; rw [upd_same]; exact fun z => nomatch z)
    have G2 : Fr C S2 H2 σ (env g2) := G0.backG ((hE g2 g1).owns σ) F2
    have ne : p ≠ u := fun z => by rw [z, hu] at hp2; cases hp2
    have Gn := G2.new (o := .frz o (.tup [.ref p, v2])) hu
    have ex : Ex S2 (upd S2 u (.frz o (.tup [.ref p, v2]))) := Ex.new (G2.e1.back hu)
    have sp3 : upd S2 u (.frz o (.tup [.ref p, v2])) p = none := by rw [upd_ne ne]; exact sp2
    have hp3 : upd H2 u (.frz o (.tup [.ref p, v2])) p = some (.lst vs) := by rw [upd_ne ne]; exact hp2
    have G3 := (Gn.del sp3 (F1.H0none hp) (np g2)).setOw i (r := r1) (p := p) (vs := vs) (xs := xs) (by unfold Rt.del; simp) (hv.mono fun _ _ z => r1.mono (x2.trans ex) z)
    rw [upd_del hp3] at G3
    exact ⟨u, [.ref p, v2], rfl, TupAt.sq (TupAt.new ho), rfl, .ref p, [v2], rfl, v2, [], rfl, rfl, (xs, w), _, g2, P, G3.setIm j (r2.mono ex hv2), pw, fun o g9 po => (q o g9 po).mono (x1.trans (x2.trans ex))⟩⟩
end
end Rt

set_option maxRecDepth 100000
set_option maxHeartbeats 4000000
/-! RtZ: math.gcd, math.comb; texts: str(int), +, f-strings of two ints, len, sign by sign, <=. -/
namespace Rt
open PySem L2 Rt PyProof.Rows
def gcdC (i j : Int) : Int := ((Nat.gcd i.natAbs j.natAbs : Nat) : Int)
def combC (i j : Int) : Option Int := if 0 ≤ i ∧ 0 ≤ j ∧ i ≤ 18000 then some (PySem.W.mcComb i j) else none
theorem cr_comb {X : Cx} : CallR X (.builtin "math.comb") (fun xs H Q => ∃ i j z, xs = [.int i, .int j] ∧ combC i j = some z ∧ Q (.int z) H) := by
  intro pins s σ H xs us Q I r ⟨i, j, z, ex, ez, q⟩
  subst ex
  obtain ⟨u1, u2, rfl, r1, r2⟩ := vals2 r
  obtain ⟨t1, rfl⟩ := r1
  obtain ⟨t2, rfl⟩ := r2
  unfold combC at ez
  split at ez
  case isFalse => cases ez
  rename_i h
  cases ez
  exact PySem.W.mc_comb h.1 h.2.1 (by omega) (.inr h.2.2) fun _ => ⟨.int _, H, I.tok _, ⟨_, rfl⟩, q⟩
section
variable {X : Cx} {C : Cs} {env kp : Gh → List Sl} {a b c e tg : Expr} {pos p px pa pc : Pos} {mi mj : W Int} {ms mt : W Str}
theorem xe_cb2 {id : String} {x : Str} {f : Int → Int → Option Int} (hc : CallR X (.builtin id) (fun xs H Q => ∃ i j z, xs = [.int i, .int j] ∧ f i j = some z ∧ Q (.int z) H)) (hg : Gl X x) (hm : X.mg x = some (.builtin id)) (ha : PE X a (tE C env qI mi)) (hb : PE X b (tE C env qI mj))
    (hs : starEach [a, b] X.env = (false, eval a X.env) :: starEach [b] X.env := by rfl) (hs2 : starEach [b] X.env = (false, eval b X.env) :: starEach [] X.env := by rfl) (hdb : (x == ("__debug__" : Str)) = false := by decide) (hpl : (backTo pos (starEach [b] X.env)).any (·.1) = false := by rfl) :
    PE X (.Call (.Name x p) [a, b] [] pos) (tE C env qI (mi.bind fun i => mj.bind fun j => ofO (f i j))) :=
  pe_imp (pe_callBfun hc hg hm (pa_cons ha (pa_cons hb pa_nil hs2) hs) hdb hs hpl) fun σ H Q _ ⟨S, g0, P, F, em, kk⟩ =>
    ⟨S, g0, _, F, em, fun i g1 hi v S1 H1 F1 x1 hv => ⟨S1, g1, _, F1, hi, fun j g2 ⟨z, ez, pz⟩ w S2 H2 F2 x2 hw => ⟨i, j, z, by rw [show v = .int i from hv, show w = .int j from hw], ez, fun _ => kk _ _ pz _ S2 H2 F2 (x1.trans x2) rfl⟩⟩⟩
theorem cr_gcdO : CallR X (.builtin "math.gcd") (fun xs H Q => ∃ i j z, xs = [.int i, .int j] ∧ some (gcdC i j) = some z ∧ Q (.int z) H) := fun pins s σ H xs us Q I r ⟨i, j, z, ex, ez, q⟩ => cr_gcd pins s σ H xs us Q I r ⟨i, j, ex, by
  cases ez
  exact q⟩
theorem xe_gcd (hg : Gl X "gcd") (hm : X.mg "gcd" = some (.builtin "math.gcd")) (ha : PE X a (tE C env qI mi)) (hb : PE X b (tE C env qI mj))
    (hs : starEach [a, b] X.env = (false, eval a X.env) :: starEach [b] X.env := by rfl) (hs2 : starEach [b] X.env = (false, eval b X.env) :: starEach [] X.env := by rfl) (hpl : (backTo pos (starEach [b] X.env)).any (·.1) = false := by rfl) :
    PE X (.Call (.Name "gcd" p) [a, b] [] pos) (tE C env qI (mi.bind fun i => mj.bind fun j => ofO (some (gcdC i j)))) := xe_cb2 (f := fun i j => some (gcdC i j)) cr_gcdO hg hm ha hb hs hs2 (by decide) hpl
theorem xe_comb (hg : Gl X "comb") (hm : X.mg "comb" = some (.builtin "math.comb")) (ha : PE X a (tE C env qI mi)) (hb : PE X b (tE C env qI mj))
    (hs : starEach [a, b] X.env = (false, eval a X.env) :: starEach [b] X.env := by rfl) (hs2 : starEach [b] X.env = (false, eval b X.env) :: starEach [] X.env := by rfl) (hpl : (backTo pos (starEach [b] X.env)).any (·.1) = false := by rfl) :
    PE X (.Call (.Name "comb" p) [a, b] [] pos) (tE C env qI (mi.bind fun i => mj.bind fun j => ofO (combC i j))) := xe_cb2 (f := combC) cr_comb hg hm ha hb hs hs2 (by decide) hpl
/-! texts -/
def strC (i : Int) : Option Str := if i.natAbs.log2 < 1920 then some (Str.ofString (toString i)) else none
theorem xe_strI (hg : Gl X "str") (hm : X.mg "str" = none) (ha : PE X a (tE C env qI mi)) (hs : starEach [a] X.env = (false, eval a X.env) :: starEach [] X.env := by rfl) :
    PE X (.Call (.Name "str" p) [a] [] pos) (tE C env qS (mi.bind fun i => ofO (strC i))) :=
  pe_imp (pe_callTy call_str_int hg hm (by decide +kernel) (pa_cons ha pa_nil hs) (by decide) (by decide) hs (by rfl)) fun σ H Q _ ⟨S, g0, P, F, em, kk⟩ => ⟨S, g0, _, F, em, fun i g1 ⟨z, ez, pz⟩ v S1 H1 F1 x1 hv => by
    unfold strC at ez
    split at ez
    case isFalse => cases ez
    rename_i h
    cases ez
    exact ⟨i, by rw [show v = .int i from hv], h, fun _ => kk _ _ pz _ S1 H1 F1 x1 rfl⟩⟩
def catSC (x y : Str) : Option Str := if x.length + y.length ≤ 1000000 then some (x ++ y) else none
theorem xe_catS (ha : PE X a (tE C env qS ms)) (hb : PE X b (tE C env qS mt)) : PE X (.BinOp a .Add b pos) (tE C env qS (ms.bind fun x => mt.bind fun y => ofO (catSC x y))) :=
  xe_op op_add_str ha hb fun _ S H σ x y i j z Q F _ hx hy ez k => by
    unfold catSC at ez
    split at ez
    case isFalse => cases ez
    rename_i h
    cases ez
    exact ⟨i, j, hx, hy, by rw [sizeLine_eq]; omega, k _ _ _ F (Ex.refl S) rfl⟩
def lenS (x : Str) : Option Int := if x.length ≤ 1000000 then some (x.length : Int) else none
theorem xe_lenS (hg : Gl X "len") (hm : X.mg "len" = none) (ha : PE X a (tE C env qS ms)) (hs : starEach [a] X.env = (false, eval a X.env) :: starEach [] X.env := by rfl) :
    PE X (.Call (.Name "len" p) [a] [] pos) (tE C env qI (ms.bind fun x => ofO (lenS x))) :=
  pe_imp (pe_callB call_len_str hg hm (by decide +kernel) (pa_cons ha pa_nil hs) (by decide) (by decide) hs (by rfl)) fun σ H Q _ ⟨S, g0, P, F, em, kk⟩ => ⟨S, g0, _, F, em, fun x g1 ⟨z, ez, pz⟩ v S1 H1 F1 x1 hv => by
    unfold lenS at ez
    split at ez
    case isFalse => cases ez
    rename_i h
    cases ez
    exact ⟨x, by rw [show v = .str x from hv], by rw [sizeLine_eq]; omega, fun _ => kk _ _ pz _ S1 H1 F1 x1 rfl⟩⟩
theorem str_len {i : Int} (h : i.natAbs.log2 < 1920) : (Str.ofString (toString i)).length ≤ 1921 := by
  rw [PySem.ofString_length]
  have hb : ∀ n : Nat, n.log2 < 1920 → n < 2 ^ 1920 := fun n hn => by
    by_cases z : n = 0
    · rw [z]; exact Nat.two_pow_pos _
    · exact (Nat.log2_lt z).mp hn
  cases i with
  | ofNat n =>
    have := PySem.nat_repr_length_le (n := n) (k := 1920) (by decide) (hb n h)
    show (Nat.repr n).length ≤ _
    omega
  | negSucc n =>
    have := PySem.nat_repr_length_le (n := n + 1) (k := 1920) (by decide) (hb (n + 1) h)
    show ("-" ++ Nat.repr (n + 1)).length ≤ _
    rw [String.length_append]
    show 1 + _ ≤ _
    omega
theorem empty_app (x : Str) : Str.empty ++ x = x := by
  show Str.mk (#[] ++ x.cps) = x
  rw [Array.empty_append]
def fmtT (te : TE) : TE := te
/-- f'{a}z{b}' of two ints -/
theorem xe_fs3 {z : Expr} {p1 p2 : Pos} (ha : PE X a (tE C env qI mi)) (hz : PE X z (tE C env qS ms)) (hb : PE X b (tE C env qI mj)) :
    PE X (.JoinedStr [.FormattedValue a (-1) none p1, z, .FormattedValue b (-1) none p2] pos) (tE C env qS (mi.bind fun i => (ofO (strC i)).bind fun s => ms.bind fun y => (ofO (catSC s y)).bind fun u => mj.bind fun j => (ofO (strC j)).bind fun t => ofO (catSC u t))) :=
  pe_imp (pe_joined (.cons (pe_fmt ha) (.cons hz (.cons (pe_fmt hb) .nil)))) fun σ H Q _ ⟨S, g0, P, F, em, kk⟩ =>
    ⟨S, g0, _, F, em, fun i g1 ⟨s, es, h2⟩ v S1 H1 F1 x1 hv => .inr ⟨i, hv, by
      unfold strC at es
      split at es
      case isFalse => cases es
      rename_i hl
      cases es
      refine ⟨hl, _, rfl, by rw [empty_app, sizeLine_eq]; have := str_len hl; omega, ?_⟩
      rw [empty_app]
      refine ⟨S1, g1, _, F1, h2, fun y g2 ⟨u, eu, h3⟩ v2 S2 H2 F2 x2 hv2 => ?_⟩
      unfold catSC at eu
      split at eu
      case isFalse => cases eu
      rename_i hl2
      cases eu
      have l12 : (Str.ofString (toString i) ++ y).length = (Str.ofString (toString i)).length + y.length := Array.size_append ..
      refine ⟨y, hv2, by rw [l12, sizeLine_eq]; omega, S2, g2, _, F2, h3, fun j g3 ⟨t, et, h4⟩ v3 S3 H3 F3 x3 hv3 => .inr ⟨j, hv3, ?_⟩⟩
      unfold strC at et
      split at et
      case isFalse => cases et
      rename_i hl3
      cases et
      obtain ⟨w, ew, pw⟩ := h4
      unfold catSC at ew
      split at ew
      case isFalse => cases ew
      rename_i hl4
      cases ew
      have l34 : (Str.ofString (toString i) ++ y ++ Str.ofString (toString j)).length = (Str.ofString (toString i) ++ y).length + (Str.ofString (toString j)).length := Array.size_append ..
      refine ⟨hl3, _, rfl, by rw [l34, sizeLine_eq]; omega, ?_⟩
      exact fun _ => kk _ _ pw _ S3 H3 F3 (x1.trans (x2.trans x3)) rfl⟩⟩
/-- the signs of a text -/
def signs (x : Str) : List Str := x.cps.toList.map fun c => ⟨#[c]⟩
def signsC (x : Str) : Option (List Str) := if x.length ≤ 1000000 then some (signs x) else none
theorem wk_str {x : Str} {S0 : Hp} (h : x.length ≤ 1000000) : Wk (Its x) qS (signs x) S0 := by
  have l : (signs x).length = x.cps.size := by unfold signs; rw [List.length_map, Array.length_toList]
  have h : x.cps.size ≤ 1000000 := h
  refine ⟨by rw [l, sizeLine_eq]; omega, fun {C S H σ env} i hi' F e => ?_, fun {C S H σ env} i v H' y F e hy ha => ?_, fun {C S H σ env} i hi' F e => ?_⟩
  · show i < x.cps.size
    omega
  · obtain ⟨eH, c, ec, ev⟩ := hy
    subst eH
    refine ⟨S, F, Ex.refl S, Ex.refl _, fun _ z _ => z, ?_⟩
    show v = V.str y
    unfold signs at ha
    rw [List.getElem?_map, Array.getElem?_toList, ec] at ha
    cases ha
    exact ev
  · show x.cps.size ≤ i
    omega
theorem xi_str (h : PE X a (tE C env qS ms)) : PI X tg a (tS C env qS (ms.bind fun x => ofO (signsC x))) :=
  pi_imp (pi_str h) fun σ H R _ ⟨S, g0, P, F, em, q⟩ => ⟨S, g0, _, F, em, fun x g1 ⟨z, ez, pz⟩ v S1 H1 F1 x1 hv => by
    unfold signsC at ez
    split at ez
    case isFalse => cases ez
    rename_i hl
    cases ez
    exact ⟨x, hv, q _ _ pz _ S1 H1 F1 x1 (wk_str hl)⟩⟩
theorem cd_leS : CmpD X C .LtE qS qS fun i j => some (!decide (j.cps.toList < i.cps.toList)) := ⟨_, op_le_str, fun _ S H σ x y p q z Q F _ hx hy ez k => by
  cases ez
  exact ⟨p, q, hx, hy, k S H F (Ex.refl S)⟩⟩
end
section
variable {X : Cx} {C : Cs} {env kp : Gh → List Sl} {e a b c : Expr} {es : List Expr} {rest : List Stmt} {pos p px : Pos} {α β γ ρ : Type} {r : Rp ρ} {pn : β → Gh → List Sl} {pl : γ → Gh → List Sl}
/-- x, y, z = a, b, c of three locals -/
theorem xs_par3 {i j l : Nat} {x y z : Str} {px py pz pt0 : Pos} {kt k2 : Nat} {pt2 : Pos} {α1 α2 α3 : Type} {r1 : Rp α1} {r2 : Rp α2} {r3 : Rp α3} {m1 : W α1} {m2 : W α2} {m3 : W α3} {K : α1 → α2 → α3 → W (Fl ρ β γ)} (ha : PE X a (tE C env r1 m1)) (hb : PE X b (tE C env r2 m2)) (hc3 : PE X c (tE C env r3 m3)) (hr : ∀ a b c, PSs X rest (tF C (fun g => (((env g).set i (.im r1 a)).set j (.im r2 b)).set l (.im r3 c)) (K a b c) pn pl kp r))
    (hc : X.calm = true) (hN : X.N.Nodup) (hi : X.N[i]? = some x) (hj : X.N[j]? = some y) (hl : X.N[l]? = some z) (hij : i ≠ j) (hil : i ≠ l) (hjl : j ≠ l) (hx : X.env.scope.names.lookup x = some .local) (hy : X.env.scope.names.lookup y = some .local) (hz : X.env.scope.names.lookup z = some .local)
    (hw : swappedStores [.Tuple [.Name x px, .Name y py, .Name z pz] kt pt0] (.Tuple [a, b, c] k2 pt2) X.env = pure (some [x, y, z])) (hs : swapsWithSole [.Tuple [.Name x px, .Name y py, .Name z pz] kt pt0] (.Tuple [a, b, c] k2 pt2) pos.line X.env = pure false := by rfl)
    (h1 : starEach [a, b, c] X.env = (false, eval a X.env) :: starEach [b, c] X.env := by rfl) (h2 : starEach [b, c] X.env = (false, eval b X.env) :: starEach [c] X.env := by rfl) (h3 : starEach [c] X.env = (false, eval c X.env) :: starEach [] X.env := by rfl) :
    PSs X (.Assign [.Tuple [.Name x px, .Name y py, .Name z pz] kt pt0] (.Tuple [a, b, c] k2 pt2) pos :: rest) (tF C env (m1.bind fun a => m2.bind fun b => m3.bind fun c => K a b c) pn pl kp r) :=
  pss_imp (pss_cons (ps_par3 hc hN hi hj hl hij hil hjl hx hy hz (pa_cons ha (pa_cons hb (pa_cons hc3 pa_nil h3) h2) h1) hw hs) (pss_ex fun p : α1 × α2 × α3 => hr p.1 p.2.1 p.2.2)) fun D σ H _ ⟨S, g0, P, F, em, q⟩ =>
    ⟨S, g0, _, F, em, fun u g1 pu v S1 H1 F1 x1 hv => ⟨S1, g1, _, F1, pu, fun w g2 pw v2 S2 H2 F2 x2 hv2 => ⟨S2, g2, _, F2, pw, fun t g3 pt v3 S3 H3 F3 x3 hv3 => ⟨v, v2, v3, rfl, (u, w, t), S3, _, P, ((F3.setIm i (r1.mono (x2.trans x3) hv)).setIm j (r2.mono x3 hv2)).setIm l hv3, pt, fun o g9 po => (q o g9 po).mono (x1.trans (x2.trans x3))⟩⟩⟩⟩
end
end Rt

set_option maxRecDepth 100000
set_option maxHeartbeats 4000000
/-! RtQ: a set of any number of tuples, of few unlike ones. -/
namespace Rt
open PySem L2 Rt PyProof.Rows
/-- never more than 62 unlike ones -/
def FewK (ks : List (Addr × List Int)) : Prop := ∀ L : List (Addr × List Int), (L.map (·.2)).Nodup → (∀ p ∈ L, p ∈ ks) → L.length + 1 < 64
section
variable {P : Program} {w : World} {A : Around} {I : Addr} {fp wr : List Addr} {G : Array GenState → Array GenState → Prop} {n : Nat} {Pv : Nat → Value → Prop} {St : Nat → Shared → Prop} {R : Result → Shared → Prop}
theorem set_fill (W : WalksS P w A.in1 I fp wr G n Pv St) {S : Addr} (hSf : S ∉ fp) {ks : List (Addr × List Int)} (hn : n = ks.length) (hfew : FewK ks) (hval : ∀ i v, Pv i v → ∃ p, ks[i]? = some p ∧ v = Value.ref p.1) {h0 : Heap} (hk : ∀ p ∈ ks, L2.IsT P w h0 p.2 p.1)
    (hS0 : h0.get? S = none) (hw0 : ∀ b ∈ wr, h0.get? b = none) (hu : A.in1.units < cLine) : ∀ (k i : Nat) (s : Shared), n - i = k → i ≤ n → St i s → (∀ b o, h0.get? b = some o → s.heap.get? b = some o) →
      (∃ L es ep t, SetTR P w s.heap S L es ep t ∧ Got ks i L) →
      (∀ s' L es ep t, Moved (S :: wr) G s s' → SetTR P w s'.heap S L es ep t → Got ks n L → (∀ b o, h0.get? b = some o → s'.heap.get? b = some o) → R (.ok (.ret .none)) s') →
      codeAny (model P w) A (.builtin "set.update.loop" ⟨[.ref S, .ref I], []⟩) R s := by
  have hSw : S ∉ wr := fun h => hSf (W.sub S h)
  have keep : ∀ {s s' : Shared}, Moved wr G s s' → (∀ b o, h0.get? b = some o → s.heap.get? b = some o) → ∀ b o, h0.get? b = some o → s'.heap.get? b = some o := fun {s s'} hm hb b o e => hm.heap b o (fun z => by rw [hw0 b z] at e; cases e) (hb b o e)
  intro k
  induction k with
  | zero =>
    intro i s hk' hi hst hkp ⟨L, es, ep, t, hS, g⟩ hR
    have ei : i = n := by omega
    subst ei
    refine codeAny_builtin PyProof.Rows.F.entry_set_update_loop ?_
    rw [Around.under_plainId PyProof.Rows.F.plain_set_update_loop]
    unfold Builtin.«set.update.loop»
    refine wpAny_bind (W.done s _ _ hst fun s' hm => ?_)
    have kp := keep hm hkp
    exact wpAny_pure (hR s' L es ep t (hm.mono fun b hb => List.mem_cons_of_mem _ hb) (hS.keep (fun o e => hm.heap S o hSw e) fun p hp => isT_keep (hk p (List.mem_of_mem_take (g.sub p hp))) kp) g kp)
  | succ k ih =>
    intro i s hk' hi hst hkp ⟨L, es, ep, t, hS, g⟩ hR
    refine codeAny_builtin PyProof.Rows.F.entry_set_update_loop ?_
    rw [Around.under_plainId PyProof.Rows.F.plain_set_update_loop]
    unfold Builtin.«set.update.loop»
    refine wpAny_bind (W.item i s _ _ (by omega) hst fun v s' hv hst' hm => ?_)
    obtain ⟨x, hx, rfl⟩ := hval i v hv
    have kp := keep hm hkp
    have tx : L2.IsT P w s'.heap x.2 x.1 := isT_keep (hk x (List.mem_of_getElem? hx)) kp
    have sub : ∀ p ∈ L, p ∈ ks := fun p hp => List.mem_of_mem_take (g.sub p hp)
    have hS' : SetTR P w s'.heap S L es ep t := hS.keep (fun o e => hm.heap S o hSw e) fun p hp => isT_keep (hk p (sub p hp)) kp
    refine wpAny_bind (wpAny_holding ?_)
    unfold setAdd
    refine wpAny_holding (wpAny_bind (wpAny_pyHash_tuple hu tx ?_))
    refine add_at (s := { s' with toks := s'.toks + (x.2.length + 1) }) hS' tx hu (hfew L hS.nd sub) fun b h' L' es' ep' t' sb R' h1 h2 => ?_
    have ne : ∀ b, b ∈ fp → b ≠ S := fun b hb z => hSf (z ▸ hb)
    have g' : Got ks (i + 1) L' := by
      by_cases z : x.2 ∈ L.map (·.2)
      · rw [h1 z]
        exact g.same hx z
      · exact g.more hx (h2 z)
    have st2 : St (i + 1) { s' with heap := h', toks := s'.toks + (x.2.length + 1) } := W.frame (i + 1) s' h' _ hst' (by omega) fun b hb o e => (sb.2 b (ne b hb)).trans e
    have kp2 : ∀ b o, h0.get? b = some o → h'.get? b = some o := fun b o e => (sb.2 b (fun z => by rw [z, hS0] at e; cases e)).trans (kp b o e)
    have m2 : Moved (S :: wr) G s' { s' with heap := h', toks := s'.toks + (x.2.length + 1) } := ⟨fun b o hb e => (sb.2 b (fun z => hb (by rw [z]; exact List.mem_cons_self))).trans e, W.grefl _, rfl, rfl, by show s'.toks ≤ s'.toks + _; omega⟩
    refine wpAny_pure ⟨Code.quiet_builtin _ (by decide +kernel), ih (i + 1) _ (by omega) (by omega) st2 kp2 ⟨L', es', ep', t', R', g'⟩ fun s2 L2 es2 ep2 t2 hm2 => ?_⟩
    refine hR s2 L2 es2 ep2 t2 (Moved.trans W.gtrans (Moved.trans W.gtrans (hm.mono fun b hb => List.mem_cons_of_mem _ hb) m2) hm2)
/-- an object of class set that has nothing in it -/
abbrev bare (w : World) : Obj := { cls := .type "set", data := .set #[] 0 (SetTable.fresh 0 0 (!w.params.followText "set-order")) }
/-- set(xs), xs a list of tuples of ints, few unlike ones -/
theorem call_set_many {A : Around} {E : Value → Shared → Prop} {s : Shared} {l : Addr} {items : Array Value} {ks : List (Addr × List Int)} {Q : Value → Shared → Prop} (hh : A.handled = none) (hl : s.heap.IsList l items) (hit : items.toList = ks.map fun p => Value.ref p.1) (hk : ∀ p ∈ ks, L2.IsT P w s.heap p.2 p.1)
    (hfew : FewK ks) (hu : A.units + 3 < cLine)
    (h : ∀ h' tk L es ep t, SetTR P w h' s.heap.objs.size L es ep t → Got ks ks.length L → (∀ b o, s.heap.get? b = some o → h'.get? b = some o) → Q (.ref s.heap.objs.size) { s with heap := h', toks := tk }) :
    wpAny (model P w) A (call (.type "set") [.ref l]) Q E s := by
  have hisz : items.size = ks.length := by rw [← Array.length_toList, hit, List.length_map]
  have hlt : l < s.heap.objs.size := by obtain ⟨o, ho, _⟩ := hl; exact Heap.lt_size ho
  have hS : (s.heap.push (bare w)).get? s.heap.objs.size = some (bare w) := Heap.get?_push_size s.heap rfl
  have hT : Shared.TypeIs { s with heap := s.heap.push (bare w) } (.ref s.heap.objs.size) "set" := ⟨_, hS, rfl⟩
  have hlb : (s.heap.push (bare w)).IsList l items := hl.push _
  have fresh : ∀ b, s.heap.objs.size ≤ b → s.heap.get? b = none := fun b hb => by
    cases q : s.heap.get? b with
    | none => rfl
    | some o => exact absurd (Heap.lt_size q) (Nat.not_lt.mpr hb)
  -- the filling, from the bare set on
  have fill : ∀ (B : Around), B.handled = none → B.in1.units < cLine → ∀ R : Result → Shared → Prop,
      (∀ h' tk L es ep t, SetTR P w h' s.heap.objs.size L es ep t → Got ks ks.length L → (∀ b o, s.heap.get? b = some o → h'.get? b = some o) → R (.ok (.ret .none)) { s with heap := h', toks := tk }) →
      codeAny (model P w) B (.builtin "set.update.loop" ⟨[.ref s.heap.objs.size, .ref (s.heap.push (bare w)).objs.size], []⟩) R { s with heap := (s.heap.push (bare w)).push { cls := .type "list_iterator", data := .fields #[.ref l, .int 0 0] } } := by
    intro B hB hBu R hR
    have ne1 : l ≠ (s.heap.push (bare w)).objs.size := by rw [Heap.size_push]; exact Nat.ne_of_lt (Nat.lt_succ_of_lt hlt)
    have ne2 : s.heap.objs.size ∉ [(s.heap.push (bare w)).objs.size, l] := by
      rw [Heap.size_push]
      intro z
      rcases List.mem_cons.mp z with z | z
      · exact absurd z (Nat.ne_of_lt (Nat.lt_succ_self _))
      · exact absurd (List.mem_singleton.mp z) (Nat.ne_of_gt hlt)
    have hB1 : B.in1.handled = none := by simp [hB]
    refine set_fill (w := w) (h0 := s.heap) (ks := ks) ((Walks.list hB1 (s.heap.push (bare w)).objs.size l ne1 items).toS) ne2 hisz hfew (fun i v hv => ?_) hk (fresh _ (Nat.le_refl _)) (fun b hb => fresh b (by rw [List.mem_singleton.mp hb, Heap.size_push]; exact Nat.le_succ _)) hBu (items.size - 0) 0 _ rfl (Nat.zero_le _)
      ⟨⟨_, Heap.get?_push_size _ rfl, rfl, rfl⟩, hlb.push _⟩ (fun b o e => Heap.get?_push_of_some _ (Heap.get?_push_of_some _ e)) ⟨[], #[], 0, _, setTR_fresh (Heap.get?_push_of_some _ hS), Got.zero ks⟩ fun s' L es ep t hm hS' g' hkp => ?_
    · have q : items.toList[i]? = some v := by rw [Array.getElem?_toList]; exact hv
      rw [hit, List.getElem?_map, Option.map_eq_some_iff] at q
      obtain ⟨p, q1, q2⟩ := q
      exact ⟨p, q1, q2.symm⟩
    · rw [hisz] at g'
      have r := hR s'.heap s'.toks L es ep t hS' g' hkp
      have e : ({ s with heap := s'.heap, toks := s'.toks } : Shared) = s' := by
        obtain ⟨a1, a2, a3, a4, a5⟩ := s'
        have e1 : a2 = s.gens := hm.gens
        have e2 : a3 = s.drawn := hm.drawn
        have e3 : a5 = s.os := hm.os
        subst e1 e2 e3
        rfl
      rwa [e] at r
  obtain ⟨c, tl, hmro⟩ := F.called_set.mro
  have hmade := F.called_set.made
  have hsub := F.called_set.sub
  have h1 := F.called_set.notType
  have h2 := F.called_set.canCreate
  have hct := F.typeCall_set_1 (.ref l)
  have hli := F.called_set.init.lookup
  have hbi := F.called_set.init.bind (.ref s.heap.objs.size)
  refine wpAny_call (codeAny_of_tree (wpAny_pure ⟨Code.quiet_builtin _ (by decide +kernel), codeAny_builtin F.entry_type_call ?_⟩))
  rw [Around.under_plain (weight_type_call_type "set" [.ref l] []) rfl]
  repeat (any_goals (first | assumption | wp_step))
  refine codeAny_mono (code_set_led1 (E := E) (Q₁ := fun v s' => v = .ref s.heap.objs.size ∧ s' = { s with heap := s.heap.push (bare w) }) (.ref l) ⟨rfl, rfl⟩) fun r s1 hr => ?_
  match r, hr with
  | .error e, hr => exact hr
  | .ok .next, hr => exact hr.elim
  | .ok .brk, hr => exact hr.elim
  | .ok .cont, hr => exact hr.elim
  | .ok (.ret v), ⟨ev, es⟩ =>
    subst ev es
    repeat (any_goals (first | assumption | wp_step))
    refine codeAny_mono (codeAny_call_builtin (R := wants (fun r s2 => r = .none ∧ Q (.ref s.heap.objs.size) s2) E) F.called_set.init.plain F.entry_set_init (check_set_init_1 hT ?_)) fun r2 s2 hr2 => ?_
    · have hsl := F.sub_list_set
      have hsf := F.sub_list_frozenset
      have hne : (Value.type "list" == Value.type "dict") = false := by decide
      have hlb' := hlb
      obtain ⟨o, ho, hcl, nl, hdl⟩ := hlb'
      obtain ⟨ocls, odict, odata, oslots⟩ := o
      simp only at hcl hdl
      subst hcl hdl
      unfold Builtin.«set.__init__» noKeywords Builtin.Frozenset.updateFrom
      generalize hPI : pyIter = PI
      wp_walk
      subst hPI
      refine wpAny_pyIter_list hlb (wpAny_bind (wpAny_runValue (fill _ (by simp [hh]) (by first | exact hu | (simp; omega)) _ fun h' tk L es ep t a1 a2 a3 => ?_)))
      exact wpAny_pure (wpAny_pure ⟨rfl, h h' tk L es ep t a1 a2 a3⟩)
    · match r2, hr2 with
      | .error e, hr2 => exact hr2
      | .ok .next, hr2 => exact hr2.elim
      | .ok .brk, hr2 => exact hr2.elim
      | .ok .cont, hr2 => exact hr2.elim
      | .ok (.ret v), ⟨ev, q⟩ =>
        subst ev
        repeat (any_goals (first | assumption | wp_step))
end
end Rt

set_option maxRecDepth 100000
set_option maxHeartbeats 4000000
/-! RtJ: sorted(set(xs)), xs a list of tuples of ints. -/
namespace Rt
open PySem L2 Rt PyProof.Rows
/-- each one once -/
def ddX : List (List Int) → List (List Int)
  | [] => []
  | x :: xs => if (ddX xs).contains x = true then ddX xs else x :: ddX xs
theorem ddX_mem {y : List Int} : ∀ {xs : List (List Int)}, y ∈ ddX xs ↔ y ∈ xs
  | [] => Iff.rfl
  | x :: xs => by
    unfold ddX
    split
    · rename_i h
      have hx : x ∈ ddX xs := by simpa using h
      rw [ddX_mem, List.mem_cons]
      exact ⟨.inr, fun z => z.elim (fun e => by rw [e]; exact ddX_mem.mp hx) id⟩
    · rw [List.mem_cons, List.mem_cons, ddX_mem]
theorem ddX_nodup : ∀ xs : List (List Int), (ddX xs).Nodup
  | [] => .nil
  | x :: xs => by
    unfold ddX
    split
    · exact ddX_nodup xs
    · rename_i h
      exact List.nodup_cons.mpr ⟨fun z => h (by simpa using z), ddX_nodup xs⟩
theorem nodup_len {α : Type} [DecidableEq α] : ∀ (l D : List α), l.Nodup → (∀ x ∈ l, x ∈ D) → l.length ≤ D.length
  | [], _, _, _ => Nat.zero_le _
  | x :: l, D, hn, hs => by
    obtain ⟨h1, h2⟩ := List.nodup_cons.mp hn
    have hx : x ∈ D := hs x List.mem_cons_self
    have ih := nodup_len l (D.erase x) h2 fun y hy => (List.mem_erase_of_ne (fun e : y = x => h1 (e ▸ hy))).2 (hs y (List.mem_cons_of_mem _ hy))
    have e := List.length_erase_of_mem hx
    have hp := List.length_pos_of_mem hx
    rw [List.length_cons]
    omega
theorem lex_of_code {B : Int} : ∀ {a b : List Int}, a.length = b.length → TS.Bd B a → TS.Bd B b → TS.code B a ≤ TS.code B b → LeX a b
  | [], [], _, _, _, _ => by unfold LeX; rw [HT.lexLt_nil_nil]
  | [], _ :: _, e, _, _, _ => by cases e
  | _ :: _, [], e, _, _, _ => by cases e
  | x :: a, y :: b, e, ha, hb, h => by
    have e' : a.length = b.length := Nat.succ.inj e
    unfold LeX
    rw [HT.lexLt_cons]
    by_cases c : y = x
    · subst c
      rw [if_pos rfl]
      refine lex_of_code e' ha.tail hb.tail ?_
      refine Int.not_lt.mp fun z => ?_
      have := (TS.code_same (B := B) (d := y) e'.symm).mpr z
      omega
    · rw [if_neg c]
      refine decide_eq_false fun z => ?_
      have := TS.code_lt (B := B) e'.symm hb.tail ha.tail z
      omega
/-- sorted(set(xs)), few unlike ones, all of one length, of ints from 0 to 63 -/
def sortSet (xs : List (List Int)) : Option (List (List Int)) :=
  if (decide ((ddX xs).length < 63) && xs.all fun n => n.length == (xs.headD [0]).length && (!n.isEmpty) && n.all fun z => decide (0 ≤ z) && decide (z < 64)) = true then some (sortX (ddX xs)) else none
section
variable {X : Cx}
def rSetQ (K : PySem.W.Frag) (P : Program) (w : World) : List V → Hp → VK → Prop := fun xs H Q => ∃ (l : Addr) (vs : List V) (nss : List (List Int)) (R : V → List Int → Prop), xs = [V.ref l] ∧ SqL K H l vs ∧ All2 R vs nss ∧ (∀ x n, R x n → TupI K H x n) ∧ (ddX nss).length < 63 ∧
  ∀ a L, H a = none → (∀ p ∈ L, R (.ref p.1) p.2) → (∀ p ∈ L, p.2 ∈ nss) → (∀ n ∈ nss, n ∈ L.map (·.2)) → Q (.ref a) (upd H a (SetTO P w a L))
theorem all2_refs {R : V → List Int → Prop} : ∀ {vs : List V} {nss : List (List Int)}, (∀ x n, R x n → ∃ t, x = V.ref t) → All2 R vs nss → ∃ ks : List (Addr × List Int), vs = ks.map (fun p => V.ref p.1) ∧ nss = ks.map (·.2) ∧ ∀ p ∈ ks, R (.ref p.1) p.2
  | [], [], _, _ => ⟨[], rfl, rfl, fun _ h => by cases h⟩
  | v :: vs, n :: nss, hr, ⟨h, t⟩ => by
    obtain ⟨ks, e1, e2, e3⟩ := all2_refs hr t
    obtain ⟨b, rfl⟩ := hr v n h
    refine ⟨(b, n) :: ks, by rw [e1]; rfl, by rw [e2]; rfl, fun p hp => ?_⟩
    rcases List.mem_cons.mp hp with z | z
    · subst z; exact h
    · exact e3 p z
  | [], _ :: _, _, h => h.elim
  | _ :: _, [], _, h => h.elim
theorem cr_setQ (hc : X.calm = true) (hu : X.A.units + 64 < cLine) : CallR X (.type "set") (rSetQ X.K X.prog X.w) := by
  intro pins s σ H xs us Q I r h
  obtain ⟨l, vs, nss, R, rfl, hl, hR, hT, hf, q⟩ := h
  rw [Vals.ref1 r]
  obtain ⟨ks, rfl, rfl, hk⟩ := all2_refs (fun x n h => by obtain ⟨t, e, _⟩ := hT x n h; exact ⟨t, e⟩) hR
  obtain ⟨its, rv, pl, hz⟩ := I.list hl
  have hn : H s.heap.objs.size = none := I.hok.fresh (Nat.le_refl _)
  have few : FewK ks := fun L h1 h2 => by
    have := nodup_len (L.map (·.2)) (ddX (ks.map (·.2))) h1 fun x hx => by
      obtain ⟨p, hp, e⟩ := List.mem_map.mp hx
      rw [← e]
      exact ddX_mem.mpr (List.mem_map.mpr ⟨p, h2 p hp, rfl⟩)
    rw [List.length_map] at this
    omega
  refine call_set_many (P := X.prog) (w := X.w) (ks := ks) (I.ok.hd hc) pl.isList (by simpa using refs_of_vals rv) (fun p hp => ?_) few (by omega) fun h' tk L es ep t R' g k => ?_
  · obtain ⟨t, e, ht⟩ := hT _ _ (hk p hp)
    cases e
    exact I.isT ht
  · have sub : ∀ p ∈ L, p ∈ ks := fun p hp => List.mem_of_mem_take (g.sub p hp)
    refine ⟨.ref s.heap.objs.size, upd H s.heap.objs.size (SetTO X.prog X.w s.heap.objs.size L), I.laid (t' := tk) k (Nat.le_refl _) (setTO_new R'.t0), rfl, q _ L hn (fun p hp => hk p (sub p hp)) (fun p hp => List.mem_map.mpr ⟨p, sub p hp, rfl⟩) fun n hn => ?_⟩
    obtain ⟨p, hp, e⟩ := List.mem_map.mp hn
    rw [← e]
    exact g.all p (by rw [List.take_length]; exact hp)
def rSortQ (K : PySem.W.Frag) (P : Program) (w : World) : List V → Hp → VK → Prop := fun vs H Q => ∃ (a : Addr) (L : List (Addr × List Int)) (d : Nat) (R : V → List Int → Prop), vs = [V.ref a] ∧ H a = some (SetTO P w a L) ∧ (∀ p ∈ L, R (.ref p.1) p.2) ∧ (∀ x n, R x n → TupI K H x n) ∧ 1 ≤ d ∧
  (∀ p ∈ L, p.2.length = d ∧ TS.Bd 64 p.2) ∧
  ∀ (ys : List V) (nss : List (List Int)) (p : Addr), H p = none → All2 R ys nss → nss.Perm (L.map (·.2)) → nss.Nodup → nss.Pairwise LeX → Q (.ref p) (upd H p (.lst ys))
theorem cr_sortQ (hc : X.calm = true) : CallR X (.builtin "sorted") (rSortQ X.K X.prog X.w) := by
  intro pins s σ H vs us Q I r h
  obtain ⟨a, L, d, R, e, ha, hR, hT, hd, hB, q⟩ := h
  refine cr_sortedT hc pins s σ H vs us Q I r ⟨a, L, d, 64, e, ha, fun p hp => ?_, hd, hB, fun L' p pm nd few pw hp => ?_⟩
  · obtain ⟨t, e, ht⟩ := hT _ _ (hR p hp)
    cases e
    exact ht
  · have sub : ∀ p ∈ L', p ∈ L := fun p hp => pm.mem_iff.mp hp
    refine q _ (L'.map (·.2)) p hp ?_ (pm.map (·.2)) nd (List.pairwise_map.mpr (List.Pairwise.imp_of_mem (fun {x y} hx hy h => ?_) pw))
    · have key : ∀ l : List (Addr × List Int), (∀ p ∈ l, p ∈ L') → All2 R (l.map fun q => V.ref q.1) (l.map (·.2)) := by
        intro l
        induction l with
        | nil => intro _; exact True.intro
        | cons u l ih => intro hu; exact ⟨hR u (sub u (hu u List.mem_cons_self)), ih fun w hw => hu w (List.mem_cons_of_mem _ hw)⟩
      exact key L' fun p hp => hp
    · have b1 := hB x (sub x hx)
      have b2 := hB y (sub y hy)
      exact lex_of_code (by rw [b1.1, b2.1]) b1.2 b2.2 h
end
section
variable {X : Cx} {C : Cs} {env : Gh → List Sl} {a : Expr} {pos pos2 p p2 : Pos}
theorem xn_sortedSet {mx : W (List (List Int))} (hc : X.calm = true) (hu : X.A.units + 64 < cLine) (hg : Gl X "sorted") (hm : X.mg "sorted" = none) (hg2 : Gl X "set") (hm2 : X.mg "set" = none) (ha : PE X a (tQ C env true (qT qI) mx)) (hs : starEach [a] X.env = (false, eval a X.env) :: starEach [] X.env := by rfl)
    (hs2 : starEach [.Call (.Name "set" p2) [a] [] pos2] X.env = (false, eval (.Call (.Name "set" p2) [a] [] pos2) X.env) :: starEach [] X.env := by rfl) :
    PE X (.Call (.Name "sorted" p) [.Call (.Name "set" p2) [a] [] pos2] [] pos) (tN C env (qT qI) (mx.bind fun xs => ofO (sortSet xs))) :=
  pe_imp (pe_callB (cr_sortQ hc) hg hm (by decide +kernel) (pa_cons (pe_callTy (cr_setQ hc hu) hg2 hm2 (by decide +kernel) (pa_cons ha pa_nil hs) (by decide) (by decide) hs (by rfl)) pa_nil hs2) (by decide) (by decide) hs2 (by rfl)) fun σ H Q _ ⟨S, g0, P, F, em, kk⟩ => ⟨S, g0, _, F, em, fun xs g1 ⟨z, ez, pz⟩ p S1 H1 F1 x1 rd => by
    obtain ⟨vs, hp, h2⟩ := rd _ S1 H1 F1 (Ex.refl S1)
    unfold sortSet at ez
    split at ez
    · rename_i hc
      cases ez
      rw [Bool.and_eq_true] at hc
      obtain ⟨hc1, hc2⟩ := hc
      have hc1 := of_decide_eq_true hc1
      have each : ∀ n ∈ xs, n.length = (xs.headD [0]).length ∧ n ≠ [] ∧ TS.Bd 64 n := fun n hn => by
        have := List.all_eq_true.mp hc2 n hn
        simp only [Bool.and_eq_true, beq_iff_eq, Bool.not_eq_true', List.isEmpty_eq_false_iff, List.all_eq_true, decide_eq_true_eq] at this
        exact ⟨this.1.1, this.1.2, fun m hm => this.2 m hm⟩
      have hd : 1 ≤ (xs.headD [0]).length := by
        cases xs with
        | nil => exact Nat.le_refl _
        | cons x xs =>
          have := (each x List.mem_cons_self).2.1
          cases x with
          | nil => exact absurd rfl this
          | cons y ys => exact Nat.succ_le_succ (Nat.zero_le _)
      refine ⟨p, vs, xs, fun x n => (qT qI).p S1 x n, rfl, SqL.of hp, h2, fun x n h => tupI_of F1.e1 h, hc1, fun a L hn hR hs1 hs2 => ?_⟩
      have F2 := F1.add (o := SetTO X.prog X.w a L) hn
      refine ⟨a, L, (xs.headD [0]).length, fun x n => (qT qI).p S1 x n, rfl, if_pos rfl, hR, fun x n h => tupI_of F2.e1 h, hd, fun p hp => ⟨(each _ (hs1 p hp)).1, (each _ (hs1 p hp)).2.2⟩, fun ys nss l hl hy pm nd pw => ?_⟩
      have e : nss = sortX (ddX xs) := sortedX_unique ((List.perm_ext_iff_of_nodup nd (ddX_nodup xs)).mpr (fun y => by
        rw [pm.mem_iff, ddX_mem]
        refine ⟨fun z => ?_, hs2 y⟩
        obtain ⟨p, hp, e⟩ := List.mem_map.mp z
        rw [← e]
        exact hs1 p hp) |>.trans (sortX_perm _).symm) pw (sortX_sorted _)
      rw [e] at hy
      exact fun _ => kk _ _ pz l ys S1 _ F2 x1 hl hy
    · cases ez⟩
end
section
variable {X : Cx} {C : Cs} {env kp : Gh → List Sl} {e a b : Expr} {es : List Expr} {rest : List Stmt} {pos p px : Pos} {α β γ ρ : Type} {r : Rp ρ} {pn : β → Gh → List Sl} {pl : γ → Gh → List Sl}
/-- x, y = a, b, both of them constants: a pair is made and taken apart -/
theorem xs_parK {i j : Nat} {x y : Str} {px py pt0 : Pos} {kt k2 : Nat} {pt2 : Pos} {α1 α2 : Type} {r1 : Rp α1} {r2 : Rp α2} {m1 : W α1} {m2 : W α2} {K : α1 → α2 → W (Fl ρ β γ)} (ha : PE X a (tE C env r1 m1)) (hb : PE X b (tE C env r2 m2)) (hr : ∀ a b, PSs X rest (tF C (fun g => ((env g).set i (.im r1 a)).set j (.im r2 b)) (K a b) pn pl kp r))
    (hc : X.calm = true) (hN : X.N.Nodup) (hi : X.N[i]? = some x) (hj : X.N[j]? = some y) (hx : Loc X.env.scope x) (hy : Loc X.env.scope y) (hfx : X.fn x = true) (hfy : X.fn y = true)
    (hw : swappedStores [.Tuple [.Name x px, .Name y py] kt pt0] (.Tuple [a, b] k2 pt2) X.env = pure none := by rfl) (hs : swapsWithSole [.Tuple [.Name x px, .Name y py] kt pt0] (.Tuple [a, b] k2 pt2) pos.line X.env = pure false := by rfl)
    (h3 : (assignEach [.Tuple [.Name x px, .Name y py] kt pt0] X.env).map (·.2) = [assign (.Tuple [.Name x px, .Name y py] kt pt0) X.env] := by rfl)
    (g1 : (assignEach [.Name x px, .Name y py] X.env).map (·.2) = assign (.Name x px) X.env :: (assignEach [.Name y py] X.env).map (·.2) := by rfl) (g2 : (assignEach [.Name y py] X.env).map (·.2) = assign (.Name y py) X.env :: (assignEach [] X.env).map (·.2) := by rfl)
    (hn : (assignEach [.Name x px, .Name y py] X.env).length = 2 := by rfl) (hst : (assignEach [.Name x px, .Name y py] X.env).findIdx? (·.1) = none := by rfl)
    (h1 : starEach [a, b] X.env = (false, eval a X.env) :: starEach [b] X.env := by rfl) (h2 : starEach [b] X.env = (false, eval b X.env) :: starEach [] X.env := by rfl) :
    PSs X (.Assign [.Tuple [.Name x px, .Name y py] kt pt0] (.Tuple [a, b] k2 pt2) pos :: rest) (tF C env (m1.bind fun a => m2.bind fun b => K a b) pn pl kp r) :=
  pss_imp (pss_cons (ps_asg (RtU.pe_tupU (pa_cons ha (pa_cons hb pa_nil h2) h1)) (pg_tup hc (pgs_cons (pg_name hN hi hx (.inl hfx)) (pgs_cons (pg_name hN hj hy (.inl hfy)) pgs_nil g2) g1) hn hst) hs hw h3) (pss_ex fun p : α1 × α2 => hr p.1 p.2)) fun D σ H _ ⟨S, g0, P, F, em, q⟩ => ⟨S, g0, _, F, em, fun xv g1 px v S1 H1 F1 x1 hv => by
    refine ⟨S1, g1, _, F1, px, fun w g2 pw v2 S2 H2 F2 x2 hv2 => ⟨Nat.le_of_ble_eq_true rfl, fun u o ho hu => ?_⟩⟩
    have Gn := F2.new (o := .frz o (.tup [v, v2])) hu
    have ex : Ex S2 (upd S2 u (.frz o (.tup [v, v2]))) := Ex.new (F2.e1.back hu)
    exact ⟨u, [v, v2], rfl, TupAt.sq (TupAt.new ho), rfl, v, [v2], rfl, v2, [], rfl, rfl, (xv, w), _, g2, P, (Gn.setIm i (r1.mono (x2.trans ex) hv)).setIm j (r2.mono ex hv2), pw, fun o g9 po => (q o g9 po).mono (x1.trans (x2.trans ex))⟩⟩
end
end Rt

set_option maxRecDepth 100000
set_option maxHeartbeats 4000000
/-! RtB: dicts of the def's own, from tuples of ints (known objects) to ints. -/
namespace Rt
open PySem L2 Rt PyProof.Rows
def D0 (P : Program) (w : World) (h : Heap) (a : Addr) (xs : List (List Int × Addr × Value)) : Prop :=
  (a == sysModules) = false ∧ xs.length ≤ sizeLine ∧ ∃ o es ep, h.get? a = some o ∧ o.ExactDict ∧ o.data = .dict es ep ∧ es.toList = xs.map (entryOfKey (tupleKind (intKind P w))) ∧ (xs.map (·.1)).Nodup
def RX (l : Addr × List Int × Int) (x : List Int × Addr × Value) : Prop := x.1 = l.2.1 ∧ x.2.1 = l.1 ∧ ∃ t, x.2.2 = .int l.2.2 t
/-- the dict at a: the keys' addresses, the keys, the values; that the tuples stand there is said elsewhere -/
def DXO (P : Program) (w : World) (a : Addr) (L : List (Addr × List Int × Int)) : HO := .ext fun h => ∃ xs, All2 RX L xs ∧ D0 P w h a xs
theorem dxo_new {P : Program} {w : World} {H : Hp} {h : Heap} {a : Addr} {L : List (Addr × List Int × Int)} (R : ∃ xs, All2 RX L xs ∧ D0 P w h a xs) : ObjOk P w H h a (DXO P w a L) := by
  obtain ⟨xs, h1, h2, h3, o, es, ep, ho, r⟩ := R
  refine ⟨⟨xs, h1, h2, h3, o, es, ep, ho, r⟩, ⟨o, ho⟩, fun g1 g2 ⟨ys, k1, k2, k3, o', es', ep', ho', r'⟩ k => ?_⟩
  exact ⟨ys, k1, k2, k3, o', es', ep', k o' ho', r'⟩
def valL (L : List (Addr × List Int × Int)) (k : List Int) : Option Int := (L.find? fun l => decide (l.2.1 = k)).map (·.2.2)
def putL (L : List (Addr × List Int × Int)) (k : List Int) (b : Addr) (n : Int) : List (Addr × List Int × Int) := if (valL L k).isSome = true then L.map (fun l => if l.2.1 = k then (l.1, l.2.1, n) else l) else L ++ [(b, k, n)]
theorem at_rel (k : List Int) : ∀ {L : List (Addr × List Int × Int)} {xs : List (List Int × Addr × Value)}, All2 RX L xs → (∀ n, valL L k = some n → ∃ b t, atKey xs k = some (b, .int n t)) ∧ (valL L k = none → atKey xs k = none)
  | [], [], _ => ⟨(fun n h => nomatch h), fun _ => rfl⟩
  | l :: L, x :: xs, ⟨⟨h1, h2, t, h3⟩, h4⟩ => by
    obtain ⟨i1, i2⟩ := at_rel k h4
    obtain ⟨x1, x2, x3⟩ := x
    simp only at h1 h2 h3
    subst h1 h2 h3
    by_cases z : l.2.1 = k
    · have e1 : valL (l :: L) k = some l.2.2 := by unfold valL; rw [List.find?_cons_of_pos (by simpa using z)]; rfl
      have e2 : atKey ((l.2.1, l.1, Value.int l.2.2 t) :: xs) k = some (l.1, .int l.2.2 t) := by unfold atKey; rw [List.find?_cons_of_pos (by simpa using z)]; rfl
      rw [e1, e2]
      exact ⟨fun n h => by cases h; exact ⟨_, _, rfl⟩, (fun h => nomatch h)⟩
    · have e1 : valL (l :: L) k = valL L k := by unfold valL; rw [List.find?_cons_of_neg (by simpa using z)]
      have e2 : atKey ((l.2.1, l.1, Value.int l.2.2 t) :: xs) k = atKey xs k := by unfold atKey; rw [List.find?_cons_of_neg (by simpa using z)]
      rw [e1, e2]
      exact ⟨i1, i2⟩
  | [], _ :: _, z => z.elim
  | _ :: _, [], z => z.elim
theorem putX_rel {L : List (Addr × List Int × Int)} {xs : List (List Int × Addr × Value)} {k : List Int} {b : Addr} {n : Int} {t : Tok} (h : All2 RX L xs) : All2 RX (putL L k b n) (storedH xs k b (.int n t)) := by
  obtain ⟨i1, i2⟩ := at_rel k h
  unfold putL storedH
  cases e : valL L k with
  | none =>
    rw [i2 e, if_neg (by decide), if_neg (by decide)]
    exact h.snoc ⟨rfl, rfl, _, rfl⟩
  | some m =>
    obtain ⟨b', t', e2⟩ := i1 m e
    rw [e2]
    simp only [Option.isSome_some, if_true]
    have go : ∀ {L : List (Addr × List Int × Int)} {xs : List (List Int × Addr × Value)}, All2 RX L xs → All2 RX (L.map (fun l => if l.2.1 = k then (l.1, l.2.1, n) else l)) (xs.map (putAt k (.int n t))) := by
      intro L
      induction L with
      | nil => intro xs h; cases xs with | nil => exact True.intro | cons _ _ => exact h.elim
      | cons l L ih =>
        intro xs h
        cases xs with
        | nil => exact h.elim
        | cons x xs =>
          obtain ⟨⟨h1, h2, h3⟩, h4⟩ := h
          refine ⟨?_, ih h4⟩
          show RX (if l.2.1 = k then (l.1, l.2.1, n) else l) (putAt k (.int n t) x)
          unfold putAt
          by_cases z : l.2.1 = k
          · rw [if_pos z, if_pos (h1.trans z)]
            exact ⟨h1, h2, t, rfl⟩
          · rw [if_neg z, if_neg fun y => z (h1.symm.trans y)]
            exact ⟨h1, h2, h3⟩
    exact go h
theorem putL_len (L : List (Addr × List Int × Int)) (k : List Int) (b : Addr) (n : Int) : (putL L k b n).length ≤ L.length + 1 := by
  unfold putL
  split <;> simp
section
variable {X : Cx} {pins : List (Addr × Obj)} {σ : L2.St} {H : Hp} {s : Shared} {a p b : Addr} {L : List (Addr × List Int × Int)}
theorem dxo_at (I : Inv X pins σ H s) (hp : H p = some (DXO X.prog X.w a L)) : p = a ∧ ∃ xs, All2 RX L xs ∧ D0 X.prog X.w s.heap a xs := by
  obtain ⟨⟨xs, h1, h2⟩, ⟨o, ho⟩, h3⟩ := (show ObjOk X.prog X.w H s.heap p (DXO X.prog X.w a L) from I.hok p _ hp)
  refine ⟨?_, xs, h1, h2⟩
  rcases Classical.em (p = a) with z | z
  · exact z
  · obtain ⟨G, g1, g2⟩ := restrict s.heap fun b => decide (b ≠ a)
    obtain ⟨ys, k1, k2, k3, o2, es, ep, k4, _⟩ := h3 s.heap G ⟨xs, h1, h2⟩ fun o e => (g1 p (by simpa using z)).trans e
    rw [g2 a (by simp)] at k4
    cases k4
theorem dxo_full {xs : List (List Int × Addr × Value)} (h : D0 X.prog X.w s.heap a xs) (r : All2 RX L xs) (hk : ∀ l ∈ L, L2.IsT X.prog X.w s.heap l.2.1 l.1) : s.heap.DictOfH (tupleKind (intKind X.prog X.w)) a xs := by
  obtain ⟨_, _, o, es, ep, h1, h2, h3, h4, h5⟩ := h
  refine ⟨o, es, ep, h1, h2, h3, h4, fun x hx => ?_, h5⟩
  have go : ∀ {L : List (Addr × List Int × Int)} {xs : List (List Int × Addr × Value)}, All2 RX L xs → ∀ x ∈ xs, ∃ l ∈ L, x.1 = l.2.1 ∧ x.2.1 = l.1 := by
    intro L
    induction L with
    | nil => intro xs h x hx; cases xs with | nil => cases hx | cons _ _ => exact h.elim
    | cons l L ih =>
      intro xs h x hx
      cases xs with
      | nil => cases hx
      | cons y xs =>
        rcases List.mem_cons.mp hx with e | hx
        · subst e
          exact ⟨l, List.mem_cons_self, h.1.1, h.1.2.1⟩
        · obtain ⟨l', m, r⟩ := ih h.2 x hx
          exact ⟨l', List.mem_cons_of_mem _ m, r⟩
  obtain ⟨l, hl, e1, e2⟩ := go r x hx
  show L2.IsT X.prog X.w s.heap x.1 x.2.1
  rw [e1, e2]
  exact hk l hl
/-- d.get(k, e) -/
def rGetX (K : PySem.W.Frag) (P : Program) (w : World) : V → List V → Hp → VK → Prop := fun x xs H Q => ∃ (p a : Addr) (L : List (Addr × List Int × Int)) (b : Addr) (k : List Int) (z : V), x = V.ref p ∧ xs = [V.ref b, z] ∧ H p = some (DXO P w a L) ∧ (∀ l ∈ L, SqT K H l.1 (l.2.1.map V.int)) ∧ SqT K H b (k.map V.int) ∧
  (∀ n, valL L k = some n → Q (.int n) H) ∧ (valL L k = none → Q z H)
theorem mt_getX (hu : X.A.units + 1 < cLine) : MtR X "dict.get" (rGetX X.K X.prog X.w) := by
  intro pins s σ H x xs v us Q I rx rxs ⟨p, a, L, b, k, z, e1, e2, hp, hL, hb, q1, q2⟩
  subst e1 e2
  obtain ⟨e, ys, r, d⟩ := dxo_at I hp
  subst e
  obtain ⟨u1, u2, rfl, r1, r2⟩ := vals2 rxs
  cases rx
  cases (show u1 = Value.ref b from r1)
  have D := dxo_full d r fun l hl => I.isT (hL l hl)
  refine call_meetsIn PySem.F.slot_dict_get D.typeIs PySem.F.entry_dict_get (PySem.F.args_dict_get_3 _ _ _) (meetsH_dict_get_default (tupleKind (intKind X.prog X.w)) p b d.1 u2) ⟨tupleKind_room_in1 hu, k, ys, I.isT hb, D, ?_⟩
  obtain ⟨i1, i2⟩ := at_rel k r
  cases hv : valL L k with
  | some n =>
    obtain ⟨b', t, e⟩ := i1 n hv
    rw [e]
    exact ⟨.int n, H, I.tok _, ⟨t, rfl⟩, q1 n hv⟩
  | none =>
    rw [i2 hv]
    exact ⟨z, H, I.tok _, r2, q2 hv⟩
/-- d[k] = n -/
def rPutX (K : PySem.W.Frag) (P : Program) (w : World) : TSet := fun o i v H Q => ∃ (p a : Addr) (L : List (Addr × List Int × Int)) (b : Addr) (k : List Int) (n : Int), o = V.ref p ∧ i = V.ref b ∧ v = .int n ∧ H p = some (DXO P w a L) ∧ (∀ l ∈ L, SqT K H l.1 (l.2.1.map V.int)) ∧ SqT K H b (k.map V.int) ∧ L.length < sizeLine ∧
  Q (upd H p (DXO P w p (putL L k b n)))
theorem set_putX (hu : X.A.units + 1 < cLine) : PSet X (rPutX X.K X.prog X.w) := by
  intro pins s σ H o i v ov iv u Q I ro ri rv ⟨p, a, L, b, k, n, e1, e2, e3, hp, hL, hb, hz, q⟩
  subst e1 e2 e3
  obtain ⟨e, ys, r, d⟩ := dxo_at I hp
  subst e
  cases (show ov = Value.ref p from ro)
  cases (show iv = Value.ref b from ri)
  obtain ⟨t, rfl⟩ := rv
  have D := dxo_full d r fun l hl => I.isT (hL l hl)
  refine wpAny_setItem_heap (hsz := d.2.1) (tupleKind_room_in1 hu) (I.isT hb) D fun h' ⟨o', es, ep, h1, h2, h3, h4, _, h5⟩ hs => ⟨_, ?_, q⟩
  have hlen := (putX_rel (k := k) (b := b) (n := n) (t := t) r).length
  have hll := putL_len L k b n
  exact I.write (e := p) (by rw [hp]; trivial) (.inl rfl) (fun c u hc e => (hs.2 c hc).trans e) ⟨o', h1⟩ (dxo_new ⟨_, putX_rel r, d.1, by omega, o', es, ep, h1, h2, h3, h4, h5⟩)
/-- {} -/
def tNewX (P : Program) (w : World) : TE := fun _ H Q => ∀ p, H p = none → Q (.ref p) (upd H p (DXO P w p []))
theorem pe_dnewX {pos : Pos} : PE X (.Dict [] [] pos) (tNewX X.prog X.w) := ⟨fun pins s σ H Q I h =>
  wpAny_Dict_empty ⟨.ref s.heap.objs.size, _, I.laid (a := s.heap.objs.size) (o := DXO X.prog X.w s.heap.objs.size []) (t' := s.toks) (fun _ _ q => Heap.get?_push_of_some _ q) (Nat.le_refl _)
    (dxo_new ⟨[], True.intro, beq_eq_false_iff_ne.mpr (Ne.symm (Nat.ne_of_lt I.big)), Nat.zero_le _, _, #[], 0, Heap.get?_push_size _ rfl, ⟨rfl, rfl, rfl⟩, rfl, rfl, List.nodup_nil⟩), rfl, h _ (I.hok.fresh (Nat.le_refl _))⟩⟩
/-- a method of such a dict -/
def tBMX (P : Program) (w : World) (r : V → List V → Hp → VK → Prop) (to : TE) (t : TA) : TE := fun σ H Q => to σ H fun x H1 => (∃ p a L, x = .ref p ∧ H1 p = some (DXO P w a L)) ∧ t σ H1 fun xs H2 => r x xs H2 Q
theorem pe_bmX {o e : Expr} {es : List Expr} {name : Str} {id : String} {apos cpos : Pos} {r : V → List V → Hp → VK → Prop} {to : TE} {t : TA} (slot : Slot "dict" name id) (hty : typeOf (.builtin id) = pure (.type "method_descriptor")) (hm : MtR X id r) (ho : PE X o to) (ha : PA X (e :: es) t)
    (hbase : attributeBase o name X.env (eval o X.env) = eval o X.env := by rfl) (hfew : ((backTo cpos (starEach (e :: es) X.env)).all (fun x => !x.1) && (backToKw cpos (keywordEach [] X.env)).all (fun x => x.1.isSome) && decide ((e :: es).length + ([] : List Keyword).length + (if ([] : List Keyword).isEmpty then 0 else 1) < 30)) = true := by rfl)
    (hline : (apos.endLine == cpos.line) = true := by rfl) (hs : starEach (e :: es) X.env = (false, eval e X.env) :: starEach es X.env := by rfl) (hplain : (backTo cpos (starEach es X.env)).any (·.1) = false := by rfl) : PE X (.Call (.Attribute o name apos) (e :: es) [] cpos) (tBMX X.prog X.w r to t) := by
  refine ⟨fun pins s σ H Q I h => wpAny_Call_method_late hbase hfew hline rfl (thn (ho.run pins s σ H _ I h) fun v s1 ⟨x, H1, I1, r1, ⟨p, a, L, ex, hp⟩, q1⟩ => ?_)⟩
  subst ex
  cases r1
  obtain ⟨e, ys, _, d⟩ := dxo_at I1 hp
  subst e
  obtain ⟨_, _, ob, _, _, h1, h2, _⟩ := d
  refine ⟨"dict", id, PySem.F.plainAttrs_dict, slot, hty, ⟨ob, h1, h2.1⟩, fun a ea => by cases ea; exact ⟨ob, h1, h2.2.1⟩, ?_⟩
  have hA := ha.run cpos pins s1 σ H1 _ I1 q1
  rw [hs] at hA ⊢
  exact Calls.callWith_builtin (by show (false || (backTo cpos (starEach es X.env)).any (·.1)) = false; rw [hplain]; rfl) (Calls.evalArgs_plain (thn hA fun us s2 ⟨vs2, H2, I2, r2, q2⟩ => hm pins s2 σ H2 (.ref p) vs2 _ us Q I2 rfl r2 q2))
end
/-! the def's own dict -/
def valD (d : List (List Int × Int)) (k : List Int) : Option Int := (d.find? fun p => decide (p.1 = k)).map (·.2)
def putD (d : List (List Int × Int)) (k : List Int) (n : Int) : List (List Int × Int) := if (valD d k).isSome = true then d.map (fun p => if p.1 = k then (p.1, n) else p) else d ++ [(k, n)]
def putC (d : List (List Int × Int)) (k : List Int) (n : Int) : Option (List (List Int × Int)) := if d.length ≤ 1000000 then some (putD d k n) else none
theorem valL_map (k : List Int) : ∀ L : List (Addr × List Int × Int), valL L k = valD (L.map (·.2)) k
  | [] => rfl
  | l :: L => by
    have ih := valL_map k L
    unfold valL valD at ih ⊢
    rw [List.map_cons]
    by_cases z : l.2.1 = k
    · rw [List.find?_cons_of_pos (by simpa using z), List.find?_cons_of_pos (by simpa using z)]
      rfl
    · rw [List.find?_cons_of_neg (by simpa using z), List.find?_cons_of_neg (by simpa using z)]
      exact ih
theorem putL_map (L : List (Addr × List Int × Int)) (k : List Int) (b : Addr) (n : Int) : (putL L k b n).map (·.2) = putD (L.map (·.2)) k n := by
  unfold putL putD
  rw [valL_map]
  split
  · rw [List.map_map, List.map_map]
    refine List.map_congr_left fun l _ => ?_
    show (if l.2.1 = k then (l.1, l.2.1, n) else l).2 = if l.2.1 = k then (l.2.1, n) else l.2
    split <;> rfl
  · rw [List.map_append]
    rfl
theorem putL_mem {L : List (Addr × List Int × Int)} {k : List Int} {b : Addr} {n : Int} {l : Addr × List Int × Int} (h : l ∈ putL L k b n) : (l.1 = b ∧ l.2.1 = k) ∨ ∃ l' ∈ L, l.1 = l'.1 ∧ l.2.1 = l'.2.1 := by
  unfold putL at h
  split at h
  · obtain ⟨l', m, e⟩ := List.mem_map.mp h
    subst e
    refine .inr ⟨l', m, ?_⟩
    split <;> exact ⟨rfl, rfl⟩
  · rcases List.mem_append.mp h with m | m
    · exact .inr ⟨l, m, rfl, rfl⟩
    · rw [List.mem_singleton.mp m]
      exact .inl ⟨rfl, rfl⟩
def oDX (P : Program) (w : World) : Og (List (List Int × Int)) := ⟨fun H u d => ∃ a L, u = DXO P w a L ∧ L.map (·.2) = d ∧ ∀ l ∈ L, TupAt H l.1 (l.2.1.map V.int), fun e ⟨a, L, h1, h2, h3⟩ => ⟨a, L, h1, h2, fun l m => (h3 l m).mono e⟩⟩
section
variable {X : Cx} {C : Cs} {env kp : Gh → List Sl} {e a b c : Expr} {rest : List Stmt} {pos p px : Pos} {β γ ρ : Type} {r : Rp ρ} {mk : W (List Int)} {mv : W Int} {pn : β → Gh → List Sl} {pl : γ → Gh → List Sl} {i : Nat}
theorem xs_setX0 {x : Str} {py : Pos} {K : W (Fl ρ β γ)} (hr : PSs X rest (tF C (fun g => (env g).set i (.ob (oDX X.prog X.w) [])) K pn pl kp r)) (hN : X.N.Nodup) (hi : X.N[i]? = some x) (hx : Loc X.env.scope x) (hs : swapsWith (.Dict [] [] p) (some (.Name x py)) pos.line X.env = pure false)
    (hf : X.fn x = true) : PSs X (.Assign [.Name x py] (.Dict [] [] p) pos :: rest) (tF C env K pn pl kp r) :=
  pss_imp (pss_cons (ps_set hN hi hx pe_dnewX hs (.inl hf)) hr) fun D σ H _ ⟨S, g0, P, F, em, q⟩ q0 hq =>
    ⟨S, g0, P, F.setOb i hq ⟨q0, [], rfl, rfl, (fun _ h => nomatch h)⟩ (fun _ z => nomatch z), em, q⟩
theorem key_of_qT {S : Hp} {y : V} {k : List Int} (h : (qT qI).p S y k) : ∃ b, y = V.ref b ∧ TupAt S b (k.map V.int) := by
  obtain ⟨t, vs, ev, hp, ha⟩ := h
  have e := flat_ints ha
  subst e
  exact ⟨t, ev, hp⟩
/-- d[k] = e -/
theorem xs_putX {x : Str} {ps : Pos} {d : List (List Int × Int)} {K : List (List Int × Int) → W (Fl ρ β γ)} (hu : X.A.units + 1 < cLine) (hv : PE X e (tE C env qI mv)) (hd : PE X (.Name x px) (tVar i)) (hb : PE X b (tE C env (qT qI) mk)) (hr : ∀ ys, PSs X rest (tF C (fun g => (env g).set i (.ob (oDX X.prog X.w) ys)) (K ys) pn pl kp r)) (hi : ∀ g, (env g)[i]? = some (.ob (oDX X.prog X.w) d) := by intro _; rfl)
    (ha : ∀ v, assign (.Subscript (.Name x px) b ps) X.env v = (do
      let ov ← holding [v] (eval (.Name x px) X.env)
      let iv ← holding [v, ov] (eval b X.env)
      standAt ps
      holding [v, ov, iv] (setItem ov iv v)
      release [v, ov, iv] []) := by intro _; rfl)
    (hs : swapsWithSole [.Subscript (.Name x px) b ps] e pos.line X.env = pure false := by rfl) (hw : swappedStores [.Subscript (.Name x px) b ps] e X.env = pure none := by rfl) (h1 : (assignEach [.Subscript (.Name x px) b ps] X.env).map (·.2) = [assign (.Subscript (.Name x px) b ps) X.env] := by rfl) :
    PSs X (.Assign [.Subscript (.Name x px) b ps] e pos :: rest) (tF C env (mv.bind fun v => mk.bind fun k => (ofO (putC d k v)).bind K) pn pl kp r) :=
  pss_imp (pss_cons (ps_asg hv (pg_sub hd hb (set_putX hu) ha) hs hw h1) (pss_ex hr)) fun D σ H _ ⟨S, g0, P, F, em, q⟩ => ⟨S, g0, _, F, em, fun v g1 pv u S1 H1 F1 x1 hu => by
    obtain ⟨w1, ew1, p1, u1, e1, sp1, hp1, _⟩ := F1.sl.get i (hi _)
    subst e1
    refine ⟨.ref p1, ew1, S1, g1, _, F1, pv, fun k g2 ⟨ys, ey, py⟩ y S2 H2 F2 x2 hy => ?_⟩
    obtain ⟨w2, ew2, p2, u2, e2, sp2, hp2, a2, L, eu2, ed, hL⟩ := F2.sl.get i (hi _)
    subst e2
    rw [ew1] at ew2
    cases ew2
    subst eu2
    unfold putC at ey
    split at ey
    case isFalse => cases ey
    rename_i hl
    cases ey
    obtain ⟨b2, eb, hb2⟩ := key_of_qT hy
    have hlen : L.length = d.length := by rw [← ed, List.length_map]
    refine ⟨p1, a2, L, b2, k, v, rfl, eb, hu, hp2, fun l m => ((hL l m).mono F2.e1).sq, (hb2.mono F2.e1).sq, by rw [sizeLine_eq]; omega, putD d k v, S2, g2, P, ?_, py, fun o g9 po => (q o g9 po).mono (x1.trans x2)⟩
    refine F2.writeOb (hi _) ew1 ⟨p1, _, rfl, by rw [putL_map, ed], fun l m => ?_⟩ (fun _ z => nomatch z)
    rcases putL_mem m with ⟨m1, m2⟩ | ⟨l', m0, m1, m2⟩
    · rw [m1, m2]; exact hb2
    · rw [m1, m2]; exact hL l' m0⟩
/-- d.get(k, e) -/
theorem xe_getX {x : Str} {pa pc : Pos} {d : List (List Int × Int)} (hu : X.A.units + 1 < cLine) (hd : PE X (.Name x px) (tVar i)) (hb : PE X b (tE C env (qT qI) mk)) (hc : PE X c (tE C env qI mv)) (hi : ∀ g, (env g)[i]? = some (.ob (oDX X.prog X.w) d) := by intro _; rfl)
    (hbase : attributeBase (.Name x px) "get" X.env (eval (.Name x px) X.env) = eval (.Name x px) X.env := by rfl) (hfew : ((backTo pc (starEach [b, c] X.env)).all (fun x => !x.1) && (backToKw pc (keywordEach [] X.env)).all (fun x => x.1.isSome) && decide (([b, c] : List Expr).length + ([] : List Keyword).length + (if ([] : List Keyword).isEmpty then 0 else 1) < 30)) = true := by rfl)
    (hline : (pa.endLine == pc.line) = true := by rfl) (hs : starEach [b, c] X.env = (false, eval b X.env) :: starEach [c] X.env := by rfl) (hs2 : starEach [c] X.env = (false, eval c X.env) :: starEach [] X.env := by rfl) (hplain : (backTo pc (starEach [c] X.env)).any (·.1) = false := by rfl) :
    PE X (.Call (.Attribute (.Name x px) "get" pa) [b, c] [] pc) (tE C env qI (mk.bind fun k => mv.bind fun z => .ret ((valD d k).getD z))) :=
  pe_imp (pe_bmX PySem.F.slot_dict_get PySem.F.type_dict_get (mt_getX hu) hd (pa_cons hb (pa_cons hc pa_nil hs2) hs) hbase hfew hline hs hplain) fun σ H Q _ ⟨S, g0, P, F, em, kk⟩ => by
    obtain ⟨w1, ew1, p1, u1, e1, sp1, hp1, a1, L1, eu1, ed1, hL1⟩ := F.sl.get i (hi _)
    subst e1 eu1
    refine ⟨.ref p1, ew1, ⟨p1, a1, L1, rfl, hp1⟩, S, g0, _, F, em, fun k g1 pk y S1 H1 F1 x1 hy => ⟨S1, g1, _, F1, pk, fun z g2 pz v2 S2 H2 F2 x2 hz => ?_⟩⟩
    obtain ⟨w2, ew2, p2, u2, e2, sp2, hp2, a2, L, eu2, ed, hL⟩ := F2.sl.get i (hi _)
    subst e2
    rw [ew1] at ew2
    cases ew2
    subst eu2
    obtain ⟨b2, eb, hb2⟩ := key_of_qT ((qT qI).mono x2 hy)
    subst eb
    have hz : v2 = V.int z := hz
    subst hz
    refine ⟨p1, a2, L, b2, k, _, rfl, rfl, hp2, fun l m => ((hL l m).mono F2.e1).sq, (hb2.mono F2.e1).sq, fun n hn => ?_, fun hn => ?_⟩
    · have e : valD d k = some n := by rw [← ed, ← valL_map]; exact hn
      exact fun _ => kk _ _ pz _ S2 H2 F2 (x1.trans x2) (by rw [e]; rfl)
    · have e : valD d k = none := by rw [← ed, ← valL_map]; exact hn
      exact fun _ => kk _ _ pz _ S2 H2 F2 (x1.trans x2) (by rw [e]; rfl)
end
end Rt

set_option maxRecDepth 100000
set_option maxHeartbeats 4000000
/-! RtC: sorted(set(t)), t a tuple of ints; math.perm. -/
namespace Rt
open PySem L2 Rt PyProof.Rows
def ddI : List Int → List Int
  | [] => []
  | x :: xs => if (ddI xs).contains x = true then ddI xs else x :: ddI xs
theorem ddI_mem {y : Int} : ∀ {xs : List Int}, y ∈ ddI xs ↔ y ∈ xs
  | [] => Iff.rfl
  | x :: xs => by
    unfold ddI
    split
    · rename_i h
      have hx : x ∈ ddI xs := by simpa using h
      rw [ddI_mem, List.mem_cons]
      exact ⟨.inr, fun z => z.elim (fun e => by rw [e]; exact ddI_mem.mp hx) id⟩
    · rw [List.mem_cons, List.mem_cons, ddI_mem]
theorem ddI_nodup : ∀ xs : List Int, (ddI xs).Nodup
  | [] => .nil
  | x :: xs => by
    unfold ddI
    split
    · exact ddI_nodup xs
    · rename_i h
      exact List.nodup_cons.mpr ⟨fun z => h (by simpa using z), ddI_nodup xs⟩
/-- sorted(set(xs)), fewer than 64 ints -/
def sortSetI (xs : List Int) : Option (List Int) := if xs.length < 64 then some (sortI (ddI xs)) else none
section
variable {X : Cx}
def rSetI (K : PySem.W.Frag) (w : World) : List V → Hp → VK → Prop := fun xs H Q => ∃ (l : Addr) (ns : List Int), xs = [V.ref l] ∧ SqT K H l (ns.map V.int) ∧ ns.length < 64 ∧
  ∀ a n, H a = none → n ≤ ns.length → Q (.ref a) (upd H a (SetO w a (fun j => decide (j ∈ ns)) n))
theorem cr_setI (hc : X.calm = true) : CallR X (.type "set") (rSetI X.K X.w) := by
  intro pins s σ H xs us Q I r h
  obtain ⟨l, ns, rfl, hl, hz, q⟩ := h
  rw [Vals.ref1 r]
  obtain ⟨its, rv, ht, _⟩ := I.tuple hl
  refine call_set_tupI ns (I.ok.hd hc) (show s.heap.IsTuple l its.toArray from ht) (by simpa using rv.ints) (by unfold scanBound; omega) fun h' tk c R1 hcn k => ?_
  exact ⟨.ref _, upd H s.heap.objs.size (SetO X.w s.heap.objs.size (fun j => decide (j ∈ ns)) c), I.laid (t' := tk) k (Nat.le_refl _) (setO_new R1), rfl, q _ c (I.hok.fresh (Nat.le_refl _)) hcn⟩
end
section
variable {X : Cx} {C : Cs} {env : Gh → List Sl} {a b : Expr} {pos pos2 p p2 : Pos} {mx : W (List Int)} {ma mb : W Int}
theorem xn_sortedSetI (hc : X.calm = true) (hg : Gl X "sorted") (hm : X.mg "sorted" = none) (hg2 : Gl X "set") (hm2 : X.mg "set" = none) (ha : PE X a (tQ C env false qI mx)) (hs : starEach [a] X.env = (false, eval a X.env) :: starEach [] X.env := by rfl)
    (hs2 : starEach [.Call (.Name "set" p2) [a] [] pos2] X.env = (false, eval (.Call (.Name "set" p2) [a] [] pos2) X.env) :: starEach [] X.env := by rfl) :
    PE X (.Call (.Name "sorted" p) [.Call (.Name "set" p2) [a] [] pos2] [] pos) (tN C env qI (mx.bind fun xs => ofO (sortSetI xs))) :=
  pe_imp (pe_callB (cr_sortedSet hc) hg hm (by decide +kernel) (pa_cons (pe_callTy (cr_setI hc) hg2 hm2 (by decide +kernel) (pa_cons ha pa_nil hs) (by decide) (by decide) hs (by rfl)) pa_nil hs2) (by decide) (by decide) hs2 (by rfl)) fun σ H Q _ ⟨S, g0, P, F, em, kk⟩ => ⟨S, g0, _, F, em, fun xs g1 ⟨z, ez, pz⟩ p S1 H1 F1 x1 rd => by
    obtain ⟨vs, hp, h2⟩ := rd _ S1 H1 F1 (Ex.refl S1)
    have e := flat_ints h2
    subst e
    unfold sortSetI at ez
    split at ez
    · rename_i hc
      cases ez
      refine ⟨p, xs, rfl, TupAt.sq hp, hc, fun a n hn hle => ?_⟩
      have F2 := F1.add (o := SetO X.w a (fun j => decide (j ∈ xs)) n) hn
      refine ⟨a, _, n, rfl, if_pos rfl, by omega, fun ns l hpw hmem hlen hl => ?_⟩
      have e : ns = sortI (ddI xs) := by
        refine sorted_unique ?_ (hpw.imp fun h => Int.le_of_lt h) (sortI_sorted _)
        refine List.Perm.trans ?_ (sortI_perm _).symm
        refine (List.perm_ext_iff_of_nodup (hpw.imp fun h => Int.ne_of_lt h) (ddI_nodup xs)).mpr fun y => ?_
        rw [hmem, ddI_mem]
        simp
      rw [e]
      exact fun _ => kk _ _ pz l _ S1 _ F2 x1 hl (All2.of_map (f := V.int) _)
    · cases ez⟩
end
def permC (i j : Int) : Option Int := if 0 ≤ i ∧ 0 ≤ j ∧ i < 2 ^ 64 ∧ j ≤ 20000 then some (PySem.W.mcPerm i j) else none
theorem cr_perm {X : Cx} : CallR X (.builtin "math.perm") (fun xs H Q => ∃ i j z, xs = [.int i, .int j] ∧ permC i j = some z ∧ Q (.int z) H) := by
  intro pins s σ H xs us Q I r ⟨i, j, z, ex, ez, q⟩
  subst ex
  obtain ⟨u1, u2, rfl, r1, r2⟩ := vals2 r
  obtain ⟨t1, rfl⟩ := r1
  obtain ⟨t2, rfl⟩ := r2
  unfold permC at ez
  split at ez
  case isFalse => cases ez
  rename_i h
  cases ez
  exact PySem.W.mc_perm h.1 h.2.1 h.2.2.1 h.2.2.2 fun _ => ⟨.int _, H, I.tok _, ⟨_, rfl⟩, q⟩
section
variable {X : Cx} {C : Cs} {env : Gh → List Sl} {a b : Expr} {pos p : Pos} {mi mj : W Int}
theorem xe_perm (hg : Gl X "perm") (hm : X.mg "perm" = some (.builtin "math.perm")) (ha : PE X a (tE C env qI mi)) (hb : PE X b (tE C env qI mj))
    (hs : starEach [a, b] X.env = (false, eval a X.env) :: starEach [b] X.env := by rfl) (hs2 : starEach [b] X.env = (false, eval b X.env) :: starEach [] X.env := by rfl) (hpl : (backTo pos (starEach [b] X.env)).any (·.1) = false := by rfl) :
    PE X (.Call (.Name "perm" p) [a, b] [] pos) (tE C env qI (mi.bind fun i => mj.bind fun j => ofO (permC i j))) := xe_cb2 (f := permC) cr_perm hg hm ha hb hs hs2 (by decide) hpl
end
/-! t * k, k = 1 among the k: t itself -/
theorem tuple_mul1 (l : Addr) (items : Array Value) (n : Nat) (dd : Option Addr) (sl : Array (Option Value)) (u : Tok) (c0 : (decide ((1 : Int) < -(2 ^ 63)) || decide ((1 : Int) ≥ 2 ^ 63)) = false) (c1 : (items.isEmpty || (1 : Int) == 1) = true) :
    Meets (Builtin.«tuple.__mul__» ⟨[.ref l, .int 1 u], []⟩) (fun _ R s => s.heap.get? l = some { cls := .type "tuple", dict := dd, data := .seq items n, slots := sl } ∧ R (.ok (.ret (.ref l))) s) :=
  .of_wp fun prog w A R s h => by
    obtain ⟨hp, g, d, tk, os⟩ := s
    obtain ⟨hl, h⟩ := h
    have f1 := AutoSeq1.idx_int
    wp_walk using AutoSeq1.wpAny_loadPart' hl
    repeat (first
      | (refine wpAny_ite_false (decide_eq_false (by rw [c0]; exact Bool.false_ne_true)) ?_; wp_walk using AutoSeq1.wpAny_loadPart' hl)
      | (refine wpAny_ite_true (decide_eq_true c1) ?_; wp_walk using AutoSeq1.wpAny_loadPart' hl))
    exact ⟨_, rfl, h⟩
def rRepW (K : PySem.W.Frag) : R2 := fun x y H Q => ∃ l k xs, x = .ref l ∧ y = .int k ∧ SqT K H l xs ∧ xs ≠ [] ∧ 0 ≤ k ∧ k ≤ 1000 ∧ xs.length ≤ 1000 ∧ (k = 1 → Q (.ref l) H) ∧ (k ≠ 1 → RtU.NewT Q H (List.replicate k.toNat xs).flatten)
theorem op_repW {X : Cx} : OpR X (binaryOp .Mult) (rRepW X.K) := by
  intro pins s σ H x y v u Q I rx ry ⟨l, k, xs, ex, ey, hT, hne, h0, h2, hz, q1, q⟩
  by_cases z : k = 1
  · subst z
    subst ex ey
    cases rx
    obtain ⟨t, rfl⟩ := ry
    obtain ⟨its, r, ⟨⟨cls, dd, data, sl⟩, ho, hc, n, hd⟩, hs⟩ := I.tuple hT
    simp only at hc hd
    subst hc hd
    have c1 : (its.toArray.isEmpty || (1 : Int) == 1) = true := by simp
    refine wpAny_binaryOp_repeat_ref (T := "tuple") (U := "int") (by decide) ⟨_, ho, rfl⟩ (fun s' => typeIs_int s' 1 t) noFill_tuple_mul F.fills_int_mul F.slot_int_rmul repeat_tuple F.slot_int_index.lookup
      (call_meets F.slot_int_rmul (typeIs_int s 1 t) F.entry_int_rmul (F.args_int_rmul_2 _ _) (int_rmul_tuple 1 t l its.toArray n dd sl)
        ⟨ho, rfl, ⟨_, ho, rfl⟩, call_meets F.slot_tuple_mul ⟨_, ho, rfl⟩ F.entry_tuple_mul (F.args_tuple_mul_2 _ _) (tuple_mul1 l its.toArray n dd sl t rfl c1) ⟨ho, ?_⟩⟩)
    exact ⟨.ref l, H, I.tok _, rfl, q1 rfl⟩
  · exact RtU.op_repU pins s σ H x y v u Q I rx ry ⟨l, k, xs, ex, ey, hT, hne, by omega, h2, hz, q z⟩
def repT1 {α : Type} (xs : List α) (k : Int) : Option (List α) := if xs ≠ [] ∧ 0 ≤ k ∧ k ≤ 1000 ∧ xs.length ≤ 1000 then some (List.replicate k.toNat xs).flatten else none
section
variable {X : Cx} {C : Cs} {env : Gh → List Sl} {a b : Expr} {pos : Pos} {α : Type} {r : Rp α} {mi : W Int}
theorem xe_repT1 {mx : W (List α)} (ha : PE X a (tE C env (qT r) mx)) (hb : PE X b (tE C env qI mi)) : PE X (.BinOp a .Mult b pos) (tE C env (qT r) (mx.bind fun xs => mi.bind fun k => ofO (repT1 xs k))) :=
  xe_op op_repW ha hb fun _ S H σ x y xs k z Q F _ ⟨p, vs, e1, h1, h2⟩ hk ez kk => by
    unfold repT1 at ez
    split at ez
    · rename_i hl
      cases ez
      obtain ⟨n1, n2, n3, n4⟩ := hl
      have lv := All2.length h2
      have nv : vs ≠ [] := fun e => n1 (by
        rw [e] at lv
        exact List.eq_nil_of_length_eq_zero lv.symm)
      refine ⟨p, k, vs, e1, hk, TupAt.sq (TupAt.mono F.e1 h1), nv, n2, n3, by omega, fun z => ?_, fun z u o ho hu => ?_⟩
      · subst z
        have e : (List.replicate (1 : Int).toNat xs).flatten = xs := by simp
        exact kk _ _ _ F (Ex.refl S) ⟨p, vs, rfl, h1, by rw [e]; exact h2⟩
      · have ex := Ex.new (o := .frz o (.tup (List.replicate k.toNat vs).flatten)) (F.e1.back hu)
        exact kk _ _ _ (F.new hu) ex ⟨u, _, rfl, TupAt.new ho, All2.rep (h2.mono fun _ _ z => r.mono ex z) k.toNat⟩
    · cases ez
end
end Rt

set_option maxRecDepth 100000
set_option maxHeartbeats 4000000
/-! RtO: found.setdefault(k, []).append(i): lists of ints in a dict of the def's own. -/
namespace Rt
open PySem L2 Rt PyProof.Rows
/-- what the one statement does -/
def sGrp (fi mi pi : Nat) : TS := fun D σ H => ∃ (d : Addr) (kvs : List (Key × V)) (k pl : Int), σ[fi]? = some (some (.ref d)) ∧ σ[mi]? = some (some (.int k)) ∧ σ[pi]? = some (some (.int pl)) ∧ H d = some (.dK kvs) ∧ kvs.length < sizeLine ∧
  (∀ v, valV kvs (.inl k) = some v → ∃ q xs, v = .ref q ∧ H q = some (.lst xs) ∧ xs.length < sizeLine ∧ ∀ p, H p = none → D.nx σ (upd (upd H p (.lst [])) q (.lst (xs ++ [.int pl])))) ∧
  (valV kvs (.inl k) = none → ∀ p, H p = none → D.nx σ (upd (upd (upd H p (.lst [])) d (.dK (putK kvs (.inl k) (.ref p)))) p (.lst [.int pl])))
section
variable {X : Cx} {o f m pl : Expr} {fi mi pi : Nat} {kk : Nat} {b2 b4 b5 b6 b8 q2 : Pos}
theorem ps_grp (hf : PE X f (tVar fi)) (hm : PE X m (tVar mi)) (hp : PE X pl (tVar pi)) (M : M2 X f "setdefault" b2 m (.List [] b4) b5)
    (hbase : attributeBase (.Call (.Attribute f "setdefault" b2) [m, .List [] b4] [] b5) "append" X.env (eval (.Call (.Attribute f "setdefault" b2) [m, .List [] b4] [] b5) X.env) = eval (.Call (.Attribute f "setdefault" b2) [m, .List [] b4] [] b5) X.env)
    (hfew : ((backTo b8 (starEach [pl] X.env)).all (fun x => !x.1) && (backToKw b8 (keywordEach [] X.env)).all (fun x => x.1.isSome) && decide (([pl] : List Expr).length + ([] : List Keyword).length + (if ([] : List Keyword).isEmpty then 0 else 1) < 30)) = true)
    (hline : (b6.endLine == b8.line) = true) (hst : starEach [pl] X.env = (false, eval pl X.env) :: starEach [] X.env) (hpl : (backTo b8 (starEach [] X.env)).any (·.1) = false)
    (hs : swapsWith (.Call (.Attribute (.Call (.Attribute f "setdefault" b2) [m, .List [] b4] [] b5) "append" b6) [pl] [] b8) none q2.line X.env = pure false) :
    PS X (.Expr (.Call (.Attribute (.Call (.Attribute f "setdefault" b2) [m, .List [] b4] [] b5) "append" b6) [pl] [] b8) q2) (sGrp fi mi pi) :=
  ps_imp (ps_expr (pe_bm PySem.F.plainAttrs_list PySem.F.slot_list_append PySem.F.type_list_append mt_append (pe_dsetd hf hm (pe_lst pa_nil) M) (pa_cons hp pa_nil hst) hbase hfew hline hst hpl) hs) fun D σ H _ ⟨d, kvs, k, i, e1, e2, e3, hd, hl, w1, w2⟩ => by
    have nd : ∀ p, H p = none → d ≠ p := fun p hp z => by rw [← z, hd] at hp; cases hp
    refine ⟨.ref d, e1, d, rfl, .inl ⟨kvs, .inl hd⟩, .int k, e2, Nat.zero_le _, fun p hp => ⟨kvs, .inl k, by rw [upd_ne (nd p hp)]; exact hd, rfl, hl, fun v hv => ?_, fun hv => ?_⟩⟩
    · obtain ⟨q, xs, ev, hq, hx, w⟩ := w1 v hv
      subst ev
      have nq : q ≠ p := fun z => by rw [z, hp] at hq; cases hq
      refine ⟨.inl ⟨rfl, xs, .inl (.inl (by rw [upd_ne nq]; exact hq))⟩, .int i, e3, q, xs, .int i, rfl, rfl, by rw [upd_ne nq]; exact hq, hx, w p hp⟩
    · refine ⟨.inl ⟨rfl, [], .inl (.inl (by rw [upd_ne (nd p hp).symm, upd_same]))⟩, .int i, e3, p, [], .int i, rfl, rfl, by rw [upd_ne (nd p hp).symm, upd_same], ?_, w2 hv p hp⟩
      rw [sizeLine_eq]
      decide
end
/-- i put into the list of k -/
def grp1 : List (Int × List Int) → Int → Int → List (Int × List Int)
  | [], k, i => [(k, [i])]
  | g :: G, k, i => if g.1 = k then (g.1, g.2 ++ [i]) :: G else g :: grp1 G k i
/-- the dict's rows, the groups, the lists' addresses -/
def GL (H : Hp) : List (Key × V) → List (Int × List Int) → List Addr → Prop
  | [], [], [] => True
  | kv :: kvs, g :: G, q :: L => kv = (.inl g.1, .ref q) ∧ H q = some (.lst (g.2.map V.int)) ∧ GL H kvs G L
  | _, _, _ => False
theorem GL.keep {H H' : Hp} : ∀ {kvs : List (Key × V)} {G : List (Int × List Int)} {L : List Addr}, GL H kvs G L → (∀ q ∈ L, ∀ o, H q = some o → H' q = some o) → GL H' kvs G L
  | [], [], [], _, _ => True.intro
  | _ :: _, _ :: _, q :: _, ⟨h1, h2, h3⟩, k => ⟨h1, k q List.mem_cons_self _ h2, h3.keep fun q' m => k q' (List.mem_cons_of_mem _ m)⟩
  | [], [], _ :: _, h, _ => h.elim
  | [], _ :: _, _, h, _ => h.elim
  | _ :: _, [], _, h, _ => h.elim
  | _ :: _, _ :: _, [], h, _ => h.elim
theorem GL.len {H : Hp} : ∀ {kvs : List (Key × V)} {G : List (Int × List Int)} {L : List Addr}, GL H kvs G L → kvs.length = G.length ∧ L.length = G.length
  | [], [], [], _ => ⟨rfl, rfl⟩
  | _ :: _, _ :: _, _ :: _, ⟨_, _, h⟩ => by
    obtain ⟨a, b⟩ := h.len
    simp [a, b]
  | [], [], _ :: _, h => h.elim
  | [], _ :: _, _, h => h.elim
  | _ :: _, [], _, h => h.elim
  | _ :: _, _ :: _, [], h => h.elim
theorem GL.found {H : Hp} {k i : Int} {v : V} : ∀ {kvs : List (Key × V)} {G : List (Int × List Int)} {L : List Addr}, GL H kvs G L → L.Nodup → valV kvs (.inl k) = some v →
    ∃ q xs, v = .ref q ∧ q ∈ L ∧ H q = some (.lst (xs.map V.int)) ∧ (∀ g ∈ G, xs.length ≤ (G.map fun g => g.2.length).sum) ∧ ∀ H' : Hp, H' q = some (.lst ((xs ++ [i]).map V.int)) → (∀ q' ∈ L, q' ≠ q → ∀ o, H q' = some o → H' q' = some o) → GL H' kvs (grp1 G k i) L
  | [], [], [], _, _, h => nomatch h
  | kv :: kvs, g :: G, q :: L, ⟨h1, h2, h3⟩, nd, h => by
    subst h1
    obtain ⟨n1, n2⟩ := List.nodup_cons.mp nd
    by_cases z : g.1 = k
    · have e : valV ((Sum.inl g.1, V.ref q) :: kvs) (Sum.inl k : Key) = some (.ref q) := valV_pos (by rw [z])
      rw [e] at h
      cases h
      refine ⟨q, g.2, rfl, List.mem_cons_self, h2, fun _ _ => by simp, fun H' a b => ?_⟩
      unfold grp1
      rw [if_pos z]
      exact ⟨rfl, a, h3.keep fun q' m o e => b q' (List.mem_cons_of_mem _ m) (fun w => n1 (w ▸ m)) o e⟩
    · have e : valV ((Sum.inl g.1, V.ref q) :: kvs) (Sum.inl k : Key) = valV kvs (Sum.inl k) := valV_neg fun w => z (Sum.inl.inj w)
      rw [e] at h
      obtain ⟨q2, xs, e1, m, e2, e3, w⟩ := GL.found h3 n2 h
      refine ⟨q2, xs, e1, List.mem_cons_of_mem _ m, e2, fun _ _ => ?_, fun H' a b => ?_⟩
      · rw [List.map_cons, List.sum_cons]
        cases G with
        | nil =>
          cases L with
          | nil => cases m
          | cons _ _ => cases kvs <;> exact h3.elim
        | cons g2 G => exact Nat.le_trans (e3 g2 List.mem_cons_self) (Nat.le_add_left _ _)
      · unfold grp1
        rw [if_neg z]
        exact ⟨rfl, b q List.mem_cons_self (fun w => n1 (w ▸ m)) _ h2, w H' a fun q' m' ne o e => b q' (List.mem_cons_of_mem _ m') ne o e⟩
  | [], [], _ :: _, h, _, _ => h.elim
  | [], _ :: _, _, h, _, _ => h.elim
  | _ :: _, [], _, h, _, _ => h.elim
  | _ :: _, _ :: _, [], h, _, _ => h.elim
theorem GL.new {H : Hp} {k i : Int} {p : Addr} (hp : H p = some (.lst [V.int i])) : ∀ {kvs : List (Key × V)} {G : List (Int × List Int)} {L : List Addr}, GL H kvs G L → valV kvs (.inl k) = none → GL H (kvs ++ [(.inl k, .ref p)]) (grp1 G k i) (L ++ [p])
  | [], [], [], _, _ => ⟨rfl, hp, True.intro⟩
  | kv :: kvs, g :: G, q :: L, ⟨h1, h2, h3⟩, h => by
    subst h1
    have z : ¬ g.1 = k := fun z => by
      rw [valV_pos (by rw [z])] at h
      cases h
    rw [valV_neg fun w => z (Sum.inl.inj w)] at h
    unfold grp1
    rw [if_neg z]
    exact ⟨rfl, h2, GL.new hp h3 h⟩
  | [], [], _ :: _, h, _ => h.elim
  | [], _ :: _, _, h, _ => h.elim
  | _ :: _, [], _, h, _ => h.elim
  | _ :: _, _ :: _, [], h, _ => h.elim
theorem grp1_len : ∀ (G : List (Int × List Int)) (k i : Int), (grp1 G k i).length ≤ G.length + 1
  | [], _, _ => Nat.le_refl _
  | g :: G, k, i => by
    unfold grp1
    split
    · simp
    · have := grp1_len G k i
      simp only [List.length_cons]
      omega
theorem grp1_sum : ∀ (G : List (Int × List Int)) (k i : Int), ((grp1 G k i).map fun g => g.2.length).sum = (G.map fun g => g.2.length).sum + 1
  | [], _, _ => rfl
  | g :: G, k, i => by
    unfold grp1
    split
    · simp
      omega
    · have := grp1_sum G k i
      simp only [List.map_cons, List.sum_cons]
      omega
/-- all of them -/
def grps (ps : List (Int × Int)) (G : List (Int × List Int)) : List (Int × List Int) := ps.foldl (fun G p => grp1 G p.2 p.1) G
theorem grps_size : ∀ (ps : List (Int × Int)) (G : List (Int × List Int)), (grps ps G).length ≤ G.length + ps.length ∧ ((grps ps G).map fun g => g.2.length).sum = (G.map fun g => g.2.length).sum + ps.length
  | [], _ => ⟨Nat.le_refl _, rfl⟩
  | p :: ps, G => by
    obtain ⟨a, b⟩ := grps_size ps (grp1 G p.2 p.1)
    have c := grp1_len G p.2 p.1
    have d := grp1_sum G p.2 p.1
    refine ⟨?_, ?_⟩
    · show (grps ps (grp1 G p.2 p.1)).length ≤ _
      rw [List.length_cons]
      omega
    · show ((grps ps (grp1 G p.2 p.1)).map fun g => g.2.length).sum = _
      rw [b, d, List.length_cons]
      omega
theorem Fr.chain {C : Cs} {S H S' H' : Hp} {σ σ' : L2.St} {env env' : List Sl} (F : Fr C S H σ env) (G : Fr (Cs.at S H σ env) S' H' σ' env') : Fr C S' H' σ' env' := by
  refine ⟨F.e0.trans G.e0, G.e1, fun b o e n => G.e2 b o (F.e2 b o e n) fun z => ?_, fun b h1 h2 => G.nw b (F.nw b h1 h2) (F.al b h2), fun b h => G.al b (F.al b h), G.sl, fun p hp => ?_, G.nd, G.tc⟩
  · rcases F.ow b z with q | q
    · rw [q] at e; cases e
    · exact n q
  · rcases G.ow p hp with q | q
    · exact .inl (F.H0none q)
    · exact F.ow p q
theorem pi_ex {X : Cx} {tg e : Expr} {ι : Type} {wi : ι → TI} (h : ∀ a, PI X tg e (wi a)) : PI X tg e (fun σ H R => ∃ a, wi a σ H R) := ⟨fun pins s σ H R I ⟨a, q⟩ => (h a).run pins s σ H R I q⟩
/-- an object that no slot owns, and that the caller doesn't know -/
def Fre (C : Cs) (S : Hp) (σ : L2.St) (env : List Sl) (p : Addr) : Prop := S p = none ∧ C.H0 p = none ∧ p ∉ owns σ env
section
variable {X : Cx} {C : Cs} {env : List Sl} {tg iter : Expr} {st : Stmt} {fi mi pi : Nat} {mx : W (List (Int × Int))} {pos : Pos}
def sGrps (C : Cs) (env : List Sl) (fi : Nat) (mx : W (List (Int × Int))) : TS := fun D σ H => ∃ S g P d, Fr C S H σ env ∧ mx g P ∧ σ[fi]? = some (some (.ref d)) ∧ H d = some (.dK []) ∧ Fre C S σ env d ∧
  ∀ ps g', P ps g' → ∀ S' H' σ' kvs L, Fr C S' H' σ' env → Ex S S' → σ'[fi]? = some (some (.ref d)) → H' d = some (.dK kvs) → GL H' kvs (grps ps []) L → (d :: L).Nodup → (∀ q ∈ d :: L, Fre C S' σ' env q) → D.nx σ' H'
theorem ps_grps {up : Up (Int × Int)} (hp : PassesOwn (model X.prog X.w) X.A X.env X.xe) (hc : X.calm = true) (hi : ∀ C', PI X tg iter (tS C' (fun _ => env) (qW qI qI) mx)) (hg : PG X tg (tG (qW qI qI) up)) (hb : PS X st (sGrp fi mi pi))
    (hU : ∀ j ∈ up.js, env[j]? = some .un) (hL : ∀ a, Le (up.f a env) env) (hf : fi ∉ up.js) (hm : ∀ a, (up.f a env)[mi]? = some (.im qI a.2)) (hpi : ∀ a, (up.f a env)[pi]? = some (.im qI a.1)) (hs : ∀ x, foldedSetIterable iter X.env x = pure x := by intro _; rfl) :
    PS X (.For tg iter [st] [] pos) (sGrps C env fi mx) :=
  ps_imp (ps_for hp hc (pi_ex hi) hg (pss_cons hb pss_nil) hs) fun D σ H _ ⟨S, g0, P, d, F, em, ef, hd, hfd, q⟩ => ⟨Cs.at S H σ env, S, g0, P, F.here, em, fun ps g1 pm J S1 H1 F1' x1 W1 => by
    have F1 := F.chain F1'
    have hd1 : H1 d = some (.dK []) := F1'.e2 d _ hd hfd.2.2
    have sd1 : S1 d = none := F1'.nw d hfd.1 (by show H d ≠ none; rw [hd]; exact fun z => nomatch z)
    refine ⟨fun i m σ H => m = ps.length - i ∧ i ≤ ps.length ∧ ∃ S kvs L, Fr C S H σ env ∧ Ex S1 S ∧ σ[fi]? = some (some (.ref d)) ∧ H d = some (.dK kvs) ∧ GL H kvs (grps (ps.take i) []) L ∧ (d :: L).Nodup ∧ ∀ q ∈ d :: L, Fre C S σ env q,
      ⟨ps.length, rfl, Nat.zero_le _, S1, [], [], F1, Ex.refl S1, ef, hd1, True.intro, by simp, fun q hq => by rw [List.mem_singleton.mp hq]; exact ⟨sd1, hfd.2.1, hfd.2.2⟩⟩, ?_⟩
    rintro i m σ2 H2 ⟨rfl, hi2, S2, kvs, L, F2, x2, ef2, hd2, hG, nd, fr⟩
    by_cases hlt : i < ps.length
    · have hxi : ps[i]? = some ps[i] := List.getElem?_eq_getElem hlt
      refine .inr ⟨W1.go i hlt F2 x2, fun σ' H' => ∃ S kvs L, Fr C S H' σ' env ∧ Ex S1 S ∧ σ'[fi]? = some (some (.ref d)) ∧ H' d = some (.dK kvs) ∧ GL H' kvs (grps (ps.take (i + 1)) []) L ∧ (d :: L).Nodup ∧ ∀ q ∈ d :: L, Fre C S σ' env q, fun σ' H' h' => ⟨ps.length - (i + 1), by omega, rfl, hlt, h'⟩, fun x H3 hy3 => ?_⟩
      obtain ⟨S3, F3, x3, eH, nS, r3⟩ := W1.yld i x H3 ps[i] F2 x2 hy3 hxi
      refine ⟨C, S3, _, ps[i], F3, r3, fun σ4 hlen hsame F4 => ?_⟩
      have ef4 : σ4[fi]? = some (some (.ref d)) := by rw [hsame fi hf]; exact ef2
      have own4 : ∀ p, p ∈ owns σ4 env → p ∈ owns σ2 env := fun p hp => by
        obtain ⟨j, s, e1, e2, e3⟩ := owns_of hp
        by_cases z : j ∈ up.js
        · rw [hU j z] at e1
          cases e1
          cases e3
        · rw [hsame j z] at e2
          exact owns_mem_get j e1 e2 e3
      have F4' : Fr C S3 H3 σ4 env := F4.le (hL _)
      have hd3 := eH _ _ hd2
      have hG3 := hG.keep fun q _ o e => eH q o e
      have gp : ∀ q ∈ d :: L, ∃ o, H2 q = some o := fun q hq => by
        rcases List.mem_cons.mp hq with e | hq
        · exact ⟨_, e ▸ hd2⟩
        · have go : ∀ {kvs : List (Key × V)} {G : List (Int × List Int)} {L : List Addr}, GL H2 kvs G L → ∀ q ∈ L, ∃ o, H2 q = some o := by
            intro kvs
            induction kvs with
            | nil =>
              intro G L h q hq
              cases G with
              | nil => cases L with
                | nil => cases hq
                | cons _ _ => exact h.elim
              | cons _ _ => exact h.elim
            | cons kv kvs ih =>
              intro G L h q hq
              cases G with
              | nil => exact h.elim
              | cons g G =>
                cases L with
                | nil => cases hq
                | cons q2 L =>
                  rcases List.mem_cons.mp hq with e | hq
                  · rw [e]; exact ⟨_, h.2.1⟩
                  · exact ih h.2.2 q hq
          exact go hG q hq
      have fr4 : ∀ q ∈ d :: L, Fre C S3 σ4 env q := fun q hq => by
        obtain ⟨a, b, c⟩ := fr q hq
        obtain ⟨o, ho⟩ := gp q hq
        exact ⟨nS q a (by rw [ho]; exact fun z => nomatch z), b, fun z => c (own4 q z)⟩
      obtain ⟨k1, ek1, rk⟩ := F4.sl.get mi (hm ps[i])
      obtain ⟨xk, exk, hk⟩ := rk
      obtain ⟨k2, ek2, rp⟩ := F4.sl.get pi (hpi ps[i])
      obtain ⟨xp, exp, hpv⟩ := rp
      have hk : xk = V.int ps[i].2 := hk
      have hpv : xp = V.int ps[i].1 := hpv
      subst exk exp hk hpv
      have len := W1.len
      obtain ⟨l1, l2⟩ := hG.len
      obtain ⟨z1, z2⟩ := grps_size (ps.take i) []
      rw [List.length_take] at z1 z2
      have tk : grps (ps.take (i + 1)) [] = grp1 (grps (ps.take i) []) ps[i].2 ps[i].1 := by
        unfold grps
        rw [List.take_succ, hxi, Option.toList_some, List.foldl_append]
        rfl
      refine ⟨d, kvs, ps[i].2, ps[i].1, ef4, ek1, ek2, hd3, by simp at z1; omega, fun v hv => ?_, fun hv p hp => ?_⟩
      · obtain ⟨q, xs, ev, mq, hq, hb2, w⟩ := hG3.found (i := ps[i].1) (List.nodup_cons.mp nd).2 hv
        refine ⟨q, xs.map V.int, ev, hq, ?_, fun p hp => ?_⟩
        · have : (grps (ps.take i) []) ≠ [] := fun z => by
            rw [z] at l1 l2
            have : L = [] := List.eq_nil_of_length_eq_zero l2
            rw [this] at mq
            cases mq
          obtain ⟨g0, G0, eg⟩ := List.exists_cons_of_ne_nil this
          have := hb2 g0 (by rw [eg]; exact List.mem_cons_self)
          rw [List.length_map]
          simp at z2
          omega
        · have nq : q ≠ p := fun z => by rw [z, hp] at hq; cases hq
          have nd' : d ≠ q := fun z => (List.nodup_cons.mp nd).1 (z ▸ mq)
          have ndp : d ≠ p := fun z => by rw [z, hp] at hd3; cases hd3
          obtain ⟨a, b, c⟩ := fr4 q (List.mem_cons_of_mem _ mq)
          have F5 := (F4'.add hp (o := .lst [])).other (o' := .lst (xs.map V.int ++ [.int ps[i].1])) (p := q) (by rw [upd_ne nq]; exact hq) a b c
          refine ⟨S3, kvs, L, F5, x2.trans x3, ef4, by rw [upd_ne nd', upd_ne ndp]; exact hd3, ?_, nd, fr4⟩
          rw [tk]
          refine w _ (by rw [upd_same, List.map_append]; rfl) fun q' mq' ne o e => ?_
          have np : q' ≠ p := fun z => by rw [z, hp] at e; cases e
          rw [upd_ne ne, upd_ne np]
          exact e
      · have ndp : d ≠ p := fun z => by rw [z, hp] at hd3; cases hd3
        obtain ⟨a, b, c⟩ := fr4 d List.mem_cons_self
        have pn : p ∉ owns σ4 env := fun z => by
          obtain ⟨_, o, e⟩ := F4'.sl.own z
          rw [hp] at e
          cases e
        have F5 := F4'.add hp (o := .lst [])
        have F6 := F5.other (o' := .dK (putK kvs (Sum.inl ps[i].2) (.ref p))) (p := d) (by rw [upd_ne ndp]; exact hd3) a b c
        have F7 := F6.other (o' := .lst [.int ps[i].1]) (p := p) (by rw [upd_ne ndp.symm]; exact upd_same) (F4'.e1.back hp) (F4'.H0none hp) pn
        have pL : p ∉ L := fun z => by
          obtain ⟨o, ho⟩ := gp p (List.mem_cons_of_mem _ z)
          rw [eH _ _ ho] at hp
          cases hp
        have ek : putK kvs (Sum.inl ps[i].2 : Key) (.ref p) = kvs ++ [(Sum.inl ps[i].2, V.ref p)] := by
          unfold putK
          rw [if_neg]
          intro z
          obtain ⟨kv, m1, m2⟩ := List.any_eq_true.mp z
          have : (kvs.find? fun kv => decide (kv.1 = (Sum.inl ps[i].2 : Key))) ≠ none := fun y => by
            have := List.find?_eq_none.mp y kv m1
            exact this m2
          unfold valV at hv
          cases e : kvs.find? fun kv => decide (kv.1 = (Sum.inl ps[i].2 : Key)) with
          | none => exact this e
          | some w => rw [e] at hv; cases hv
        refine ⟨S3, _, L ++ [p], F7, x2.trans x3, ef4, by rw [upd_ne ndp, upd_same], ?_, ?_, fun q hq => ?_⟩
        · rw [tk, ek]
          refine GL.new upd_same (hG3.keep fun q mq o e => ?_) hv
          have n1 : q ≠ p := fun z => pL (z ▸ mq)
          have n2 : q ≠ d := fun z => (List.nodup_cons.mp nd).1 (z ▸ mq)
          rw [upd_ne n1, upd_ne n2, upd_ne n1]
          exact e
        · obtain ⟨n1, n2⟩ := List.nodup_cons.mp nd
          refine List.nodup_cons.mpr ⟨fun z => ?_, List.nodup_append.mpr ⟨n2, by simp, fun x hx y hy e => ?_⟩⟩
          · rcases List.mem_append.mp z with z | z
            · exact n1 z
            · exact ndp (List.mem_singleton.mp z)
          · rw [List.mem_singleton.mp hy] at e
            exact pL (e ▸ hx)
        · have hq : q ∈ d :: L ∨ q = p := by
            rcases List.mem_cons.mp hq with e | hq
            · exact .inl (e ▸ List.mem_cons_self)
            · rcases List.mem_append.mp hq with hq | hq
              · exact .inl (List.mem_cons_of_mem _ hq)
              · exact .inr (List.mem_singleton.mp hq)
          rcases hq with hq | hq
          · exact fr4 q hq
          · rw [hq]
            exact ⟨F4'.e1.back hp, F4'.H0none hp, pn⟩
    · have e : i = ps.length := by omega
      subst e
      rw [List.take_length] at hG
      exact .inl ⟨W1.stop _ (Nat.le_refl _) F2 x2, q ps g1 pm S2 H2 σ2 kvs L F2 (x1.trans x2) ef2 hd2 hG nd fr⟩⟩
end
/-! the dict and its lists, never changed again -/
def GS (S : Hp) : List (Key × V) → List (Int × List Int) → Prop
  | [], [] => True
  | kv :: kvs, g :: G => (∃ q, kv = (.inl g.1, .ref q) ∧ S q = some (.lst (g.2.map V.int))) ∧ GS S kvs G
  | _, _ => False
theorem GS.mono {S S' : Hp} (e : Ex S S') : ∀ {kvs : List (Key × V)} {G : List (Int × List Int)}, GS S kvs G → GS S' kvs G
  | [], [], _ => True.intro
  | _ :: _, _ :: _, ⟨⟨q, h1, h2⟩, h3⟩ => ⟨⟨q, h1, e _ _ h2⟩, h3.mono e⟩
  | [], _ :: _, h => h.elim
  | _ :: _, [], h => h.elim
theorem GS.len {S : Hp} : ∀ {kvs : List (Key × V)} {G : List (Int × List Int)}, GS S kvs G → kvs.length = G.length
  | [], [], _ => rfl
  | _ :: _, _ :: _, ⟨_, h⟩ => by rw [List.length_cons, List.length_cons, h.len]
  | [], _ :: _, h => h.elim
  | _ :: _, [], h => h.elim
theorem GS.at {S : Hp} : ∀ {kvs : List (Key × V)} {G : List (Int × List Int)} {i : Nat} {k : Key} {x : V} {g : Int × List Int}, GS S kvs G → kvs[i]? = some (k, x) → G[i]? = some g → ∃ q, x = .ref q ∧ S q = some (.lst (g.2.map V.int))
  | [], [], _, _, _, _, _, h, _ => nomatch h
  | kv :: kvs, g :: G, 0, k, x, g', ⟨⟨q, h1, h2⟩, _⟩, e1, e2 => by
    simp at e1 e2
    subst e2
    rw [h1] at e1
    cases e1
    exact ⟨q, rfl, h2⟩
  | kv :: kvs, g :: G, i + 1, k, x, g', ⟨_, h⟩, e1, e2 => by
    simp at e1 e2
    exact h.at e1 e2
  | [], _ :: _, _, _, _, _, h, _, _ => h.elim
  | _ :: _, [], _, _, _, _, h, _, _ => h.elim
theorem GL.gs {H S : Hp} : ∀ {kvs : List (Key × V)} {G : List (Int × List Int)} {L : List Addr}, GL H kvs G L → (∀ q ∈ L, S q = H q) → GS S kvs G
  | [], [], [], _, _ => True.intro
  | _ :: _, _ :: _, q :: _, ⟨h1, h2, h3⟩, k => ⟨⟨q, h1, (k q List.mem_cons_self).trans h2⟩, h3.gs fun q' m => k q' (List.mem_cons_of_mem _ m)⟩
  | [], [], _ :: _, h, _ => h.elim
  | [], _ :: _, _, h, _ => h.elim
  | _ :: _, [], _, h, _ => h.elim
  | _ :: _, _ :: _, [], h, _ => h.elim
def tLk (t : TS) : TS := fun D σ H => ∃ d u, H d = some u ∧ Mut (some u) ∧ ∀ od, t D σ (upd H d (.frz od u))
theorem pss_lk {X : Cx} {A : List Stmt} {t : TS} (h : PSs X A t) : PSs X A (tLk t) := by
  refine ⟨fun pins s σ H D I hw => ?_⟩
  obtain ⟨d, u, hd, mu, hw⟩ := hw
  obtain ⟨od, I1⟩ := I.lock hd mu
  exact h.run pins s σ _ _ I1 (hw od)
/-- a dict from ints to lists of ints, of which nobody changes anything -/
def qDL : Rp (List (Int × List Int)) := ⟨fun S v G => ∃ d od kvs, v = .ref d ∧ S d = some (.frz od (.dK kvs)) ∧ GS S kvs G, fun e ⟨d, od, kvs, h1, h2, h3⟩ => ⟨d, od, kvs, h1, e _ _ h2, h3.mono e⟩⟩
theorem Fr.settle {C : Cs} {S H : Hp} {σ : L2.St} {env : List Sl} (F : Fr C S H σ env) {L : List Addr} (hL : ∀ q ∈ L, Fre C S σ env q) : ∃ S', Fr C S' H σ env ∧ Ex S S' ∧ ∀ q ∈ L, S' q = H q := by
  refine ⟨fun b => if b ∈ L then H b else S b, ?_, ?_, fun q hq => if_pos hq⟩
  · have ex : Ex S (fun b => if b ∈ L then H b else S b) := fun b o e => by
      show (if b ∈ L then H b else S b) = some o
      split
      · exact F.e1 b o e
      · exact e
    refine ⟨F.e0.trans ex, fun b o e => ?_, F.e2, fun b h1 h2 => ?_, F.al, F.sl.mono ex (Ex.refl H) fun q hq => ?_, F.ow, F.nd, fun b vs e => ?_⟩
    · have e : (if b ∈ L then H b else S b) = some o := e
      split at e
      · exact e
      · exact F.e1 b o e
    · show (if b ∈ L then H b else S b) = none
      split
      · rename_i z
        exact absurd (hL b z).2.1 h2
      · exact F.nw b h1 h2
    · show (if q ∈ L then H q else S q) = none
      split
      · rename_i z
        exact absurd hq (hL q z).2.2
      · exact (F.sl.own hq).1
    · show (if b ∈ L then H b else S b) ≠ none
      split
      · rw [e]; exact fun z => nomatch z
      · exact F.tc b vs e
  · intro b o e
    show (if b ∈ L then H b else S b) = some o
    split
    · exact F.e1 b o e
    · exact e
section
variable {X : Cx} {C : Cs} {env : List Sl} {tg iter : Expr} {st : Stmt} {rest : List Stmt} {fi mi pi : Nat} {mx : W (List (Int × Int))} {pos pos0 p0 py : Pos} {x : Str} {β γ ρ : Type} {r : Rp ρ} {pn : β → Gh → List Sl} {pl : γ → Gh → List Sl} {kp : Gh → List Sl} {K : List (Int × List Int) → W (Fl ρ β γ)}
/-- x = {}; for i, k in ..: x.setdefault(k, []).append(i) -/
theorem xs_grps {up : Up (Int × Int)} (hp : PassesOwn (model X.prog X.w) X.A X.env X.xe) (hc : X.calm = true) (hi : ∀ C', PI X tg iter (tS C' (fun _ => env) (qW qI qI) mx)) (hg : PG X tg (tG (qW qI qI) up)) (hb : PS X st (sGrp fi mi pi))
    (hr : ∀ G, PSs X rest (tF C (fun _ => env.set fi (.im qDL G)) (K G) pn pl kp r))
    (hN : X.N.Nodup) (hx0 : X.N[fi]? = some x) (hx : Loc X.env.scope x) (hw : swapsWith (.Dict [] [] p0) (some (.Name x py)) pos0.line X.env = pure false) (hfn : X.fn x = true) (hsl : env[fi]? = some .un)
    (hU : ∀ j ∈ up.js, env[j]? = some .un) (hL : ∀ a, Le (up.f a env) env) (hf : fi ∉ up.js) (hm : ∀ a, (up.f a env)[mi]? = some (.im qI a.2)) (hpi : ∀ a, (up.f a env)[pi]? = some (.im qI a.1)) (hs : ∀ x, foldedSetIterable iter X.env x = pure x := by intro _; rfl) :
    PSs X (.Assign [.Name x py] (.Dict [] [] p0) pos0 :: .For tg iter [st] [] pos :: rest) (tF C (fun _ => env) (mx.bind fun ps => K (grps ps [])) pn pl kp r) :=
  pss_imp (pss_cons (ps_set hN hx0 hx pe_dnewK hw (.inl hfn)) (pss_cons (ps_grps (C := C) (env := env) hp hc hi hg hb hU hL hf hm hpi hs) (pss_lk (pss_ex hr)))) fun D σ H _ ⟨S, g0, P, F, em, q⟩ d hd => by
    have eu : env.set fi .un = env := by
      refine List.ext_getElem? fun j => ?_
      by_cases z : fi = j
      · subst z
        rw [hsl]
        have : fi < env.length := (List.getElem?_eq_some_iff.mp hsl).1
        rw [List.getElem?_set_self this]
      · rw [List.getElem?_set_ne z]
    have F0 := (F.add hd (o := .dK [])).setUn fi (some (V.ref d))
    rw [eu] at F0
    have hlt : fi < σ.length := by
      rw [F.sl.len]
      exact (List.getElem?_eq_some_iff.mp hsl).1
    have sd : σ.set fi (some (V.ref d)) = σ.set fi (some (V.ref d)) := rfl
    refine ⟨S, g0, _, d, F0, em, by rw [List.getElem?_set_self hlt], upd_same, ⟨F.e1.back hd, F.H0none hd, fun z => ?_⟩, fun ps g1 pm S1 H1 σ1 kvs L F1 x1 ef hd1 hG nd fr => ?_⟩
    · obtain ⟨j, s, e1, e2, e3⟩ := owns_of z
      by_cases w : fi = j
      · subst w
        rw [hsl] at e1
        cases e1
        cases e3
      · rw [List.getElem?_set_ne w] at e2
        obtain ⟨_, o, e⟩ := F.sl.own (owns_mem_get j e1 e2 e3)
        rw [hd] at e
        cases e
    · refine ⟨d, _, hd1, True.intro, fun od => ⟨grps ps [], ?_⟩⟩
      obtain ⟨n1, n2⟩ := List.nodup_cons.mp nd
      obtain ⟨a, b, c⟩ := fr d List.mem_cons_self
      have F2 := F1.other (o' := .frz od (.dK kvs)) hd1 a b c
      obtain ⟨S2, F3, x2, h3⟩ := F2.settle (L := d :: L) fr
      have hG2 : GS S2 kvs (grps ps []) := (hG.keep (H' := upd H1 d (.frz od (.dK kvs))) fun q mq o e => by rw [upd_ne (fun z : q = d => n1 (z ▸ mq))]; exact e).gs fun q mq => h3 q (List.mem_cons_of_mem _ mq)
      have sd2 : S2 d = some (.frz od (.dK kvs)) := (h3 d List.mem_cons_self).trans upd_same
      have F4 := F3.setIm fi (r := qDL) (v := V.ref d) (a := grps ps []) ⟨d, od, kvs, rfl, sd2, hG2⟩
      have es : σ1.set fi (some (V.ref d)) = σ1 := by
        refine List.ext_getElem? fun j => ?_
        by_cases z : fi = j
        · subst z
          rw [ef, List.getElem?_set_self (List.getElem?_eq_some_iff.mp ef).1]
        · rw [List.getElem?_set_ne z]
      rw [es] at F4
      exact ⟨S2, g1, P, F4, pm, fun o g9 po => (q o g9 po).mono (x1.trans x2)⟩
def DLk (H : Hp) : Prop := ∀ d od kvs, H d = some (.frz od (.dK kvs)) → kvs.length ≤ sizeLine
theorem DLk.of {pins : List (Addr × Obj)} {σ : L2.St} {H : Hp} {s : Shared} (I : Inv X pins σ H s) : DLk H := fun d od kvs h => (dk_rd I.hok (.inr ⟨od, h⟩)).1
theorem pe_dlk {e : Expr} {te : TE} (h : PE X e te) : PE X e (fun σ H Q => te σ H (fun v H' => DLk H' → Q v H')) := ⟨fun pins s σ H Q I q => thn (h.run pins s σ H _ I q) fun u s1 ⟨v, H1, I1, r1, k⟩ => ⟨v, H1, I1, r1, k (DLk.of I1)⟩⟩
theorem xi_vals {envf : Gh → List Sl} {e : Expr} {apos cpos : Pos} {md : W (List (Int × List Int))} (h : PE X e (tE C envf qDL md)) (hbase : attributeBase e "values" X.env (eval e X.env) = eval e X.env := by rfl) (hline : (apos.endLine == cpos.line) = true := by rfl) :
    PI X tg (.Call (.Attribute e "values" apos) [] [] cpos) (tS C envf (qL qI) (md.bind fun G => .ret (G.map (·.2)))) :=
  pi_imp (pi_values (pe_dlk h) hbase hline) fun σ H R _ ⟨S, g0, P, F, em, q⟩ => ⟨S, g0, _, F, em, fun G g1 pg v S1 H1 F1 x1 ⟨d, od, kvs, ev, hd, hG⟩ dl => by
    have ln := hG.len
    have hl : G.length ≤ sizeLine := by rw [← ln]; exact dl d od kvs (F1.e1 _ _ hd)
    refine ⟨d, od, kvs, ev, F1.e1 _ _ hd, q _ _ pg _ S1 H1 F1 x1 ⟨by rw [List.length_map]; exact hl, fun i hi F2 e => ⟨F2.e1 _ _ (e _ _ hd), by rw [List.length_map] at hi; omega⟩, fun {C2 S2 H2 σ2 env2} i y H3 a F2 e ⟨eH, k, hk⟩ ha => ?_, fun i hi F2 e => ⟨F2.e1 _ _ (e _ _ hd), by rw [List.length_map] at hi; omega⟩⟩⟩
    subst eH
    rw [List.getElem?_map, Option.map_eq_some_iff] at ha
    obtain ⟨g, hg, rfl⟩ := ha
    obtain ⟨q, ey, hq⟩ := hG.at hk hg
    exact ⟨S2, F2, Ex.refl _, Ex.refl _, fun b z _ => z, q, _, ey, e _ _ hq, All2.of_map (f := V.int) _⟩⟩
end
end Rt

set_option maxRecDepth 100000
set_option maxHeartbeats 4000000
/-! RtL: list(enumerate(t)) of a tuple: pairs whose objects are known. -/
namespace RtL
open PySem PySem.Spec PySem.Calls PyProof.Rows L2
/-- the pair that is handed out -/
abbrev two (i : Int) (t : Tok) (x : Value) : Obj := { cls := .type "tuple", data := .seq #[.int i t, x] }
section
variable {prog : Program} {w : World} {A : Around} {E : Value → Shared → Prop} {s : Shared} {e it T a S : Addr} {fp : List Addr} {n i : Nat} {P : Nat → Value → Prop} {St : Nat → Heap → Prop} {old : Value} {f : Bool} {oT : Obj}
/-- the pair that was handed out stands: a new one is made -/
theorem next_again {Q : Value → Shared → Prop} (D : Draws prog w A it fp n P St) (he : IsEnumHeld s.heap e it i old T f) (hT : s.heap.get? T = some oT) (hTe : T ≠ e) (hTi : T ≠ it) (hst : St i s.heap) (hlt : i < n) (hne : e ≠ it) (hef : e ∉ fp)
    (hQ : ∀ x h' tk, P i x → IsEnumHeld h' e it ((i : Int) + 1) old T true → St (i + 1) h' → h'.get? s.heap.objs.size = some (two i tk x) → (∀ b o, b ≠ e → b ≠ it → s.heap.get? b = some o → h'.get? b = some o) → Q (.ref s.heap.objs.size) { s with heap := h', toks := tk + 1 }) :
    wpAny (model prog w) A (Builtin.«enumerate.__next__» ⟨[.ref e], []⟩) (fun fin s' => ∃ v, fin = .done (.ret v) ∧ Q v s') E s := by
  obtain ⟨hp, g, d, tk₀, os⟩ := s
  show wpAny _ _ (field (.ref e) 2 >>= _) _ _ _
  refine wpAny_bind (wpAny_field he rfl (x := .ref it) rfl (wpAny_bind (D.item i _ _ _ hlt hst fun x h1 tk hPx st1 sb1 => ?_)))
  have sb1 : Heap.SameBut it hp h1 := sb1
  have e1 : IsEnumHeld h1 e it i old T f := (sb1.2 e hne).trans he
  show wpAny _ _ (field (.ref e) 3 >>= _) _ _ ⟨h1, g, d, tk, os⟩
  refine wpAny_bind (wpAny_field e1 rfl (x := rawInt i) rfl ?_)
  show wpAny _ _ (field (.ref e) 4 >>= _) _ _ ⟨h1, g, d, tk, os⟩
  refine wpAny_bind (wpAny_field e1 rfl (x := .none) rfl ?_)
  show wpAny _ _ (mkInt i >>= _) _ _ ⟨h1, g, d, tk, os⟩
  refine wpAny_bind (wpAny_mkInt ?_)
  show wpAny _ _ (setField (.ref e) 3 (rawInt ((i : Int) + 1)) >>= _) _ _ ⟨h1, g, d, tk + 1, os⟩
  refine wpAny_bind (wpAny_setField_rec e1 (by simp) fun h2 e2 sb2 => ?_)
  have sb2 : Heap.SameBut e h1 h2 := sb2
  have e2 : IsEnumHeld h2 e it ((i : Int) + 1) old T f := e2
  show wpAny _ _ (setField (.ref e) 4 .none >>= _) _ _ ⟨h2, g, d, tk + 1, os⟩
  refine wpAny_bind (wpAny_setField_rec e2 (by simp) fun h3 e3 sb3 => ?_)
  have sb3 : Heap.SameBut e h2 h3 := sb3
  have e3 : IsEnumHeld h3 e it ((i : Int) + 1) old T f := e3
  show wpAny _ _ (newTuple [.int i tk, x] >>= _) _ _ ⟨h3, g, d, tk + 1, os⟩
  refine wpAny_bind (wpAny_newTuple ?_)
  have sz : h3.objs.size = hp.objs.size := by rw [sb3.1, sb2.1, sb1.1]
  have hel : e < hp.objs.size := Heap.lt_size he
  have k3 : ∀ b o, b ≠ e → b ≠ it → hp.get? b = some o → (h3.push (two i tk x)).get? b = some o := fun b o n1 n2 q => Heap.get?_push_of_some _ (sb3.extBut b o n1 (sb2.extBut b o n1 (sb1.extBut b o n2 q)))
  have t4 : (h3.push (two i tk x)).get? hp.objs.size = some (two i tk x) := by rw [← sz]; exact Heap.get?_push_size _ rfl
  have st4 : St (i + 1) (h3.push (two i tk x)) := D.frame _ _ _ st1 fun b hb o y => by
    have n1 : b ≠ e := fun q => hef (q ▸ hb)
    exact Heap.get?_push_of_some _ (sb3.extBut b o n1 (sb2.extBut b o n1 y))
  show wpAny _ _ (Builtin.SmallTypes.ownedTupleIsFree (.ref e) >>= _) _ _ ⟨h3.push (two i tk x), g, d, tk + 1, os⟩
  refine wpAny_bind (wpAny_tupleHeld_enum (s := ⟨h3.push (two i tk x), g, d, tk + 1, os⟩) (Heap.get?_push_of_some _ e3) (k3 T oT hTe hTi hT) fun h5 e5 sb5 => ?_)
  have sb5 : Heap.SameBut e (h3.push (two i tk x)) h5 := sb5
  simp only [Bool.false_eq_true, if_false]
  rw [sz]
  exact wpAny_pure ⟨_, rfl, hQ x h5 tk hPx e5 (D.frame _ _ _ st4 fun b hb o y => sb5.extBut b o (fun q => hef (q ▸ hb)) y) (sb5.extBut _ _ (Nat.ne_of_gt hel) t4) fun b o n1 n2 q => sb5.extBut b o n1 (k3 b o n1 n2 q)⟩
theorem pyNext_again {Q : Option Value → Shared → Prop} (D : Draws prog w A.in1 it fp n P St) (he : IsEnumHeld s.heap e it i old T f) (hT : s.heap.get? T = some oT) (hTe : T ≠ e) (hTi : T ≠ it) (hst : St i s.heap) (hlt : i < n) (hne : e ≠ it) (hef : e ∉ fp)
    (hQ : ∀ x h' tk, P i x → IsEnumHeld h' e it ((i : Int) + 1) old T true → St (i + 1) h' → h'.get? s.heap.objs.size = some (two i tk x) → (∀ b o, b ≠ e → b ≠ it → s.heap.get? b = some o → h'.get? b = some o) → Q (some (.ref s.heap.objs.size)) { s with heap := h', toks := tk + 1 }) :
    wpAny (model prog w) A (pyNext (.ref e)) Q E s := by
  have ty : s.TypeIs (.ref e) "enumerate" := ⟨_, he, rfl⟩
  unfold pyNext
  exact wpAny_bind (wpAny_attempt (wpAny_callSpecial?_slot (name := Str.ofString "__next__") ty F.slot_enumerate_next (wpAny_call_entry F.slot_enumerate_next ty F.entry_enumerate_next
    (next_again D he hT hTe hTi hst hlt hne hef fun x h' tk a1 a2 a3 a4 a5 => wpAny_pure (hQ x h' tk a1 a2 a3 a4 a5)) (F.args_enumerate_next_1 _))))
theorem pyNext_over {k : Int} {Q : Option Value → Shared → Prop} (D : Draws prog w A.in1 it fp n P St) (he : IsEnumHeld s.heap e it k old T f) (hst : St n s.heap) (hQ : ∀ h', Heap.ExtBut it s.heap h' → Q none { s with heap := h' }) : wpAny (model prog w) A (pyNext (.ref e)) Q E s := by
  have ty : s.TypeIs (.ref e) "enumerate" := ⟨_, he, rfl⟩
  unfold pyNext
  refine wpAny_bind (wpAny_attempt (wpAny_callSpecial?_slot (name := Str.ofString "__next__") ty F.slot_enumerate_next (wpAny_call_entry F.slot_enumerate_next ty F.entry_enumerate_next ?_ (F.args_enumerate_next_1 _))))
  show wpAny _ _ (field (.ref e) 2 >>= _) _ _ _
  refine wpAny_bind (wpAny_field he rfl (x := .ref it) rfl (wpAny_bind (D.done _ _ _ hst fun h' x q1 ⟨o, ho, hc⟩ => ?_)))
  exact wpAny_bind (wpAny_isInstance (T := "StopIteration") (b := true) ⟨o, ho, hc⟩ isSubtype_stop (wpAny_pure (hQ _ q1)))
/-- nothing is out, or what is out stands -/
def EnSt (h : Heap) (e it : Addr) (i : Nat) (S : Addr) : Prop := (∃ old, IsEnum h e it i old) ∨ ∃ old T f oT, IsEnumHeld h e it i old T f ∧ h.get? T = some oT ∧ T ≠ e ∧ T ≠ it ∧ T ≠ S
/-- the pairs so far -/
def Got (h : Heap) (base S e it : Addr) (its : Array Value) (acc : Array Value) (i : Nat) : Prop := acc.size = i ∧ ∀ j, j < i → ∃ T t x, acc[j]? = some (.ref T) ∧ h.get? T = some (two j t x) ∧ its[j]? = some x ∧ base ≤ T ∧ T ≠ S ∧ T ≠ e ∧ T ≠ it
theorem Got.step {h h' : Heap} {base : Addr} {its acc : Array Value} (x : Got h base S e it its acc i) (k : ∀ b o, b ≠ S → b ≠ e → b ≠ it → h.get? b = some o → h'.get? b = some o) : Got h' base S e it its acc i :=
  ⟨x.1, fun j hj => by
    obtain ⟨T, t, y, a1, a2, a3, a4, a5, a6, a7⟩ := x.2 j hj
    exact ⟨T, t, y, a1, k T _ a5 a6 a7 a2, a3, a4, a5, a6, a7⟩⟩
theorem Got.push {h : Heap} {base : Addr} {its acc : Array Value} {x : Value} {t : Tok} (g : Got h base S e it its acc i) (hT : h.get? T = some (two i t x)) (hx : its[i]? = some x) (hb : base ≤ T) (n1 : T ≠ S) (n2 : T ≠ e) (n3 : T ≠ it) : Got h base S e it its (acc.push (.ref T)) (i + 1) := by
  refine ⟨by rw [Array.size_push, g.1], fun j hj => ?_⟩
  by_cases z : j = i
  · subst z
    exact ⟨T, t, x, by rw [Array.getElem?_push, if_pos g.1.symm], hT, hx, hb, n1, n2, n3⟩
  · obtain ⟨T2, t2, y, a1, r⟩ := g.2 j (by omega)
    refine ⟨T2, t2, y, ?_, r⟩
    rw [Array.getElem?_push, if_neg (by rw [g.1]; exact z)]
    exact a1
abbrev lstO (acc : Array Value) (c : Nat) : Obj := { cls := .type "list", dict := none, data := .seq acc c, slots := #[] }
theorem draws (hh : A.handled = none) (ha : a ≠ it) (its : Array Value) : Draws prog w A it [it, a] its.size (fun i v => its[i]? = some v) (fun i h => h.IsTupleIter it a i ∧ h.IsTuple a its) := Draws.tuple hh it a ha its
/-- the list is filled -/
theorem fill {R : Result → Shared → Prop} {its : Array Value} {base : Addr} {res : Value} (hh : A.handled = none) (hei : e ≠ it) (hai : a ≠ it) (hea : e ≠ a) (hSe : S ≠ e) (hSi : S ≠ it) (hSa : S ≠ a) (hz : its.size ≤ sizeLine) :
    ∀ (k i : Nat) (s : Shared) (acc : Array Value) (c : Nat), its.size - i = k → i ≤ its.size → EnSt s.heap e it i S → s.heap.IsTupleIter it a i → s.heap.IsTuple a its → s.heap.get? S = some (lstO acc c) → Got s.heap base S e it its acc i → base ≤ s.heap.objs.size →
      (∀ h' tk acc' c', (∀ b o, b ≠ S → b ≠ e → b ≠ it → s.heap.get? b = some o → h'.get? b = some o) → h'.get? S = some (lstO acc' c') → Got h' base S e it its acc' its.size → R (.ok (.ret res)) { s with heap := h', toks := tk }) →
      codeAny (model prog w) A (.builtin "list.extend.loop" ⟨[.ref S, .ref e, res], []⟩) R s := by
  have D := draws (prog := prog) (w := w) (A := A.in1.in1) hh hai its
  have hef : e ∉ [it, a] := by simp [hei, hea]
  intro k
  induction k with
  | zero =>
    intro i s acc c hk hi hs hit hat hS hg hb hR
    have hin : i = its.size := by omega
    subst hin
    refine codeAny_builtin F.entry_extend_loop ?_
    rw [Around.under_plainId F.plain_extend_loop _]
    show wpAny _ A.in1 (pyNext (.ref e) >>= _) _ _ s
    have fin : ∀ h', Heap.ExtBut it s.heap h' → R (.ok (.ret res)) { s with heap := h' } := fun h' q => hR h' s.toks acc c (fun b o _ _ n3 y => q b o n3 y) (q S _ hSi hS) (hg.step fun b o _ _ n3 y => q b o n3 y)
    rcases hs with ⟨old, hs⟩ | ⟨old, T, f, oT, hs, _⟩
    · exact wpAny_bind (wpAny_pyNext_enum_endD D hs ⟨hit, hat⟩ fun h' q => wpAny_pure (fin h' q))
    · exact wpAny_bind (pyNext_over D hs ⟨hit, hat⟩ fun h' q => wpAny_pure (fin h' q))
  | succ k ih =>
    intro i s acc c hk hi hs hit hat hS hg hb hR
    have hlt : i < its.size := by omega
    refine codeAny_builtin F.entry_extend_loop ?_
    rw [Around.under_plainId F.plain_extend_loop _]
    show wpAny _ A.in1 (pyNext (.ref e) >>= _) _ _ s
    have hSl : S < s.heap.objs.size := Heap.lt_size hS
    have hil : it < s.heap.objs.size := let ⟨_, q, _⟩ := hit; Heap.lt_size q
    have hal : a < s.heap.objs.size := let ⟨_, q, _⟩ := hat; Heap.lt_size q
    have ec : ((i + 1 : Nat) : Int) = (i : Int) + 1 := by omega
    -- behind a pair
    have go : ∀ x h' tk, its[i]? = some x → EnSt h' e it (i + 1) S → h'.IsTupleIter it a (i + 1) → h'.IsTuple a its → h'.get? s.heap.objs.size = some (two i tk x) → s.heap.objs.size ≠ e → (∀ b o, b ≠ e → b ≠ it → s.heap.get? b = some o → h'.get? b = some o) →
        wpAny (model prog w) A.in1 (updateSeq S (·.push (.ref s.heap.objs.size)) >>= fun _ => again (.builtin "list.extend.loop" ⟨[.ref S, .ref e, res], []⟩))
          (fun fin s' => match fin with | .done f => R (.ok f) s' | .again c' => c'.quiet = true ∧ codeAny (model prog w) A c' R s') (fun e s' => R (.error e) s') { s with heap := h', toks := tk + 1 } := by
      intro x h' tk hx hs' hit' hat' hT hne2 hk'
      have hS' : h'.get? S = some (lstO acc c) := hk' S _ hSe hSi hS
      have ko : ∀ b o, b ≠ S → h'.get? b = some o → (h'.update S (Obj.mapSeq (·.push (.ref s.heap.objs.size)))).get? b = some o := fun b o n1 y => (Heap.get?_update_other _ _ (Ne.symm n1)).trans y
      have hz2 : s.heap.objs.size ≠ S := Nat.ne_of_gt hSl
      refine wpAny_bind (wpAny_updateSeq hS' rfl (wpAny_pure ⟨plainId_quiet F.plain_extend_loop _, ih (i + 1) _ (acc.push (.ref s.heap.objs.size)) _ (by omega) hlt ?_ (hit'.at fun o y => ko it o (Ne.symm hSi) y) (hat'.at fun o y => ko a o (Ne.symm hSa) y)
        (Heap.get?_update_self _ hS' rfl) (((hg.step fun b o n1 n2 n3 y => hk' b o n2 n3 y).push hT hx hb hz2 hne2 (Nat.ne_of_gt hil)).step fun b o n1 _ _ y => ko b o n1 y) ?_ fun h2 tk2 acc2 c2 q1 q2 q3 => hR h2 tk2 acc2 c2 (fun b o n1 n2 n3 y => q1 b o n1 n2 n3 (ko b o n1 (hk' b o n2 n3 y))) q2 q3⟩) (by rw [hg.1]; omega) (by show (acc.push _).size ≤ sizeLine + 1; rw [Array.size_push, hg.1]; omega))
      · rcases hs' with ⟨old, z⟩ | ⟨old, T, f, oT, z, zT, z1, z2, z3⟩
        · exact .inl ⟨old, ko e _ (Ne.symm hSe) z⟩
        · exact .inr ⟨old, T, f, oT, ko e _ (Ne.symm hSe) z, ko T _ z3 zT, z1, z2, z3⟩
      · have h1 := Heap.lt_size (ko _ _ hz2 hT)
        exact Nat.le_of_lt (Nat.lt_of_le_of_lt hb h1)
    rcases hs with ⟨old, hs⟩ | ⟨old, T, f, oT, hs, hT, z1, z2, z3⟩
    · have hel : e < s.heap.objs.size := Heap.lt_size hs
      refine wpAny_bind (wpAny_pyNext_enum_itemD D hs ⟨hit, hat⟩ hlt hei hef fun x h' tk hx ho hst hT hsz hk' => ?_)
      refine go x h' tk hx (.inr ⟨x, s.heap.objs.size, false, _, ?_, hT, Nat.ne_of_gt hel, Nat.ne_of_gt hil, Nat.ne_of_gt hSl⟩) hst.1 hst.2 hT (Nat.ne_of_gt hel) hk'
      rw [ec]
      exact ho
    · have hel : e < s.heap.objs.size := Heap.lt_size hs
      refine wpAny_bind (pyNext_again D hs hT z1 z2 ⟨hit, hat⟩ hlt hei hef fun x h' tk hx ho hst hT2 hk' => ?_)
      refine go x h' tk hx (.inr ⟨old, T, true, oT, ?_, hk' T _ z1 z2 hT, z1, z2, z3⟩) hst.1 hst.2 hT2 (Nat.ne_of_gt hel) hk'
      rw [ec]
      exact ho
end
theorem en_no_len : typeLookup (.type "enumerate") "__len__" = pure none := am_miss_of_fast (by decide +kernel)
theorem en_no_hint : typeLookup (.type "enumerate") "__length_hint__" = pure none := am_miss_of_fast (by decide +kernel)
section
variable {prog : Program} {w : World} {A : Around} {E : Value → Shared → Prop} {s : Shared} {e it a S : Addr} {its : Array Value} {base : Addr}
theorem extend_en {R : Result → Shared → Prop} {res : Value} {c : Nat} (hh : A.handled = none) (hei : e ≠ it) (hai : a ≠ it) (hea : e ≠ a) (hSe : S ≠ e) (hSi : S ≠ it) (hSa : S ≠ a) (hz : its.size ≤ sizeLine) {old : Value} (he : IsEnum s.heap e it 0 old) (hit : s.heap.IsTupleIter it a 0) (hat : s.heap.IsTuple a its)
    (hS : s.heap.get? S = some { cls := .type "list", data := .seq #[] c }) (hb : base ≤ s.heap.objs.size)
    (hR : ∀ h' tk acc' c', (∀ b o, b ≠ S → b ≠ e → b ≠ it → s.heap.get? b = some o → h'.get? b = some o) → h'.get? S = some (lstO acc' c') → Got h' base S e it its acc' its.size → R (.ok (.ret res)) { s with heap := h', toks := tk }) :
    wpAny (model prog w) A.in1 (Builtin.List.listExtendWith (.ref S) (.ref e) res)
      (fun fin s' => match fin with | .done f => R (.ok f) s' | .again c' => c'.quiet = true ∧ codeAny (model prog w) A c' R s') (fun e s' => R (.error e) s') s := by
  have ty : s.TypeIs (.ref e) "enumerate" := ⟨_, he, rfl⟩
  unfold Builtin.List.listExtendWith
  refine wpAny_bind (wpAny_typeOf ty ?_)
  have h1 : Builtin.List.listSameRef (.ref S) (.ref e) = false := by simp [Builtin.List.listSameRef, hSe]
  have h2 : (Value.type "enumerate" == Value.type "list") = false := by decide
  have h3 : (Value.type "enumerate" == Value.type "tuple") = false := by decide
  simp only [h1, h2, h3, Bool.or_false, Bool.false_eq_true, if_false]
  refine wpAny_bind (wpAny_pyIter_enum he (wpAny_bind (wpAny_holding ?_)))
  unfold Builtin.List.listLengthHint
  refine wpAny_bind (wpAny_specialOf ty en_no_len ?_)
  show wpAny _ A.in1 (specialOf (Value.ref e) (Str.ofString "__length_hint__") >>= _) _ _ _
  refine wpAny_bind (wpAny_specialOf ty en_no_hint (wpAny_pure ?_))
  show wpAny _ A.in1 (rule "list.extend.makes-room" >>= fun _ => Builtin.List.listTouch (.ref S) >>= fun _ => again (.builtin "list.extend.loop" ⟨[.ref S, .ref e, res], []⟩)) _ _ _
  refine wpAny_bind (wpAny_rule (wpAny_bind ?_))
  show wpAny _ A.in1 (updateSeq S (·.push .none) >>= fun _ => updateSeq S (·.pop)) _ _ _
  refine wpAny_bind (wpAny_updateSeq hS rfl ?_)
  have g2 := Heap.get?_update_self (Obj.mapSeq (·.push Value.none)) hS rfl
  refine wpAny_updateSeq (hz := by seq_fits) g2 rfl ?_
  have g3 := Heap.get?_update_self (Obj.mapSeq (·.pop)) g2 rfl
  have ko : ∀ b o, b ≠ S → s.heap.get? b = some o → ((s.heap.update S (Obj.mapSeq (·.push Value.none))).update S (Obj.mapSeq (·.pop))).get? b = some o := fun b o n1 y => (Heap.get?_update_other _ _ (Ne.symm n1)).trans ((Heap.get?_update_other _ _ (Ne.symm n1)).trans y)
  refine wpAny_pure ⟨plainId_quiet F.plain_extend_loop _, fill hh hei hai hea hSe hSi hSa hz _ 0 _ #[] _ rfl (Nat.zero_le _) (.inl ⟨old, ko e _ (Ne.symm hSe) he⟩) (hit.at fun o y => ko it o (Ne.symm hSi) y) (hat.at fun o y => ko a o (Ne.symm hSa) y) g3 ⟨rfl, fun j hj => absurd hj (Nat.not_lt_zero _)⟩ ?_ fun h' tk acc' c' q1 q2 q3 => hR h' tk acc' c' (fun b o n1 n2 n3 y => q1 b o n1 n2 n3 (ko b o n1 y)) q2 q3⟩
  show base ≤ ((s.heap.update S (Obj.mapSeq (·.push Value.none))).update S (Obj.mapSeq (·.pop))).objs.size
  rw [Heap.size_update, Heap.size_update]
  exact hb
theorem init_en {R : Result → Shared → Prop} (hh : A.handled = none) (hei : e ≠ it) (hai : a ≠ it) (hea : e ≠ a) (hSe : S ≠ e) (hSi : S ≠ it) (hSa : S ≠ a) (hz : its.size ≤ sizeLine) {old : Value} (he : IsEnum s.heap e it 0 old) (hit : s.heap.IsTupleIter it a 0) (hat : s.heap.IsTuple a its)
    (hS : s.heap.get? S = some { cls := .type "list", data := .seq #[] }) (hb : base ≤ s.heap.objs.size)
    (hR : ∀ h' tk acc' c', (∀ b o, b ≠ S → b ≠ e → b ≠ it → s.heap.get? b = some o → h'.get? b = some o) → h'.get? S = some (lstO acc' c') → Got h' base S e it its acc' its.size → R (.ok (.ret .none)) { s with heap := h', toks := tk }) :
    wpAny (model prog w) A.in1 (Builtin.«list.__init__» ⟨[.ref S, .ref e], []⟩)
      (fun fin s' => match fin with | .done f => R (.ok f) s' | .again c' => c'.quiet = true ∧ codeAny (model prog w) A c' R s') (fun e s' => R (.error e) s') s := by
  show wpAny _ A.in1 (do let old ← Builtin.List.listItems (.ref S); Builtin.List.listUpdate (.ref S) (fun _ => #[]); letGo old.toList.reverse; Builtin.List.listExtendWith (.ref S) (.ref e) .none) _ _ s
  refine wpAny_bind ?_
  unfold Builtin.List.listItems
  refine wpAny_bind (wpAny_seqItems hS rfl (wpAny_pure ?_))
  show wpAny _ A.in1 (updateSeq S (fun _ => #[]) >>= fun _ => letGo (#[] : Array Value).toList.reverse >>= fun _ => Builtin.List.listExtendWith (.ref S) (.ref e) .none) _ _ s
  refine wpAny_bind (wpAny_updateSeq hS rfl (wpAny_bind (wpAny_letGo ?_)))
  have ko : ∀ b o, b ≠ S → s.heap.get? b = some o → (s.heap.update S (Obj.mapSeq (fun _ => (#[] : Array Value)))).get? b = some o := fun b o n1 y => (Heap.get?_update_other _ _ (Ne.symm n1)).trans y
  refine extend_en hh hei hai hea hSe hSi hSa hz (ko e _ (Ne.symm hSe) he) (hit.at fun o y => ko it o (Ne.symm hSi) y) (hat.at fun o y => ko a o (Ne.symm hSa) y) (Heap.get?_update_self (Obj.mapSeq (fun _ => (#[] : Array Value))) hS rfl) ?_ fun h' tk acc' c' q1 q2 q3 => hR h' tk acc' c' (fun b o n1 n2 n3 y => q1 b o n1 n2 n3 (ko b o n1 y)) q2 q3
  show base ≤ (s.heap.update S (Obj.mapSeq (fun _ => (#[] : Array Value)))).objs.size
  rw [Heap.size_update]
  exact hb
theorem call_list_en {Q : Value → Shared → Prop} (hh : A.handled = none) (hei : e ≠ it) (hai : a ≠ it) (hea : e ≠ a) (hz : its.size ≤ sizeLine) {old : Value} (he : IsEnum s.heap e it 0 old) (hit : s.heap.IsTupleIter it a 0) (hat : s.heap.IsTuple a its) (hb : base ≤ s.heap.objs.size)
    (hQ : ∀ h' tk acc' c', (∀ b o, b ≠ e → b ≠ it → s.heap.get? b = some o → h'.get? b = some o) → h'.get? s.heap.objs.size = some (lstO acc' c') → Got h' base s.heap.objs.size e it its acc' its.size → Q (.ref s.heap.objs.size) { s with heap := h', toks := tk }) :
    wpAny (model prog w) A (call (.type "list") [.ref e]) Q E s := by
  have lt : ∀ {b o}, s.heap.get? b = some o → b ≠ s.heap.objs.size := fun q => Nat.ne_of_lt (Heap.lt_size q)
  have e1 : s.heap.objs.size ≠ e := Ne.symm (lt he)
  have e2 : s.heap.objs.size ≠ it := let ⟨_, q, _⟩ := hit; Ne.symm (lt q)
  have e3 : s.heap.objs.size ≠ a := let ⟨_, q, _⟩ := hat; Ne.symm (lt q)
  refine callType_codes (Q₁ := fun obj s₁ => obj = .ref s.heap.objs.size ∧ s₁ = { s with heap := s.heap.push { cls := .type "list", data := .seq #[] } }) F.called_list (F.typeCall_list_1 _) F.entry_list_init (code_list_new _ ⟨rfl, rfl⟩) fun obj s₁ h₁ => ?_
  obtain ⟨rfl, rfl⟩ := h₁
  have hS : (s.heap.push { cls := .type "list", data := .seq #[] }).get? s.heap.objs.size = some { cls := .type "list", data := .seq #[] } := Heap.get?_push_size _ rfl
  have ko : ∀ b o, s.heap.get? b = some o → (s.heap.push { cls := .type "list", data := .seq #[] }).get? b = some o := fun b o y => Heap.get?_push_of_some _ y
  refine ⟨⟨_, hS, rfl⟩, F.args_list_init_2 _ _, init_en (A := A.in1) (base := base) hh hei hai hea e1 e2 e3 hz (ko e _ he) (hit.at fun o y => ko it o y) (hat.at fun o y => ko a o y) hS ?_ fun h' tk acc' c' q1 q2 q3 => ⟨rfl, hQ h' tk acc' c' (fun b o n2 n3 y => q1 b o (lt y) n2 n3 (ko b o y)) q2 q3⟩⟩
  show base ≤ (s.heap.push _).objs.size
  rw [Heap.size_push]
  exact Nat.le_succ_of_le hb
end
/-- pairs (i, x), one behind another, each a new known tuple -/
def Laid : Hp → Nat → List Addr → List V → Hp → Prop
  | H, _, [], [], H' => H' = H
  | H, i, T :: Ts, x :: xs, H' => H T = none ∧ ∃ o : Obj, o.dict = none ∧ Laid (upd H T (.frz o (.tup [.int (i : Nat), x]))) (i + 1) Ts xs H'
  | _, _, _, _, _ => False
section
variable {X : Cx} {pins : List (Addr × Obj)} {σ : L2.St} {H H' : Hp} {s : Shared}
/-- new objects laid and tracked, as many as there are -/
theorem inv_many {h' : Heap} {tk : Nat} (I : Inv X pins σ H s) (k : ∀ b o, s.heap.get? b = some o → h'.get? b = some o) (ext : ∀ b o, H b = some o → H' b = some o) (new : ∀ b o, H' b = some o → H b = none → s.heap.objs.size ≤ b ∧ ObjOk X.prog X.w H' h' b o) :
    Inv X pins σ H' { s with heap := h', toks := tk } := by
  refine I.un ⟨fun b o q _ _ _ => k b o q, fun b o q _ _ _ => ⟨o.slots, k b o q⟩, fun b o q n _ => ?_, fun b o q _ => ⟨o, k b o q⟩, fun b xs q => ext b _ q, fun b o u q => ext b _ q, fun b ps q => ⟨#[], by rw [ext b _ q]; simp⟩⟩ fun b o q => ?_
  · cases z : H' b with
    | none => rfl
    | some u => exact absurd (Nat.lt_of_lt_of_le (Heap.lt_size q) (new b u z n).1) (Nat.lt_irrefl _)
  · cases z : H b with
    | none => exact (new b o q z).2
    | some u =>
      have e := ext b u z
      rw [q] at e
      cases e
      exact (I.hok b o z).stay (fun c v _ y => k c v y) (fun c y => ext c _ y) fun c xs y => ext c _ y
theorem lay_all {P : Program} {w : World} {h' : Heap} {base S : Addr} : ∀ (us accl : List Value) (i : Nat) (xs : List V) (H : Hp), Vals xs us → accl.length = us.length →
    (∀ j, j < us.length → ∃ T t x, accl[j]? = some (.ref T) ∧ h'.get? T = some (two ((i + j : Nat) : Int) t x) ∧ us[j]? = some x ∧ H T = none ∧ base ≤ T ∧ T ≠ S) →
    ∃ (Ts : List Addr) (H2 : Hp), accl = Ts.map Value.ref ∧ Laid H i Ts xs H2 ∧ (∀ b o, H b = some o → H2 b = some o) ∧ ∀ b o, H2 b = some o → H b = none → base ≤ b ∧ b ≠ S ∧ ∀ H3, ObjOk P w H3 h' b o
  | [], accl, i, xs, H, r, hl, _ => by
    cases r
    have : accl = [] := List.eq_nil_of_length_eq_zero hl
    subst this
    exact ⟨[], H, rfl, rfl, fun _ _ q => q, fun b o q n => by rw [n] at q; cases q⟩
  | u :: us, accl, i, xs, H, r, hl, hg => by
    cases r with
    | @cons x _ xs _ r0 rt =>
    cases accl with
    | nil => cases hl
    | cons a0 accl =>
      obtain ⟨T, t, x', a1, a2, a3, a4, a5, a6⟩ := hg 0 (Nat.zero_lt_succ _)
      simp at a1 a3
      subst a1 a3
      have a2 : h'.get? T = some (two (i : Nat) t u) := a2
      obtain ⟨Ts, H2, b1, b2, b3, b4⟩ := lay_all (P := P) (w := w) (h' := h') (base := base) (S := S) us accl (i + 1) xs (upd H T (.frz (two (i : Nat) t u) (.tup [.int (i : Nat), x]))) rt (by simpa using hl) fun j hj => by
        obtain ⟨T2, t2, x2, c1, c2, c3, c4, c5, c6⟩ := hg (j + 1) (by simpa using hj)
        refine ⟨T2, t2, x2, by simpa using c1, by rw [show i + 1 + j = i + (j + 1) by omega]; exact c2, by simpa using c3, ?_, c5, c6⟩
        have ne : T2 ≠ T := fun z => by
          rw [z, a2] at c2
          have := congrArg Obj.data (Option.some.inj c2)
          simp at this
          omega
        rw [upd_ne ne]
        exact c4
      have nT : ∀ {b o}, H b = some o → b ≠ T := fun q => ne_of_none q a4
      refine ⟨T :: Ts, H2, by rw [b1]; rfl, ⟨a4, _, rfl, b2⟩, fun b o q => b3 b o (by rw [upd_ne (nT q)]; exact q), fun b o q n => ?_⟩
      by_cases z : b = T
      · subst z
        have e := b3 b _ upd_same
        rw [q] at e
        cases e
        exact ⟨a5, a6, fun H3 => ⟨a2, by show 2 ≤ sizeLine; decide, [.int (i : Nat) t, u], .cons ⟨_, rfl⟩ (.cons r0 .nil), ⟨_, a2, rfl, _, rfl⟩⟩⟩
      · exact b4 b o q (by rw [upd_ne z]; exact n)
end
def tLstEn (K : PySem.W.Frag) (ta : TA) : TE := fun σ H Q => ta σ H fun vs H1 => ∃ a xs, vs = [.ref a] ∧ SqT K H1 a xs ∧ ∀ Ts H2, Laid H1 0 Ts xs H2 → ∀ q, H2 q = none → Q (.ref q) (upd H2 q (.lst (Ts.map V.ref)))
theorem pe_listEn {X : Cx} {e : Expr} {ta : TA} {p p1 p2 pos : Pos} (hc : X.calm = true) (hg : Gl X "list") (hm : X.mg "list" = none) (hg2 : Gl X "enumerate") (hm2 : X.mg "enumerate" = none) (ha : PA X [e] ta) (hs : starEach [e] X.env = [(false, eval e X.env)] := by rfl)
    (na : starEach [.Call (.Name "enumerate" p1) [e] [] p2] X.env = (false, eval (.Call (.Name "enumerate" p1) [e] [] p2) X.env) :: starEach [] X.env := by rfl) :
    PE X (.Call (.Name "list" p) [.Call (.Name "enumerate" p1) [e] [] p2] [] pos) (tLstEn X.K ta) := by
  refine ⟨fun pins s σ H Q I h => ?_⟩
  refine Call_ (ld_blt I hg hm boot_list (PyProof.Rows.callWith_type1 (args_cons ?_ na) na))
  refine Call_ (ld_blt I hg2 hm2 boot_enumerate (PyProof.Rows.callWith_type1 (thn (ha.run p2 pins s σ H _ I h) fun us s1 ⟨vs, H1, I1, r1, q1⟩ => ?_) hs rfl))
  obtain ⟨a, xs, ex, hq, q⟩ := q1
  subst ex
  cases r1 with
  | cons r rr =>
    cases rr
    cases r
    obtain ⟨its, rv, p', hz⟩ := I1.tuple hq
    have p' : s1.heap.IsTuple a its.toArray := p'
    have hal : a < s1.heap.objs.size := let ⟨_, y, _⟩ := p'; Heap.lt_size y
    have ll := rv.length
    refine RtE.call_en p' fun h1 he hit hsz hk => args_nil ?_
    have I2 : Inv X pins σ H1 { s1 with heap := h1 } := I1.kept (t' := s1.toks) hk
    refine call_list_en (s := { s1 with heap := h1 }) (base := s1.heap.objs.size) (I2.ok.hd hc) (Nat.succ_ne_self _) (Nat.ne_of_lt hal) (Nat.ne_of_gt (Nat.lt_succ_of_lt hal)) (by rw [List.size_toArray, ← ll]; exact hz) he hit (p'.at fun o y => hk a o y) (by show s1.heap.objs.size ≤ h1.objs.size; rw [hsz]; exact Nat.le_add_right _ _) fun h2 tk acc c hk2 hS hG => ?_
    have k12 : ∀ b o, s1.heap.get? b = some o → h2.get? b = some o := fun b o y => hk2 b o (Nat.ne_of_lt (Nat.lt_succ_of_lt (Heap.lt_size y))) (Nat.ne_of_lt (Heap.lt_size y)) (hk b o y)
    have hS0 : s1.heap.objs.size ≤ h1.objs.size := by rw [hsz]; exact Nat.le_add_right _ _
    obtain ⟨Ts, H2, b1, b2, b3, b4⟩ := lay_all (P := X.prog) (w := X.w) (h' := h2) (base := s1.heap.objs.size) (S := h1.objs.size) its acc.toList 0 xs H1 rv (by rw [Array.length_toList, hG.1, List.size_toArray]) fun j hj => by
      obtain ⟨T, t, x, c1, c2, c3, c4, c5, _⟩ := hG.2 j (by simpa using hj)
      exact ⟨T, t, x, by simpa using c1, by rw [Nat.zero_add]; exact c2, by simpa using c3, I1.hok.fresh c4, c4, c5⟩
    have n2 : H2 h1.objs.size = none := by
      cases z : H2 h1.objs.size with
      | none => rfl
      | some u => exact absurd rfl (b4 _ u z (I1.hok.fresh hS0)).2.1
    have hlen : Ts.length = its.length := by
      have := hG.1
      rw [← Array.length_toList, b1, List.length_map] at this
      simpa using this
    have I3 : Inv X pins σ (upd H2 h1.objs.size (.lst (Ts.map V.ref))) { s1 with heap := h2, toks := tk } := inv_many I1 k12 (fun b o y => by
      have y2 := b3 b o y
      rw [upd_ne (ne_of_none y2 n2)]
      exact y2) fun b o y n => by
        by_cases z : b = h1.objs.size
        · subst z
          rw [upd_same] at y
          cases y
          refine ⟨hS0, show ObjOk X.prog X.w _ _ _ (.lst (Ts.map V.ref)) from ⟨by rw [List.length_map, hlen, ← ll]; exact hz, acc.toList, c, ?_, by rw [Array.toArray_toList]; exact hS⟩⟩
          rw [b1]
          clear b1 b2 hlen
          induction Ts with
          | nil => exact .nil
          | cons T Ts ih => exact .cons rfl ih
        · rw [upd_ne z] at y
          exact ⟨(b4 b o y n).1, (b4 b o y n).2.2 _⟩
    exact ⟨.ref h1.objs.size, _, I3, rfl, q Ts H2 b2 _ n2⟩
end RtL
namespace Rt
open PySem L2 Rt PyProof.Rows
/-- (i, x), (i + 1, x'), .. -/
def enumFrm {α : Type} : Nat → List α → List (Int × α)
  | _, [] => []
  | i, x :: xs => ((i : Nat), x) :: enumFrm (i + 1) xs
theorem enumFrm_eq {α : Type} (xs : List α) : enumFrm 0 xs = enumI xs := by
  have go : ∀ (xs : List α) (k : Nat), enumFrm k xs = (xs.zipIdx k).map fun p => (((p.2 : Nat) : Int), p.1) := by
    intro xs
    induction xs with
    | nil => intro k; rfl
    | cons x xs ih => intro k; rw [enumFrm, ih]; rfl
  exact go xs 0
theorem Fr.lay {α : Type} {re : Rp α} {C : Cs} {σ : L2.St} {env : List Sl} : ∀ {Ts : List Addr} {vs : List V} {xs : List α} {i : Nat} {S H H2 : Hp}, Fr C S H σ env → All2 (re.p S) vs xs → RtL.Laid H i Ts vs H2 → ∃ S2, Fr C S2 H2 σ env ∧ Ex S S2 ∧ All2 ((qP qI re).p S2) (Ts.map V.ref) (enumFrm i xs)
  | [], [], [], i, S, H, H2, F, _, h => by
    have h : H2 = H := h
    subst h
    exact ⟨S, F, Ex.refl S, True.intro⟩
  | T :: Ts, v :: vs, x :: xs, i, S, H, H2, F, ⟨a1, a2⟩, ⟨hT, o, ho, h⟩ => by
    have sT : S T = none := F.e1.back hT
    have F1 := F.new (o := .frz o (.tup [.int (i : Nat), v])) hT
    obtain ⟨S2, F2, e2, q⟩ := Fr.lay F1 (a2.mono fun _ _ z => re.mono (Ex.new sT) z) h
    exact ⟨S2, F2, (Ex.new sT).trans e2, ⟨T, .int (i : Nat), v, rfl, TupAt.mono e2 (TupAt.new ho), rfl, re.mono ((Ex.new sT).trans e2) a1⟩, q⟩
  | [], v :: vs, _, _, _, _, _, _, _, h => h.elim
  | T :: Ts, [], _, _, _, _, _, _, _, h => h.elim
  | _, [], _ :: _, _, _, _, _, _, h, _ => h.elim
  | _, _ :: _, [], _, _, _, _, _, h, _ => h.elim
theorem xn_listEn {X : Cx} {C : Cs} {env : Gh → List Sl} {α : Type} {re : Rp α} {a : Expr} {p p1 p2 pos : Pos} {mx : W (List α)} (hc : X.calm = true) (hg : Gl X "list") (hm : X.mg "list" = none) (hg2 : Gl X "enumerate") (hm2 : X.mg "enumerate" = none) (ha : PE X a (tE C env (qT re) mx))
    (hs : starEach [a] X.env = (false, eval a X.env) :: starEach [] X.env := by rfl) (hs' : starEach [a] X.env = [(false, eval a X.env)] := by rfl)
    (na : starEach [.Call (.Name "enumerate" p1) [a] [] p2] X.env = (false, eval (.Call (.Name "enumerate" p1) [a] [] p2) X.env) :: starEach [] X.env := by rfl) :
    PE X (.Call (.Name "list" p) [.Call (.Name "enumerate" p1) [a] [] p2] [] pos) (tN C env (qP qI re) (mx.bind fun xs => .ret (enumI xs))) :=
  pe_imp (RtL.pe_listEn hc hg hm hg2 hm2 (pa_cons ha pa_nil hs) hs' na) fun σ H Q _ ⟨S, g0, P, F, em, kk⟩ => ⟨S, g0, _, F, em, fun xs g1 px v S1 H1 F1 x1 ⟨p, vs, ev, hp, h2⟩ => by
    subst ev
    refine ⟨p, vs, rfl, TupAt.sq (TupAt.mono F1.e1 hp), fun Ts H2 hL q hq => ?_⟩
    obtain ⟨S2, F2, e2, hA⟩ := Fr.lay F1 h2 hL
    rw [enumFrm_eq] at hA
    exact fun _ => kk _ _ px q _ S2 H2 F2 (x1.trans e2) hq hA⟩
end Rt
namespace Rt
open PySem L2 Rt PyProof.Rows
section
variable {X : Cx} {C : Cs} {env : List Sl} {tg iter : Expr} {st : Stmt} {rest : List Stmt} {fi mi pi : Nat} {mx : W (List (Int × Int))} {pos pos0 p0 py : Pos} {x : Str} {β γ ρ : Type} {r : Rp ρ} {pn : β → Gh → List Sl} {pl : γ → Gh → List Sl} {kp : Gh → List Sl} {K : List (Int × List Int) → W (Fl ρ β γ)}
theorem xs_grpsB {up : Up (Int × Int)} (hp : PassesOwn (model X.prog X.w) X.A X.env X.xe) (hc : X.calm = true) (hi : ∀ C', PI X tg iter (tS C' (fun _ => env) (qW qI qI) mx)) (hg : PG X tg (tG (qW qI qI) up)) (hb : PS X st (sGrp fi mi pi))
    (hr : ∀ G, PSs X rest (tF C (fun _ => env.set fi (.im qDL G)) (K G) pn pl kp r))
    (hN : X.N.Nodup) (hx0 : X.N[fi]? = some x) (hx : Loc X.env.scope x) (hw : swapsWith (.Dict [] [] p0) (some (.Name x py)) pos0.line X.env = pure false) (hfn : X.fn x = true) (hsl : env[fi]? = some .un)
    (hU : ∀ j ∈ up.js, env[j]? = some .un) (hL : ∀ a, Le (up.f a env) env) (hf : fi ∉ up.js) (hm : ∀ a, (up.f a env)[mi]? = some (.im qI a.2)) (hpi : ∀ a, (up.f a env)[pi]? = some (.im qI a.1)) (hs : ∀ x, foldedSetIterable iter X.env x = pure x := by intro _; rfl) :
    PSs X (.Assign [.Name x py] (.Dict [] [] p0) pos0 :: .For tg iter [st] [] pos :: rest) (tF C (fun _ => env) (mx.bind fun ps => (W.ret (grps ps [])).bind K) pn pl kp r) :=
  xs_grps hp hc hi hg hb hr hN hx0 hx hw hfn hsl hU hL hf hm hpi hs
end
end Rt

set_option maxRecDepth 100000
set_option maxHeartbeats 4000000
namespace K
open PySem L2 Rt
def top (i : Nat) : Stmt := PySem.Challenge.pw_swapsheets_k76_whole_genus_of_rows_of_mo.main.body.getD i (.Pass ⟨0, 0, 0, 0⟩)
structure Txt (K : PySem.W.Frag) (mg : Str → Option Value) : Prop where
  abs : mg "abs" = none
  all : mg "all" = none
  bool : mg "bool" = none
  enumerate : mg "enumerate" = none
  int : mg "int" = none
  isinstance : mg "isinstance" = none
  len : mg "len" = none
  list : mg "list" = none
  max : mg "max" = none
  min : mg "min" = none
  range : mg "range" = none
  sorted : mg "sorted" = none
  sum : mg "sum" = none
  tuple : mg "tuple" = none
  MAX_FACTORS_ : ∃ t, mg "MAX_FACTORS" = some (.int 8 t)
  MOST_PLACES_ : ∃ t, mg "MOST_PLACES" = some (.int 24 t)
  g_FIRST_TOO_LONG_ : ∃ t, mg "_FIRST_TOO_LONG" = some (.int 1000000000000000000000000000000000000000000000000000000000000 t)
section
variable {P : Program} {w : World} {K : PySem.W.Frag} {mg : Str → Option Value} {base : Heap}
abbrev slaw_dice : Stmt := top 30
abbrev Nlaw_dice : List Str := ["_law_script", "_law_spot", "_law_cell", "_law_left"]
theorem sclaw_dice : FnScope ["_law_script", "_law_spot", "_law_cell", "_law_left"] ["_law_script", "_law_spot"] (defScope slaw_dice) := ⟨rfl, rfl, rfl, by decide +kernel, rfl, by decide +kernel, by decide +kernel⟩
def w_law_dice (a : (List Int) × Int × Unit) : W (Fl (List Int) Empty Unit) :=
  ((((W.ret a.2.1).bind fun p3 => (((W.ret a.1).bind fun x2 => (W.ret (x2.length : Int))).bind fun q4 => (ofO (some (decide (p3 < q4)))))).bind fun p11 => (if p11 = true then ((W.ret a.1).bind fun x5 => ((W.ret a.2.1).bind fun i6 => (ofO (L2.atI x5 i6)))) else (((W.ret (73 : Int)).bind fun p7 => ((W.ret a.2.1).bind fun q8 => (ofO (mulC p7 q8)))).bind fun p9 => ((W.ret (41 : Int)).bind fun q10 => (W.ret (p9 + q10)))))).bind fun (v1 : Int) => ((((W.ret (0 : Int)).bind fun i18 => ((((W.ret v1).bind fun x13 => (W.ret (x13.natAbs : Int))).bind fun p16 => (((W.ret (10 : Int)).bind fun p14 => ((W.ret (17 : Int)).bind fun q15 => (ofO (powC p14 q15)))).bind fun q17 => (W.ret (p16 - q17)))).bind fun j19 => (W.ret (if j19 > i18 then j19 else i18)))).bind fun p26 => ((((W.ret (10 : Int)).bind fun p20 => ((W.ret (57 : Int)).bind fun q21 => (ofO (powC p20 q21)))).bind fun p24 => (((W.ret (10 : Int)).bind fun p22 => ((W.ret (60 : Int)).bind fun q23 => (ofO (powC p22 q23)))).bind fun q25 => (ofO (mulC p24 q25)))).bind fun q27 => (ofO (modC p26 q27)))).bind fun (v12 : Int) => ((((W.ret v12).bind fun x50 => (((((((((W.ret v1).bind fun x28 => (W.ret (x28.natAbs : Int))).bind fun p29 => ((W.ret (1152921504606846883 : Int)).bind fun q30 => (ofO (modC p29 q30)))).bind fun p31 => ((W.ret (59 : Int)).bind fun q32 => (ofO (mulC p31 q32)))).bind fun p35 => (((W.ret (977 : Int)).bind fun p33 => ((W.ret a.2.1).bind fun q34 => (ofO (mulC p33 q34)))).bind fun q36 => (W.ret (p35 + q36)))).bind fun p42 => (((W.ret (47 : Int)).bind fun p40 => ((((W.ret v1).bind fun p37 => ((W.ret (0 : Int)).bind fun q38 => (ofO (some (decide (p37 < q38)))))).bind fun x39 => (W.ret (b2 x39))).bind fun q41 => (ofO (mulC p40 q41)))).bind fun q43 => (W.ret (p42 + q43)))).bind fun p44 => ((W.ret (13 : Int)).bind fun q45 => (W.ret (p44 + q45)))).bind fun x48 => (((W.ret (0 : Int)).bind fun x46 => ((W.ret []).bind fun y47 => (W.ret (x46 :: y47)))).bind fun y49 => (W.ret (x48 :: y49)))).bind fun y51 => (W.ret (x50 :: y51)))).bind fun x52 => (ofO (lenK x52))).bind fun x53 => (W.ret (Fl.rt x53)))))
def o_law_dice (a : (List Int) × Int × Unit) : Option (Fl (List Int) Empty Unit) :=
  ((((some a.2.1).bind fun p3 => (((some a.1).bind fun x2 => (some (x2.length : Int))).bind fun q4 => (some (decide (p3 < q4))))).bind fun p11 => (if p11 = true then ((some a.1).bind fun x5 => ((some a.2.1).bind fun i6 => (L2.atI x5 i6))) else (((some (73 : Int)).bind fun p7 => ((some a.2.1).bind fun q8 => (mulC p7 q8))).bind fun p9 => ((some (41 : Int)).bind fun q10 => (some (p9 + q10)))))).bind fun (v1 : Int) => ((((some (0 : Int)).bind fun i18 => ((((some v1).bind fun x13 => (some (x13.natAbs : Int))).bind fun p16 => (((some (10 : Int)).bind fun p14 => ((some (17 : Int)).bind fun q15 => (powC p14 q15))).bind fun q17 => (some (p16 - q17)))).bind fun j19 => (some (if j19 > i18 then j19 else i18)))).bind fun p26 => ((((some (10 : Int)).bind fun p20 => ((some (57 : Int)).bind fun q21 => (powC p20 q21))).bind fun p24 => (((some (10 : Int)).bind fun p22 => ((some (60 : Int)).bind fun q23 => (powC p22 q23))).bind fun q25 => (mulC p24 q25))).bind fun q27 => (modC p26 q27))).bind fun (v12 : Int) => ((((some v12).bind fun x50 => (((((((((some v1).bind fun x28 => (some (x28.natAbs : Int))).bind fun p29 => ((some (1152921504606846883 : Int)).bind fun q30 => (modC p29 q30))).bind fun p31 => ((some (59 : Int)).bind fun q32 => (mulC p31 q32))).bind fun p35 => (((some (977 : Int)).bind fun p33 => ((some a.2.1).bind fun q34 => (mulC p33 q34))).bind fun q36 => (some (p35 + q36)))).bind fun p42 => (((some (47 : Int)).bind fun p40 => ((((some v1).bind fun p37 => ((some (0 : Int)).bind fun q38 => (some (decide (p37 < q38))))).bind fun x39 => (some (b2 x39))).bind fun q41 => (mulC p40 q41))).bind fun q43 => (some (p42 + q43)))).bind fun p44 => ((some (13 : Int)).bind fun q45 => (some (p44 + q45)))).bind fun x48 => (((some (0 : Int)).bind fun x46 => ((some []).bind fun y47 => (some (x46 :: y47)))).bind fun y49 => (some (x48 :: y49)))).bind fun y51 => (some (x50 :: y51)))).bind fun x52 => (lenK x52)).bind fun x53 => (some (Fl.rt x53)))))
def m_law_dice (a : (List Int) × Int × Unit) : Option (List Int) := rtO (o_law_dice a)
theorem k_law_dice {f : Addr} {fd : FuncData} (F : Fun K "_law_dice" "_law_dice" slaw_dice f fd) (T : Txt K mg) {π : Around → Prop} (sπ : Stb π) : FnP π P w K mg base CX0 1 f fd ["_law_script", "_law_spot"] (SpN (pC (qX K) (pC qI p0)).ra qI m_law_dice) := by
  refine fn_okL (p := (pC (qX K) (pC qI p0))) (m := w_law_dice) (pn := (fun z _ => nomatch z)) (pl := fun _ _ => []) (env := fun a => [.im (qX K) a.1, .im qI a.2.1, .un, .un]) 2 sπ F sclaw_dice rfl rfl (fun _ => rfl) ?hb ?hg
  case hb =>
    intro cdv A outer s H E hp hr C a hA
    unfold w_law_dice
    exact (xs_set (i := 2) (xe_if (xt_cmpD cd_lt (xe_var (pv 1)) (xe_lenX (by rfl) T.len (xe_var (pv 0))) rfl) (xe_int1 (by rfl) T.int (xe_ixX (xe_var (pv 0)) (xe_var (pv 1)))) (xe_add (xe_mul xe_int (xe_var (pv 1))) xe_int)) (fun v1 => (xs_set (i := 3) (xe_mod (xe_max2 rfl (by rfl) T.max xe_int (xe_sub (xe_abs (by rfl) T.abs (xe_var (pv 2))) (xe_pow xe_int xe_int))) (xe_mul (xe_pow xe_int xe_int) (xe_pow xe_int xe_int))) (fun v12 => (xs_retN (xn_lst (xa_consL (xe_var (pv 3)) (xa_consL (xe_add (xe_add (xe_add (xe_mul (xe_mod (xe_abs (by rfl) T.abs (xe_var (pv 2))) xe_int) xe_int) (xe_mul xe_int (xe_var (pv 1)))) (xe_mul xe_int (xe_intB (by rfl) T.int (xe_cmpD cd_lt (xe_var (pv 2)) xe_int rfl)))) xe_int) (xa_consL xe_int xa_nilL)))))) sclaw_dice.nd rfl (.inl rfl) rfl rfl)) sclaw_dice.nd rfl (.inl rfl) rfl rfl)
  case hg =>
    intro a
    simp only [m_law_dice, o_law_dice, w_law_dice, ofO_rt, ofO_rtN, ofO_bind, ofO_some, ofO_if, ofO_up, ofO_lc, ofO_lca, ofO_lc2, ofO_for, ofO_while, ofO_bindF, ofO_no, ofO_optM]
abbrev slaw_roll : Stmt := top 31
abbrev Nlaw_roll : List Str := ["_law_dice_here", "_law_total", "_law_one", "_law_two", "_law_found"]
theorem sclaw_roll : FnScope ["_law_dice_here", "_law_total", "_law_one", "_law_two", "_law_found"] ["_law_dice_here", "_law_total"] (defScope slaw_roll) := ⟨rfl, rfl, rfl, by decide +kernel, rfl, by decide +kernel, by decide +kernel⟩
def w_law_roll (a : Int × Unit) : W (Fl Int Empty Unit) :=
  ((((W.ret (0 : Int)).bind fun j1 => (W.get.bind fun g2 => ofO (L2.atI g2 j1))).bind fun p3 => ((W.ret (0 : Int)).bind fun q4 => (ofO (some (decide (q4 < p3)))))).bind fun b5 => (if b5 = true then upF ((((W.ret (0 : Int)).bind fun j7 => (W.get.bind fun g8 => ofO (L2.atI g8 j7))).bind fun p9 => ((W.ret a.1).bind fun q10 => (ofO (modC p9 q10)))).bind fun (v6 : Int) => ((((W.ret (0 : Int)).bind fun j11 => (W.get.bind fun g12 => ofO (L2.atI g12 j11))).bind fun p13 => ((W.ret a.1).bind fun q14 => (ofO (divC p13 q14)))).bind fun v15 => ((W.ret (0 : Int)).bind fun j16 => ((W.gset j16 v15).bind fun _ => ((W.ret v6).bind fun x17 => (W.ret (Fl.rt x17))))))) else ((((W.ret (2 : Int)).bind fun j18 => (W.get.bind fun g19 => ofO (L2.atI g19 j18))).bind fun p20 => ((W.ret (1 : Int)).bind fun q21 => (W.ret (p20 + q21)))).bind fun v22 => ((W.ret (2 : Int)).bind fun j23 => ((W.gset j23 v22).bind fun _ => (((((W.ret (1 : Int)).bind fun j25 => (W.get.bind fun g26 => ofO (L2.atI g26 j25))).bind fun p31 => (((W.ret (99990001 : Int)).bind fun p29 => (((W.ret (2 : Int)).bind fun j27 => (W.get.bind fun g28 => ofO (L2.atI g28 j27))).bind fun q30 => (ofO (mulC p29 q30)))).bind fun q32 => (W.ret (p31 + q32)))).bind fun p33 => ((W.ret (2305843009213693403 : Int)).bind fun q34 => (ofO (modC p33 q34)))).bind fun (v24 : Int) => (((((((W.ret v24).bind fun p36 => ((W.ret v24).bind fun q37 => (ofO (mulC p36 q37)))).bind fun p42 => (((W.ret (83 : Int)).bind fun p40 => (((W.ret (2 : Int)).bind fun j38 => (W.get.bind fun g39 => ofO (L2.atI g39 j38))).bind fun q41 => (ofO (mulC p40 q41)))).bind fun q43 => (W.ret (p42 + q43)))).bind fun p44 => ((W.ret (2305843009213693373 : Int)).bind fun q45 => (ofO (modC p44 q45)))).bind fun p46 => ((W.ret (8675327 : Int)).bind fun q47 => (ofO (mulC p46 q47)))).bind fun p48 => ((W.ret v24).bind fun q49 => (W.ret (p48 + q49)))).bind fun (v35 : Int) => ((((W.ret v35).bind fun p50 => ((W.ret (65539 : Int)).bind fun q51 => (ofO (divC p50 q51)))).bind fun p52 => ((W.ret a.1).bind fun q53 => (ofO (modC p52 q53)))).bind fun x54 => (W.ret (Fl.rt x54))))))))))
def m_law_roll (a : Int × Unit) : W Int := rtOf (w_law_roll a)
theorem k_law_roll {f : Addr} {fd : FuncData} (F : Fun K "_law_roll" "_law_roll" slaw_roll f fd) (T : Txt K mg) {π : Around → Prop} (sπ : Stb π) : FnP π P w K mg base CX0 1 f fd ["_law_dice_here", "_law_total"] (SpD (pC qI p0).ra qI m_law_roll) := by
  refine fn_okD (p := (pC qI p0)) (m := w_law_roll) (pn := (fun z _ => nomatch z)) (pl := fun _ _ => []) (env := fun a => [.im qI a.1, .un, .un, .un]) 3 sπ F sclaw_roll rfl rfl (fun _ => rfl) ?hb ?hg
  case hb =>
    intro cdv A outer s H E hp hr C d a hA
    unfold w_law_roll
    exact (xs_ifx (xt_cmpD cd_gt (xe_gix (pv 0) xe_int) xe_int rfl) (xs_set (i := 4) (xe_mod (xe_int1 (by rfl) T.int (xe_gix (pv 0) xe_int)) (xe_var (pv 1))) (fun v6 => (xs_gset (xe_fdiv (xe_gix (pv 0) xe_int) (xe_var (pv 1))) (pv 0) xe_int (xs_ret (xe_var (pv 4))))) sclaw_roll.nd rfl (.inl rfl) rfl rfl) (xs_gset (xe_add (xe_gix (pv 0) xe_int) xe_int) (pv 0) xe_int (xs_set (i := 2) (xe_mod (xe_int1 (by rfl) T.int (xe_add (xe_gix (pv 0) xe_int) (xe_mul xe_int (xe_gix (pv 0) xe_int)))) xe_int) (fun v24 => (xs_set (i := 3) (xe_add (xe_mul (xe_mod (xe_int1 (by rfl) T.int (xe_add (xe_mul (xe_var (pv 2)) (xe_var (pv 2))) (xe_mul xe_int (xe_gix (pv 0) xe_int)))) xe_int) xe_int) (xe_var (pv 2))) (fun v35 => (xs_ret (xe_mod (xe_int1 (by rfl) T.int (xe_fdiv (xe_var (pv 3)) xe_int)) (xe_var (pv 1))))) sclaw_roll.nd rfl (.inl rfl) rfl rfl)) sclaw_roll.nd rfl (.inl rfl) rfl rfl)))
  case hg => exact fun _ => rfl
abbrev slaw_shuffled : Stmt := top 32
abbrev Nlaw_shuffled : List Str := ["_law_dice_here", "_law_items", "_law_turn", "_law_left", "_law_found"]
theorem sclaw_shuffled : FnScope ["_law_dice_here", "_law_items", "_law_turn", "_law_left", "_law_found"] ["_law_dice_here", "_law_items"] (defScope slaw_shuffled) := ⟨rfl, rfl, rfl, by decide +kernel, rfl, by decide +kernel, by decide +kernel⟩
def w_law_shuffled (a : (List Int) × Unit) : W (Fl (List Int) Empty Unit) :=
  ((W.ret a.1).bind fun (v1 : (List Int)) => ((W.ret ([] : List Int)).bind fun (v2 : (List Int)) => ((((W.ret a.1).bind fun x3 => (W.ret (x3.length : Int))).bind fun i4 => (ofO (rngC 0 i4))).bind fun xs15 => bindF (forL (fun (s5 : ((List Int) × (List Int))) (x6 : Int) => (((((W.ret s5.1).bind fun x9 => (W.ret (x9.length : Int))).bind fun x10 => ((W.ret ()).bind fun y11 => (W.ret (x10, y11)))).bind fun a12 => (m_law_roll a12)).bind fun k13 => ((ofO (popC s5.1 k13)).bind fun (v7 : Int × (List Int)) => ((ofO (addO s5.2 v7.1)).bind fun (l8 : (List Int)) => (W.ret (Fl.nx (v7.2, l8))))))) xs15 (v1, v2)) (fun (s5 : ((List Int) × (List Int))) => ((W.ret s5.2).bind fun x14 => (W.ret (Fl.rt x14)))))))
def m_law_shuffled (a : (List Int) × Unit) : W (List Int) := rtOf (w_law_shuffled a)
theorem k_law_shuffled {f : Addr} {fd : FuncData} (F : Fun K "_law_shuffled" "_law_shuffled" slaw_shuffled f fd) (T : Txt K mg) {π : Around → Prop} (sπ : Stb π) (h_law_roll : Has P w K mg base π "_law_roll" 1 ["_law_dice_here", "_law_total"] (SpD (pC qI p0).ra qI m_law_roll)) : FnP π P w K mg base CX0 2 f fd ["_law_dice_here", "_law_items"] (SpD (pC (qL qI) p0).ra (qL qI) m_law_shuffled) := by
  refine fn_okD (p := (pC (qL qI) p0)) (m := w_law_shuffled) (pn := (fun z _ => nomatch z)) (pl := fun _ _ => []) (env := fun a => [.im (qL qI) a.1, .un, .un, .un]) 3 sπ F sclaw_shuffled rfl rfl (fun _ => rfl) ?hb ?hg
  case hb =>
    intro cdv A outer s H E hp hr C d a hA
    unfold w_law_shuffled
    exact (xs_parNN (env := fun g => [.iv d (oD g), .im (qL qI) a.1, .un, .un, .un]) (i := 3) (j := 4) (xn_list (by rfl) T.list (xq_im (xe_var (pv 1)))) (fun _ => (xn_nil (r := qI))) (fun v1 v2 => (xs_for (s0 := (v1, v2)) (up := (uN 2 qI)) (pt := fun (s5 : ((List Int) × (List Int))) g => [.iv d (oD g), .im (qL qI) a.1, .un, .ow qI s5.1, .ow qI s5.2]) PassesOwn.never rfl (xi_rng1 (by rfl) T.range (xe_len (by rfl) T.len (xq_im (xe_var (pv 1))))) (xg_name (pg_name (i := 2) sclaw_shuffled.nd rfl (by first | exact .inl rfl | exact .inr rfl))) (fun _ => (.keep (.keep (.keep (.keep (.keep .nil)))))) (fun s5 x6 => (xs_appPop (i := 4) (j := 3) (xe_callDH h_law_roll hp hr (by decide) (by rfl) (pv 0) (xa_cons (xe_len (by rfl) T.len (xq_own (pv 3))) xa_nil)) (fun v7 l8 => (xs_nil (fun _ => (.keep (.keep (.drop (.keep (.keep .nil)))))))) (hb := pe_bm PySem.F.plainAttrs_list PySem.F.slot_list_append PySem.F.type_list_append mt_append (pv 4) (pa_cons (pe_bm PySem.F.plainAttrs_list PySem.F.slot_list_pop PySem.F.type_list_pop mt_popAt (pv 3) (pa_cons (xe_callDH h_law_roll hp hr (by decide) (by rfl) (pv 0) (xa_cons (xe_len (by rfl) T.len (xq_own (pv 3))) xa_nil)) pa_nil)) pa_nil)))) (fun s5 => (xs_frzD 4 hA (xs_ret (xe_var (pv 4))))))) rfl sclaw_shuffled.nd rfl rfl (by decide) rfl rfl rfl)
  case hg => exact fun _ => rfl
abbrev slaw_move_drawn : Stmt := top 37
abbrev Nlaw_move_drawn : List Str := ["_law_dice_here", "_law_size"]
theorem sclaw_move_drawn : FnScope ["_law_dice_here", "_law_size"] ["_law_dice_here", "_law_size"] (defScope slaw_move_drawn) := ⟨rfl, rfl, rfl, by decide +kernel, rfl, by decide +kernel, by decide +kernel⟩
def w_law_move_drawn (a : Int × Unit) : W (Fl (List Int) Empty Unit) :=
  (((((W.ret a.1).bind fun i1 => (ofO (rngC 0 i1))).bind fun x2 => ((W.ret ()).bind fun y3 => (W.ret (x2, y3)))).bind fun a4 => (m_law_shuffled a4)).bind fun x5 => (W.ret (Fl.rt x5)))
def m_law_move_drawn (a : Int × Unit) : W (List Int) := rtOf (w_law_move_drawn a)
theorem k_law_move_drawn {f : Addr} {fd : FuncData} (F : Fun K "_law_move_drawn" "_law_move_drawn" slaw_move_drawn f fd) (T : Txt K mg) {π : Around → Prop} (sπ : Stb π) (h_law_shuffled : Has P w K mg base π "_law_shuffled" 2 ["_law_dice_here", "_law_items"] (SpD (pC (qL qI) p0).ra (qL qI) m_law_shuffled)) : FnP π P w K mg base CX0 3 f fd ["_law_dice_here", "_law_size"] (SpD (pC qI p0).ra (qT qI) m_law_move_drawn) := by
  refine fn_okD (p := (pC qI p0)) (m := w_law_move_drawn) (pn := (fun z _ => nomatch z)) (pl := fun _ _ => []) (env := fun a => [.im qI a.1]) 0 sπ F sclaw_move_drawn rfl rfl (fun _ => rfl) ?hb ?hg
  case hb =>
    intro cdv A outer s H E hp hr C d a hA
    unfold w_law_move_drawn
    exact (xs_ret (xe_tuple (by rfl) T.tuple (xq_im (xe_callDH h_law_shuffled hp hr (by decide) (by rfl) (pv 0) (xa_cons (xe_N (xn_listRg1 rfl (by rfl) T.list (by rfl) T.range (xe_var (pv 1)))) xa_nil)))))
  case hg => exact fun _ => rfl
abbrev slaw_undone : Stmt := top 35
abbrev Nlaw_undone : List Str := ["_law_move", "_law_place"]
theorem sclaw_undone : FnScope ["_law_move", "_law_place"] ["_law_move"] (defScope slaw_undone) := ⟨rfl, rfl, rfl, by decide +kernel, rfl, by decide +kernel, by decide +kernel⟩
def w_law_undone (a : (List Int) × Unit) : W (Fl (List Int) Empty Unit) :=
  (((((W.ret a.1).bind fun x1 => (W.ret (x1.length : Int))).bind fun i2 => (ofO (rngC 0 i2))).bind fun xs6 => (lcW (fun (x3 : Int) => (W.ret true)) (fun (x3 : Int) => ((W.ret a.1).bind fun x4 => ((W.ret x3).bind fun v5 => (ofO (idxC x4 v5))))) xs6)).bind fun x7 => (W.ret (Fl.rt x7)))
def o_law_undone (a : (List Int) × Unit) : Option (Fl (List Int) Empty Unit) :=
  (((((some a.1).bind fun x1 => (some (x1.length : Int))).bind fun i2 => (rngC 0 i2)).bind fun xs6 => (lcO (fun (x3 : Int) => (some true)) (fun (x3 : Int) => ((some a.1).bind fun x4 => ((some x3).bind fun v5 => (idxC x4 v5)))) xs6)).bind fun x7 => (some (Fl.rt x7)))
def m_law_undone (a : (List Int) × Unit) : Option (List Int) := rtO (o_law_undone a)
theorem k_law_undone {f : Addr} {fd : FuncData} (F : Fun K "_law_undone" "_law_undone" slaw_undone f fd) (T : Txt K mg) {π : Around → Prop} (sπ : Stb π) : FnP π P w K mg base CX0 1 f fd ["_law_move"] (SpF (pC (qT qI) p0).ra (qT qI) m_law_undone) := by
  refine fn_okF (p := (pC (qT qI) p0)) (m := w_law_undone) (pn := (fun z _ => nomatch z)) (pl := fun _ _ => []) (env := fun a => [.im (qT qI) a.1, .un]) 1 sπ F sclaw_undone rfl rfl (fun _ => rfl) ?hb ?hg
  case hb =>
    intro cdv A outer s H E hp hr C a hA
    unfold w_law_undone
    exact (xs_ret (xe_tuple (by rfl) T.tuple (xq_im (xe_N (xn_lc (own := [("_law_place", 1)]) (up := (uN 1 qI)) rfl sclaw_undone.nd (xi_rng1 (by rfl) T.range (xe_len (by rfl) T.len (xq_im (xe_var (pv 0))))) (blkOk_by (N := Nlaw_undone) (sc := defScope slaw_undone) (by decide +kernel)) rfl (fun _ => rfl) (fun _ _ _ _ _ => (xg_name (pg_name (i := 1) sclaw_undone.nd rfl (by first | exact .inl rfl | exact .inr rfl)))) (fun _ _ _ _ _ _ x3 => xts_nil) (fun _ _ _ _ _ _ x3 => (xe_tindex (xe_var (pv 0)) (xe_var (pv 1)))))))))
  case hg =>
    intro a
    simp only [m_law_undone, o_law_undone, w_law_undone, ofO_rt, ofO_rtN, ofO_bind, ofO_some, ofO_if, ofO_up, ofO_lc, ofO_lca, ofO_lc2, ofO_for, ofO_while, ofO_bindF, ofO_no, ofO_optM]
abbrev slaw_joined : Stmt := top 38
abbrev Nlaw_joined : List Str := ["_law_size", "_law_moves", "_law_names", "_law_move", "_law_place", "_law_goal", "_law_one", "_law_other", "_law_name"]
theorem sclaw_joined : FnScope ["_law_size", "_law_moves", "_law_names", "_law_move", "_law_place", "_law_goal", "_law_one", "_law_other", "_law_name"] ["_law_size", "_law_moves"] (defScope slaw_joined) := ⟨rfl, rfl, rfl, by decide +kernel, rfl, by decide +kernel, by decide +kernel⟩
def w_law_joined (a : Int × (List (List Int)) × Unit) : W (Fl (List Int) Empty Unit) :=
  (((W.ret a.1).bind fun i2 => (ofO (rngC 0 i2))).bind fun (v1 : (List Int)) => ((W.ret a.2.1).bind fun xs29 => bindF (forL (fun (s3 : (List Int)) (x4 : (List Int)) => (((W.ret x4).bind fun x5 => (W.ret (enumI x5))).bind fun xs27 => bindF (forL (fun (s6 : (List Int)) (x7 : (Int × Int)) => ((((W.ret s6).bind fun x8 => ((W.ret x7.1).bind fun i9 => (ofO (L2.atI x8 i9)))).bind fun x12 => (((W.ret s6).bind fun x10 => ((W.ret x7.2).bind fun i11 => (ofO (L2.atI x10 i11)))).bind fun x13 => (W.ret (x12, x13)))).bind fun (v14 : (Int × Int)) => (((W.ret s6).bind fun xs26 => (lcW (fun (x16 : Int) => (W.ret true)) (fun (x16 : Int) => (((W.ret x16).bind fun p20 => ((((W.ret v14.1).bind fun x17 => ((W.ret v14.2).bind fun x18 => (W.ret (x17, x18)))).bind fun x19 => (W.ret [x19.1, x19.2])).bind fun q21 => (W.ret ((q21.any fun y22 => decide (y22 = p20)))))).bind fun p25 => (if p25 = true then ((W.ret v14.1).bind fun i23 => ((W.ret v14.2).bind fun j24 => (W.ret (if j24 < i23 then j24 else i23)))) else (W.ret x16)))) xs26)).bind fun (v15 : (List Int)) => (W.ret (Fl.nx v15))))) xs27 s3) (fun (s6 : (List Int)) => (W.ret (Fl.nx s6))))) xs29 v1) (fun (s3 : (List Int)) => ((W.ret s3).bind fun x28 => (W.ret (Fl.rt x28))))))
def o_law_joined (a : Int × (List (List Int)) × Unit) : Option (Fl (List Int) Empty Unit) :=
  (((some a.1).bind fun i2 => (rngC 0 i2)).bind fun (v1 : (List Int)) => ((some a.2.1).bind fun xs29 => bindFO (forO (fun (s3 : (List Int)) (x4 : (List Int)) => (((some x4).bind fun x5 => (some (enumI x5))).bind fun xs27 => bindFO (forO (fun (s6 : (List Int)) (x7 : (Int × Int)) => ((((some s6).bind fun x8 => ((some x7.1).bind fun i9 => (L2.atI x8 i9))).bind fun x12 => (((some s6).bind fun x10 => ((some x7.2).bind fun i11 => (L2.atI x10 i11))).bind fun x13 => (some (x12, x13)))).bind fun (v14 : (Int × Int)) => (((some s6).bind fun xs26 => (lcO (fun (x16 : Int) => (some true)) (fun (x16 : Int) => (((some x16).bind fun p20 => ((((some v14.1).bind fun x17 => ((some v14.2).bind fun x18 => (some (x17, x18)))).bind fun x19 => (some [x19.1, x19.2])).bind fun q21 => (some ((q21.any fun y22 => decide (y22 = p20)))))).bind fun p25 => (if p25 = true then ((some v14.1).bind fun i23 => ((some v14.2).bind fun j24 => (some (if j24 < i23 then j24 else i23)))) else (some x16)))) xs26)).bind fun (v15 : (List Int)) => (some (Fl.nx v15))))) xs27 s3) (fun (s6 : (List Int)) => (some (Fl.nx s6))))) xs29 v1) (fun (s3 : (List Int)) => ((some s3).bind fun x28 => (some (Fl.rt x28))))))
def m_law_joined (a : Int × (List (List Int)) × Unit) : Option (List Int) := rtO (o_law_joined a)
theorem k_law_joined {f : Addr} {fd : FuncData} (F : Fun K "_law_joined" "_law_joined" slaw_joined f fd) (T : Txt K mg) {π : Around → Prop} (sπ : Stb π) : FnP π P w K mg base CX0 1 f fd ["_law_size", "_law_moves"] (SpF (pC qI (pC (qT (qT qI)) p0)).ra (qL qI) m_law_joined) := by
  refine fn_okF (p := (pC qI (pC (qT (qT qI)) p0))) (m := w_law_joined) (pn := (fun z _ => nomatch z)) (pl := fun _ _ => []) (env := fun a => [.im qI a.1, .im (qT (qT qI)) a.2.1, .un, .un, .un, .un, .un, .un, .un]) 7 sπ F sclaw_joined rfl rfl (fun _ => rfl) ?hb ?hg
  case hb =>
    intro cdv A outer s H E hp hr C a hA
    unfold w_law_joined
    exact (xs_set (i := 2) (xe_N (xn_listRg1 rfl (by rfl) T.list (by rfl) T.range (xe_var (pv 0)))) (fun v1 => (xs_for (s0 := v1) (up := (uN 3 (qT qI))) (pt := fun (s3 : (List Int)) g => [.im qI a.1, .im (qT (qT qI)) a.2.1, .im (qL qI) s3, .un, .un, .un, .un, .un, .un]) PassesOwn.never rfl (xi_seq (xe_var (pv 1))) (xg_name (pg_name (i := 3) sclaw_joined.nd rfl (by first | exact .inl rfl | exact .inr rfl))) (fun _ => (.keep (.keep (.keep (.keep (.keep (.keep (.keep (.keep (.keep .nil)))))))))) (fun s3 x4 => (xs_for (s0 := s3) (up := (uP (uN 4 qI) (uN 5 qI))) (pt := fun (s6 : (List Int)) g => [.im qI a.1, .im (qT (qT qI)) a.2.1, .im (qL qI) s6, .im (qT qI) x4, .un, .un, .un, .un, .un]) PassesOwn.never rfl (xi_enT (by rfl) T.enumerate (xe_var (pv 3))) (xg_pairW rfl (xg_name (pg_name (i := 4) sclaw_joined.nd rfl (by first | exact .inl rfl | exact .inr rfl))) (xg_name (pg_name (i := 5) sclaw_joined.nd rfl (by first | exact .inl rfl | exact .inr rfl)))) (fun _ => (.keep (.keep (.keep (.keep (.keep (.keep (.keep (.keep (.keep .nil)))))))))) (fun s6 x7 => (xs_asg (up := (uP (uN 6 qI) (uN 7 qI))) (xe_tup2 (xe_ix (xq_im (xe_var (pv 2))) (xe_var (pv 4))) (xe_ix (xq_im (xe_var (pv 2))) (xe_var (pv 5)))) (xg_pair rfl (xg_name (pg_name (i := 6) sclaw_joined.nd rfl (by first | exact .inl rfl | exact .inr rfl))) (xg_name (pg_name (i := 7) sclaw_joined.nd rfl (by first | exact .inl rfl | exact .inr rfl)))) (fun v14 => (xs_setLc (i := 2) (own := [("_law_name", 8)]) (up := (uN 8 qI)) rfl sclaw_joined.nd rfl rfl (sw_true rfl rfl rfl (by decide +kernel)) (xi_seq (xe_var (pv 2))) (blkOk_by (N := Nlaw_joined) (sc := defScope slaw_joined) (by decide +kernel)) rfl (fun _ => rfl) (fun _ _ _ _ _ => (xg_name (pg_name (i := 8) sclaw_joined.nd rfl (by first | exact .inl rfl | exact .inr rfl)))) (fun _ _ _ _ _ _ x16 => xts_nil) (fun _ _ _ _ _ _ x16 => (xe_if (xt_in (xe_var (pv 8)) (xq_im (xe_row2 (xe_tup2 (xe_var (pv 6)) (xe_var (pv 7)))))) (xe_min2 rfl (by rfl) T.min (xe_var (pv 6)) (xe_var (pv 7))) (xe_var (pv 8)))) (fun v15 => (xs_nil (fun _ => (.keep (.keep (.keep (.keep (.drop (.drop (.drop (.drop (.keep .nil)))))))))))))))) (fun s6 => (xs_nil (fun _ => (.keep (.keep (.keep (.drop (.keep (.keep (.keep (.keep (.keep .nil)))))))))))))) (fun s3 => (xs_ret (xe_var (pv 2)))))) sclaw_joined.nd rfl (.inl rfl) rfl rfl)
  case hg =>
    intro a
    simp only [m_law_joined, o_law_joined, w_law_joined, ofO_rt, ofO_rtN, ofO_bind, ofO_some, ofO_if, ofO_up, ofO_lc, ofO_lca, ofO_lc2, ofO_for, ofO_while, ofO_bindF, ofO_no, ofO_optM]
abbrev slaw_lot_of : Stmt := top 33
abbrev Nlaw_lot_of : List Str := ["_law_members"]
theorem sclaw_lot_of : FnScope ["_law_members"] ["_law_members"] (defScope slaw_lot_of) := ⟨rfl, rfl, rfl, by decide +kernel, rfl, by decide +kernel, by decide +kernel⟩
def w_law_lot_of (a : (List Int) × Unit) : W (Fl (List Int) Empty Unit) :=
  ((((W.ret a.1).bind fun x1 => (W.ret (sortI x1))).bind fun x2 => (W.ret x2.reverse)).bind fun x3 => (W.ret (Fl.rt x3)))
def o_law_lot_of (a : (List Int) × Unit) : Option (Fl (List Int) Empty Unit) :=
  ((((some a.1).bind fun x1 => (some (sortI x1))).bind fun x2 => (some x2.reverse)).bind fun x3 => (some (Fl.rt x3)))
def m_law_lot_of (a : (List Int) × Unit) : Option (List Int) := rtO (o_law_lot_of a)
theorem k_law_lot_of {f : Addr} {fd : FuncData} (F : Fun K "_law_lot_of" "_law_lot_of" slaw_lot_of f fd) (T : Txt K mg) {π : Around → Prop} (sπ : Stb π) : FnP π P w K mg base CX0 1 f fd ["_law_members"] (SpF (pC (qL qI) p0).ra (qT qI) m_law_lot_of) := by
  refine fn_okF (p := (pC (qL qI) p0)) (m := w_law_lot_of) (pn := (fun z _ => nomatch z)) (pl := fun _ _ => []) (env := fun a => [.im (qL qI) a.1]) 0 sπ F sclaw_lot_of rfl rfl (fun _ => rfl) ?hb ?hg
  case hb =>
    intro cdv A outer s H E hp hr C a hA
    unfold w_law_lot_of
    exact (xs_ret (xe_tuple (by rfl) T.tuple (xq_im (xe_N (xn_rev (xq_im (xe_N (xn_sorted (by rfl) T.sorted (xq_im (xe_var (pv 0)))))))))))
  case hg =>
    intro a
    simp only [m_law_lot_of, o_law_lot_of, w_law_lot_of, ofO_rt, ofO_rtN, ofO_bind, ofO_some, ofO_if, ofO_up, ofO_lc, ofO_lca, ofO_lc2, ofO_for, ofO_while, ofO_bindF, ofO_no, ofO_optM]
abbrev slaw_kind : Stmt := top 36
abbrev Nlaw_kind : List Str := ["_law_move", "_law_start", "_law_found", "_law_met", "_law_many", "_law_place"]
theorem sclaw_kind : FnScope ["_law_move", "_law_start", "_law_found", "_law_met", "_law_many", "_law_place"] ["_law_move"] (defScope slaw_kind) := ⟨rfl, rfl, rfl, by decide +kernel, rfl, by decide +kernel, by decide +kernel⟩
def w_law_kind (a : (List Int) × Unit) : W (Fl (List Int) Empty Unit) :=
  ((W.ret ([] : List Int)).bind fun (v1 : (List Int)) => ((W.ret ([] : List Int)).bind fun (v2 : (List Int)) => ((((W.ret a.1).bind fun x3 => (W.ret (x3.length : Int))).bind fun i4 => (ofO (rngC 0 i4))).bind fun xs31 => bindF (forL (fun (s5 : ((List Int) × (List Int))) (x6 : Int) => ((W.ret (0 : Int)).bind fun (v7 : Int) => ((W.ret x6).bind fun (v8 : Int) => (bindF (whileL (fun (s9 : ((List Int) × Int × Int)) => ((W.ret s9.2.2).bind fun p10 => ((W.ret s9.1).bind fun q11 => (W.ret (!(q11.any fun y12 => decide (y12 = p10))))))) (fun (s9 : ((List Int) × Int × Int)) => ((W.ret s9.2.2).bind fun v13 => ((ofO (addO s9.1 v13)).bind fun (l14 : (List Int)) => (((W.ret s9.2.1).bind fun p17 => ((W.ret (1 : Int)).bind fun q18 => (W.ret (p17 + q18)))).bind fun (v15 : Int) => (((W.ret a.1).bind fun x19 => ((W.ret s9.2.2).bind fun i20 => (ofO (L2.atI x19 i20)))).bind fun (v16 : Int) => (W.ret (Fl.nx (l14, v15, v16)))))))) 100 (s5.2, v7, v8)) (fun (s9 : ((List Int) × Int × Int)) => (((W.ret s9.2.1).bind fun p21 => ((W.ret (0 : Int)).bind fun q22 => (ofO (some (decide (q22 < p21)))))).bind fun b23 => bindF (if b23 = true then ((W.ret s9.2.1).bind fun v25 => ((ofO (addO s5.1 v25)).bind fun (l26 : (List Int)) => (W.ret (Fl.nx l26)))) else (W.ret (Fl.nx s5.1))) (fun (s24 : (List Int)) => (W.ret (Fl.nx (s24, s9.1)))))))))) xs31 (v1, v2)) (fun (s5 : ((List Int) × (List Int))) => ((((W.ret s5.1).bind fun x27 => ((W.ret ()).bind fun y28 => (W.ret (x27, y28)))).bind fun a29 => (ofO (m_law_lot_of a29))).bind fun x30 => (W.ret (Fl.rt x30)))))))
def o_law_kind (a : (List Int) × Unit) : Option (Fl (List Int) Empty Unit) :=
  ((some ([] : List Int)).bind fun (v1 : (List Int)) => ((some ([] : List Int)).bind fun (v2 : (List Int)) => ((((some a.1).bind fun x3 => (some (x3.length : Int))).bind fun i4 => (rngC 0 i4)).bind fun xs31 => bindFO (forO (fun (s5 : ((List Int) × (List Int))) (x6 : Int) => ((some (0 : Int)).bind fun (v7 : Int) => ((some x6).bind fun (v8 : Int) => (bindFO (whileO (fun (s9 : ((List Int) × Int × Int)) => ((some s9.2.2).bind fun p10 => ((some s9.1).bind fun q11 => (some (!(q11.any fun y12 => decide (y12 = p10))))))) (fun (s9 : ((List Int) × Int × Int)) => ((some s9.2.2).bind fun v13 => ((addO s9.1 v13).bind fun (l14 : (List Int)) => (((some s9.2.1).bind fun p17 => ((some (1 : Int)).bind fun q18 => (some (p17 + q18)))).bind fun (v15 : Int) => (((some a.1).bind fun x19 => ((some s9.2.2).bind fun i20 => (L2.atI x19 i20))).bind fun (v16 : Int) => (some (Fl.nx (l14, v15, v16)))))))) 100 (s5.2, v7, v8)) (fun (s9 : ((List Int) × Int × Int)) => (((some s9.2.1).bind fun p21 => ((some (0 : Int)).bind fun q22 => (some (decide (q22 < p21))))).bind fun b23 => bindFO (if b23 = true then ((some s9.2.1).bind fun v25 => ((addO s5.1 v25).bind fun (l26 : (List Int)) => (some (Fl.nx l26)))) else (some (Fl.nx s5.1))) (fun (s24 : (List Int)) => (some (Fl.nx (s24, s9.1)))))))))) xs31 (v1, v2)) (fun (s5 : ((List Int) × (List Int))) => ((((some s5.1).bind fun x27 => ((some ()).bind fun y28 => (some (x27, y28)))).bind fun a29 => (m_law_lot_of a29)).bind fun x30 => (some (Fl.rt x30)))))))
def m_law_kind (a : (List Int) × Unit) : Option (List Int) := rtO (o_law_kind a)
theorem k_law_kind {f : Addr} {fd : FuncData} (F : Fun K "_law_kind" "_law_kind" slaw_kind f fd) (T : Txt K mg) {π : Around → Prop} (sπ : Stb π) (h_law_lot_of : Has P w K mg base π "_law_lot_of" 1 ["_law_members"] (SpF (pC (qL qI) p0).ra (qT qI) m_law_lot_of)) : FnP π P w K mg base CX0 2 f fd ["_law_move"] (SpF (pC (qT qI) p0).ra (qT qI) m_law_kind) := by
  refine fn_okF (p := (pC (qT qI) p0)) (m := w_law_kind) (pn := (fun z _ => nomatch z)) (pl := fun _ _ => []) (env := fun a => [.im (qT qI) a.1, .un, .un, .un, .un, .un]) 5 sπ F sclaw_kind rfl rfl (fun _ => rfl) ?hb ?hg
  case hb =>
    intro cdv A outer s H E hp hr C a hA
    unfold w_law_kind
    exact (xs_parNN (env := fun g => [.im (qT qI) a.1, .un, .un, .un, .un, .un]) (i := 2) (j := 3) (xn_nil (r := qI)) (fun _ => (xn_nil (r := qI))) (fun v1 v2 => (xs_for (s0 := (v1, v2)) (up := (uN 1 qI)) (pt := fun (s5 : ((List Int) × (List Int))) g => [.im (qT qI) a.1, .un, .ow qI s5.1, .ow qI s5.2, .un, .un]) PassesOwn.never rfl (xi_rng1 (by rfl) T.range (xe_len (by rfl) T.len (xq_im (xe_var (pv 0))))) (xg_name (pg_name (i := 1) sclaw_kind.nd rfl (by first | exact .inl rfl | exact .inr rfl))) (fun _ => (.keep (.keep (.keep (.keep (.keep (.keep .nil))))))) (fun s5 x6 => (xs_par (env := fun g => [.im (qT qI) a.1, .im qI x6, .ow qI s5.1, .ow qI s5.2, .un, .un]) (i := 4) (j := 5) xe_int (xe_var (pv 1)) (fun v7 v8 => (xs_while (s0 := (s5.2, v7, v8)) (pt := fun (s9 : ((List Int) × Int × Int)) g => [.im (qT qI) a.1, .im qI x6, .ow qI s5.1, .ow qI s9.1, .im qI s9.2.1, .im qI s9.2.2]) PassesOwn.never (fun _ => (.keep (.keep (.keep (.keep (.keep (.keep .nil))))))) (fun s9 => (xt_nin (xe_var (pv 5)) (xq_own (pv 3)))) (fun s9 => (xs_app (i := 3) (pv 3) (xe_var (pv 5)) (fun l14 => (xs_par (env := fun g => [.im (qT qI) a.1, .im qI x6, .ow qI s5.1, .ow qI l14, .im qI s9.2.1, .im qI s9.2.2]) (i := 4) (j := 5) (xe_add (xe_var (pv 4)) xe_int) (xe_ix (xq_im (xe_var (pv 0))) (xe_var (pv 5))) (fun v15 v16 => (xs_nil (fun _ => (.keep (.keep (.keep (.keep (.keep (.keep .nil))))))))) rfl sclaw_kind.nd rfl rfl (by decide) rfl rfl rfl)) (hb := pe_bm PySem.F.plainAttrs_list PySem.F.slot_list_append PySem.F.type_list_append mt_append (pv 3) (pa_cons (xe_var (pv 5)) pa_nil)))) (fun s9 => (xs_if (pt := fun (s24 : (List Int)) g => [.im (qT qI) a.1, .im qI x6, .ow qI s24, .ow qI s9.1, .im qI s9.2.1, .im qI s9.2.2]) (xt_cmpD cd_gt (xe_var (pv 4)) xe_int rfl) (xs_app (i := 2) (pv 2) (xe_var (pv 4)) (fun l26 => (xs_nil (fun _ => (.keep (.keep (.keep (.keep (.keep (.keep .nil))))))))) (hb := pe_bm PySem.F.plainAttrs_list PySem.F.slot_list_append PySem.F.type_list_append mt_append (pv 2) (pa_cons (xe_var (pv 4)) pa_nil))) (xs_nil (fun _ => (.keep (.keep (.keep (.keep (.keep (.keep .nil)))))))) (fun s24 => (xs_nil (fun _ => (.keep (.drop (.keep (.keep (.drop (.drop .nil))))))))))))) rfl sclaw_kind.nd rfl rfl (by decide) rfl rfl rfl)) (fun s5 => (xs_frz 2 hA (xs_ret (xe_callH h_law_lot_of hp hr (by decide) (by rfl) (xa_cons (xe_var (pv 2)) xa_nil))))))) rfl sclaw_kind.nd rfl rfl (by decide) rfl rfl rfl)
  case hg =>
    intro a
    simp only [m_law_kind, o_law_kind, w_law_kind, ofO_rt, ofO_rtN, ofO_bind, ofO_some, ofO_if, ofO_up, ofO_lc, ofO_lca, ofO_lc2, ofO_for, ofO_while, ofO_bindF, ofO_no, ofO_optM]
abbrev slaw_le_least : Stmt := top 40
abbrev Nlaw_le_least : List Str := ["_law_move"]
theorem sclaw_le_least : FnScope ["_law_move"] ["_law_move"] (defScope slaw_le_least) := ⟨rfl, rfl, rfl, by decide +kernel, rfl, by decide +kernel, by decide +kernel⟩
def w_law_le_least (a : (List Int) × Unit) : W (Fl Int Empty Unit) :=
  ((((W.ret a.1).bind fun x1 => (W.ret (x1.length : Int))).bind fun p6 => (((((W.ret a.1).bind fun x2 => ((W.ret ()).bind fun y3 => (W.ret (x2, y3)))).bind fun a4 => (ofO (m_law_kind a4))).bind fun x5 => (W.ret (x5.length : Int))).bind fun q7 => (W.ret (p6 - q7)))).bind fun x8 => (W.ret (Fl.rt x8)))
def o_law_le_least (a : (List Int) × Unit) : Option (Fl Int Empty Unit) :=
  ((((some a.1).bind fun x1 => (some (x1.length : Int))).bind fun p6 => (((((some a.1).bind fun x2 => ((some ()).bind fun y3 => (some (x2, y3)))).bind fun a4 => (m_law_kind a4)).bind fun x5 => (some (x5.length : Int))).bind fun q7 => (some (p6 - q7)))).bind fun x8 => (some (Fl.rt x8)))
def m_law_le_least (a : (List Int) × Unit) : Option Int := rtO (o_law_le_least a)
theorem k_law_le_least {f : Addr} {fd : FuncData} (F : Fun K "_law_le_least" "_law_le_least" slaw_le_least f fd) (T : Txt K mg) {π : Around → Prop} (sπ : Stb π) (h_law_kind : Has P w K mg base π "_law_kind" 2 ["_law_move"] (SpF (pC (qT qI) p0).ra (qT qI) m_law_kind)) : FnP π P w K mg base CX0 3 f fd ["_law_move"] (SpF (pC (qT qI) p0).ra qI m_law_le_least) := by
  refine fn_okF (p := (pC (qT qI) p0)) (m := w_law_le_least) (pn := (fun z _ => nomatch z)) (pl := fun _ _ => []) (env := fun a => [.im (qT qI) a.1]) 0 sπ F sclaw_le_least rfl rfl (fun _ => rfl) ?hb ?hg
  case hb =>
    intro cdv A outer s H E hp hr C a hA
    unfold w_law_le_least
    exact (xs_ret (xe_sub (xe_len (by rfl) T.len (xq_im (xe_var (pv 0)))) (xe_len (by rfl) T.len (xq_im (xe_callH h_law_kind hp hr (by decide) (by rfl) (xa_cons (xe_var (pv 0)) xa_nil))))))
  case hg =>
    intro a
    simp only [m_law_le_least, o_law_le_least, w_law_le_least, ofO_rt, ofO_rtN, ofO_bind, ofO_some, ofO_if, ofO_up, ofO_lc, ofO_lca, ofO_lc2, ofO_for, ofO_while, ofO_bindF, ofO_no, ofO_optM]
abbrev slaw_behind : Stmt := top 34
abbrev Nlaw_behind : List Str := ["_law_one", "_law_other", "_law_place"]
theorem sclaw_behind : FnScope ["_law_one", "_law_other", "_law_place"] ["_law_one", "_law_other"] (defScope slaw_behind) := ⟨rfl, rfl, rfl, by decide +kernel, rfl, by decide +kernel, by decide +kernel⟩
def w_law_behind (a : (List Int) × (List Int) × Unit) : W (Fl (List Int) Empty Unit) :=
  (((W.ret a.1).bind fun xs4 => (lcW (fun (x1 : Int) => (W.ret true)) (fun (x1 : Int) => ((W.ret a.2.1).bind fun x2 => ((W.ret x1).bind fun i3 => (ofO (L2.atI x2 i3))))) xs4)).bind fun x5 => (W.ret (Fl.rt x5)))
def o_law_behind (a : (List Int) × (List Int) × Unit) : Option (Fl (List Int) Empty Unit) :=
  (((some a.1).bind fun xs4 => (lcO (fun (x1 : Int) => (some true)) (fun (x1 : Int) => ((some a.2.1).bind fun x2 => ((some x1).bind fun i3 => (L2.atI x2 i3)))) xs4)).bind fun x5 => (some (Fl.rt x5)))
def m_law_behind (a : (List Int) × (List Int) × Unit) : Option (List Int) := rtO (o_law_behind a)
theorem k_law_behind {f : Addr} {fd : FuncData} (F : Fun K "_law_behind" "_law_behind" slaw_behind f fd) (T : Txt K mg) {π : Around → Prop} (sπ : Stb π) : FnP π P w K mg base CX0 1 f fd ["_law_one", "_law_other"] (SpF (pC (qT qI) (pC (qT qI) p0)).ra (qT qI) m_law_behind) := by
  refine fn_okF (p := (pC (qT qI) (pC (qT qI) p0))) (m := w_law_behind) (pn := (fun z _ => nomatch z)) (pl := fun _ _ => []) (env := fun a => [.im (qT qI) a.1, .im (qT qI) a.2.1, .un]) 1 sπ F sclaw_behind rfl rfl (fun _ => rfl) ?hb ?hg
  case hb =>
    intro cdv A outer s H E hp hr C a hA
    unfold w_law_behind
    exact (xs_ret (xe_tuple (by rfl) T.tuple (xq_im (xe_N (xn_lc (own := [("_law_place", 2)]) (up := (uN 2 qI)) rfl sclaw_behind.nd (xi_seq (xe_var (pv 0))) (blkOk_by (N := Nlaw_behind) (sc := defScope slaw_behind) (by decide +kernel)) rfl (fun _ => rfl) (fun _ _ _ _ _ => (xg_name (pg_name (i := 2) sclaw_behind.nd rfl (by first | exact .inl rfl | exact .inr rfl)))) (fun _ _ _ _ _ _ x1 => xts_nil) (fun _ _ _ _ _ _ x1 => (xe_ix (xq_im (xe_var (pv 1))) (xe_var (pv 2)))))))))
  case hg =>
    intro a
    simp only [m_law_behind, o_law_behind, w_law_behind, ofO_rt, ofO_rtN, ofO_bind, ofO_some, ofO_if, ofO_up, ofO_lc, ofO_lca, ofO_lc2, ofO_for, ofO_while, ofO_bindF, ofO_no, ofO_optM]
abbrev slaw_le_product : Stmt := top 39
abbrev Nlaw_le_product : List Str := ["_law_size", "_law_row", "_law_found", "_law_move"]
theorem sclaw_le_product : FnScope ["_law_size", "_law_row", "_law_found", "_law_move"] ["_law_size", "_law_row"] (defScope slaw_le_product) := ⟨rfl, rfl, rfl, by decide +kernel, rfl, by decide +kernel, by decide +kernel⟩
def w_law_le_product (a : Int × (List (List Int)) × Unit) : W (Fl (List Int) Empty Unit) :=
  (((W.ret a.1).bind fun i2 => (ofO (rngC 0 i2))).bind fun (v1 : (List Int)) => ((W.ret a.2.1).bind fun xs12 => bindF (forL (fun (s3 : (List Int)) (x4 : (List Int)) => ((((W.ret s3).bind fun x8 => (((W.ret x4).bind fun x6 => ((W.ret ()).bind fun y7 => (W.ret (x6, y7)))).bind fun y9 => (W.ret (x8, y9)))).bind fun a10 => (ofO (m_law_behind a10))).bind fun (v5 : (List Int)) => (W.ret (Fl.nx v5)))) xs12 v1) (fun (s3 : (List Int)) => ((W.ret s3).bind fun x11 => (W.ret (Fl.rt x11))))))
def o_law_le_product (a : Int × (List (List Int)) × Unit) : Option (Fl (List Int) Empty Unit) :=
  (((some a.1).bind fun i2 => (rngC 0 i2)).bind fun (v1 : (List Int)) => ((some a.2.1).bind fun xs12 => bindFO (forO (fun (s3 : (List Int)) (x4 : (List Int)) => ((((some s3).bind fun x8 => (((some x4).bind fun x6 => ((some ()).bind fun y7 => (some (x6, y7)))).bind fun y9 => (some (x8, y9)))).bind fun a10 => (m_law_behind a10)).bind fun (v5 : (List Int)) => (some (Fl.nx v5)))) xs12 v1) (fun (s3 : (List Int)) => ((some s3).bind fun x11 => (some (Fl.rt x11))))))
def m_law_le_product (a : Int × (List (List Int)) × Unit) : Option (List Int) := rtO (o_law_le_product a)
theorem k_law_le_product {f : Addr} {fd : FuncData} (F : Fun K "_law_le_product" "_law_le_product" slaw_le_product f fd) (T : Txt K mg) {π : Around → Prop} (sπ : Stb π) (h_law_behind : Has P w K mg base π "_law_behind" 1 ["_law_one", "_law_other"] (SpF (pC (qT qI) (pC (qT qI) p0)).ra (qT qI) m_law_behind)) : FnP π P w K mg base CX0 2 f fd ["_law_size", "_law_row"] (SpF (pC qI (pC (qT (qT qI)) p0)).ra (qT qI) m_law_le_product) := by
  refine fn_okF (p := (pC qI (pC (qT (qT qI)) p0))) (m := w_law_le_product) (pn := (fun z _ => nomatch z)) (pl := fun _ _ => []) (env := fun a => [.im qI a.1, .im (qT (qT qI)) a.2.1, .un, .un]) 2 sπ F sclaw_le_product rfl rfl (fun _ => rfl) ?hb ?hg
  case hb =>
    intro cdv A outer s H E hp hr C a hA
    unfold w_law_le_product
    exact (xs_set (i := 2) (xe_tupRg1 rfl (by rfl) T.tuple (by rfl) T.range (xe_var (pv 0))) (fun v1 => (xs_for (s0 := v1) (up := (uN 3 (qT qI))) (pt := fun (s3 : (List Int)) g => [.im qI a.1, .im (qT (qT qI)) a.2.1, .im (qT qI) s3, .un]) PassesOwn.never rfl (xi_seq (xe_var (pv 1))) (xg_name (pg_name (i := 3) sclaw_le_product.nd rfl (by first | exact .inl rfl | exact .inr rfl))) (fun _ => (.keep (.keep (.keep (.keep .nil))))) (fun s3 x4 => (xs_set (i := 2) (xe_callH h_law_behind hp hr (by decide) (by rfl) (xa_cons (xe_var (pv 2)) (xa_cons (xe_var (pv 3)) xa_nil))) (fun v5 => (xs_nil (fun _ => (.keep (.keep (.keep (.drop .nil))))))) sclaw_le_product.nd rfl (.inl rfl) rfl rfl)) (fun s3 => (xs_ret (xe_var (pv 2)))))) sclaw_le_product.nd rfl (.inl rfl) rfl rfl)
  case hg =>
    intro a
    simp only [m_law_le_product, o_law_le_product, w_law_le_product, ofO_rt, ofO_rtN, ofO_bind, ofO_some, ofO_if, ofO_up, ofO_lc, ofO_lca, ofO_lc2, ofO_for, ofO_while, ofO_bindF, ofO_no, ofO_optM]
abbrev slaw_le_genus : Stmt := top 41
abbrev Nlaw_le_genus : List Str := ["_law_size", "_law_row", "_law_needs", "_law_move"]
theorem sclaw_le_genus : FnScope ["_law_size", "_law_row", "_law_needs", "_law_move"] ["_law_size", "_law_row"] (defScope slaw_le_genus) := ⟨rfl, rfl, rfl, by decide +kernel, rfl, by decide +kernel, by decide +kernel⟩
def w_law_le_genus (a : Int × (List (List Int)) × Unit) : W (Fl PyData Empty Unit) :=
  ((((((W.ret a.1).bind fun x3 => (((W.ret a.2.1).bind fun x1 => ((W.ret ()).bind fun y2 => (W.ret (x1, y2)))).bind fun y4 => (W.ret (x3, y4)))).bind fun a5 => (ofO (m_law_joined a5))).bind fun x6 => (ofO (maxL x6))).bind fun p7 => ((W.ret (0 : Int)).bind fun q8 => (ofO (some (decide (q8 < p7)))))).bind fun b9 => (if b9 = true then upF (((W.ret ()).bind fun x10 => (W.ret (eN.enc x10))).bind fun x11 => (W.ret (Fl.rt x11))) else ((((W.ret a.2.1).bind fun xs17 => (lcW (fun (x13 : (List Int)) => (W.ret true)) (fun (x13 : (List Int)) => (((W.ret x13).bind fun x14 => ((W.ret ()).bind fun y15 => (W.ret (x14, y15)))).bind fun a16 => (ofO (m_law_le_least a16)))) xs17)).bind fun x18 => (W.ret x18.sum)).bind fun (v12 : Int) => (((((((W.ret v12).bind fun p19 => ((W.ret a.1).bind fun q20 => (W.ret (p19 - q20)))).bind fun p21 => ((W.ret (2 : Int)).bind fun q22 => (W.ret (p21 + q22)))).bind fun p32 => (((((((W.ret a.1).bind fun x25 => (((W.ret a.2.1).bind fun x23 => ((W.ret ()).bind fun y24 => (W.ret (x23, y24)))).bind fun y26 => (W.ret (x25, y26)))).bind fun a27 => (ofO (m_law_le_product a27))).bind fun x28 => ((W.ret ()).bind fun y29 => (W.ret (x28, y29)))).bind fun a30 => (ofO (m_law_kind a30))).bind fun x31 => (W.ret (x31.length : Int))).bind fun q33 => (W.ret (p32 - q33)))).bind fun p34 => ((W.ret (2 : Int)).bind fun q35 => (ofO (divC p34 q35)))).bind fun x36 => (W.ret (eI.enc x36))).bind fun x37 => (W.ret (Fl.rt x37))))))
def o_law_le_genus (a : Int × (List (List Int)) × Unit) : Option (Fl PyData Empty Unit) :=
  ((((((some a.1).bind fun x3 => (((some a.2.1).bind fun x1 => ((some ()).bind fun y2 => (some (x1, y2)))).bind fun y4 => (some (x3, y4)))).bind fun a5 => (m_law_joined a5)).bind fun x6 => (maxL x6)).bind fun p7 => ((some (0 : Int)).bind fun q8 => (some (decide (q8 < p7))))).bind fun b9 => (if b9 = true then upO (((some ()).bind fun x10 => (some (eN.enc x10))).bind fun x11 => (some (Fl.rt x11))) else ((((some a.2.1).bind fun xs17 => (lcO (fun (x13 : (List Int)) => (some true)) (fun (x13 : (List Int)) => (((some x13).bind fun x14 => ((some ()).bind fun y15 => (some (x14, y15)))).bind fun a16 => (m_law_le_least a16))) xs17)).bind fun x18 => (some x18.sum)).bind fun (v12 : Int) => (((((((some v12).bind fun p19 => ((some a.1).bind fun q20 => (some (p19 - q20)))).bind fun p21 => ((some (2 : Int)).bind fun q22 => (some (p21 + q22)))).bind fun p32 => (((((((some a.1).bind fun x25 => (((some a.2.1).bind fun x23 => ((some ()).bind fun y24 => (some (x23, y24)))).bind fun y26 => (some (x25, y26)))).bind fun a27 => (m_law_le_product a27)).bind fun x28 => ((some ()).bind fun y29 => (some (x28, y29)))).bind fun a30 => (m_law_kind a30)).bind fun x31 => (some (x31.length : Int))).bind fun q33 => (some (p32 - q33)))).bind fun p34 => ((some (2 : Int)).bind fun q35 => (divC p34 q35))).bind fun x36 => (some (eI.enc x36))).bind fun x37 => (some (Fl.rt x37))))))
def m_law_le_genus (a : Int × (List (List Int)) × Unit) : Option PyData := rtO (o_law_le_genus a)
theorem k_law_le_genus {f : Addr} {fd : FuncData} (F : Fun K "_law_le_genus" "_law_le_genus" slaw_le_genus f fd) (T : Txt K mg) {π : Around → Prop} (sπ : Stb π) (h_law_joined : Has P w K mg base π "_law_joined" 1 ["_law_size", "_law_moves"] (SpF (pC qI (pC (qT (qT qI)) p0)).ra (qL qI) m_law_joined)) (h_law_kind : Has P w K mg base π "_law_kind" 2 ["_law_move"] (SpF (pC (qT qI) p0).ra (qT qI) m_law_kind)) (h_law_le_least : Has P w K mg base π "_law_le_least" 3 ["_law_move"] (SpF (pC (qT qI) p0).ra qI m_law_le_least)) (h_law_le_product : Has P w K mg base π "_law_le_product" 2 ["_law_size", "_law_row"] (SpF (pC qI (pC (qT (qT qI)) p0)).ra (qT qI) m_law_le_product)) : FnP π P w K mg base CX0 4 f fd ["_law_size", "_law_row"] (SpF (pC qI (pC (qT (qT qI)) p0)).ra qV m_law_le_genus) := by
  refine fn_okF (p := (pC qI (pC (qT (qT qI)) p0))) (m := w_law_le_genus) (pn := (fun z _ => nomatch z)) (pl := fun _ _ => []) (env := fun a => [.im qI a.1, .im (qT (qT qI)) a.2.1, .un, .un]) 2 sπ F sclaw_le_genus rfl rfl (fun _ => rfl) ?hb ?hg
  case hb =>
    intro cdv A outer s H E hp hr C a hA
    unfold w_law_le_genus
    exact (xs_ifx (xt_cmpD cd_gt (xe_max1 rfl hr.units (by rfl) T.max (xq_im (xe_callH h_law_joined hp hr (by decide) (by rfl) (xa_cons (xe_var (pv 0)) (xa_cons (xe_var (pv 1)) xa_nil))))) xe_int rfl) (xs_ret (xe_enc eN xe_non)) (xs_set (i := 2) (xe_sum rfl (by rfl) T.sum (xq_im (xe_N (xn_lc (own := [("_law_move", 3)]) (up := (uN 3 (qT qI))) rfl sclaw_le_genus.nd (xi_seq (xe_var (pv 1))) (blkOk_by (N := Nlaw_le_genus) (sc := defScope slaw_le_genus) (by decide +kernel)) rfl (fun _ => rfl) (fun _ _ _ _ _ => (xg_name (pg_name (i := 3) sclaw_le_genus.nd rfl (by first | exact .inl rfl | exact .inr rfl)))) (fun _ _ _ _ _ _ x13 => xts_nil) (fun _ _ _ _ _ _ x13 => (xe_callH h_law_le_least hp hr (by decide) (by rfl) (xa_cons (xe_var (pv 3)) xa_nil))))))) (fun v12 => (xs_ret (xe_enc eI (xe_fdiv (xe_sub (xe_add (xe_sub (xe_var (pv 2)) (xe_var (pv 0))) xe_int) (xe_len (by rfl) T.len (xq_im (xe_callH h_law_kind hp hr (by decide) (by rfl) (xa_cons (xe_callH h_law_le_product hp hr (by decide) (by rfl) (xa_cons (xe_var (pv 0)) (xa_cons (xe_var (pv 1)) xa_nil))) xa_nil))))) xe_int)))) sclaw_le_genus.nd rfl (.inl rfl) rfl rfl))
  case hg =>
    intro a
    simp only [m_law_le_genus, o_law_le_genus, w_law_le_genus, ofO_rt, ofO_rtN, ofO_bind, ofO_some, ofO_if, ofO_up, ofO_lc, ofO_lca, ofO_lc2, ofO_for, ofO_while, ofO_bindF, ofO_no, ofO_optM]
abbrev sis_whole : Stmt := top 6
abbrev Nis_whole : List Str := ["value"]
theorem scis_whole : FnScope ["value"] ["value"] (defScope sis_whole) := ⟨rfl, rfl, rfl, by decide +kernel, rfl, by decide +kernel, by decide +kernel⟩
def w_is_whole (a : Int × Unit) : W (Fl Bool Empty Unit) :=
  ((((W.ret a.1).bind fun _ => (W.ret true)).bind fun p4 => (if p4 = true then (((W.ret a.1).bind fun _ => (W.ret false)).bind fun p3 => (W.ret (!p3))) else (W.ret false))).bind fun x5 => (W.ret (Fl.rt x5)))
def o_is_whole (a : Int × Unit) : Option (Fl Bool Empty Unit) :=
  ((((some a.1).bind fun _ => (some true)).bind fun p4 => (if p4 = true then (((some a.1).bind fun _ => (some false)).bind fun p3 => (some (!p3))) else (some false))).bind fun x5 => (some (Fl.rt x5)))
def m_is_whole (a : Int × Unit) : Option Bool := rtO (o_is_whole a)
theorem k_is_whole {f : Addr} {fd : FuncData} (F : Fun K "is_whole" "is_whole" sis_whole f fd) (T : Txt K mg) {π : Around → Prop} (sπ : Stb π) : FnP π P w K mg base CX0 1 f fd ["value"] (SpF (pC qI p0).ra qB m_is_whole) := by
  refine fn_okF (p := (pC qI p0)) (m := w_is_whole) (pn := (fun z _ => nomatch z)) (pl := fun _ _ => []) (env := fun a => [.im qI a.1]) 0 sπ F scis_whole rfl rfl (fun _ => rfl) ?hb ?hg
  case hb =>
    intro cdv A outer s H E hp hr C a hA
    unfold w_is_whole
    exact (xs_ret (xe_andB (xe_isi (ans := true) (hk := by decide +kernel) tyI (by rfl) T.isinstance (xe_var (pv 0)) (by rfl) T.int (n := "int") (by decide +kernel)) (xe_one (xe_not (xe_isi (ans := false) (hk := by decide +kernel) tyI (by rfl) T.isinstance (xe_var (pv 0)) (by rfl) T.bool (n := "bool") (by decide +kernel))))))
  case hg =>
    intro a
    simp only [m_is_whole, o_is_whole, w_is_whole, ofO_rt, ofO_rtN, ofO_bind, ofO_some, ofO_if, ofO_up, ofO_lc, ofO_lca, ofO_lc2, ofO_for, ofO_while, ofO_bindF, ofO_no, ofO_optM]
abbrev sis_integer : Stmt := top 7
abbrev Nis_integer : List Str := ["value"]
theorem scis_integer : FnScope ["value"] ["value"] (defScope sis_integer) := ⟨rfl, rfl, rfl, by decide +kernel, rfl, by decide +kernel, by decide +kernel⟩
def w_is_integer (a : Int × Unit) : W (Fl Bool Empty Unit) :=
  (((((W.ret a.1).bind fun x1 => ((W.ret ()).bind fun y2 => (W.ret (x1, y2)))).bind fun a3 => (ofO (m_is_whole a3))).bind fun p9 => (if p9 = true then (((W.ret (1000000000000000000000000000000000000000000000000000000000000 : Int)).bind fun p4 => (W.ret (-p4))).bind fun p5 => ((W.ret a.1).bind fun q6 => ((ofO (some (decide (p5 < q6)))).bind fun t8 => (if t8 = true then ((W.ret (1000000000000000000000000000000000000000000000000000000000000 : Int)).bind fun u7 => (ofO (some (decide (q6 < u7))))) else W.ret false)))) else (W.ret false))).bind fun x10 => (W.ret (Fl.rt x10)))
def o_is_integer (a : Int × Unit) : Option (Fl Bool Empty Unit) :=
  (((((some a.1).bind fun x1 => ((some ()).bind fun y2 => (some (x1, y2)))).bind fun a3 => (m_is_whole a3)).bind fun p9 => (if p9 = true then (((some (1000000000000000000000000000000000000000000000000000000000000 : Int)).bind fun p4 => (some (-p4))).bind fun p5 => ((some a.1).bind fun q6 => ((some (decide (p5 < q6))).bind fun t8 => (if t8 = true then ((some (1000000000000000000000000000000000000000000000000000000000000 : Int)).bind fun u7 => (some (decide (q6 < u7)))) else some false)))) else (some false))).bind fun x10 => (some (Fl.rt x10)))
def m_is_integer (a : Int × Unit) : Option Bool := rtO (o_is_integer a)
theorem k_is_integer {f : Addr} {fd : FuncData} (F : Fun K "is_integer" "is_integer" sis_integer f fd) (T : Txt K mg) {π : Around → Prop} (sπ : Stb π) (h_is_whole : Has P w K mg base π "is_whole" 1 ["value"] (SpF (pC qI p0).ra qB m_is_whole)) : FnP π P w K mg base CX0 2 f fd ["value"] (SpF (pC qI p0).ra qB m_is_integer) := by
  refine fn_okF (p := (pC qI p0)) (m := w_is_integer) (pn := (fun z _ => nomatch z)) (pl := fun _ _ => []) (env := fun a => [.im qI a.1]) 0 sπ F scis_integer rfl rfl (fun _ => rfl) ?hb ?hg
  case hb =>
    intro cdv A outer s H E hp hr C a hA
    unfold w_is_integer
    exact (xs_ret (xe_andB (xe_callH h_is_whole hp hr (by decide) (by rfl) (xa_cons (xe_var (pv 0)) xa_nil)) (xe_one (xe_chainD cd_lt cd_lt (xe_neg (xe_gintE (by rfl) T.g_FIRST_TOO_LONG_)) (xe_var (pv 0)) (xe_gintE (by rfl) T.g_FIRST_TOO_LONG_)))))
  case hg =>
    intro a
    simp only [m_is_integer, o_is_integer, w_is_integer, ofO_rt, ofO_rtN, ofO_bind, ofO_some, ofO_if, ofO_up, ofO_lc, ofO_lca, ofO_lc2, ofO_for, ofO_while, ofO_bindF, ofO_no, ofO_optM]
abbrev sis_count : Stmt := top 8
abbrev Nis_count : List Str := ["value", "low", "high"]
theorem scis_count : FnScope ["value", "low", "high"] ["value", "low", "high"] (defScope sis_count) := ⟨rfl, rfl, rfl, by decide +kernel, rfl, by decide +kernel, by decide +kernel⟩
def w_is_count (a : Int × Int × Int × Unit) : W (Fl Bool Empty Unit) :=
  (((((W.ret a.1).bind fun x1 => ((W.ret ()).bind fun y2 => (W.ret (x1, y2)))).bind fun a3 => (ofO (m_is_integer a3))).bind fun p8 => (if p8 = true then ((W.ret a.2.1).bind fun p4 => ((W.ret a.1).bind fun q5 => ((ofO (some (decide (p4 ≤ q5)))).bind fun t7 => (if t7 = true then ((W.ret a.2.2.1).bind fun u6 => (ofO (some (decide (q5 ≤ u6))))) else W.ret false)))) else (W.ret false))).bind fun x9 => (W.ret (Fl.rt x9)))
def o_is_count (a : Int × Int × Int × Unit) : Option (Fl Bool Empty Unit) :=
  (((((some a.1).bind fun x1 => ((some ()).bind fun y2 => (some (x1, y2)))).bind fun a3 => (m_is_integer a3)).bind fun p8 => (if p8 = true then ((some a.2.1).bind fun p4 => ((some a.1).bind fun q5 => ((some (decide (p4 ≤ q5))).bind fun t7 => (if t7 = true then ((some a.2.2.1).bind fun u6 => (some (decide (q5 ≤ u6)))) else some false)))) else (some false))).bind fun x9 => (some (Fl.rt x9)))
def m_is_count (a : Int × Int × Int × Unit) : Option Bool := rtO (o_is_count a)
theorem k_is_count {f : Addr} {fd : FuncData} (F : Fun K "is_count" "is_count" sis_count f fd) (T : Txt K mg) {π : Around → Prop} (sπ : Stb π) (h_is_integer : Has P w K mg base π "is_integer" 2 ["value"] (SpF (pC qI p0).ra qB m_is_integer)) : FnP π P w K mg base CX0 3 f fd ["value", "low", "high"] (SpF (pC qI (pC qI (pC qI p0))).ra qB m_is_count) := by
  refine fn_okF (p := (pC qI (pC qI (pC qI p0)))) (m := w_is_count) (pn := (fun z _ => nomatch z)) (pl := fun _ _ => []) (env := fun a => [.im qI a.1, .im qI a.2.1, .im qI a.2.2.1]) 0 sπ F scis_count rfl rfl (fun _ => rfl) ?hb ?hg
  case hb =>
    intro cdv A outer s H E hp hr C a hA
    unfold w_is_count
    exact (xs_ret (xe_andB (xe_callH h_is_integer hp hr (by decide) (by rfl) (xa_cons (xe_var (pv 0)) xa_nil)) (xe_one (xe_chainD cd_le cd_le (xe_var (pv 1)) (xe_var (pv 0)) (xe_var (pv 2))))))
  case hg =>
    intro a
    simp only [m_is_count, o_is_count, w_is_count, ofO_rt, ofO_rtN, ofO_bind, ofO_some, ofO_if, ofO_up, ofO_lc, ofO_lca, ofO_lc2, ofO_for, ofO_while, ofO_bindF, ofO_no, ofO_optM]
abbrev sis_move : Stmt := top 13
abbrev Nis_move : List Str := ["value", "place"]
theorem scis_move : FnScope ["value", "place"] ["value"] (defScope sis_move) := ⟨rfl, rfl, rfl, by decide +kernel, rfl, by decide +kernel, by decide +kernel⟩
def w_is_move (a : (List Int) × Unit) : W (Fl Bool Empty Unit) :=
  (((((W.ret a.1).bind fun _ => (W.ret true)).bind fun b2 => (W.ret (!b2))).bind fun p9 => (if p9 = true then W.ret true else (((W.ret (1 : Int)).bind fun p4 => (((W.ret a.1).bind fun x3 => (W.ret (x3.length : Int))).bind fun q5 => ((ofO (some (decide (p4 ≤ q5)))).bind fun t7 => (if t7 = true then ((W.ret (24 : Int)).bind fun u6 => (ofO (some (decide (q5 ≤ u6))))) else W.ret false)))).bind fun b8 => (W.ret (!b8))))).bind fun b10 => (if b10 = true then upF ((W.ret false).bind fun x11 => (W.ret (Fl.rt x11))) else (((((W.ret a.1).bind fun xs23 => (lcW (fun (x12 : Int) => (W.ret true)) (fun (x12 : Int) => (((W.ret x12).bind fun x20 => (((W.ret (0 : Int)).bind fun x18 => (((((W.ret a.1).bind fun x13 => (W.ret (x13.length : Int))).bind fun p14 => ((W.ret (1 : Int)).bind fun q15 => (W.ret (p14 - q15)))).bind fun x16 => ((W.ret ()).bind fun y17 => (W.ret (x16, y17)))).bind fun y19 => (W.ret (x18, y19)))).bind fun y21 => (W.ret (x20, y21)))).bind fun a22 => (ofO (m_is_count a22)))) xs23)).bind fun x24 => (W.ret (x24.all id))).bind fun b25 => (W.ret (!b25))).bind fun b26 => (if b26 = true then upF ((W.ret false).bind fun x27 => (W.ret (Fl.rt x27))) else ((((W.ret a.1).bind fun x28 => (W.ret (sortI x28))).bind fun p31 => ((((W.ret a.1).bind fun x29 => (W.ret (x29.length : Int))).bind fun i30 => (ofO (rngC 0 i30))).bind fun q32 => (ofO (some (PyData.eqv ((dL dI).d p31) ((dL dI).d q32)))))).bind fun x33 => (W.ret (Fl.rt x33)))))))
def o_is_move (a : (List Int) × Unit) : Option (Fl Bool Empty Unit) :=
  (((((some a.1).bind fun _ => (some true)).bind fun b2 => (some (!b2))).bind fun p9 => (if p9 = true then some true else (((some (1 : Int)).bind fun p4 => (((some a.1).bind fun x3 => (some (x3.length : Int))).bind fun q5 => ((some (decide (p4 ≤ q5))).bind fun t7 => (if t7 = true then ((some (24 : Int)).bind fun u6 => (some (decide (q5 ≤ u6)))) else some false)))).bind fun b8 => (some (!b8))))).bind fun b10 => (if b10 = true then upO ((some false).bind fun x11 => (some (Fl.rt x11))) else (((((some a.1).bind fun xs23 => (lcO (fun (x12 : Int) => (some true)) (fun (x12 : Int) => (((some x12).bind fun x20 => (((some (0 : Int)).bind fun x18 => (((((some a.1).bind fun x13 => (some (x13.length : Int))).bind fun p14 => ((some (1 : Int)).bind fun q15 => (some (p14 - q15)))).bind fun x16 => ((some ()).bind fun y17 => (some (x16, y17)))).bind fun y19 => (some (x18, y19)))).bind fun y21 => (some (x20, y21)))).bind fun a22 => (m_is_count a22))) xs23)).bind fun x24 => (some (x24.all id))).bind fun b25 => (some (!b25))).bind fun b26 => (if b26 = true then upO ((some false).bind fun x27 => (some (Fl.rt x27))) else ((((some a.1).bind fun x28 => (some (sortI x28))).bind fun p31 => ((((some a.1).bind fun x29 => (some (x29.length : Int))).bind fun i30 => (rngC 0 i30)).bind fun q32 => (some (PyData.eqv ((dL dI).d p31) ((dL dI).d q32))))).bind fun x33 => (some (Fl.rt x33)))))))
def m_is_move (a : (List Int) × Unit) : Option Bool := rtO (o_is_move a)
theorem k_is_move {f : Addr} {fd : FuncData} (F : Fun K "is_move" "is_move" sis_move f fd) (T : Txt K mg) {π : Around → Prop} (sπ : Stb π) (h_is_count : Has P w K mg base π "is_count" 3 ["value", "low", "high"] (SpF (pC qI (pC qI (pC qI p0))).ra qB m_is_count)) : FnP π P w K mg base CX0 4 f fd ["value"] (SpF (pC (qT qI) p0).ra qB m_is_move) := by
  refine fn_okF (p := (pC (qT qI) p0)) (m := w_is_move) (pn := (fun z _ => nomatch z)) (pl := fun _ _ => []) (env := fun a => [.im (qT qI) a.1, .un]) 1 sπ F scis_move rfl rfl (fun _ => rfl) ?hb ?hg
  case hb =>
    intro cdv A outer s H E hp hr C a hA
    unfold w_is_move
    exact (xs_ifx (PW.pt (xw_or (xt_not (xt_val (xe_isi (ans := true) (hk := by decide +kernel) tyT (by rfl) T.isinstance (xe_var (pv 0)) (by rfl) T.tuple (n := "tuple") (by decide +kernel)))) (xw_or1 (xt_not (xt_chainD cd_le cd_le xe_int (xe_len (by rfl) T.len (xq_im (xe_var (pv 0)))) (xe_gintE (by rfl) T.MOST_PLACES_)))))) (xs_ret xe_bl) (xs_ifx (xt_not (xt_val (xe_all rfl (by rfl) T.all (xq_im (xe_N (xn_lc (own := [("place", 1)]) (up := (uN 1 qI)) rfl scis_move.nd (xi_seq (xe_var (pv 0))) (blkOk_by (N := Nis_move) (sc := defScope sis_move) (by decide +kernel)) rfl (fun _ => rfl) (fun _ _ _ _ _ => (xg_name (pg_name (i := 1) scis_move.nd rfl (by first | exact .inl rfl | exact .inr rfl)))) (fun _ _ _ _ _ _ x12 => xts_nil) (fun _ _ _ _ _ _ x12 => (xe_callH h_is_count hp hr (by decide) (by rfl) (xa_cons (xe_var (pv 1)) (xa_cons xe_int (xa_cons (xe_sub (xe_len (by rfl) T.len (xq_im (xe_var (pv 0)))) xe_int) xa_nil))))))))))) (xs_ret xe_bl) (xs_ret (xe_cmpD (cd_eq (dL dI) (dL dI) hr.units) (xe_N (xn_sortedT (by rfl) T.sorted (xq_im (xe_var (pv 0))))) (xe_N (xn_listRg1 rfl (by rfl) T.list (by rfl) T.range (xe_len (by rfl) T.len (xq_im (xe_var (pv 0)))))) rfl))))
  case hg =>
    intro a
    simp only [m_is_move, o_is_move, w_is_move, ofO_rt, ofO_rtN, ofO_bind, ofO_some, ofO_if, ofO_up, ofO_lc, ofO_lca, ofO_lc2, ofO_for, ofO_while, ofO_bindF, ofO_no, ofO_optM]
abbrev sare_moves : Stmt := top 15
abbrev Nare_moves : List Str := ["value", "most", "move"]
theorem scare_moves : FnScope ["value", "most", "move"] ["value", "most"] (defScope sare_moves) := ⟨rfl, rfl, rfl, by decide +kernel, rfl, by decide +kernel, by decide +kernel⟩
def w_are_moves (a : (List (List Int)) × Int × Unit) : W (Fl Bool Empty Unit) :=
  (((((W.ret a.1).bind fun _ => (W.ret true)).bind fun b2 => (W.ret (!b2))).bind fun p9 => (if p9 = true then W.ret true else (((W.ret (1 : Int)).bind fun p4 => (((W.ret a.1).bind fun x3 => (W.ret (x3.length : Int))).bind fun q5 => ((ofO (some (decide (p4 ≤ q5)))).bind fun t7 => (if t7 = true then ((W.ret a.2.1).bind fun u6 => (ofO (some (decide (q5 ≤ u6))))) else W.ret false)))).bind fun b8 => (W.ret (!b8))))).bind fun b10 => (if b10 = true then upF ((W.ret false).bind fun x11 => (W.ret (Fl.rt x11))) else (((((W.ret a.1).bind fun xs16 => (lcW (fun (x12 : (List Int)) => (W.ret true)) (fun (x12 : (List Int)) => (((W.ret x12).bind fun x13 => ((W.ret ()).bind fun y14 => (W.ret (x13, y14)))).bind fun a15 => (ofO (m_is_move a15)))) xs16)).bind fun x17 => (W.ret (x17.all id))).bind fun b18 => (W.ret (!b18))).bind fun b19 => (if b19 = true then upF ((W.ret false).bind fun x20 => (W.ret (Fl.rt x20))) else ((((W.ret a.1).bind fun xs28 => (lcW (fun (x21 : (List Int)) => (W.ret true)) (fun (x21 : (List Int)) => (((W.ret x21).bind fun x22 => (W.ret (x22.length : Int))).bind fun p26 => ((((W.ret a.1).bind fun x23 => ((W.ret (0 : Int)).bind fun i24 => (ofO (L2.atI x23 i24)))).bind fun x25 => (W.ret (x25.length : Int))).bind fun q27 => (ofO (some (decide (p26 = q27))))))) xs28)).bind fun x29 => (W.ret (x29.all id))).bind fun x30 => (W.ret (Fl.rt x30)))))))
def o_are_moves (a : (List (List Int)) × Int × Unit) : Option (Fl Bool Empty Unit) :=
  (((((some a.1).bind fun _ => (some true)).bind fun b2 => (some (!b2))).bind fun p9 => (if p9 = true then some true else (((some (1 : Int)).bind fun p4 => (((some a.1).bind fun x3 => (some (x3.length : Int))).bind fun q5 => ((some (decide (p4 ≤ q5))).bind fun t7 => (if t7 = true then ((some a.2.1).bind fun u6 => (some (decide (q5 ≤ u6)))) else some false)))).bind fun b8 => (some (!b8))))).bind fun b10 => (if b10 = true then upO ((some false).bind fun x11 => (some (Fl.rt x11))) else (((((some a.1).bind fun xs16 => (lcO (fun (x12 : (List Int)) => (some true)) (fun (x12 : (List Int)) => (((some x12).bind fun x13 => ((some ()).bind fun y14 => (some (x13, y14)))).bind fun a15 => (m_is_move a15))) xs16)).bind fun x17 => (some (x17.all id))).bind fun b18 => (some (!b18))).bind fun b19 => (if b19 = true then upO ((some false).bind fun x20 => (some (Fl.rt x20))) else ((((some a.1).bind fun xs28 => (lcO (fun (x21 : (List Int)) => (some true)) (fun (x21 : (List Int)) => (((some x21).bind fun x22 => (some (x22.length : Int))).bind fun p26 => ((((some a.1).bind fun x23 => ((some (0 : Int)).bind fun i24 => (L2.atI x23 i24))).bind fun x25 => (some (x25.length : Int))).bind fun q27 => (some (decide (p26 = q27)))))) xs28)).bind fun x29 => (some (x29.all id))).bind fun x30 => (some (Fl.rt x30)))))))
def m_are_moves (a : (List (List Int)) × Int × Unit) : Option Bool := rtO (o_are_moves a)
theorem k_are_moves {f : Addr} {fd : FuncData} (F : Fun K "are_moves" "are_moves" sare_moves f fd) (T : Txt K mg) {π : Around → Prop} (sπ : Stb π) (h_is_move : Has P w K mg base π "is_move" 4 ["value"] (SpF (pC (qT qI) p0).ra qB m_is_move)) : FnP π P w K mg base CX0 5 f fd ["value", "most"] (SpF (pC (qT (qT qI)) (pC qI p0)).ra qB m_are_moves) := by
  refine fn_okF (p := (pC (qT (qT qI)) (pC qI p0))) (m := w_are_moves) (pn := (fun z _ => nomatch z)) (pl := fun _ _ => []) (env := fun a => [.im (qT (qT qI)) a.1, .im qI a.2.1, .un]) 1 sπ F scare_moves rfl rfl (fun _ => rfl) ?hb ?hg
  case hb =>
    intro cdv A outer s H E hp hr C a hA
    unfold w_are_moves
    exact (xs_ifx (PW.pt (xw_or (xt_not (xt_val (xe_isi (ans := true) (hk := by decide +kernel) tyT (by rfl) T.isinstance (xe_var (pv 0)) (by rfl) T.tuple (n := "tuple") (by decide +kernel)))) (xw_or1 (xt_not (xt_chainD cd_le cd_le xe_int (xe_len (by rfl) T.len (xq_im (xe_var (pv 0)))) (xe_var (pv 1))))))) (xs_ret xe_bl) (xs_ifx (xt_not (xt_val (xe_all rfl (by rfl) T.all (xq_im (xe_N (xn_lc (own := [("move", 2)]) (up := (uN 2 (qT qI))) rfl scare_moves.nd (xi_seq (xe_var (pv 0))) (blkOk_by (N := Nare_moves) (sc := defScope sare_moves) (by decide +kernel)) rfl (fun _ => rfl) (fun _ _ _ _ _ => (xg_name (pg_name (i := 2) scare_moves.nd rfl (by first | exact .inl rfl | exact .inr rfl)))) (fun _ _ _ _ _ _ x12 => xts_nil) (fun _ _ _ _ _ _ x12 => (xe_callH h_is_move hp hr (by decide) (by rfl) (xa_cons (xe_var (pv 2)) xa_nil))))))))) (xs_ret xe_bl) (xs_ret (xe_all rfl (by rfl) T.all (xq_im (xe_N (xn_lc (own := [("move", 2)]) (up := (uN 2 (qT qI))) rfl scare_moves.nd (xi_seq (xe_var (pv 0))) (blkOk_by (N := Nare_moves) (sc := defScope sare_moves) (by decide +kernel)) rfl (fun _ => rfl) (fun _ _ _ _ _ => (xg_name (pg_name (i := 2) scare_moves.nd rfl (by first | exact .inl rfl | exact .inr rfl)))) (fun _ _ _ _ _ _ x21 => xts_nil) (fun _ _ _ _ _ _ x21 => (xe_cmpD cd_eqI (xe_len (by rfl) T.len (xq_im (xe_var (pv 2)))) (xe_len (by rfl) T.len (xq_im (xe_ix (xq_im (xe_var (pv 0))) xe_int))) rfl)))))))))
  case hg =>
    intro a
    simp only [m_are_moves, o_are_moves, w_are_moves, ofO_rt, ofO_rtN, ofO_bind, ofO_some, ofO_if, ofO_up, ofO_lc, ofO_lca, ofO_lc2, ofO_for, ofO_while, ofO_bindF, ofO_no, ofO_optM]
abbrev sjoined_places : Stmt := top 19
abbrev Njoined_places : List Str := ["size", "pairs", "marks", "found", "place", "end", "mark", "old", "new", "places"]
theorem scjoined_places : FnScope ["size", "pairs", "marks", "found", "place", "end", "mark", "old", "new", "places"] ["size", "pairs"] (defScope sjoined_places) := ⟨rfl, rfl, rfl, by decide +kernel, rfl, by decide +kernel, by decide +kernel⟩
def w_joined_places (a : Int × (List (Int × Int)) × Unit) : W (Fl (List (List Int)) Empty Unit) :=
  (((W.ret a.1).bind fun i2 => (ofO (rngC 0 i2))).bind fun (v1 : (List Int)) => ((W.ret a.2.1).bind fun xs30 => bindF (forL (fun (s3 : (List Int)) (x4 : (Int × Int)) => ((((W.ret s3).bind fun x5 => ((W.ret x4.1).bind fun i6 => (ofO (L2.atI x5 i6)))).bind fun x9 => (((W.ret s3).bind fun x7 => ((W.ret x4.2).bind fun i8 => (ofO (L2.atI x7 i8)))).bind fun x10 => (W.ret (x9, x10)))).bind fun (v11 : (Int × Int)) => (((W.ret v11.1).bind fun p12 => ((W.ret v11.2).bind fun q13 => (ofO (some (!decide (p12 = q13)))))).bind fun b14 => bindF (if b14 = true then (((W.ret s3).bind fun xs21 => (lcW (fun (x17 : Int) => (W.ret true)) (fun (x17 : Int) => (((W.ret x17).bind fun p18 => ((W.ret v11.1).bind fun q19 => (ofO (some (decide (p18 = q19)))))).bind fun p20 => (if p20 = true then (W.ret v11.2) else (W.ret x17)))) xs21)).bind fun (v16 : (List Int)) => (W.ret (Fl.nx v16))) else (W.ret (Fl.nx s3))) (fun (s15 : (List Int)) => (W.ret (Fl.nx s15)))))) xs30 v1) (fun (s3 : (List Int)) => (((W.ret s3).bind fun x22 => (W.ret (enumI x22))).bind fun ps25 => ((W.ret (grps ps25 [])).bind fun (G24 : List (Int × List Int)) => ((((W.ret G24).bind fun x26 => (W.ret (x26.map (·.2)))).bind fun xs28 => (lcW (fun (x27 : (List Int)) => (W.ret true)) (fun (x27 : (List Int)) => (W.ret x27)) xs28)).bind fun x29 => (W.ret (Fl.rt x29))))))))
def o_joined_places (a : Int × (List (Int × Int)) × Unit) : Option (Fl (List (List Int)) Empty Unit) :=
  (((some a.1).bind fun i2 => (rngC 0 i2)).bind fun (v1 : (List Int)) => ((some a.2.1).bind fun xs30 => bindFO (forO (fun (s3 : (List Int)) (x4 : (Int × Int)) => ((((some s3).bind fun x5 => ((some x4.1).bind fun i6 => (L2.atI x5 i6))).bind fun x9 => (((some s3).bind fun x7 => ((some x4.2).bind fun i8 => (L2.atI x7 i8))).bind fun x10 => (some (x9, x10)))).bind fun (v11 : (Int × Int)) => (((some v11.1).bind fun p12 => ((some v11.2).bind fun q13 => (some (!decide (p12 = q13))))).bind fun b14 => bindFO (if b14 = true then (((some s3).bind fun xs21 => (lcO (fun (x17 : Int) => (some true)) (fun (x17 : Int) => (((some x17).bind fun p18 => ((some v11.1).bind fun q19 => (some (decide (p18 = q19))))).bind fun p20 => (if p20 = true then (some v11.2) else (some x17)))) xs21)).bind fun (v16 : (List Int)) => (some (Fl.nx v16))) else (some (Fl.nx s3))) (fun (s15 : (List Int)) => (some (Fl.nx s15)))))) xs30 v1) (fun (s3 : (List Int)) => (((some s3).bind fun x22 => (some (enumI x22))).bind fun ps25 => ((some (grps ps25 [])).bind fun (G24 : List (Int × List Int)) => ((((some G24).bind fun x26 => (some (x26.map (·.2)))).bind fun xs28 => (lcO (fun (x27 : (List Int)) => (some true)) (fun (x27 : (List Int)) => (some x27)) xs28)).bind fun x29 => (some (Fl.rt x29))))))))
def m_joined_places (a : Int × (List (Int × Int)) × Unit) : Option (List (List Int)) := rtO (o_joined_places a)
theorem k_joined_places {f : Addr} {fd : FuncData} (F : Fun K "joined_places" "joined_places" sjoined_places f fd) (T : Txt K mg) {π : Around → Prop} (sπ : Stb π) : FnP π P w K mg base CX0 1 f fd ["size", "pairs"] (SpF (pC qI (pC (qL (qP qI qI)) p0)).ra (qT (qT qI)) m_joined_places) := by
  refine fn_okF (p := (pC qI (pC (qL (qP qI qI)) p0))) (m := w_joined_places) (pn := (fun z _ => nomatch z)) (pl := fun _ _ => []) (env := fun a => [.im qI a.1, .im (qL (qP qI qI)) a.2.1, .un, .un, .un, .un, .un, .un, .un, .un]) 8 sπ F scjoined_places rfl rfl (fun _ => rfl) ?hb ?hg
  case hb =>
    intro cdv A outer s H E hp hr C a hA
    unfold w_joined_places
    exact (xs_set (i := 2) (xe_N (xn_listRg1 rfl (by rfl) T.list (by rfl) T.range (xe_var (pv 0)))) (fun v1 => (xs_for (s0 := v1) (up := (uP (uN 4 qI) (uN 5 qI))) (pt := fun (s3 : (List Int)) g => [.im qI a.1, .im (qL (qP qI qI)) a.2.1, .im (qL qI) s3, .un, .un, .un, .un, .un, .un, .un]) PassesOwn.never rfl (xi_seq (xe_var (pv 1))) (xg_pair rfl (xg_name (pg_name (i := 4) scjoined_places.nd rfl (by first | exact .inl rfl | exact .inr rfl))) (xg_name (pg_name (i := 5) scjoined_places.nd rfl (by first | exact .inl rfl | exact .inr rfl)))) (fun _ => (.keep (.keep (.keep (.keep (.keep (.keep (.keep (.keep (.keep (.keep .nil))))))))))) (fun s3 x4 => (xs_asg (up := (uP (uN 7 qI) (uN 8 qI))) (xe_tup2 (xe_ix (xq_im (xe_var (pv 2))) (xe_var (pv 4))) (xe_ix (xq_im (xe_var (pv 2))) (xe_var (pv 5)))) (xg_pair rfl (xg_name (pg_name (i := 7) scjoined_places.nd rfl (by first | exact .inl rfl | exact .inr rfl))) (xg_name (pg_name (i := 8) scjoined_places.nd rfl (by first | exact .inl rfl | exact .inr rfl)))) (fun v11 => (xs_if (pt := fun (s15 : (List Int)) g => [.im qI a.1, .im (qL (qP qI qI)) a.2.1, .im (qL qI) s15, .un, .im qI x4.1, .im qI x4.2, .un, .im qI v11.1, .im qI v11.2, .un]) (xt_cmpD cd_neI (xe_var (pv 7)) (xe_var (pv 8)) rfl) (xs_setLc (i := 2) (own := [("mark", 6)]) (up := (uN 6 qI)) rfl scjoined_places.nd rfl rfl (sw_true rfl rfl rfl (by decide +kernel)) (xi_seq (xe_var (pv 2))) (blkOk_by (N := Njoined_places) (sc := defScope sjoined_places) (by decide +kernel)) rfl (fun _ => rfl) (fun _ _ _ _ _ => (xg_name (pg_name (i := 6) scjoined_places.nd rfl (by first | exact .inl rfl | exact .inr rfl)))) (fun _ _ _ _ _ _ x17 => xts_nil) (fun _ _ _ _ _ _ x17 => (xe_if (xt_cmpD cd_eqI (xe_var (pv 6)) (xe_var (pv 7)) rfl) (xe_var (pv 8)) (xe_var (pv 6)))) (fun v16 => (xs_nil (fun _ => (.keep (.keep (.keep (.keep (.keep (.keep (.keep (.keep (.keep (.keep .nil)))))))))))))) (xs_nil (fun _ => (.keep (.keep (.keep (.keep (.keep (.keep (.keep (.keep (.keep (.keep .nil)))))))))))) (fun s15 => (xs_nil (fun _ => (.keep (.keep (.keep (.keep (.drop (.drop (.keep (.drop (.drop (.keep .nil))))))))))))))))) (fun s3 => (xs_grpsB (up := (uP (uN 4 qI) (uN 6 qI))) (fi := 3) (mi := 6) (pi := 4) PassesOwn.never rfl (fun _ => (xi_enL (by rfl) T.enumerate (xe_var (pv 2)))) (xg_pairW rfl (xg_name (pg_name (i := 4) scjoined_places.nd rfl (by first | exact .inl rfl | exact .inr rfl))) (xg_name (pg_name (i := 6) scjoined_places.nd rfl (by first | exact .inl rfl | exact .inr rfl)))) (ps_grp (pv 3) (pv 6) (pv 4) ⟨rfl, rfl, rfl, rfl⟩ rfl rfl rfl rfl rfl rfl) (fun G24 => (xs_ret (xe_tuple (by rfl) T.tuple (xq_im (xe_N (xn_lc (own := [("places", 9)]) (up := (uN 9 (qL qI))) rfl scjoined_places.nd (xi_vals (xe_var (pv 3))) (blkOk_by (N := Njoined_places) (sc := defScope sjoined_places) (by decide +kernel)) rfl (fun _ => rfl) (fun _ _ _ _ _ => (xg_name (pg_name (i := 9) scjoined_places.nd rfl (by first | exact .inl rfl | exact .inr rfl)))) (fun _ _ _ _ _ _ x27 => xts_nil) (fun _ _ _ _ _ _ x27 => (xe_tuple (by rfl) T.tuple (xq_im (xe_var (pv 9))))))))))) scjoined_places.nd rfl (.inl rfl) rfl rfl rfl (by intro j hj; simp [uP, uN] at hj; rcases hj with rfl | rfl <;> rfl) (fun _ => (.keep (.keep (.keep (.keep (.drop (.keep (.drop (.keep (.keep (.keep .nil))))))))))) (by decide) (fun _ => rfl) (fun _ => rfl))))) scjoined_places.nd rfl (.inl rfl) rfl rfl)
  case hg =>
    intro a
    simp only [m_joined_places, o_joined_places, w_joined_places, ofO_rt, ofO_rtN, ofO_bind, ofO_some, ofO_if, ofO_up, ofO_lc, ofO_lca, ofO_lc2, ofO_for, ofO_while, ofO_bindF, ofO_no, ofO_optM]
abbrev splaces_of_moves : Stmt := top 20
abbrev Nplaces_of_moves : List Str := ["told", "pairs", "move"]
theorem scplaces_of_moves : FnScope ["told", "pairs", "move"] ["told"] (defScope splaces_of_moves) := ⟨rfl, rfl, rfl, by decide +kernel, rfl, by decide +kernel, by decide +kernel⟩
def w_places_of_moves (a : (List (List Int)) × Unit) : W (Fl (List (List Int)) Empty Unit) :=
  ((W.ret ([] : List (Int × Int))).bind fun (v1 : (List (Int × Int))) => ((W.ret a.1).bind fun xs16 => bindF (forL (fun (s2 : (List (Int × Int))) (x3 : (List Int)) => (((W.ret x3).bind fun x6 => (W.ret (enumI x6))).bind fun v4 => ((ofO (catC s2 v4)).bind fun (l5 : (List (Int × Int))) => (W.ret (Fl.nx l5))))) xs16 v1) (fun (s2 : (List (Int × Int))) => ((((((W.ret a.1).bind fun x7 => ((W.ret (0 : Int)).bind fun i8 => (ofO (L2.atI x7 i8)))).bind fun x9 => (W.ret (x9.length : Int))).bind fun x12 => (((W.ret s2).bind fun x10 => ((W.ret ()).bind fun y11 => (W.ret (x10, y11)))).bind fun y13 => (W.ret (x12, y13)))).bind fun a14 => (ofO (m_joined_places a14))).bind fun x15 => (W.ret (Fl.rt x15))))))
def o_places_of_moves (a : (List (List Int)) × Unit) : Option (Fl (List (List Int)) Empty Unit) :=
  ((some ([] : List (Int × Int))).bind fun (v1 : (List (Int × Int))) => ((some a.1).bind fun xs16 => bindFO (forO (fun (s2 : (List (Int × Int))) (x3 : (List Int)) => (((some x3).bind fun x6 => (some (enumI x6))).bind fun v4 => ((catC s2 v4).bind fun (l5 : (List (Int × Int))) => (some (Fl.nx l5))))) xs16 v1) (fun (s2 : (List (Int × Int))) => ((((((some a.1).bind fun x7 => ((some (0 : Int)).bind fun i8 => (L2.atI x7 i8))).bind fun x9 => (some (x9.length : Int))).bind fun x12 => (((some s2).bind fun x10 => ((some ()).bind fun y11 => (some (x10, y11)))).bind fun y13 => (some (x12, y13)))).bind fun a14 => (m_joined_places a14)).bind fun x15 => (some (Fl.rt x15))))))
def m_places_of_moves (a : (List (List Int)) × Unit) : Option (List (List Int)) := rtO (o_places_of_moves a)
theorem k_places_of_moves {f : Addr} {fd : FuncData} (F : Fun K "places_of_moves" "places_of_moves" splaces_of_moves f fd) (T : Txt K mg) {π : Around → Prop} (sπ : Stb π) (h_joined_places : Has P w K mg base π "joined_places" 1 ["size", "pairs"] (SpF (pC qI (pC (qL (qP qI qI)) p0)).ra (qT (qT qI)) m_joined_places)) : FnP π P w K mg base CX0 2 f fd ["told"] (SpF (pC (qT (qT qI)) p0).ra (qT (qT qI)) m_places_of_moves) := by
  refine fn_okF (p := (pC (qT (qT qI)) p0)) (m := w_places_of_moves) (pn := (fun z _ => nomatch z)) (pl := fun _ _ => []) (env := fun a => [.im (qT (qT qI)) a.1, .un, .un]) 2 sπ F scplaces_of_moves rfl rfl (fun _ => rfl) ?hb ?hg
  case hb =>
    intro cdv A outer s H E hp hr C a hA
    unfold w_places_of_moves
    exact (xs_setN (i := 1) (xn_nil (r := (qP qI qI))) (fun v1 => (xs_for (s0 := v1) (up := (uN 2 (qT qI))) (pt := fun (s2 : (List (Int × Int))) g => [.im (qT (qT qI)) a.1, .ow (qP qI qI) s2, .un]) PassesOwn.never rfl (xi_seq (xe_var (pv 0))) (xg_name (pg_name (i := 2) scplaces_of_moves.nd rfl (by first | exact .inl rfl | exact .inr rfl))) (fun _ => (.keep (.keep (.keep .nil)))) (fun s2 x3 => (xs_ext (i := 1) (fun l5 => (xs_nil (fun _ => (.keep (.keep (.drop .nil)))))) (pe_bm PySem.F.plainAttrs_list PySem.F.slot_list_extend PySem.F.type_list_extend mt_extend (pv 1) (pa_cons (xn_listEn rfl (by rfl) T.list (by rfl) T.enumerate (xe_var (pv 2))) pa_nil)))) (fun s2 => (xs_frz 1 hA (xs_ret (xe_callH h_joined_places hp hr (by decide) (by rfl) (xa_cons (xe_len (by rfl) T.len (xq_im (xe_ix (xq_im (xe_var (pv 0))) xe_int))) (xa_cons (xe_var (pv 1)) xa_nil)))))))) scplaces_of_moves.nd rfl (.inl rfl) rfl rfl)
  case hg =>
    intro a
    simp only [m_places_of_moves, o_places_of_moves, w_places_of_moves, ofO_rt, ofO_rtN, ofO_bind, ofO_some, ofO_if, ofO_up, ofO_lc, ofO_lca, ofO_lc2, ofO_for, ofO_while, ofO_bindF, ofO_no, ofO_optM]
abbrev scheck_move : Stmt := top 14
abbrev Ncheck_move : List Str := ["value"]
theorem sccheck_move : FnScope ["value"] ["value"] (defScope scheck_move) := ⟨rfl, rfl, rfl, by decide +kernel, rfl, by decide +kernel, by decide +kernel⟩
def w_check_move (a : (List Int) × Unit) : W (Fl Unit Unit Unit) :=
  (((((W.ret a.1).bind fun x1 => ((W.ret ()).bind fun y2 => (W.ret (x1, y2)))).bind fun a3 => (ofO (m_is_move a3))).bind fun b4 => (W.ret (!b4))).bind fun b5 => (if b5 = true then upF W.no else (W.ret (Fl.nx ()))))
def o_check_move (a : (List Int) × Unit) : Option (Fl Unit Unit Unit) :=
  (((((some a.1).bind fun x1 => ((some ()).bind fun y2 => (some (x1, y2)))).bind fun a3 => (m_is_move a3)).bind fun b4 => (some (!b4))).bind fun b5 => (if b5 = true then upO none else (some (Fl.nx ()))))
def m_check_move (a : (List Int) × Unit) : Option Unit := rtNO (o_check_move a)
theorem k_check_move {f : Addr} {fd : FuncData} (F : Fun K "check_move" "check_move" scheck_move f fd) (T : Txt K mg) {π : Around → Prop} (sπ : Stb π) (h_is_move : Has P w K mg base π "is_move" 4 ["value"] (SpF (pC (qT qI) p0).ra qB m_is_move)) : FnP π P w K mg base CX0 5 f fd ["value"] (SpF (pC (qT qI) p0).ra qN m_check_move) := by
  refine fn_okN (p := (pC (qT qI) p0)) (m := w_check_move) (pn := (fun _ g => [.un])) (pl := fun _ _ => []) (env := fun a => [.im (qT qI) a.1]) 0 sπ F sccheck_move rfl rfl (fun _ => rfl) ?hb ?hg
  case hb =>
    intro cdv A outer s H E hp hr C a hA
    unfold w_check_move
    exact (xs_ifx (xt_not (xt_val (xe_callH h_is_move hp hr (by decide) (by rfl) (xa_cons (xe_var (pv 0)) xa_nil)))) xs_never (xs_nil (fun _ => (.drop .nil))))
  case hg =>
    intro a
    simp only [m_check_move, o_check_move, w_check_move, ofO_rt, ofO_rtN, ofO_bind, ofO_some, ofO_if, ofO_up, ofO_lc, ofO_lca, ofO_lc2, ofO_for, ofO_while, ofO_bindF, ofO_no, ofO_optM]
abbrev scycles : Stmt := top 17
abbrev Ncycles : List Str := ["move", "start", "found", "seen", "cycle", "place"]
theorem sccycles : FnScope ["move", "start", "found", "seen", "cycle", "place"] ["move"] (defScope scycles) := ⟨rfl, rfl, rfl, by decide +kernel, rfl, by decide +kernel, by decide +kernel⟩
def w_cycles (a : (List Int) × Unit) : W (Fl (List (List Int)) Empty Unit) :=
  ((((W.ret a.1).bind fun x1 => ((W.ret ()).bind fun y2 => (W.ret (x1, y2)))).bind fun a3 => (ofO (m_check_move a3))).bind fun _v4 => ((W.ret ([] : List (List Int))).bind fun (v5 : (List (List Int))) => (((((W.ret false).bind fun x7 => ((W.ret []).bind fun y8 => (W.ret (x7 :: y8)))).bind fun x9 => (ofO (lenK x9))).bind fun x11 => (((W.ret a.1).bind fun x10 => (W.ret (x10.length : Int))).bind fun k12 => (ofO (repC x11 k12)))).bind fun (v6 : (List Bool)) => ((((W.ret a.1).bind fun x13 => (W.ret (x13.length : Int))).bind fun i14 => (ofO (rngC 0 i14))).bind fun xs37 => bindF (forL (fun (s15 : ((List (List Int)) × (List Bool))) (x16 : Int) => (((W.ret s15.2).bind fun x17 => ((W.ret x16).bind fun i18 => (ofO (L2.atI x17 i18)))).bind fun b19 => (if b19 = true then upF (W.ret (Fl.ct (s15.1, s15.2))) else ((W.ret ([] : List Int)).bind fun (v20 : (List Int)) => ((W.ret x16).bind fun (v21 : Int) => (bindF (whileL (fun (s22 : ((List Bool) × (List Int) × Int)) => (((W.ret s22.1).bind fun x23 => ((W.ret s22.2.2).bind fun i24 => (ofO (L2.atI x23 i24)))).bind fun b25 => (W.ret (!b25)))) (fun (s22 : ((List Bool) × (List Int) × Int)) => ((W.ret true).bind fun v26 => ((W.ret s22.2.2).bind fun j27 => ((ofO (setC s22.1 j27 v26)).bind fun (l28 : (List Bool)) => ((W.ret s22.2.2).bind fun v29 => ((ofO (addO s22.2.1 v29)).bind fun (l30 : (List Int)) => (((W.ret a.1).bind fun x32 => ((W.ret s22.2.2).bind fun i33 => (ofO (L2.atI x32 i33)))).bind fun (v31 : Int) => (W.ret (Fl.nx (l28, l30, v31)))))))))) 100 (s15.2, v20, v21)) (fun (s22 : ((List Bool) × (List Int) × Int)) => ((W.ret s22.2.1).bind fun v34 => ((ofO (addO s15.1 v34)).bind fun (l35 : (List (List Int))) => (W.ret (Fl.nx (l35, s22.1)))))))))))) xs37 (v5, v6)) (fun (s15 : ((List (List Int)) × (List Bool))) => ((W.ret s15.1).bind fun x36 => (W.ret (Fl.rt x36))))))))
def o_cycles (a : (List Int) × Unit) : Option (Fl (List (List Int)) Empty Unit) :=
  ((((some a.1).bind fun x1 => ((some ()).bind fun y2 => (some (x1, y2)))).bind fun a3 => (m_check_move a3)).bind fun _v4 => ((some ([] : List (List Int))).bind fun (v5 : (List (List Int))) => (((((some false).bind fun x7 => ((some []).bind fun y8 => (some (x7 :: y8)))).bind fun x9 => (lenK x9)).bind fun x11 => (((some a.1).bind fun x10 => (some (x10.length : Int))).bind fun k12 => (repC x11 k12))).bind fun (v6 : (List Bool)) => ((((some a.1).bind fun x13 => (some (x13.length : Int))).bind fun i14 => (rngC 0 i14)).bind fun xs37 => bindFO (forO (fun (s15 : ((List (List Int)) × (List Bool))) (x16 : Int) => (((some s15.2).bind fun x17 => ((some x16).bind fun i18 => (L2.atI x17 i18))).bind fun b19 => (if b19 = true then upO (some (Fl.ct (s15.1, s15.2))) else ((some ([] : List Int)).bind fun (v20 : (List Int)) => ((some x16).bind fun (v21 : Int) => (bindFO (whileO (fun (s22 : ((List Bool) × (List Int) × Int)) => (((some s22.1).bind fun x23 => ((some s22.2.2).bind fun i24 => (L2.atI x23 i24))).bind fun b25 => (some (!b25)))) (fun (s22 : ((List Bool) × (List Int) × Int)) => ((some true).bind fun v26 => ((some s22.2.2).bind fun j27 => ((setC s22.1 j27 v26).bind fun (l28 : (List Bool)) => ((some s22.2.2).bind fun v29 => ((addO s22.2.1 v29).bind fun (l30 : (List Int)) => (((some a.1).bind fun x32 => ((some s22.2.2).bind fun i33 => (L2.atI x32 i33))).bind fun (v31 : Int) => (some (Fl.nx (l28, l30, v31)))))))))) 100 (s15.2, v20, v21)) (fun (s22 : ((List Bool) × (List Int) × Int)) => ((some s22.2.1).bind fun v34 => ((addO s15.1 v34).bind fun (l35 : (List (List Int))) => (some (Fl.nx (l35, s22.1)))))))))))) xs37 (v5, v6)) (fun (s15 : ((List (List Int)) × (List Bool))) => ((some s15.1).bind fun x36 => (some (Fl.rt x36))))))))
def m_cycles (a : (List Int) × Unit) : Option (List (List Int)) := rtO (o_cycles a)
theorem k_cycles {f : Addr} {fd : FuncData} (F : Fun K "cycles" "cycles" scycles f fd) (T : Txt K mg) {π : Around → Prop} (sπ : Stb π) (h_check_move : Has P w K mg base π "check_move" 5 ["value"] (SpF (pC (qT qI) p0).ra qN m_check_move)) : FnP π P w K mg base CX0 6 f fd ["move"] (SpF (pC (qT qI) p0).ra (qT (qT qI)) m_cycles) := by
  refine fn_okF (p := (pC (qT qI) p0)) (m := w_cycles) (pn := (fun z _ => nomatch z)) (pl := fun _ _ => []) (env := fun a => [.im (qT qI) a.1, .un, .un, .un, .un, .un]) 5 sπ F sccycles rfl rfl (fun _ => rfl) ?hb ?hg
  case hb =>
    intro cdv A outer s H E hp hr C a hA
    unfold w_cycles
    exact (xs_exp (xe_callH h_check_move hp hr (by decide) (by rfl) (xa_cons (xe_var (pv 0)) xa_nil)) (fun _v4 => (xs_parNN (env := fun g => [.im (qT qI) a.1, .un, .un, .un, .un, .un]) (i := 2) (j := 3) (xn_nil (r := (qT qI))) (fun _ => (xn_rep (xn_lst (xa_consL xe_bl xa_nilL)) (fun _ => (xe_len (by rfl) T.len (xq_im (xe_var (pv 0))))))) (fun v5 v6 => (xs_for (s0 := (v5, v6)) (up := (uN 1 qI)) (pt := fun (s15 : ((List (List Int)) × (List Bool))) g => [.im (qT qI) a.1, .un, .ow (qT qI) s15.1, .ow qB s15.2, .un, .un]) PassesOwn.never rfl (xi_rng1 (by rfl) T.range (xe_len (by rfl) T.len (xq_im (xe_var (pv 0))))) (xg_name (pg_name (i := 1) sccycles.nd rfl (by first | exact .inl rfl | exact .inr rfl))) (fun _ => (.keep (.keep (.keep (.keep (.keep (.keep .nil))))))) (fun s15 x16 => (xs_ifx (xt_val (xe_ix (xq_own (pv 3)) (xe_var (pv 1)))) (xs_cont (fun _ => (.keep (.drop (.keep (.keep (.keep (.keep .nil)))))))) (xs_parN1 (env := fun g => [.im (qT qI) a.1, .im qI x16, .ow (qT qI) s15.1, .ow qB s15.2, .un, .un]) (i := 4) (j := 5) (xn_nil (r := qI)) (fun _ => (xe_var (pv 1))) (fun v20 v21 => (xs_while (s0 := (s15.2, v20, v21)) (pt := fun (s22 : ((List Bool) × (List Int) × Int)) g => [.im (qT qI) a.1, .im qI x16, .ow (qT qI) s15.1, .ow qB s22.1, .ow qI s22.2.1, .im qI s22.2.2]) PassesOwn.never (fun _ => (.keep (.keep (.keep (.keep (.keep (.keep .nil))))))) (fun s22 => (xt_not (xt_val (xe_ix (xq_own (pv 3)) (xe_var (pv 5)))))) (fun s22 => (xs_oset (i := 3) xe_bl (pv 3) (xe_var (pv 5)) (fun l28 => (xs_app (i := 4) (pv 4) (xe_var (pv 5)) (fun l30 => (xs_set (i := 5) (xe_ix (xq_im (xe_var (pv 0))) (xe_var (pv 5))) (fun v31 => (xs_nil (fun _ => (.keep (.keep (.keep (.keep (.keep (.keep .nil))))))))) sccycles.nd rfl (.inl rfl) rfl rfl)) (hb := pe_bm PySem.F.plainAttrs_list PySem.F.slot_list_append PySem.F.type_list_append mt_append (pv 4) (pa_cons (xe_var (pv 5)) pa_nil)))))) (fun s22 => (xs_app (i := 2) (pv 2) (xe_tuple (by rfl) T.tuple (xq_own (pv 4))) (fun l35 => (xs_nil (fun _ => (.keep (.drop (.keep (.keep (.drop (.drop .nil))))))))) (hb := pe_bm PySem.F.plainAttrs_list PySem.F.slot_list_append PySem.F.type_list_append mt_append (pv 2) (pa_cons (xe_tuple (by rfl) T.tuple (xq_own (pv 4))) pa_nil)))))) rfl sccycles.nd rfl rfl (by decide) rfl rfl rfl))) (fun s15 => (xs_ret (xe_tuple (by rfl) T.tuple (xq_own (pv 2))))))) rfl sccycles.nd rfl rfl (by decide) rfl rfl rfl)))
  case hg =>
    intro a
    simp only [m_cycles, o_cycles, w_cycles, ofO_rt, ofO_rtN, ofO_bind, ofO_some, ofO_if, ofO_up, ofO_lc, ofO_lca, ofO_lc2, ofO_for, ofO_while, ofO_bindF, ofO_no, ofO_optM]
abbrev sleast_number : Stmt := top 21
abbrev Nleast_number : List Str := ["move"]
theorem scleast_number : FnScope ["move"] ["move"] (defScope sleast_number) := ⟨rfl, rfl, rfl, by decide +kernel, rfl, by decide +kernel, by decide +kernel⟩
def w_least_number (a : (List Int) × Unit) : W (Fl Int Empty Unit) :=
  ((((W.ret a.1).bind fun x1 => ((W.ret ()).bind fun y2 => (W.ret (x1, y2)))).bind fun a3 => (ofO (m_check_move a3))).bind fun _v4 => ((((W.ret a.1).bind fun x5 => (W.ret (x5.length : Int))).bind fun p10 => (((((W.ret a.1).bind fun x6 => ((W.ret ()).bind fun y7 => (W.ret (x6, y7)))).bind fun a8 => (ofO (m_cycles a8))).bind fun x9 => (W.ret (x9.length : Int))).bind fun q11 => (W.ret (p10 - q11)))).bind fun x12 => (W.ret (Fl.rt x12))))
def o_least_number (a : (List Int) × Unit) : Option (Fl Int Empty Unit) :=
  ((((some a.1).bind fun x1 => ((some ()).bind fun y2 => (some (x1, y2)))).bind fun a3 => (m_check_move a3)).bind fun _v4 => ((((some a.1).bind fun x5 => (some (x5.length : Int))).bind fun p10 => (((((some a.1).bind fun x6 => ((some ()).bind fun y7 => (some (x6, y7)))).bind fun a8 => (m_cycles a8)).bind fun x9 => (some (x9.length : Int))).bind fun q11 => (some (p10 - q11)))).bind fun x12 => (some (Fl.rt x12))))
def m_least_number (a : (List Int) × Unit) : Option Int := rtO (o_least_number a)
theorem k_least_number {f : Addr} {fd : FuncData} (F : Fun K "least_number" "least_number" sleast_number f fd) (T : Txt K mg) {π : Around → Prop} (sπ : Stb π) (h_check_move : Has P w K mg base π "check_move" 5 ["value"] (SpF (pC (qT qI) p0).ra qN m_check_move)) (h_cycles : Has P w K mg base π "cycles" 6 ["move"] (SpF (pC (qT qI) p0).ra (qT (qT qI)) m_cycles)) : FnP π P w K mg base CX0 7 f fd ["move"] (SpF (pC (qT qI) p0).ra qI m_least_number) := by
  refine fn_okF (p := (pC (qT qI) p0)) (m := w_least_number) (pn := (fun z _ => nomatch z)) (pl := fun _ _ => []) (env := fun a => [.im (qT qI) a.1]) 0 sπ F scleast_number rfl rfl (fun _ => rfl) ?hb ?hg
  case hb =>
    intro cdv A outer s H E hp hr C a hA
    unfold w_least_number
    exact (xs_exp (xe_callH h_check_move hp hr (by decide) (by rfl) (xa_cons (xe_var (pv 0)) xa_nil)) (fun _v4 => (xs_ret (xe_sub (xe_len (by rfl) T.len (xq_im (xe_var (pv 0)))) (xe_len (by rfl) T.len (xq_im (xe_callH h_cycles hp hr (by decide) (by rfl) (xa_cons (xe_var (pv 0)) xa_nil))))))))
  case hg =>
    intro a
    simp only [m_least_number, o_least_number, w_least_number, ofO_rt, ofO_rtN, ofO_bind, ofO_some, ofO_if, ofO_up, ofO_lc, ofO_lca, ofO_lc2, ofO_for, ofO_while, ofO_bindF, ofO_no, ofO_optM]
abbrev sidle_move : Stmt := top 16
abbrev Nidle_move : List Str := ["size"]
theorem scidle_move : FnScope ["size"] ["size"] (defScope sidle_move) := ⟨rfl, rfl, rfl, by decide +kernel, rfl, by decide +kernel, by decide +kernel⟩
def w_idle_move (a : Int × Unit) : W (Fl (List Int) Empty Unit) :=
  (((W.ret a.1).bind fun i1 => (ofO (rngC 0 i1))).bind fun x2 => (W.ret (Fl.rt x2)))
def o_idle_move (a : Int × Unit) : Option (Fl (List Int) Empty Unit) :=
  (((some a.1).bind fun i1 => (rngC 0 i1)).bind fun x2 => (some (Fl.rt x2)))
def m_idle_move (a : Int × Unit) : Option (List Int) := rtO (o_idle_move a)
theorem k_idle_move {f : Addr} {fd : FuncData} (F : Fun K "idle_move" "idle_move" sidle_move f fd) (T : Txt K mg) {π : Around → Prop} (sπ : Stb π) : FnP π P w K mg base CX0 1 f fd ["size"] (SpF (pC qI p0).ra (qT qI) m_idle_move) := by
  refine fn_okF (p := (pC qI p0)) (m := w_idle_move) (pn := (fun z _ => nomatch z)) (pl := fun _ _ => []) (env := fun a => [.im qI a.1]) 0 sπ F scidle_move rfl rfl (fun _ => rfl) ?hb ?hg
  case hb =>
    intro cdv A outer s H E hp hr C a hA
    unfold w_idle_move
    exact (xs_ret (xe_tupRg1 rfl (by rfl) T.tuple (by rfl) T.range (xe_var (pv 0))))
  case hg =>
    intro a
    simp only [m_idle_move, o_idle_move, w_idle_move, ofO_rt, ofO_rtN, ofO_bind, ofO_some, ofO_if, ofO_up, ofO_lc, ofO_lca, ofO_lc2, ofO_for, ofO_while, ofO_bindF, ofO_no, ofO_optM]
abbrev sthen : Stmt := top 28
abbrev Nthen : List Str := ["one", "other", "place"]
theorem scthen : FnScope ["one", "other", "place"] ["one", "other"] (defScope sthen) := ⟨rfl, rfl, rfl, by decide +kernel, rfl, by decide +kernel, by decide +kernel⟩
def w_then (a : (List Int) × (List Int) × Unit) : W (Fl (List Int) Empty Unit) :=
  (((W.ret a.1).bind fun xs4 => (lcW (fun (x1 : Int) => (W.ret true)) (fun (x1 : Int) => ((W.ret a.2.1).bind fun x2 => ((W.ret x1).bind fun i3 => (ofO (L2.atI x2 i3))))) xs4)).bind fun x5 => (W.ret (Fl.rt x5)))
def o_then (a : (List Int) × (List Int) × Unit) : Option (Fl (List Int) Empty Unit) :=
  (((some a.1).bind fun xs4 => (lcO (fun (x1 : Int) => (some true)) (fun (x1 : Int) => ((some a.2.1).bind fun x2 => ((some x1).bind fun i3 => (L2.atI x2 i3)))) xs4)).bind fun x5 => (some (Fl.rt x5)))
def m_then (a : (List Int) × (List Int) × Unit) : Option (List Int) := rtO (o_then a)
theorem k_then {f : Addr} {fd : FuncData} (F : Fun K "_then" "_then" sthen f fd) (T : Txt K mg) {π : Around → Prop} (sπ : Stb π) : FnP π P w K mg base CX0 1 f fd ["one", "other"] (SpF (pC (qT qI) (pC (qT qI) p0)).ra (qT qI) m_then) := by
  refine fn_okF (p := (pC (qT qI) (pC (qT qI) p0))) (m := w_then) (pn := (fun z _ => nomatch z)) (pl := fun _ _ => []) (env := fun a => [.im (qT qI) a.1, .im (qT qI) a.2.1, .un]) 1 sπ F scthen rfl rfl (fun _ => rfl) ?hb ?hg
  case hb =>
    intro cdv A outer s H E hp hr C a hA
    unfold w_then
    exact (xs_ret (xe_tuple (by rfl) T.tuple (xq_im (xe_N (xn_lc (own := [("place", 2)]) (up := (uN 2 qI)) rfl scthen.nd (xi_seq (xe_var (pv 0))) (blkOk_by (N := Nthen) (sc := defScope sthen) (by decide +kernel)) rfl (fun _ => rfl) (fun _ _ _ _ _ => (xg_name (pg_name (i := 2) scthen.nd rfl (by first | exact .inl rfl | exact .inr rfl)))) (fun _ _ _ _ _ _ x1 => xts_nil) (fun _ _ _ _ _ _ x1 => (xe_ix (xq_im (xe_var (pv 1))) (xe_var (pv 2)))))))))
  case hg =>
    intro a
    simp only [m_then, o_then, w_then, ofO_rt, ofO_rtN, ofO_bind, ofO_some, ofO_if, ofO_up, ofO_lc, ofO_lca, ofO_lc2, ofO_for, ofO_while, ofO_bindF, ofO_no, ofO_optM]
abbrev sproduct : Stmt := top 27
abbrev Nproduct : List Str := ["row", "made", "move"]
theorem scproduct : FnScope ["row", "made", "move"] ["row"] (defScope sproduct) := ⟨rfl, rfl, rfl, by decide +kernel, rfl, by decide +kernel, by decide +kernel⟩
def w_product (a : (List (List Int)) × Unit) : W (Fl (List Int) Empty Unit) :=
  ((((((W.ret a.1).bind fun x2 => ((W.ret (0 : Int)).bind fun i3 => (ofO (L2.atI x2 i3)))).bind fun x4 => (W.ret (x4.length : Int))).bind fun x5 => ((W.ret ()).bind fun y6 => (W.ret (x5, y6)))).bind fun a7 => (ofO (m_idle_move a7))).bind fun (v1 : (List Int)) => ((W.ret a.1).bind fun xs17 => bindF (forL (fun (s8 : (List Int)) (x9 : (List Int)) => ((((W.ret s8).bind fun x13 => (((W.ret x9).bind fun x11 => ((W.ret ()).bind fun y12 => (W.ret (x11, y12)))).bind fun y14 => (W.ret (x13, y14)))).bind fun a15 => (ofO (m_then a15))).bind fun (v10 : (List Int)) => (W.ret (Fl.nx v10)))) xs17 v1) (fun (s8 : (List Int)) => ((W.ret s8).bind fun x16 => (W.ret (Fl.rt x16))))))
def o_product (a : (List (List Int)) × Unit) : Option (Fl (List Int) Empty Unit) :=
  ((((((some a.1).bind fun x2 => ((some (0 : Int)).bind fun i3 => (L2.atI x2 i3))).bind fun x4 => (some (x4.length : Int))).bind fun x5 => ((some ()).bind fun y6 => (some (x5, y6)))).bind fun a7 => (m_idle_move a7)).bind fun (v1 : (List Int)) => ((some a.1).bind fun xs17 => bindFO (forO (fun (s8 : (List Int)) (x9 : (List Int)) => ((((some s8).bind fun x13 => (((some x9).bind fun x11 => ((some ()).bind fun y12 => (some (x11, y12)))).bind fun y14 => (some (x13, y14)))).bind fun a15 => (m_then a15)).bind fun (v10 : (List Int)) => (some (Fl.nx v10)))) xs17 v1) (fun (s8 : (List Int)) => ((some s8).bind fun x16 => (some (Fl.rt x16))))))
def m_product (a : (List (List Int)) × Unit) : Option (List Int) := rtO (o_product a)
theorem k_product {f : Addr} {fd : FuncData} (F : Fun K "_product" "_product" sproduct f fd) (T : Txt K mg) {π : Around → Prop} (sπ : Stb π) (h_idle_move : Has P w K mg base π "idle_move" 1 ["size"] (SpF (pC qI p0).ra (qT qI) m_idle_move)) (h_then : Has P w K mg base π "_then" 1 ["one", "other"] (SpF (pC (qT qI) (pC (qT qI) p0)).ra (qT qI) m_then)) : FnP π P w K mg base CX0 2 f fd ["row"] (SpF (pC (qT (qT qI)) p0).ra (qT qI) m_product) := by
  refine fn_okF (p := (pC (qT (qT qI)) p0)) (m := w_product) (pn := (fun z _ => nomatch z)) (pl := fun _ _ => []) (env := fun a => [.im (qT (qT qI)) a.1, .un, .un]) 2 sπ F scproduct rfl rfl (fun _ => rfl) ?hb ?hg
  case hb =>
    intro cdv A outer s H E hp hr C a hA
    unfold w_product
    exact (xs_set (i := 1) (xe_callH h_idle_move hp hr (by decide) (by rfl) (xa_cons (xe_len (by rfl) T.len (xq_im (xe_ix (xq_im (xe_var (pv 0))) xe_int))) xa_nil)) (fun v1 => (xs_for (s0 := v1) (up := (uN 2 (qT qI))) (pt := fun (s8 : (List Int)) g => [.im (qT (qT qI)) a.1, .im (qT qI) s8, .un]) PassesOwn.never rfl (xi_seq (xe_var (pv 0))) (xg_name (pg_name (i := 2) scproduct.nd rfl (by first | exact .inl rfl | exact .inr rfl))) (fun _ => (.keep (.keep (.keep .nil)))) (fun s8 x9 => (xs_set (i := 1) (xe_callH h_then hp hr (by decide) (by rfl) (xa_cons (xe_var (pv 1)) (xa_cons (xe_var (pv 2)) xa_nil))) (fun v10 => (xs_nil (fun _ => (.keep (.keep (.drop .nil)))))) scproduct.nd rfl (.inl rfl) rfl rfl)) (fun s8 => (xs_ret (xe_var (pv 1)))))) scproduct.nd rfl (.inl rfl) rfl rfl)
  case hg =>
    intro a
    simp only [m_product, o_product, w_product, ofO_rt, ofO_rtN, ofO_bind, ofO_some, ofO_if, ofO_up, ofO_lc, ofO_lca, ofO_lc2, ofO_for, ofO_while, ofO_bindF, ofO_no, ofO_optM]
abbrev ssorted_lot : Stmt := top 10
abbrev Nsorted_lot : List Str := ["members"]
theorem scsorted_lot : FnScope ["members"] ["members"] (defScope ssorted_lot) := ⟨rfl, rfl, rfl, by decide +kernel, rfl, by decide +kernel, by decide +kernel⟩
def w_sorted_lot (a : (List Int) × Unit) : W (Fl (List Int) Empty Unit) :=
  (((W.ret a.1).bind fun x1 => (W.ret (sortI x1).reverse)).bind fun x2 => (W.ret (Fl.rt x2)))
def o_sorted_lot (a : (List Int) × Unit) : Option (Fl (List Int) Empty Unit) :=
  (((some a.1).bind fun x1 => (some (sortI x1).reverse)).bind fun x2 => (some (Fl.rt x2)))
def m_sorted_lot (a : (List Int) × Unit) : Option (List Int) := rtO (o_sorted_lot a)
theorem k_sorted_lot {f : Addr} {fd : FuncData} (F : Fun K "sorted_lot" "sorted_lot" ssorted_lot f fd) (T : Txt K mg) {π : Around → Prop} (sπ : Stb π) : FnP π P w K mg base CX0 1 f fd ["members"] (SpF (pC (qL qI) p0).ra (qT qI) m_sorted_lot) := by
  refine fn_okF (p := (pC (qL qI) p0)) (m := w_sorted_lot) (pn := (fun z _ => nomatch z)) (pl := fun _ _ => []) (env := fun a => [.im (qL qI) a.1]) 0 sπ F scsorted_lot rfl rfl (fun _ => rfl) ?hb ?hg
  case hb =>
    intro cdv A outer s H E hp hr C a hA
    unfold w_sorted_lot
    exact (xs_ret (xe_tuple (by rfl) T.tuple (xq_im (xe_N (xn_sortRev (by rfl) T.sorted (xq_im (xe_var (pv 0))) (pk_cons pe_bl pk_nil))))))
  case hg =>
    intro a
    simp only [m_sorted_lot, o_sorted_lot, w_sorted_lot, ofO_rt, ofO_rtN, ofO_bind, ofO_some, ofO_if, ofO_up, ofO_lc, ofO_lca, ofO_lc2, ofO_for, ofO_while, ofO_bindF, ofO_no, ofO_optM]
abbrev skind_of : Stmt := top 18
abbrev Nkind_of : List Str := ["move", "cycle"]
theorem sckind_of : FnScope ["move", "cycle"] ["move"] (defScope skind_of) := ⟨rfl, rfl, rfl, by decide +kernel, rfl, by decide +kernel, by decide +kernel⟩
def w_kind_of (a : (List Int) × Unit) : W (Fl (List Int) Empty Unit) :=
  (((((((W.ret a.1).bind fun x1 => ((W.ret ()).bind fun y2 => (W.ret (x1, y2)))).bind fun a3 => (ofO (m_cycles a3))).bind fun xs6 => (lcW (fun (x4 : (List Int)) => (W.ret true)) (fun (x4 : (List Int)) => ((W.ret x4).bind fun x5 => (W.ret (x5.length : Int)))) xs6)).bind fun x7 => ((W.ret ()).bind fun y8 => (W.ret (x7, y8)))).bind fun a9 => (ofO (m_sorted_lot a9))).bind fun x10 => (W.ret (Fl.rt x10)))
def o_kind_of (a : (List Int) × Unit) : Option (Fl (List Int) Empty Unit) :=
  (((((((some a.1).bind fun x1 => ((some ()).bind fun y2 => (some (x1, y2)))).bind fun a3 => (m_cycles a3)).bind fun xs6 => (lcO (fun (x4 : (List Int)) => (some true)) (fun (x4 : (List Int)) => ((some x4).bind fun x5 => (some (x5.length : Int)))) xs6)).bind fun x7 => ((some ()).bind fun y8 => (some (x7, y8)))).bind fun a9 => (m_sorted_lot a9)).bind fun x10 => (some (Fl.rt x10)))
def m_kind_of (a : (List Int) × Unit) : Option (List Int) := rtO (o_kind_of a)
theorem k_kind_of {f : Addr} {fd : FuncData} (F : Fun K "kind_of" "kind_of" skind_of f fd) (T : Txt K mg) {π : Around → Prop} (sπ : Stb π) (h_cycles : Has P w K mg base π "cycles" 6 ["move"] (SpF (pC (qT qI) p0).ra (qT (qT qI)) m_cycles)) (h_sorted_lot : Has P w K mg base π "sorted_lot" 1 ["members"] (SpF (pC (qL qI) p0).ra (qT qI) m_sorted_lot)) : FnP π P w K mg base CX0 7 f fd ["move"] (SpF (pC (qT qI) p0).ra (qT qI) m_kind_of) := by
  refine fn_okF (p := (pC (qT qI) p0)) (m := w_kind_of) (pn := (fun z _ => nomatch z)) (pl := fun _ _ => []) (env := fun a => [.im (qT qI) a.1, .un]) 1 sπ F sckind_of rfl rfl (fun _ => rfl) ?hb ?hg
  case hb =>
    intro cdv A outer s H E hp hr C a hA
    unfold w_kind_of
    exact (xs_ret (xe_callH h_sorted_lot hp hr (by decide) (by rfl) (xa_cons (xe_N (xn_lc (own := [("cycle", 1)]) (up := (uN 1 (qT qI))) rfl sckind_of.nd (xi_seq (xe_callH h_cycles hp hr (by decide) (by rfl) (xa_cons (xe_var (pv 0)) xa_nil))) (blkOk_by (N := Nkind_of) (sc := defScope skind_of) (by decide +kernel)) rfl (fun _ => rfl) (fun _ _ _ _ _ => (xg_name (pg_name (i := 1) sckind_of.nd rfl (by first | exact .inl rfl | exact .inr rfl)))) (fun _ _ _ _ _ _ x4 => xts_nil) (fun _ _ _ _ _ _ x4 => (xe_len (by rfl) T.len (xq_im (xe_var (pv 1))))))) xa_nil)))
  case hg =>
    intro a
    simp only [m_kind_of, o_kind_of, w_kind_of, ofO_rt, ofO_rtN, ofO_bind, ofO_some, ofO_if, ofO_up, ofO_lc, ofO_lca, ofO_lc2, ofO_for, ofO_while, ofO_bindF, ofO_no, ofO_optM]
abbrev sleast_swaps : Stmt := top 26
abbrev Nleast_swaps : List Str := ["move"]
theorem scleast_swaps : FnScope ["move"] ["move"] (defScope sleast_swaps) := ⟨rfl, rfl, rfl, by decide +kernel, rfl, by decide +kernel, by decide +kernel⟩
def w_least_swaps (a : (List Int) × Unit) : W (Fl Int Empty Unit) :=
  (((((W.ret a.1).bind fun x1 => (W.ret (x1.length : Int))).bind fun p2 => ((W.ret (2 : Int)).bind fun q3 => (W.ret (p2 - q3)))).bind fun p8 => (((((W.ret a.1).bind fun x4 => ((W.ret ()).bind fun y5 => (W.ret (x4, y5)))).bind fun a6 => (ofO (m_kind_of a6))).bind fun x7 => (W.ret (x7.length : Int))).bind fun q9 => (W.ret (p8 + q9)))).bind fun x10 => (W.ret (Fl.rt x10)))
def o_least_swaps (a : (List Int) × Unit) : Option (Fl Int Empty Unit) :=
  (((((some a.1).bind fun x1 => (some (x1.length : Int))).bind fun p2 => ((some (2 : Int)).bind fun q3 => (some (p2 - q3)))).bind fun p8 => (((((some a.1).bind fun x4 => ((some ()).bind fun y5 => (some (x4, y5)))).bind fun a6 => (m_kind_of a6)).bind fun x7 => (some (x7.length : Int))).bind fun q9 => (some (p8 + q9)))).bind fun x10 => (some (Fl.rt x10)))
def m_least_swaps (a : (List Int) × Unit) : Option Int := rtO (o_least_swaps a)
theorem k_least_swaps {f : Addr} {fd : FuncData} (F : Fun K "_least_swaps" "_least_swaps" sleast_swaps f fd) (T : Txt K mg) {π : Around → Prop} (sπ : Stb π) (h_kind_of : Has P w K mg base π "kind_of" 7 ["move"] (SpF (pC (qT qI) p0).ra (qT qI) m_kind_of)) : FnP π P w K mg base CX0 8 f fd ["move"] (SpF (pC (qT qI) p0).ra qI m_least_swaps) := by
  refine fn_okF (p := (pC (qT qI) p0)) (m := w_least_swaps) (pn := (fun z _ => nomatch z)) (pl := fun _ _ => []) (env := fun a => [.im (qT qI) a.1]) 0 sπ F scleast_swaps rfl rfl (fun _ => rfl) ?hb ?hg
  case hb =>
    intro cdv A outer s H E hp hr C a hA
    unfold w_least_swaps
    exact (xs_ret (xe_add (xe_sub (xe_len (by rfl) T.len (xq_im (xe_var (pv 0)))) xe_int) (xe_len (by rfl) T.len (xq_im (xe_callH h_kind_of hp hr (by decide) (by rfl) (xa_cons (xe_var (pv 0)) xa_nil))))))
  case hg =>
    intro a
    simp only [m_least_swaps, o_least_swaps, w_least_swaps, ofO_rt, ofO_rtN, ofO_bind, ofO_some, ofO_if, ofO_up, ofO_lc, ofO_lca, ofO_lc2, ofO_for, ofO_while, ofO_bindF, ofO_no, ofO_optM]
abbrev sgenus : Stmt := top 25
abbrev Ngenus : List Str := ["row", "more", "move"]
theorem scgenus : FnScope ["row", "more", "move"] ["row"] (defScope sgenus) := ⟨rfl, rfl, rfl, by decide +kernel, rfl, by decide +kernel, by decide +kernel⟩
def w_genus (a : (List (List Int)) × Unit) : W (Fl PyData Empty Unit) :=
  ((((((W.ret a.1).bind fun x1 => ((W.ret ()).bind fun y2 => (W.ret (x1, y2)))).bind fun a3 => (ofO (m_places_of_moves a3))).bind fun x4 => (W.ret (x4.length : Int))).bind fun p5 => ((W.ret (1 : Int)).bind fun q6 => (ofO (some (decide (q6 < p5)))))).bind fun b7 => (if b7 = true then upF (((W.ret ()).bind fun x8 => (W.ret (eN.enc x8))).bind fun x9 => (W.ret (Fl.rt x9))) else (((((W.ret a.1).bind fun xs15 => (lcW (fun (x11 : (List Int)) => (W.ret true)) (fun (x11 : (List Int)) => (((W.ret x11).bind fun x12 => ((W.ret ()).bind fun y13 => (W.ret (x12, y13)))).bind fun a14 => (ofO (m_least_number a14)))) xs15)).bind fun x16 => (W.ret x16.sum)).bind fun p23 => ((((((W.ret a.1).bind fun x17 => ((W.ret ()).bind fun y18 => (W.ret (x17, y18)))).bind fun a19 => (ofO (m_product a19))).bind fun x20 => ((W.ret ()).bind fun y21 => (W.ret (x20, y21)))).bind fun a22 => (ofO (m_least_swaps a22))).bind fun q24 => (W.ret (p23 - q24)))).bind fun (v10 : Int) => ((((W.ret v10).bind fun p25 => ((W.ret (2 : Int)).bind fun q26 => (ofO (divC p25 q26)))).bind fun x27 => (W.ret (eI.enc x27))).bind fun x28 => (W.ret (Fl.rt x28))))))
def o_genus (a : (List (List Int)) × Unit) : Option (Fl PyData Empty Unit) :=
  ((((((some a.1).bind fun x1 => ((some ()).bind fun y2 => (some (x1, y2)))).bind fun a3 => (m_places_of_moves a3)).bind fun x4 => (some (x4.length : Int))).bind fun p5 => ((some (1 : Int)).bind fun q6 => (some (decide (q6 < p5))))).bind fun b7 => (if b7 = true then upO (((some ()).bind fun x8 => (some (eN.enc x8))).bind fun x9 => (some (Fl.rt x9))) else (((((some a.1).bind fun xs15 => (lcO (fun (x11 : (List Int)) => (some true)) (fun (x11 : (List Int)) => (((some x11).bind fun x12 => ((some ()).bind fun y13 => (some (x12, y13)))).bind fun a14 => (m_least_number a14))) xs15)).bind fun x16 => (some x16.sum)).bind fun p23 => ((((((some a.1).bind fun x17 => ((some ()).bind fun y18 => (some (x17, y18)))).bind fun a19 => (m_product a19)).bind fun x20 => ((some ()).bind fun y21 => (some (x20, y21)))).bind fun a22 => (m_least_swaps a22)).bind fun q24 => (some (p23 - q24)))).bind fun (v10 : Int) => ((((some v10).bind fun p25 => ((some (2 : Int)).bind fun q26 => (divC p25 q26))).bind fun x27 => (some (eI.enc x27))).bind fun x28 => (some (Fl.rt x28))))))
def m_genus (a : (List (List Int)) × Unit) : Option PyData := rtO (o_genus a)
theorem k_genus {f : Addr} {fd : FuncData} (F : Fun K "_genus" "_genus" sgenus f fd) (T : Txt K mg) {π : Around → Prop} (sπ : Stb π) (h_least_number : Has P w K mg base π "least_number" 7 ["move"] (SpF (pC (qT qI) p0).ra qI m_least_number)) (h_least_swaps : Has P w K mg base π "_least_swaps" 8 ["move"] (SpF (pC (qT qI) p0).ra qI m_least_swaps)) (h_places_of_moves : Has P w K mg base π "places_of_moves" 2 ["told"] (SpF (pC (qT (qT qI)) p0).ra (qT (qT qI)) m_places_of_moves)) (h_product : Has P w K mg base π "_product" 2 ["row"] (SpF (pC (qT (qT qI)) p0).ra (qT qI) m_product)) : FnP π P w K mg base CX0 9 f fd ["row"] (SpF (pC (qT (qT qI)) p0).ra qV m_genus) := by
  refine fn_okF (p := (pC (qT (qT qI)) p0)) (m := w_genus) (pn := (fun z _ => nomatch z)) (pl := fun _ _ => []) (env := fun a => [.im (qT (qT qI)) a.1, .un, .un]) 2 sπ F scgenus rfl rfl (fun _ => rfl) ?hb ?hg
  case hb =>
    intro cdv A outer s H E hp hr C a hA
    unfold w_genus
    exact (xs_ifx (xt_cmpD cd_gt (xe_len (by rfl) T.len (xq_im (xe_callH h_places_of_moves hp hr (by decide) (by rfl) (xa_cons (xe_var (pv 0)) xa_nil)))) xe_int rfl) (xs_ret (xe_enc eN xe_non)) (xs_set (i := 1) (xe_sub (xe_sum rfl (by rfl) T.sum (xq_im (xe_N (xn_lc (own := [("move", 2)]) (up := (uN 2 (qT qI))) rfl scgenus.nd (xi_seq (xe_var (pv 0))) (blkOk_by (N := Ngenus) (sc := defScope sgenus) (by decide +kernel)) rfl (fun _ => rfl) (fun _ _ _ _ _ => (xg_name (pg_name (i := 2) scgenus.nd rfl (by first | exact .inl rfl | exact .inr rfl)))) (fun _ _ _ _ _ _ x11 => xts_nil) (fun _ _ _ _ _ _ x11 => (xe_callH h_least_number hp hr (by decide) (by rfl) (xa_cons (xe_var (pv 2)) xa_nil))))))) (xe_callH h_least_swaps hp hr (by decide) (by rfl) (xa_cons (xe_callH h_product hp hr (by decide) (by rfl) (xa_cons (xe_var (pv 0)) xa_nil)) xa_nil))) (fun v10 => (xs_ret (xe_enc eI (xe_fdiv (xe_var (pv 1)) xe_int)))) scgenus.nd rfl (.inl rfl) rfl rfl))
  case hg =>
    intro a
    simp only [m_genus, o_genus, w_genus, ofO_rt, ofO_rtN, ofO_bind, ofO_some, ofO_if, ofO_up, ofO_lc, ofO_lca, ofO_lc2, ofO_for, ofO_while, ofO_bindF, ofO_no, ofO_optM]
abbrev sgenus_of_row : Stmt := top 24
abbrev Ngenus_of_row : List Str := ["moves"]
theorem scgenus_of_row : FnScope ["moves"] ["moves"] (defScope sgenus_of_row) := ⟨rfl, rfl, rfl, by decide +kernel, rfl, by decide +kernel, by decide +kernel⟩
def w_genus_of_row (a : (List (List Int)) × Unit) : W (Fl PyData Empty Unit) :=
  (((((W.ret a.1).bind fun x3 => (((W.ret (8 : Int)).bind fun x1 => ((W.ret ()).bind fun y2 => (W.ret (x1, y2)))).bind fun y4 => (W.ret (x3, y4)))).bind fun a5 => (ofO (m_are_moves a5))).bind fun b6 => (W.ret (!b6))).bind fun b7 => (if b7 = true then upF W.no else ((((W.ret a.1).bind fun x8 => ((W.ret ()).bind fun y9 => (W.ret (x8, y9)))).bind fun a10 => (ofO (m_genus a10))).bind fun x11 => (W.ret (Fl.rt x11)))))
def o_genus_of_row (a : (List (List Int)) × Unit) : Option (Fl PyData Empty Unit) :=
  (((((some a.1).bind fun x3 => (((some (8 : Int)).bind fun x1 => ((some ()).bind fun y2 => (some (x1, y2)))).bind fun y4 => (some (x3, y4)))).bind fun a5 => (m_are_moves a5)).bind fun b6 => (some (!b6))).bind fun b7 => (if b7 = true then upO none else ((((some a.1).bind fun x8 => ((some ()).bind fun y9 => (some (x8, y9)))).bind fun a10 => (m_genus a10)).bind fun x11 => (some (Fl.rt x11)))))
def m_genus_of_row (a : (List (List Int)) × Unit) : Option PyData := rtO (o_genus_of_row a)
theorem k_genus_of_row {f : Addr} {fd : FuncData} (F : Fun K "genus_of_row" "genus_of_row" sgenus_of_row f fd) (T : Txt K mg) {π : Around → Prop} (sπ : Stb π) (h_are_moves : Has P w K mg base π "are_moves" 5 ["value", "most"] (SpF (pC (qT (qT qI)) (pC qI p0)).ra qB m_are_moves)) (h_genus : Has P w K mg base π "_genus" 9 ["row"] (SpF (pC (qT (qT qI)) p0).ra qV m_genus)) : FnP π P w K mg base CX0 10 f fd ["moves"] (SpF (pC (qT (qT qI)) p0).ra qV m_genus_of_row) := by
  refine fn_okF (p := (pC (qT (qT qI)) p0)) (m := w_genus_of_row) (pn := (fun z _ => nomatch z)) (pl := fun _ _ => []) (env := fun a => [.im (qT (qT qI)) a.1]) 0 sπ F scgenus_of_row rfl rfl (fun _ => rfl) ?hb ?hg
  case hb =>
    intro cdv A outer s H E hp hr C a hA
    unfold w_genus_of_row
    exact (xs_ifx (xt_not (xt_val (xe_callH h_are_moves hp hr (by decide) (by rfl) (xa_cons (xe_var (pv 0)) (xa_cons (xe_gintE (by rfl) T.MAX_FACTORS_) xa_nil))))) xs_never (xs_ret (xe_callH h_genus hp hr (by decide) (by rfl) (xa_cons (xe_var (pv 0)) xa_nil))))
  case hg =>
    intro a
    simp only [m_genus_of_row, o_genus_of_row, w_genus_of_row, ofO_rt, ofO_rtN, ofO_bind, ofO_some, ofO_if, ofO_up, ofO_lc, ofO_lca, ofO_lc2, ofO_for, ofO_while, ofO_bindF, ofO_no, ofO_optM]
abbrev slaw_parity_right : Stmt := top 43
abbrev Nlaw_parity_right : List Str := ["_law_size", "_law_row", "_law_needs", "_law_rest", "_law_move"]
theorem sclaw_parity_right : FnScope ["_law_size", "_law_row", "_law_needs", "_law_rest", "_law_move"] ["_law_size", "_law_row"] (defScope slaw_parity_right) := ⟨rfl, rfl, rfl, by decide +kernel, rfl, by decide +kernel, by decide +kernel⟩
def w_law_parity_right (a : Int × (List (List Int)) × Unit) : W (Fl Bool Empty Unit) :=
  ((((W.ret a.2.1).bind fun xs6 => (lcW (fun (x2 : (List Int)) => (W.ret true)) (fun (x2 : (List Int)) => (((W.ret x2).bind fun x3 => ((W.ret ()).bind fun y4 => (W.ret (x3, y4)))).bind fun a5 => (ofO (m_law_le_least a5)))) xs6)).bind fun x7 => (W.ret x7.sum)).bind fun (v1 : Int) => (((((W.ret v1).bind fun p9 => ((W.ret a.1).bind fun q10 => (W.ret (p9 - q10)))).bind fun p11 => ((W.ret (2 : Int)).bind fun q12 => (W.ret (p11 + q12)))).bind fun p22 => (((((((W.ret a.1).bind fun x15 => (((W.ret a.2.1).bind fun x13 => ((W.ret ()).bind fun y14 => (W.ret (x13, y14)))).bind fun y16 => (W.ret (x15, y16)))).bind fun a17 => (ofO (m_law_le_product a17))).bind fun x18 => ((W.ret ()).bind fun y19 => (W.ret (x18, y19)))).bind fun a20 => (ofO (m_law_kind a20))).bind fun x21 => (W.ret (x21.length : Int))).bind fun q23 => (W.ret (p22 - q23)))).bind fun (v8 : Int) => ((((W.ret v8).bind fun p24 => ((W.ret (0 : Int)).bind fun q25 => (ofO (some (decide (q25 ≤ p24)))))).bind fun p30 => (if p30 = true then (((W.ret v8).bind fun p26 => ((W.ret (2 : Int)).bind fun q27 => (ofO (modC p26 q27)))).bind fun p28 => ((W.ret (0 : Int)).bind fun q29 => (ofO (some (decide (p28 = q29)))))) else (W.ret false))).bind fun x31 => (W.ret (Fl.rt x31)))))
def o_law_parity_right (a : Int × (List (List Int)) × Unit) : Option (Fl Bool Empty Unit) :=
  ((((some a.2.1).bind fun xs6 => (lcO (fun (x2 : (List Int)) => (some true)) (fun (x2 : (List Int)) => (((some x2).bind fun x3 => ((some ()).bind fun y4 => (some (x3, y4)))).bind fun a5 => (m_law_le_least a5))) xs6)).bind fun x7 => (some x7.sum)).bind fun (v1 : Int) => (((((some v1).bind fun p9 => ((some a.1).bind fun q10 => (some (p9 - q10)))).bind fun p11 => ((some (2 : Int)).bind fun q12 => (some (p11 + q12)))).bind fun p22 => (((((((some a.1).bind fun x15 => (((some a.2.1).bind fun x13 => ((some ()).bind fun y14 => (some (x13, y14)))).bind fun y16 => (some (x15, y16)))).bind fun a17 => (m_law_le_product a17)).bind fun x18 => ((some ()).bind fun y19 => (some (x18, y19)))).bind fun a20 => (m_law_kind a20)).bind fun x21 => (some (x21.length : Int))).bind fun q23 => (some (p22 - q23)))).bind fun (v8 : Int) => ((((some v8).bind fun p24 => ((some (0 : Int)).bind fun q25 => (some (decide (q25 ≤ p24))))).bind fun p30 => (if p30 = true then (((some v8).bind fun p26 => ((some (2 : Int)).bind fun q27 => (modC p26 q27))).bind fun p28 => ((some (0 : Int)).bind fun q29 => (some (decide (p28 = q29))))) else (some false))).bind fun x31 => (some (Fl.rt x31)))))
def m_law_parity_right (a : Int × (List (List Int)) × Unit) : Option Bool := rtO (o_law_parity_right a)
theorem k_law_parity_right {f : Addr} {fd : FuncData} (F : Fun K "_law_parity_right" "_law_parity_right" slaw_parity_right f fd) (T : Txt K mg) {π : Around → Prop} (sπ : Stb π) (h_law_kind : Has P w K mg base π "_law_kind" 2 ["_law_move"] (SpF (pC (qT qI) p0).ra (qT qI) m_law_kind)) (h_law_le_least : Has P w K mg base π "_law_le_least" 3 ["_law_move"] (SpF (pC (qT qI) p0).ra qI m_law_le_least)) (h_law_le_product : Has P w K mg base π "_law_le_product" 2 ["_law_size", "_law_row"] (SpF (pC qI (pC (qT (qT qI)) p0)).ra (qT qI) m_law_le_product)) : FnP π P w K mg base CX0 4 f fd ["_law_size", "_law_row"] (SpF (pC qI (pC (qT (qT qI)) p0)).ra qB m_law_parity_right) := by
  refine fn_okF (p := (pC qI (pC (qT (qT qI)) p0))) (m := w_law_parity_right) (pn := (fun z _ => nomatch z)) (pl := fun _ _ => []) (env := fun a => [.im qI a.1, .im (qT (qT qI)) a.2.1, .un, .un, .un]) 3 sπ F sclaw_parity_right rfl rfl (fun _ => rfl) ?hb ?hg
  case hb =>
    intro cdv A outer s H E hp hr C a hA
    unfold w_law_parity_right
    exact (xs_set (i := 2) (xe_sum rfl (by rfl) T.sum (xq_im (xe_N (xn_lc (own := [("_law_move", 4)]) (up := (uN 4 (qT qI))) rfl sclaw_parity_right.nd (xi_seq (xe_var (pv 1))) (blkOk_by (N := Nlaw_parity_right) (sc := defScope slaw_parity_right) (by decide +kernel)) rfl (fun _ => rfl) (fun _ _ _ _ _ => (xg_name (pg_name (i := 4) sclaw_parity_right.nd rfl (by first | exact .inl rfl | exact .inr rfl)))) (fun _ _ _ _ _ _ x2 => xts_nil) (fun _ _ _ _ _ _ x2 => (xe_callH h_law_le_least hp hr (by decide) (by rfl) (xa_cons (xe_var (pv 4)) xa_nil))))))) (fun v1 => (xs_set (i := 3) (xe_sub (xe_add (xe_sub (xe_var (pv 2)) (xe_var (pv 0))) xe_int) (xe_len (by rfl) T.len (xq_im (xe_callH h_law_kind hp hr (by decide) (by rfl) (xa_cons (xe_callH h_law_le_product hp hr (by decide) (by rfl) (xa_cons (xe_var (pv 0)) (xa_cons (xe_var (pv 1)) xa_nil))) xa_nil))))) (fun v8 => (xs_ret (xe_andB (xe_cmpD cd_ge (xe_var (pv 3)) xe_int rfl) (xe_one (xe_cmpD cd_eqI (xe_mod (xe_var (pv 3)) xe_int) xe_int rfl))))) sclaw_parity_right.nd rfl (.inl rfl) rfl rfl)) sclaw_parity_right.nd rfl (.inl rfl) rfl rfl)
  case hg =>
    intro a
    simp only [m_law_parity_right, o_law_parity_right, w_law_parity_right, ofO_rt, ofO_rtN, ofO_bind, ofO_some, ofO_if, ofO_up, ofO_lc, ofO_lca, ofO_lc2, ofO_for, ofO_while, ofO_bindF, ofO_no, ofO_optM]
abbrev slaw_le_carried : Stmt := top 42
abbrev Nlaw_le_carried : List Str := ["_law_move", "_law_by", "_law_found", "_law_place", "_law_goal"]
theorem sclaw_le_carried : FnScope ["_law_move", "_law_by", "_law_found", "_law_place", "_law_goal"] ["_law_move", "_law_by"] (defScope slaw_le_carried) := ⟨rfl, rfl, rfl, by decide +kernel, rfl, by decide +kernel, by decide +kernel⟩
def w_law_le_carried (a : (List Int) × (List Int) × Unit) : W (Fl (List Int) Empty Unit) :=
  (((((W.ret (0 : Int)).bind fun x2 => ((W.ret []).bind fun y3 => (W.ret (x2 :: y3)))).bind fun x4 => (ofO (lenK x4))).bind fun x6 => (((W.ret a.1).bind fun x5 => (W.ret (x5.length : Int))).bind fun k7 => (ofO (repC x6 k7)))).bind fun (v1 : (List Int)) => (((W.ret a.1).bind fun x8 => (W.ret (enumI x8))).bind fun xs19 => bindF (forL (fun (s9 : (List Int)) (x10 : (Int × Int)) => (((W.ret a.2.1).bind fun x11 => ((W.ret x10.2).bind fun i12 => (ofO (L2.atI x11 i12)))).bind fun v15 => (((W.ret a.2.1).bind fun x13 => ((W.ret x10.1).bind fun i14 => (ofO (L2.atI x13 i14)))).bind fun j16 => ((ofO (setC s9 j16 v15)).bind fun (l17 : (List Int)) => (W.ret (Fl.nx l17)))))) xs19 v1) (fun (s9 : (List Int)) => ((W.ret s9).bind fun x18 => (W.ret (Fl.rt x18))))))
def o_law_le_carried (a : (List Int) × (List Int) × Unit) : Option (Fl (List Int) Empty Unit) :=
  (((((some (0 : Int)).bind fun x2 => ((some []).bind fun y3 => (some (x2 :: y3)))).bind fun x4 => (lenK x4)).bind fun x6 => (((some a.1).bind fun x5 => (some (x5.length : Int))).bind fun k7 => (repC x6 k7))).bind fun (v1 : (List Int)) => (((some a.1).bind fun x8 => (some (enumI x8))).bind fun xs19 => bindFO (forO (fun (s9 : (List Int)) (x10 : (Int × Int)) => (((some a.2.1).bind fun x11 => ((some x10.2).bind fun i12 => (L2.atI x11 i12))).bind fun v15 => (((some a.2.1).bind fun x13 => ((some x10.1).bind fun i14 => (L2.atI x13 i14))).bind fun j16 => ((setC s9 j16 v15).bind fun (l17 : (List Int)) => (some (Fl.nx l17)))))) xs19 v1) (fun (s9 : (List Int)) => ((some s9).bind fun x18 => (some (Fl.rt x18))))))
def m_law_le_carried (a : (List Int) × (List Int) × Unit) : Option (List Int) := rtO (o_law_le_carried a)
theorem k_law_le_carried {f : Addr} {fd : FuncData} (F : Fun K "_law_le_carried" "_law_le_carried" slaw_le_carried f fd) (T : Txt K mg) {π : Around → Prop} (sπ : Stb π) : FnP π P w K mg base CX0 1 f fd ["_law_move", "_law_by"] (SpF (pC (qT qI) (pC (qT qI) p0)).ra (qT qI) m_law_le_carried) := by
  refine fn_okF (p := (pC (qT qI) (pC (qT qI) p0))) (m := w_law_le_carried) (pn := (fun z _ => nomatch z)) (pl := fun _ _ => []) (env := fun a => [.im (qT qI) a.1, .im (qT qI) a.2.1, .un, .un, .un]) 3 sπ F sclaw_le_carried rfl rfl (fun _ => rfl) ?hb ?hg
  case hb =>
    intro cdv A outer s H E hp hr C a hA
    unfold w_law_le_carried
    exact (xs_setN (i := 2) (xn_rep (xn_lst (xa_consL xe_int xa_nilL)) (fun _ => (xe_len (by rfl) T.len (xq_im (xe_var (pv 0)))))) (fun v1 => (xs_for (s0 := v1) (up := (uP (uN 3 qI) (uN 4 qI))) (pt := fun (s9 : (List Int)) g => [.im (qT qI) a.1, .im (qT qI) a.2.1, .ow qI s9, .un, .un]) PassesOwn.never rfl (xi_enT (by rfl) T.enumerate (xe_var (pv 0))) (xg_pairW rfl (xg_name (pg_name (i := 3) sclaw_le_carried.nd rfl (by first | exact .inl rfl | exact .inr rfl))) (xg_name (pg_name (i := 4) sclaw_le_carried.nd rfl (by first | exact .inl rfl | exact .inr rfl)))) (fun _ => (.keep (.keep (.keep (.keep (.keep .nil)))))) (fun s9 x10 => (xs_oset (i := 2) (xe_ix (xq_im (xe_var (pv 1))) (xe_var (pv 4))) (pv 2) (xe_ix (xq_im (xe_var (pv 1))) (xe_var (pv 3))) (fun l17 => (xs_nil (fun _ => (.keep (.keep (.keep (.drop (.drop .nil)))))))))) (fun s9 => (xs_ret (xe_tuple (by rfl) T.tuple (xq_own (pv 2))))))) sclaw_le_carried.nd rfl (.inl rfl) rfl rfl)
  case hg =>
    intro a
    simp only [m_law_le_carried, o_law_le_carried, w_law_le_carried, ofO_rt, ofO_rtN, ofO_bind, ofO_some, ofO_if, ofO_up, ofO_lc, ofO_lca, ofO_lc2, ofO_for, ofO_while, ofO_bindF, ofO_no, ofO_optM]
abbrev slaw_right : Stmt := top 44
abbrev Nlaw_right : List Str := ["_law_dice_here", "_law_size", "_law_row", "_law_due", "_law_by", "_law_back", "_law_turned", "_law_turn", "_law_move"]
theorem sclaw_right : FnScope ["_law_dice_here", "_law_size", "_law_row", "_law_due", "_law_by", "_law_back", "_law_turned", "_law_turn", "_law_move"] ["_law_dice_here"] (defScope slaw_right) := ⟨rfl, rfl, rfl, by decide +kernel, rfl, by decide +kernel, by decide +kernel⟩
def w_law_right (a : Unit) : W (Fl Bool Empty Unit) :=
  (((W.ret (1 : Int)).bind fun p5 => ((((W.ret (6 : Int)).bind fun x2 => ((W.ret ()).bind fun y3 => (W.ret (x2, y3)))).bind fun a4 => (m_law_roll a4)).bind fun q6 => (W.ret (p5 + q6)))).bind fun (v1 : Int) => (((((W.ret (1 : Int)).bind fun p11 => ((((W.ret (5 : Int)).bind fun x8 => ((W.ret ()).bind fun y9 => (W.ret (x8, y9)))).bind fun a10 => (m_law_roll a10)).bind fun q12 => (W.ret (p11 + q12)))).bind fun i13 => (ofO (rngC 0 i13))).bind fun xs18 => (lcW (fun (x14 : Int) => (W.ret true)) (fun (x14 : Int) => (((W.ret v1).bind fun x15 => ((W.ret ()).bind fun y16 => (W.ret (x15, y16)))).bind fun a17 => (m_law_move_drawn a17))) xs18)).bind fun (v7 : (List (List Int))) => (((((W.ret (2 : Int)).bind fun x19 => ((W.ret ()).bind fun y20 => (W.ret (x19, y20)))).bind fun a21 => (m_law_roll a21)).bind fun p22 => ((W.ret (0 : Int)).bind fun q23 => (ofO (some (decide (p22 = q23)))))).bind fun b24 => bindF (if b24 = true then (((W.ret v7).bind fun p33 => ((((((W.ret v7).bind fun x27 => ((W.ret (0 : Int)).bind fun i28 => (ofO (L2.atI x27 i28)))).bind fun x29 => ((W.ret ()).bind fun y30 => (W.ret (x29, y30)))).bind fun a31 => (ofO (m_law_undone a31))).bind fun x32 => (W.ret [x32])).bind fun q34 => (ofO (catC p33 q34)))).bind fun (v26 : (List (List Int))) => (W.ret (Fl.nx v26))) else (W.ret (Fl.nx v7))) (fun (s25 : (List (List Int))) => ((((W.ret v1).bind fun x38 => (((W.ret s25).bind fun x36 => ((W.ret ()).bind fun y37 => (W.ret (x36, y37)))).bind fun y39 => (W.ret (x38, y39)))).bind fun a40 => (ofO (m_law_le_genus a40))).bind fun (v35 : PyData) => (((((((W.ret s25).bind fun x41 => ((W.ret ()).bind fun y42 => (W.ret (x41, y42)))).bind fun a43 => (ofO (m_genus_of_row a43))).bind fun x46 => (ofO (cleanO x46))).bind fun p44 => (((W.ret v35).bind fun x47 => (ofO (cleanO x47))).bind fun q45 => (ofO ((eqC p44 q45).bind fun b => some !b)))).bind fun p56 => (if p56 = true then W.ret true else (((W.ret v35).bind fun x48 => (W.ret (!isNonV x48))).bind fun p55 => (if p55 = true then ((((W.ret v1).bind fun x51 => (((W.ret s25).bind fun x49 => ((W.ret ()).bind fun y50 => (W.ret (x49, y50)))).bind fun y52 => (W.ret (x51, y52)))).bind fun a53 => (ofO (m_law_parity_right a53))).bind fun b54 => (W.ret (!b54))) else W.ret false)))).bind fun b57 => (if b57 = true then upF ((W.ret false).bind fun x58 => (W.ret (Fl.rt x58))) else ((((W.ret v1).bind fun x60 => ((W.ret ()).bind fun y61 => (W.ret (x60, y61)))).bind fun a62 => (m_law_move_drawn a62)).bind fun (v59 : (List Int)) => (((((((W.ret s25).bind fun xs69 => (lcW (fun (x63 : (List Int)) => (W.ret true)) (fun (x63 : (List Int)) => (((W.ret x63).bind fun x66 => (((W.ret v59).bind fun x64 => ((W.ret ()).bind fun y65 => (W.ret (x64, y65)))).bind fun y67 => (W.ret (x66, y67)))).bind fun a68 => (ofO (m_law_le_carried a68)))) xs69)).bind fun x70 => ((W.ret ()).bind fun y71 => (W.ret (x70, y71)))).bind fun a72 => (ofO (m_genus_of_row a72))).bind fun x75 => (ofO (cleanO x75))).bind fun p73 => (((W.ret v35).bind fun x76 => (ofO (cleanO x76))).bind fun q74 => (ofO ((eqC p73 q74).bind fun b => some !b)))).bind fun b77 => (if b77 = true then upF ((W.ret false).bind fun x78 => (W.ret (Fl.rt x78))) else ((((((W.ret v1).bind fun x82 => (((W.ret s25).bind fun x80 => ((W.ret ()).bind fun y81 => (W.ret (x80, y81)))).bind fun y83 => (W.ret (x82, y83)))).bind fun a84 => (ofO (m_law_le_product a84))).bind fun x85 => ((W.ret ()).bind fun y86 => (W.ret (x85, y86)))).bind fun a87 => (ofO (m_law_undone a87))).bind fun (v79 : (List Int)) => (((((((W.ret s25).bind fun x90 => (((W.ret (1 : Int)).bind fun p89 => (W.ret (-p89))).bind fun i91 => (ofO (L2.atI x90 i91)))).bind fun x94 => (((W.ret v79).bind fun x92 => ((W.ret ()).bind fun y93 => (W.ret (x92, y93)))).bind fun y95 => (W.ret (x94, y95)))).bind fun a96 => (ofO (m_law_le_carried a96))).bind fun x97 => (W.ret [x97])).bind fun p103 => (((W.ret s25).bind fun x100 => ((W.ret (none : Option Int)).bind fun l101 => ((((W.ret (1 : Int)).bind fun p98 => (W.ret (-p98))).bind fun x99 => (W.ret (some x99))).bind fun h102 => (W.ret (cutL x100 l101 h102))))).bind fun q104 => (ofO (catC p103 q104)))).bind fun (v88 : (List (List Int))) => ((((((W.ret v1).bind fun x107 => (((W.ret v88).bind fun x105 => ((W.ret ()).bind fun y106 => (W.ret (x105, y106)))).bind fun y108 => (W.ret (x107, y108)))).bind fun a109 => (ofO (m_law_le_product a109))).bind fun p115 => ((((W.ret v1).bind fun x112 => (((W.ret s25).bind fun x110 => ((W.ret ()).bind fun y111 => (W.ret (x110, y111)))).bind fun y113 => (W.ret (x112, y113)))).bind fun a114 => (ofO (m_law_le_product a114))).bind fun q116 => (ofO (some (PyData.eqv ((dT dI).d p115) ((dT dI).d q116)))))).bind fun p124 => (if p124 = true then (((((W.ret v88).bind fun x117 => ((W.ret ()).bind fun y118 => (W.ret (x117, y118)))).bind fun a119 => (ofO (m_genus_of_row a119))).bind fun x122 => (ofO (cleanO x122))).bind fun p120 => (((W.ret v35).bind fun x123 => (ofO (cleanO x123))).bind fun q121 => (ofO (eqC p120 q121)))) else (W.ret false))).bind fun x125 => (W.ret (Fl.rt x125)))))))))))))))
def m_law_right (a : Unit) : W Bool := rtOf (w_law_right a)
theorem k_law_right {f : Addr} {fd : FuncData} (F : Fun K "_law_right" "_law_right" slaw_right f fd) (T : Txt K mg) {π : Around → Prop} (sπ : Stb π) (h_genus_of_row : Has P w K mg base π "genus_of_row" 10 ["moves"] (SpF (pC (qT (qT qI)) p0).ra qV m_genus_of_row)) (h_law_le_carried : Has P w K mg base π "_law_le_carried" 1 ["_law_move", "_law_by"] (SpF (pC (qT qI) (pC (qT qI) p0)).ra (qT qI) m_law_le_carried)) (h_law_le_genus : Has P w K mg base π "_law_le_genus" 4 ["_law_size", "_law_row"] (SpF (pC qI (pC (qT (qT qI)) p0)).ra qV m_law_le_genus)) (h_law_le_product : Has P w K mg base π "_law_le_product" 2 ["_law_size", "_law_row"] (SpF (pC qI (pC (qT (qT qI)) p0)).ra (qT qI) m_law_le_product)) (h_law_move_drawn : Has P w K mg base π "_law_move_drawn" 3 ["_law_dice_here", "_law_size"] (SpD (pC qI p0).ra (qT qI) m_law_move_drawn)) (h_law_parity_right : Has P w K mg base π "_law_parity_right" 4 ["_law_size", "_law_row"] (SpF (pC qI (pC (qT (qT qI)) p0)).ra qB m_law_parity_right)) (h_law_roll : Has P w K mg base π "_law_roll" 1 ["_law_dice_here", "_law_total"] (SpD (pC qI p0).ra qI m_law_roll)) (h_law_undone : Has P w K mg base π "_law_undone" 1 ["_law_move"] (SpF (pC (qT qI) p0).ra (qT qI) m_law_undone)) : FnP π P w K mg base CX0 11 f fd ["_law_dice_here"] (SpD p0.ra qB m_law_right) := by
  refine fn_okD (p := p0) (m := w_law_right) (pn := (fun z _ => nomatch z)) (pl := fun _ _ => []) (env := fun a => [.un, .un, .un, .un, .un, .un, .un, .un]) 8 sπ F sclaw_right rfl rfl (fun _ => rfl) ?hb ?hg
  case hb =>
    intro cdv A outer s H E hp hr C d a hA
    unfold w_law_right
    exact (xs_set (i := 1) (xe_add xe_int (xe_callDH h_law_roll hp hr (by decide) (by rfl) (pv 0) (xa_cons xe_int xa_nil))) (fun v1 => (xs_set (i := 2) (xe_tuple (by rfl) T.tuple (xq_im (xe_N (xn_lc (own := [("_law_turn", 7)]) (up := (uN 7 qI)) rfl sclaw_right.nd (xi_rng1 (by rfl) T.range (xe_add xe_int (xe_callDH h_law_roll hp hr (by decide) (by rfl) (pv 0) (xa_cons xe_int xa_nil)))) (blkOk_by (N := Nlaw_right) (sc := defScope slaw_right) (by decide +kernel)) rfl (fun _ => rfl) (fun _ _ _ _ _ => (xg_name (pg_name (i := 7) sclaw_right.nd rfl (by first | exact .inl rfl | exact .inr rfl)))) (fun _ _ _ _ _ _ x14 => xts_nil) (fun _ _ _ _ _ _ x14 => (xe_callDH h_law_move_drawn hp hr (by decide) (by rfl) (pv 0) (xa_cons (xe_var (pv 1)) xa_nil))))))) (fun v7 => (xs_if (pt := fun (s25 : (List (List Int))) g => [.iv d (oD g), .im qI v1, .im (qT (qT qI)) s25, .un, .un, .un, .un, .un, .un]) (xt_cmpD cd_eqI (xe_callDH h_law_roll hp hr (by decide) (by rfl) (pv 0) (xa_cons xe_int xa_nil)) xe_int rfl) (xs_set (i := 2) (xe_catT (xe_var (pv 2)) (xe_tup1 (xe_callH h_law_undone hp hr (by decide) (by rfl) (xa_cons (xe_ix (xq_im (xe_var (pv 2))) xe_int) xa_nil)))) (fun v26 => (xs_nil (fun _ => (.keep (.keep (.keep (.keep (.keep (.keep (.keep (.keep (.keep .nil)))))))))))) sclaw_right.nd rfl (.inl rfl) rfl rfl) (xs_nil (fun _ => (.keep (.keep (.keep (.keep (.keep (.keep (.keep (.keep (.keep .nil))))))))))) (fun s25 => (xs_set (i := 3) (xe_callH h_law_le_genus hp hr (by decide) (by rfl) (xa_cons (xe_var (pv 1)) (xa_cons (xe_var (pv 2)) xa_nil))) (fun v35 => (xs_ifx (PW.pt (xw_or (xt_cmpD (cd_neD hr.units) (xe_VD (xe_callH h_genus_of_row hp hr (by decide) (by rfl) (xa_cons (xe_var (pv 2)) xa_nil))) (xe_VD (xe_var (pv 3))) rfl) (xw_or1 (PW.pt (xw_and (xt_notNV (xe_var (pv 3))) (xw_and1 (xt_not (xt_val (xe_callH h_law_parity_right hp hr (by decide) (by rfl) (xa_cons (xe_var (pv 1)) (xa_cons (xe_var (pv 2)) xa_nil))))))))))) (xs_ret xe_bl) (xs_set (i := 4) (xe_callDH h_law_move_drawn hp hr (by decide) (by rfl) (pv 0) (xa_cons (xe_var (pv 1)) xa_nil)) (fun v59 => (xs_ifx (xt_cmpD (cd_neD hr.units) (xe_VD (xe_callH h_genus_of_row hp hr (by decide) (by rfl) (xa_cons (xe_tuple (by rfl) T.tuple (xq_im (xe_N (xn_lc (own := [("_law_move", 8)]) (up := (uN 8 (qT qI))) rfl sclaw_right.nd (xi_seq (xe_var (pv 2))) (blkOk_by (N := Nlaw_right) (sc := defScope slaw_right) (by decide +kernel)) rfl (fun _ => rfl) (fun _ _ _ _ _ => (xg_name (pg_name (i := 8) sclaw_right.nd rfl (by first | exact .inl rfl | exact .inr rfl)))) (fun _ _ _ _ _ _ x63 => xts_nil) (fun _ _ _ _ _ _ x63 => (xe_callH h_law_le_carried hp hr (by decide) (by rfl) (xa_cons (xe_var (pv 8)) (xa_cons (xe_var (pv 4)) xa_nil)))))))) xa_nil))) (xe_VD (xe_var (pv 3))) rfl) (xs_ret xe_bl) (xs_set (i := 5) (xe_callH h_law_undone hp hr (by decide) (by rfl) (xa_cons (xe_callH h_law_le_product hp hr (by decide) (by rfl) (xa_cons (xe_var (pv 1)) (xa_cons (xe_var (pv 2)) xa_nil))) xa_nil)) (fun v79 => (xs_set (i := 6) (xe_catT (xe_tup1 (xe_callH h_law_le_carried hp hr (by decide) (by rfl) (xa_cons (xe_ix (xq_im (xe_var (pv 2))) (xe_neg xe_int)) (xa_cons (xe_var (pv 5)) xa_nil)))) (xe_slT (xe_var (pv 2)) xo_none (xo_some (xe_neg xe_int)))) (fun v88 => (xs_ret (xe_andB (xe_cmpD (cd_eq (dT dI) (dT dI) hr.units) (xe_callH h_law_le_product hp hr (by decide) (by rfl) (xa_cons (xe_var (pv 1)) (xa_cons (xe_var (pv 6)) xa_nil))) (xe_callH h_law_le_product hp hr (by decide) (by rfl) (xa_cons (xe_var (pv 1)) (xa_cons (xe_var (pv 2)) xa_nil))) rfl) (xe_one (xe_cmpD (cd_eqD hr.units) (xe_VD (xe_callH h_genus_of_row hp hr (by decide) (by rfl) (xa_cons (xe_var (pv 6)) xa_nil))) (xe_VD (xe_var (pv 3))) rfl))))) sclaw_right.nd rfl (.inl rfl) rfl rfl)) sclaw_right.nd rfl (.inl rfl) rfl rfl))) sclaw_right.nd rfl (.inr rfl) rfl rfl))) sclaw_right.nd rfl (.inl rfl) rfl rfl)))) sclaw_right.nd rfl (.inl rfl) rfl rfl)) sclaw_right.nd rfl (.inr rfl) rfl rfl)
  case hg => exact fun _ => rfl
abbrev slaw : Stmt := top 45
abbrev Nlaw : List Str := ["_law_script", "_law_spot", "_law_told", "_law_dice_here", "_law_turn"]
theorem sclaw : FnScope ["_law_script", "_law_spot", "_law_told", "_law_dice_here", "_law_turn"] ["_law_script"] (defScope slaw) := ⟨rfl, rfl, rfl, by decide +kernel, rfl, by decide +kernel, by decide +kernel⟩
def w_law (a : (List Int) × Unit) : W (Fl Bool Empty Unit) :=
  ((((W.ret (1 : Int)).bind fun i4 => (((W.ret (3 : Int)).bind fun i2 => (((W.ret a.1).bind fun x1 => (W.ret (x1.length : Int))).bind fun j3 => (W.ret (if j3 < i2 then j3 else i2)))).bind fun j5 => (W.ret (if j5 > i4 then j5 else i4)))).bind fun i6 => (ofO (rngC 0 i6))).bind fun xs146 => bindF (forL (fun (s7 : Unit) (x8 : Int) => ((((W.ret a.1).bind fun x12 => (((W.ret x8).bind fun x10 => ((W.ret ()).bind fun y11 => (W.ret (x10, y11)))).bind fun y13 => (W.ret (x12, y13)))).bind fun a14 => (ofO (m_law_dice a14))).bind fun (v9 : (List Int)) => ((W.put v9).bind fun _ => (((W.ret (4 : Int)).bind fun i15 => (ofO (rngC 0 i15))).bind fun xs22 => bindF (forL (fun (s16 : Unit) (x17 : Int) => ((((W.ret ()).bind fun a18 => (m_law_right a18)).bind fun b19 => (W.ret (!b19))).bind fun b20 => (if b20 = true then upF ((W.ret false).bind fun x21 => (W.ret (Fl.rt x21))) else (W.ret (Fl.nx ()))))) xs22 ()) (fun (s16 : Unit) => (W.ret (Fl.nx ()))))))) xs146 ()) (fun (s7 : Unit) => ((((((((((W.ret (1 : Int)).bind fun x31 => (((W.ret (2 : Int)).bind fun x29 => (((W.ret (0 : Int)).bind fun x27 => ((W.ret []).bind fun y28 => (W.ret (x27 :: y28)))).bind fun y30 => (W.ret (x29 :: y30)))).bind fun y32 => (W.ret (x31 :: y32)))).bind fun x33 => (ofO (lenK x33))).bind fun x48 => (((((W.ret (1 : Int)).bind fun x41 => (((W.ret (2 : Int)).bind fun x39 => (((W.ret (0 : Int)).bind fun x37 => ((W.ret []).bind fun y38 => (W.ret (x37 :: y38)))).bind fun y40 => (W.ret (x39 :: y40)))).bind fun y42 => (W.ret (x41 :: y42)))).bind fun x43 => (ofO (lenK x43))).bind fun x46 => ((W.ret []).bind fun y47 => (W.ret (x46 :: y47)))).bind fun y49 => (W.ret (x48 :: y49)))).bind fun x50 => (ofO (lenK x50))).bind fun x51 => ((W.ret ()).bind fun y52 => (W.ret (x51, y52)))).bind fun a53 => (ofO (m_genus_of_row a53))).bind fun x99 => (((((((((W.ret (1 : Int)).bind fun x61 => (((W.ret (2 : Int)).bind fun x59 => (((W.ret (0 : Int)).bind fun x57 => ((W.ret []).bind fun y58 => (W.ret (x57 :: y58)))).bind fun y60 => (W.ret (x59 :: y60)))).bind fun y62 => (W.ret (x61 :: y62)))).bind fun x63 => (ofO (lenK x63))).bind fun x91 => (((((W.ret (1 : Int)).bind fun x71 => (((W.ret (2 : Int)).bind fun x69 => (((W.ret (0 : Int)).bind fun x67 => ((W.ret []).bind fun y68 => (W.ret (x67 :: y68)))).bind fun y70 => (W.ret (x69 :: y70)))).bind fun y72 => (W.ret (x71 :: y72)))).bind fun x73 => (ofO (lenK x73))).bind fun x89 => (((((W.ret (1 : Int)).bind fun x81 => (((W.ret (2 : Int)).bind fun x79 => (((W.ret (0 : Int)).bind fun x77 => ((W.ret []).bind fun y78 => (W.ret (x77 :: y78)))).bind fun y80 => (W.ret (x79 :: y80)))).bind fun y82 => (W.ret (x81 :: y82)))).bind fun x83 => (ofO (lenK x83))).bind fun x87 => ((W.ret []).bind fun y88 => (W.ret (x87 :: y88)))).bind fun y90 => (W.ret (x89 :: y90)))).bind fun y92 => (W.ret (x91 :: y92)))).bind fun x93 => (ofO (lenK x93))).bind fun x94 => ((W.ret ()).bind fun y95 => (W.ret (x94, y95)))).bind fun a96 => (ofO (m_genus_of_row a96))).bind fun x97 => ((W.ret []).bind fun y98 => (W.ret (x97 :: y98)))).bind fun y100 => (W.ret (x99 :: y100)))).bind fun x101 => (ofO (lenK x101))).bind fun (v23 : (List PyData)) => ((((((W.ret v23).bind fun x109 => (W.ret ((eL eV).enc x109))).bind fun x110 => (ofO (cleanO x110))).bind fun p107 => (((((W.ret (1 : Int)).bind fun x104 => (((W.ret (1 : Int)).bind fun x102 => ((W.ret []).bind fun y103 => (W.ret (x102 :: y103)))).bind fun y105 => (W.ret (x104 :: y105)))).bind fun x106 => (ofO (lenK x106))).bind fun x111 => (W.ret ((dL dI).d x111))).bind fun q108 => (ofO (eqC p107 q108)))).bind fun p144 => (if p144 = true then ((((((((W.ret (1 : Int)).bind fun x119 => (((W.ret (0 : Int)).bind fun x117 => (((W.ret (2 : Int)).bind fun x115 => ((W.ret []).bind fun y116 => (W.ret (x115 :: y116)))).bind fun y118 => (W.ret (x117 :: y118)))).bind fun y120 => (W.ret (x119 :: y120)))).bind fun x121 => (ofO (lenK x121))).bind fun x122 => (W.ret [x122])).bind fun x123 => ((W.ret ()).bind fun y124 => (W.ret (x123, y124)))).bind fun a125 => (ofO (m_genus_of_row a125))).bind fun x126 => (W.ret (isNonV x126))).bind fun p143 => (if p143 = true then ((((((((W.ret (0 : Int)).bind fun x127 => (W.ret [x127])).bind fun x133 => ((((W.ret (0 : Int)).bind fun x128 => (W.ret [x128])).bind fun x131 => ((W.ret []).bind fun y132 => (W.ret (x131 :: y132)))).bind fun y134 => (W.ret (x133 :: y134)))).bind fun x135 => (ofO (lenK x135))).bind fun x136 => ((W.ret ()).bind fun y137 => (W.ret (x136, y137)))).bind fun a138 => (ofO (m_genus_of_row a138))).bind fun x141 => (ofO (cleanO x141))).bind fun p139 => (((W.ret (0 : Int)).bind fun x142 => (W.ret (dI.d x142))).bind fun q140 => (ofO (eqC p139 q140)))) else (W.ret false))) else (W.ret false))).bind fun x145 => (W.ret (Fl.rt x145))))))
def m_law (a : (List Int) × Unit) : W Bool := rtOf (w_law a)
theorem k_law {f : Addr} {fd : FuncData} (F : Fun K "law" "law" slaw f fd) (T : Txt K mg) {π : Around → Prop} (sπ : Stb π) (h_genus_of_row : Has P w K mg base π "genus_of_row" 10 ["moves"] (SpF (pC (qT (qT qI)) p0).ra qV m_genus_of_row)) (h_law_dice : Has P w K mg base π "_law_dice" 1 ["_law_script", "_law_spot"] (SpN (pC (qX K) (pC qI p0)).ra qI m_law_dice)) (h_law_right : Has P w K mg base π "_law_right" 11 ["_law_dice_here"] (SpD p0.ra qB m_law_right)) : FnP π P w K mg base CX0 12 f fd ["_law_script"] (SpW (pC (qX K) p0).ra qB m_law) := by
  refine fn_okW (p := (pC (qX K) p0)) (m := w_law) (pn := (fun z _ => nomatch z)) (pl := fun _ _ => []) (env := fun a => [.im (qX K) a.1, .un, .un, .un, .un]) 4 sπ F sclaw rfl rfl (fun _ => rfl) ?hb ?hg
  case hb =>
    intro cdv A outer s H E hp hr C a hA
    unfold w_law
    exact (xs_for (s0 := ()) (up := (uN 1 qI)) (pt := fun (s7 : Unit) g => [.im (qX K) a.1, .un, .un, .un, .un]) PassesOwn.never rfl (xi_rng1 (by rfl) T.range (xe_max2 rfl (by rfl) T.max xe_int (xe_min2 rfl (by rfl) T.min xe_int (xe_lenX (by rfl) T.len (xe_var (pv 0)))))) (xg_name (pg_name (i := 1) sclaw.nd rfl (by first | exact .inl rfl | exact .inr rfl))) (fun _ => (.keep (.keep (.keep (.keep (.keep .nil)))))) (fun s7 x8 => (xs_setN (i := 3) (xe_callL h_law_dice hp hr (by decide) (by rfl) (xa_cons (xe_var (pv 0)) (xa_cons (xe_var (pv 1)) xa_nil))) (fun v9 => xs_gh 3 (fun d => (xs_for (s0 := ()) (up := (uN 4 qI)) (pt := fun (s16 : Unit) g => [.im (qX K) a.1, .im qI x8, .un, .iv d (oD g), .un]) PassesOwn.never rfl (xi_rng1 (by rfl) T.range xe_int) (xg_name (pg_name (i := 4) sclaw.nd rfl (by first | exact .inl rfl | exact .inr rfl))) (fun _ => (.keep (.keep (.keep (.keep (.keep .nil)))))) (fun s16 x17 => (xs_ifx (xt_not (xt_val (xe_callDH h_law_right hp hr (by decide) (by rfl) (pv 3) xa_nil))) (xs_ret xe_bl) (xs_nil (fun _ => (.keep (.keep (.keep (.keep (.drop .nil))))))))) (fun s16 => (xs_nil (fun _ => (.keep (.drop (.keep (.drop (.keep .nil))))))))))) sclaw.nd rfl (.inl rfl) rfl rfl)) (fun s7 => (xs_set (i := 2) (xe_N (xn_lst (xa_consL (xe_callH h_genus_of_row hp hr (by decide) (by rfl) (xa_cons (xe_tupL (xa_consL (xe_tupL (xa_consL xe_int (xa_consL xe_int (xa_consL xe_int xa_nilL)))) (xa_consL (xe_tupL (xa_consL xe_int (xa_consL xe_int (xa_consL xe_int xa_nilL)))) xa_nilL))) xa_nil)) (xa_consL (xe_callH h_genus_of_row hp hr (by decide) (by rfl) (xa_cons (xe_tupL (xa_consL (xe_tupL (xa_consL xe_int (xa_consL xe_int (xa_consL xe_int xa_nilL)))) (xa_consL (xe_tupL (xa_consL xe_int (xa_consL xe_int (xa_consL xe_int xa_nilL)))) (xa_consL (xe_tupL (xa_consL xe_int (xa_consL xe_int (xa_consL xe_int xa_nilL)))) xa_nilL)))) xa_nil)) xa_nilL)))) (fun v23 => (xs_ret (xe_andB (xe_cmpD (cd_eqD hr.units) (xe_VD (xe_enc (eL eV) (xe_var (pv 2)))) (xe_data (dL dI) (xe_N (xn_lst (xa_consL xe_int (xa_consL xe_int xa_nilL))))) rfl) (xe_andB (xe_isNV (xe_callH h_genus_of_row hp hr (by decide) (by rfl) (xa_cons (xe_tup1 (xe_tupL (xa_consL xe_int (xa_consL xe_int (xa_consL xe_int xa_nilL))))) xa_nil))) (xe_one (xe_cmpD (cd_eqD hr.units) (xe_VD (xe_callH h_genus_of_row hp hr (by decide) (by rfl) (xa_cons (xe_tupL (xa_consL (xe_tup1 xe_int) (xa_consL (xe_tup1 xe_int) xa_nilL))) xa_nil))) (xe_data dI xe_int) rfl)))))) sclaw.nd rfl (.inl rfl) rfl rfl)))
  case hg => exact fun _ => rfl
end
section
theorem all_mk {l : PySem.W.OpenLaw} {w : World} {K : PySem.W.Frag} {h : Heap} {mg : Str → Option Value} {pp : Program} {lv : List (Str × PySem.W.WData)} {fa f_law_dice f_law_roll f_law_shuffled f_law_move_drawn f_law_undone f_law_joined f_law_lot_of f_law_kind f_law_le_least f_law_behind f_law_le_product f_law_le_genus f_is_whole f_is_integer f_is_count f_is_move f_are_moves f_joined_places f_places_of_moves f_check_move f_cycles f_least_number f_idle_move f_then f_product f_sorted_lot f_kind_of f_least_swaps f_genus f_genus_of_row f_law_parity_right f_law_le_carried f_law_right f_law : Addr} {t_MAX_FACTORS : Tok} {t_MOST_PLACES : Tok} (KX : K.In h) (G : h.Ns mainGlobals mg) (hfa : mg "law" = some (.ref fa)) (XX : PySem.W.XL pp lv mg h)
    (a_law_dice : PySem.W.nsIn K mainGlobals "_law_dice" = some (some (.ref f_law_dice))) (d_law_dice : Dfn K "_law_dice" slaw_dice f_law_dice)
    (a_law_roll : PySem.W.nsIn K mainGlobals "_law_roll" = some (some (.ref f_law_roll))) (d_law_roll : Dfn K "_law_roll" slaw_roll f_law_roll)
    (a_law_shuffled : PySem.W.nsIn K mainGlobals "_law_shuffled" = some (some (.ref f_law_shuffled))) (d_law_shuffled : Dfn K "_law_shuffled" slaw_shuffled f_law_shuffled)
    (a_law_move_drawn : PySem.W.nsIn K mainGlobals "_law_move_drawn" = some (some (.ref f_law_move_drawn))) (d_law_move_drawn : Dfn K "_law_move_drawn" slaw_move_drawn f_law_move_drawn)
    (a_law_undone : PySem.W.nsIn K mainGlobals "_law_undone" = some (some (.ref f_law_undone))) (d_law_undone : Dfn K "_law_undone" slaw_undone f_law_undone)
    (a_law_joined : PySem.W.nsIn K mainGlobals "_law_joined" = some (some (.ref f_law_joined))) (d_law_joined : Dfn K "_law_joined" slaw_joined f_law_joined)
    (a_law_lot_of : PySem.W.nsIn K mainGlobals "_law_lot_of" = some (some (.ref f_law_lot_of))) (d_law_lot_of : Dfn K "_law_lot_of" slaw_lot_of f_law_lot_of)
    (a_law_kind : PySem.W.nsIn K mainGlobals "_law_kind" = some (some (.ref f_law_kind))) (d_law_kind : Dfn K "_law_kind" slaw_kind f_law_kind)
    (a_law_le_least : PySem.W.nsIn K mainGlobals "_law_le_least" = some (some (.ref f_law_le_least))) (d_law_le_least : Dfn K "_law_le_least" slaw_le_least f_law_le_least)
    (a_law_behind : PySem.W.nsIn K mainGlobals "_law_behind" = some (some (.ref f_law_behind))) (d_law_behind : Dfn K "_law_behind" slaw_behind f_law_behind)
    (a_law_le_product : PySem.W.nsIn K mainGlobals "_law_le_product" = some (some (.ref f_law_le_product))) (d_law_le_product : Dfn K "_law_le_product" slaw_le_product f_law_le_product)
    (a_law_le_genus : PySem.W.nsIn K mainGlobals "_law_le_genus" = some (some (.ref f_law_le_genus))) (d_law_le_genus : Dfn K "_law_le_genus" slaw_le_genus f_law_le_genus)
    (a_is_whole : PySem.W.nsIn K mainGlobals "is_whole" = some (some (.ref f_is_whole))) (d_is_whole : Dfn K "is_whole" sis_whole f_is_whole)
    (a_is_integer : PySem.W.nsIn K mainGlobals "is_integer" = some (some (.ref f_is_integer))) (d_is_integer : Dfn K "is_integer" sis_integer f_is_integer)
    (a_is_count : PySem.W.nsIn K mainGlobals "is_count" = some (some (.ref f_is_count))) (d_is_count : Dfn K "is_count" sis_count f_is_count)
    (a_is_move : PySem.W.nsIn K mainGlobals "is_move" = some (some (.ref f_is_move))) (d_is_move : Dfn K "is_move" sis_move f_is_move)
    (a_are_moves : PySem.W.nsIn K mainGlobals "are_moves" = some (some (.ref f_are_moves))) (d_are_moves : Dfn K "are_moves" sare_moves f_are_moves)
    (a_joined_places : PySem.W.nsIn K mainGlobals "joined_places" = some (some (.ref f_joined_places))) (d_joined_places : Dfn K "joined_places" sjoined_places f_joined_places)
    (a_places_of_moves : PySem.W.nsIn K mainGlobals "places_of_moves" = some (some (.ref f_places_of_moves))) (d_places_of_moves : Dfn K "places_of_moves" splaces_of_moves f_places_of_moves)
    (a_check_move : PySem.W.nsIn K mainGlobals "check_move" = some (some (.ref f_check_move))) (d_check_move : Dfn K "check_move" scheck_move f_check_move)
    (a_cycles : PySem.W.nsIn K mainGlobals "cycles" = some (some (.ref f_cycles))) (d_cycles : Dfn K "cycles" scycles f_cycles)
    (a_least_number : PySem.W.nsIn K mainGlobals "least_number" = some (some (.ref f_least_number))) (d_least_number : Dfn K "least_number" sleast_number f_least_number)
    (a_idle_move : PySem.W.nsIn K mainGlobals "idle_move" = some (some (.ref f_idle_move))) (d_idle_move : Dfn K "idle_move" sidle_move f_idle_move)
    (a_then : PySem.W.nsIn K mainGlobals "_then" = some (some (.ref f_then))) (d_then : Dfn K "_then" sthen f_then)
    (a_product : PySem.W.nsIn K mainGlobals "_product" = some (some (.ref f_product))) (d_product : Dfn K "_product" sproduct f_product)
    (a_sorted_lot : PySem.W.nsIn K mainGlobals "sorted_lot" = some (some (.ref f_sorted_lot))) (d_sorted_lot : Dfn K "sorted_lot" ssorted_lot f_sorted_lot)
    (a_kind_of : PySem.W.nsIn K mainGlobals "kind_of" = some (some (.ref f_kind_of))) (d_kind_of : Dfn K "kind_of" skind_of f_kind_of)
    (a_least_swaps : PySem.W.nsIn K mainGlobals "_least_swaps" = some (some (.ref f_least_swaps))) (d_least_swaps : Dfn K "_least_swaps" sleast_swaps f_least_swaps)
    (a_genus : PySem.W.nsIn K mainGlobals "_genus" = some (some (.ref f_genus))) (d_genus : Dfn K "_genus" sgenus f_genus)
    (a_genus_of_row : PySem.W.nsIn K mainGlobals "genus_of_row" = some (some (.ref f_genus_of_row))) (d_genus_of_row : Dfn K "genus_of_row" sgenus_of_row f_genus_of_row)
    (a_law_parity_right : PySem.W.nsIn K mainGlobals "_law_parity_right" = some (some (.ref f_law_parity_right))) (d_law_parity_right : Dfn K "_law_parity_right" slaw_parity_right f_law_parity_right)
    (a_law_le_carried : PySem.W.nsIn K mainGlobals "_law_le_carried" = some (some (.ref f_law_le_carried))) (d_law_le_carried : Dfn K "_law_le_carried" slaw_le_carried f_law_le_carried)
    (a_law_right : PySem.W.nsIn K mainGlobals "_law_right" = some (some (.ref f_law_right))) (d_law_right : Dfn K "_law_right" slaw_right f_law_right)
    (a_law : PySem.W.nsIn K mainGlobals "law" = some (some (.ref f_law))) (d_law : Dfn K "law" slaw f_law)
    (z_abs : PySem.W.nsIn K mainGlobals "abs" = some none) (z_all : PySem.W.nsIn K mainGlobals "all" = some none) (z_bool : PySem.W.nsIn K mainGlobals "bool" = some none) (z_enumerate : PySem.W.nsIn K mainGlobals "enumerate" = some none) (z_int : PySem.W.nsIn K mainGlobals "int" = some none) (z_isinstance : PySem.W.nsIn K mainGlobals "isinstance" = some none) (z_len : PySem.W.nsIn K mainGlobals "len" = some none) (z_list : PySem.W.nsIn K mainGlobals "list" = some none) (z_max : PySem.W.nsIn K mainGlobals "max" = some none) (z_min : PySem.W.nsIn K mainGlobals "min" = some none) (z_range : PySem.W.nsIn K mainGlobals "range" = some none) (z_sorted : PySem.W.nsIn K mainGlobals "sorted" = some none) (z_sum : PySem.W.nsIn K mainGlobals "sum" = some none) (z_tuple : PySem.W.nsIn K mainGlobals "tuple" = some none)
    (i_MAX_FACTORS : PySem.W.nsIn K mainGlobals "MAX_FACTORS" = some (some (.int 8 t_MAX_FACTORS)))
    (i_MOST_PLACES : PySem.W.nsIn K mainGlobals "MOST_PLACES" = some (some (.int 24 t_MOST_PLACES)))
    (i_g_FIRST_TOO_LONG : (("_FIRST_TOO_LONG" : Str), PySem.W.WData.int 1000000000000000000000000000000000000000000000000000000000000) ∈ lv)
    : ∃ fd : FuncData, (∀ (s : Shared) (v : Value), BindsTo s fd ⟨[v], []⟩ [("_law_script", v)]) ∧ ∀ base : Heap, K.In base → base.Ns mainGlobals mg → FnP (fun A => A.guards = some []) l.prog w K mg base CX0 12 fa fd ["_law_script"] (SpW (pC (qX K) p0).ra qB m_law) := by
  have e := hfa.symm.trans (PySem.W.mg_of KX G a_law)
  cases e
  have T : Txt K mg := ⟨PySem.W.mg_none_of KX G z_abs, PySem.W.mg_none_of KX G z_all, PySem.W.mg_none_of KX G z_bool, PySem.W.mg_none_of KX G z_enumerate, PySem.W.mg_none_of KX G z_int, PySem.W.mg_none_of KX G z_isinstance, PySem.W.mg_none_of KX G z_len, PySem.W.mg_none_of KX G z_list, PySem.W.mg_none_of KX G z_max, PySem.W.mg_none_of KX G z_min, PySem.W.mg_none_of KX G z_range, PySem.W.mg_none_of KX G z_sorted, PySem.W.mg_none_of KX G z_sum, PySem.W.mg_none_of KX G z_tuple, ⟨_, PySem.W.mg_of KX G i_MAX_FACTORS⟩, ⟨_, PySem.W.mg_of KX G i_MOST_PLACES⟩, gint_of XX i_g_FIRST_TOO_LONG⟩
  obtain ⟨fd_law_dice, F_law_dice⟩ := d_law_dice
  obtain ⟨fd_law_roll, F_law_roll⟩ := d_law_roll
  obtain ⟨fd_law_shuffled, F_law_shuffled⟩ := d_law_shuffled
  obtain ⟨fd_law_move_drawn, F_law_move_drawn⟩ := d_law_move_drawn
  obtain ⟨fd_law_undone, F_law_undone⟩ := d_law_undone
  obtain ⟨fd_law_joined, F_law_joined⟩ := d_law_joined
  obtain ⟨fd_law_lot_of, F_law_lot_of⟩ := d_law_lot_of
  obtain ⟨fd_law_kind, F_law_kind⟩ := d_law_kind
  obtain ⟨fd_law_le_least, F_law_le_least⟩ := d_law_le_least
  obtain ⟨fd_law_behind, F_law_behind⟩ := d_law_behind
  obtain ⟨fd_law_le_product, F_law_le_product⟩ := d_law_le_product
  obtain ⟨fd_law_le_genus, F_law_le_genus⟩ := d_law_le_genus
  obtain ⟨fd_is_whole, F_is_whole⟩ := d_is_whole
  obtain ⟨fd_is_integer, F_is_integer⟩ := d_is_integer
  obtain ⟨fd_is_count, F_is_count⟩ := d_is_count
  obtain ⟨fd_is_move, F_is_move⟩ := d_is_move
  obtain ⟨fd_are_moves, F_are_moves⟩ := d_are_moves
  obtain ⟨fd_joined_places, F_joined_places⟩ := d_joined_places
  obtain ⟨fd_places_of_moves, F_places_of_moves⟩ := d_places_of_moves
  obtain ⟨fd_check_move, F_check_move⟩ := d_check_move
  obtain ⟨fd_cycles, F_cycles⟩ := d_cycles
  obtain ⟨fd_least_number, F_least_number⟩ := d_least_number
  obtain ⟨fd_idle_move, F_idle_move⟩ := d_idle_move
  obtain ⟨fd_then, F_then⟩ := d_then
  obtain ⟨fd_product, F_product⟩ := d_product
  obtain ⟨fd_sorted_lot, F_sorted_lot⟩ := d_sorted_lot
  obtain ⟨fd_kind_of, F_kind_of⟩ := d_kind_of
  obtain ⟨fd_least_swaps, F_least_swaps⟩ := d_least_swaps
  obtain ⟨fd_genus, F_genus⟩ := d_genus
  obtain ⟨fd_genus_of_row, F_genus_of_row⟩ := d_genus_of_row
  obtain ⟨fd_law_parity_right, F_law_parity_right⟩ := d_law_parity_right
  obtain ⟨fd_law_le_carried, F_law_le_carried⟩ := d_law_le_carried
  obtain ⟨fd_law_right, F_law_right⟩ := d_law_right
  obtain ⟨fd_law, F_law⟩ := d_law
  refine ⟨fd_law, fun s v => ?_, fun base _ _ => ?_⟩
  · obtain ⟨oc, od, kV, doc, pm, an, cdv, ct, osl, rfl, lk, hcd⟩ := F_law.ex
    exact .of_eq rfl
  · have h_law_dice : Has l.prog w K mg base (fun A => A.guards = some []) "_law_dice" 1 ["_law_script", "_law_spot"] (SpN (pC (qX K) (pC qI p0)).ra qI m_law_dice) := ⟨_, _, k_law_dice F_law_dice T stb_guards, PySem.W.mg_of KX G a_law_dice, F_law_dice.kp, F_law_dice.binds (ps := ["_law_script", "_law_spot"]) fun _ _ _ _ _ _ us hl => match us, hl with | [_, _], _ => rfl⟩
    have h_law_roll : Has l.prog w K mg base (fun A => A.guards = some []) "_law_roll" 1 ["_law_dice_here", "_law_total"] (SpD (pC qI p0).ra qI m_law_roll) := ⟨_, _, k_law_roll F_law_roll T stb_guards, PySem.W.mg_of KX G a_law_roll, F_law_roll.kp, F_law_roll.binds (ps := ["_law_dice_here", "_law_total"]) fun _ _ _ _ _ _ us hl => match us, hl with | [_, _], _ => rfl⟩
    have h_law_shuffled : Has l.prog w K mg base (fun A => A.guards = some []) "_law_shuffled" 2 ["_law_dice_here", "_law_items"] (SpD (pC (qL qI) p0).ra (qL qI) m_law_shuffled) := ⟨_, _, k_law_shuffled F_law_shuffled T stb_guards h_law_roll, PySem.W.mg_of KX G a_law_shuffled, F_law_shuffled.kp, F_law_shuffled.binds (ps := ["_law_dice_here", "_law_items"]) fun _ _ _ _ _ _ us hl => match us, hl with | [_, _], _ => rfl⟩
    have h_law_move_drawn : Has l.prog w K mg base (fun A => A.guards = some []) "_law_move_drawn" 3 ["_law_dice_here", "_law_size"] (SpD (pC qI p0).ra (qT qI) m_law_move_drawn) := ⟨_, _, k_law_move_drawn F_law_move_drawn T stb_guards h_law_shuffled, PySem.W.mg_of KX G a_law_move_drawn, F_law_move_drawn.kp, F_law_move_drawn.binds (ps := ["_law_dice_here", "_law_size"]) fun _ _ _ _ _ _ us hl => match us, hl with | [_, _], _ => rfl⟩
    have h_law_undone : Has l.prog w K mg base (fun A => A.guards = some []) "_law_undone" 1 ["_law_move"] (SpF (pC (qT qI) p0).ra (qT qI) m_law_undone) := ⟨_, _, k_law_undone F_law_undone T stb_guards, PySem.W.mg_of KX G a_law_undone, F_law_undone.kp, F_law_undone.binds (ps := ["_law_move"]) fun _ _ _ _ _ _ us hl => match us, hl with | [_], _ => rfl⟩
    have h_law_joined : Has l.prog w K mg base (fun A => A.guards = some []) "_law_joined" 1 ["_law_size", "_law_moves"] (SpF (pC qI (pC (qT (qT qI)) p0)).ra (qL qI) m_law_joined) := ⟨_, _, k_law_joined F_law_joined T stb_guards, PySem.W.mg_of KX G a_law_joined, F_law_joined.kp, F_law_joined.binds (ps := ["_law_size", "_law_moves"]) fun _ _ _ _ _ _ us hl => match us, hl with | [_, _], _ => rfl⟩
    have h_law_lot_of : Has l.prog w K mg base (fun A => A.guards = some []) "_law_lot_of" 1 ["_law_members"] (SpF (pC (qL qI) p0).ra (qT qI) m_law_lot_of) := ⟨_, _, k_law_lot_of F_law_lot_of T stb_guards, PySem.W.mg_of KX G a_law_lot_of, F_law_lot_of.kp, F_law_lot_of.binds (ps := ["_law_members"]) fun _ _ _ _ _ _ us hl => match us, hl with | [_], _ => rfl⟩
    have h_law_kind : Has l.prog w K mg base (fun A => A.guards = some []) "_law_kind" 2 ["_law_move"] (SpF (pC (qT qI) p0).ra (qT qI) m_law_kind) := ⟨_, _, k_law_kind F_law_kind T stb_guards h_law_lot_of, PySem.W.mg_of KX G a_law_kind, F_law_kind.kp, F_law_kind.binds (ps := ["_law_move"]) fun _ _ _ _ _ _ us hl => match us, hl with | [_], _ => rfl⟩
    have h_law_le_least : Has l.prog w K mg base (fun A => A.guards = some []) "_law_le_least" 3 ["_law_move"] (SpF (pC (qT qI) p0).ra qI m_law_le_least) := ⟨_, _, k_law_le_least F_law_le_least T stb_guards h_law_kind, PySem.W.mg_of KX G a_law_le_least, F_law_le_least.kp, F_law_le_least.binds (ps := ["_law_move"]) fun _ _ _ _ _ _ us hl => match us, hl with | [_], _ => rfl⟩
    have h_law_behind : Has l.prog w K mg base (fun A => A.guards = some []) "_law_behind" 1 ["_law_one", "_law_other"] (SpF (pC (qT qI) (pC (qT qI) p0)).ra (qT qI) m_law_behind) := ⟨_, _, k_law_behind F_law_behind T stb_guards, PySem.W.mg_of KX G a_law_behind, F_law_behind.kp, F_law_behind.binds (ps := ["_law_one", "_law_other"]) fun _ _ _ _ _ _ us hl => match us, hl with | [_, _], _ => rfl⟩
    have h_law_le_product : Has l.prog w K mg base (fun A => A.guards = some []) "_law_le_product" 2 ["_law_size", "_law_row"] (SpF (pC qI (pC (qT (qT qI)) p0)).ra (qT qI) m_law_le_product) := ⟨_, _, k_law_le_product F_law_le_product T stb_guards h_law_behind, PySem.W.mg_of KX G a_law_le_product, F_law_le_product.kp, F_law_le_product.binds (ps := ["_law_size", "_law_row"]) fun _ _ _ _ _ _ us hl => match us, hl with | [_, _], _ => rfl⟩
    have h_law_le_genus : Has l.prog w K mg base (fun A => A.guards = some []) "_law_le_genus" 4 ["_law_size", "_law_row"] (SpF (pC qI (pC (qT (qT qI)) p0)).ra qV m_law_le_genus) := ⟨_, _, k_law_le_genus F_law_le_genus T stb_guards h_law_joined h_law_kind h_law_le_least h_law_le_product, PySem.W.mg_of KX G a_law_le_genus, F_law_le_genus.kp, F_law_le_genus.binds (ps := ["_law_size", "_law_row"]) fun _ _ _ _ _ _ us hl => match us, hl with | [_, _], _ => rfl⟩
    have h_is_whole : Has l.prog w K mg base (fun A => A.guards = some []) "is_whole" 1 ["value"] (SpF (pC qI p0).ra qB m_is_whole) := ⟨_, _, k_is_whole F_is_whole T stb_guards, PySem.W.mg_of KX G a_is_whole, F_is_whole.kp, F_is_whole.binds (ps := ["value"]) fun _ _ _ _ _ _ us hl => match us, hl with | [_], _ => rfl⟩
    have h_is_integer : Has l.prog w K mg base (fun A => A.guards = some []) "is_integer" 2 ["value"] (SpF (pC qI p0).ra qB m_is_integer) := ⟨_, _, k_is_integer F_is_integer T stb_guards h_is_whole, PySem.W.mg_of KX G a_is_integer, F_is_integer.kp, F_is_integer.binds (ps := ["value"]) fun _ _ _ _ _ _ us hl => match us, hl with | [_], _ => rfl⟩
    have h_is_count : Has l.prog w K mg base (fun A => A.guards = some []) "is_count" 3 ["value", "low", "high"] (SpF (pC qI (pC qI (pC qI p0))).ra qB m_is_count) := ⟨_, _, k_is_count F_is_count T stb_guards h_is_integer, PySem.W.mg_of KX G a_is_count, F_is_count.kp, F_is_count.binds (ps := ["value", "low", "high"]) fun _ _ _ _ _ _ us hl => match us, hl with | [_, _, _], _ => rfl⟩
    have h_is_move : Has l.prog w K mg base (fun A => A.guards = some []) "is_move" 4 ["value"] (SpF (pC (qT qI) p0).ra qB m_is_move) := ⟨_, _, k_is_move F_is_move T stb_guards h_is_count, PySem.W.mg_of KX G a_is_move, F_is_move.kp, F_is_move.binds (ps := ["value"]) fun _ _ _ _ _ _ us hl => match us, hl with | [_], _ => rfl⟩
    have h_are_moves : Has l.prog w K mg base (fun A => A.guards = some []) "are_moves" 5 ["value", "most"] (SpF (pC (qT (qT qI)) (pC qI p0)).ra qB m_are_moves) := ⟨_, _, k_are_moves F_are_moves T stb_guards h_is_move, PySem.W.mg_of KX G a_are_moves, F_are_moves.kp, F_are_moves.binds (ps := ["value", "most"]) fun _ _ _ _ _ _ us hl => match us, hl with | [_, _], _ => rfl⟩
    have h_joined_places : Has l.prog w K mg base (fun A => A.guards = some []) "joined_places" 1 ["size", "pairs"] (SpF (pC qI (pC (qL (qP qI qI)) p0)).ra (qT (qT qI)) m_joined_places) := ⟨_, _, k_joined_places F_joined_places T stb_guards, PySem.W.mg_of KX G a_joined_places, F_joined_places.kp, F_joined_places.binds (ps := ["size", "pairs"]) fun _ _ _ _ _ _ us hl => match us, hl with | [_, _], _ => rfl⟩
    have h_places_of_moves : Has l.prog w K mg base (fun A => A.guards = some []) "places_of_moves" 2 ["told"] (SpF (pC (qT (qT qI)) p0).ra (qT (qT qI)) m_places_of_moves) := ⟨_, _, k_places_of_moves F_places_of_moves T stb_guards h_joined_places, PySem.W.mg_of KX G a_places_of_moves, F_places_of_moves.kp, F_places_of_moves.binds (ps := ["told"]) fun _ _ _ _ _ _ us hl => match us, hl with | [_], _ => rfl⟩
    have h_check_move : Has l.prog w K mg base (fun A => A.guards = some []) "check_move" 5 ["value"] (SpF (pC (qT qI) p0).ra qN m_check_move) := ⟨_, _, k_check_move F_check_move T stb_guards h_is_move, PySem.W.mg_of KX G a_check_move, F_check_move.kp, F_check_move.binds (ps := ["value"]) fun _ _ _ _ _ _ us hl => match us, hl with | [_], _ => rfl⟩
    have h_cycles : Has l.prog w K mg base (fun A => A.guards = some []) "cycles" 6 ["move"] (SpF (pC (qT qI) p0).ra (qT (qT qI)) m_cycles) := ⟨_, _, k_cycles F_cycles T stb_guards h_check_move, PySem.W.mg_of KX G a_cycles, F_cycles.kp, F_cycles.binds (ps := ["move"]) fun _ _ _ _ _ _ us hl => match us, hl with | [_], _ => rfl⟩
    have h_least_number : Has l.prog w K mg base (fun A => A.guards = some []) "least_number" 7 ["move"] (SpF (pC (qT qI) p0).ra qI m_least_number) := ⟨_, _, k_least_number F_least_number T stb_guards h_check_move h_cycles, PySem.W.mg_of KX G a_least_number, F_least_number.kp, F_least_number.binds (ps := ["move"]) fun _ _ _ _ _ _ us hl => match us, hl with | [_], _ => rfl⟩
    have h_idle_move : Has l.prog w K mg base (fun A => A.guards = some []) "idle_move" 1 ["size"] (SpF (pC qI p0).ra (qT qI) m_idle_move) := ⟨_, _, k_idle_move F_idle_move T stb_guards, PySem.W.mg_of KX G a_idle_move, F_idle_move.kp, F_idle_move.binds (ps := ["size"]) fun _ _ _ _ _ _ us hl => match us, hl with | [_], _ => rfl⟩
    have h_then : Has l.prog w K mg base (fun A => A.guards = some []) "_then" 1 ["one", "other"] (SpF (pC (qT qI) (pC (qT qI) p0)).ra (qT qI) m_then) := ⟨_, _, k_then F_then T stb_guards, PySem.W.mg_of KX G a_then, F_then.kp, F_then.binds (ps := ["one", "other"]) fun _ _ _ _ _ _ us hl => match us, hl with | [_, _], _ => rfl⟩
    have h_product : Has l.prog w K mg base (fun A => A.guards = some []) "_product" 2 ["row"] (SpF (pC (qT (qT qI)) p0).ra (qT qI) m_product) := ⟨_, _, k_product F_product T stb_guards h_idle_move h_then, PySem.W.mg_of KX G a_product, F_product.kp, F_product.binds (ps := ["row"]) fun _ _ _ _ _ _ us hl => match us, hl with | [_], _ => rfl⟩
    have h_sorted_lot : Has l.prog w K mg base (fun A => A.guards = some []) "sorted_lot" 1 ["members"] (SpF (pC (qL qI) p0).ra (qT qI) m_sorted_lot) := ⟨_, _, k_sorted_lot F_sorted_lot T stb_guards, PySem.W.mg_of KX G a_sorted_lot, F_sorted_lot.kp, F_sorted_lot.binds (ps := ["members"]) fun _ _ _ _ _ _ us hl => match us, hl with | [_], _ => rfl⟩
    have h_kind_of : Has l.prog w K mg base (fun A => A.guards = some []) "kind_of" 7 ["move"] (SpF (pC (qT qI) p0).ra (qT qI) m_kind_of) := ⟨_, _, k_kind_of F_kind_of T stb_guards h_cycles h_sorted_lot, PySem.W.mg_of KX G a_kind_of, F_kind_of.kp, F_kind_of.binds (ps := ["move"]) fun _ _ _ _ _ _ us hl => match us, hl with | [_], _ => rfl⟩
    have h_least_swaps : Has l.prog w K mg base (fun A => A.guards = some []) "_least_swaps" 8 ["move"] (SpF (pC (qT qI) p0).ra qI m_least_swaps) := ⟨_, _, k_least_swaps F_least_swaps T stb_guards h_kind_of, PySem.W.mg_of KX G a_least_swaps, F_least_swaps.kp, F_least_swaps.binds (ps := ["move"]) fun _ _ _ _ _ _ us hl => match us, hl with | [_], _ => rfl⟩
    have h_genus : Has l.prog w K mg base (fun A => A.guards = some []) "_genus" 9 ["row"] (SpF (pC (qT (qT qI)) p0).ra qV m_genus) := ⟨_, _, k_genus F_genus T stb_guards h_least_number h_least_swaps h_places_of_moves h_product, PySem.W.mg_of KX G a_genus, F_genus.kp, F_genus.binds (ps := ["row"]) fun _ _ _ _ _ _ us hl => match us, hl with | [_], _ => rfl⟩
    have h_genus_of_row : Has l.prog w K mg base (fun A => A.guards = some []) "genus_of_row" 10 ["moves"] (SpF (pC (qT (qT qI)) p0).ra qV m_genus_of_row) := ⟨_, _, k_genus_of_row F_genus_of_row T stb_guards h_are_moves h_genus, PySem.W.mg_of KX G a_genus_of_row, F_genus_of_row.kp, F_genus_of_row.binds (ps := ["moves"]) fun _ _ _ _ _ _ us hl => match us, hl with | [_], _ => rfl⟩
    have h_law_parity_right : Has l.prog w K mg base (fun A => A.guards = some []) "_law_parity_right" 4 ["_law_size", "_law_row"] (SpF (pC qI (pC (qT (qT qI)) p0)).ra qB m_law_parity_right) := ⟨_, _, k_law_parity_right F_law_parity_right T stb_guards h_law_kind h_law_le_least h_law_le_product, PySem.W.mg_of KX G a_law_parity_right, F_law_parity_right.kp, F_law_parity_right.binds (ps := ["_law_size", "_law_row"]) fun _ _ _ _ _ _ us hl => match us, hl with | [_, _], _ => rfl⟩
    have h_law_le_carried : Has l.prog w K mg base (fun A => A.guards = some []) "_law_le_carried" 1 ["_law_move", "_law_by"] (SpF (pC (qT qI) (pC (qT qI) p0)).ra (qT qI) m_law_le_carried) := ⟨_, _, k_law_le_carried F_law_le_carried T stb_guards, PySem.W.mg_of KX G a_law_le_carried, F_law_le_carried.kp, F_law_le_carried.binds (ps := ["_law_move", "_law_by"]) fun _ _ _ _ _ _ us hl => match us, hl with | [_, _], _ => rfl⟩
    have h_law_right : Has l.prog w K mg base (fun A => A.guards = some []) "_law_right" 11 ["_law_dice_here"] (SpD p0.ra qB m_law_right) := ⟨_, _, k_law_right F_law_right T stb_guards h_genus_of_row h_law_le_carried h_law_le_genus h_law_le_product h_law_move_drawn h_law_parity_right h_law_roll h_law_undone, PySem.W.mg_of KX G a_law_right, F_law_right.kp, F_law_right.binds (ps := ["_law_dice_here"]) fun _ _ _ _ _ _ us hl => match us, hl with | [_], _ => rfl⟩
    exact k_law F_law T stb_guards h_genus_of_row h_law_dice h_law_right
end

end K

set_option maxRecDepth 100000
set_option maxHeartbeats 4000000
/-! V1: paths and cycles of a map of integers; how a swap behind it parts or joins them. -/
namespace K
open PySem L2 Rt
def Path (f : Int → Int) : Int → List Int → Int → Prop
  | a, [], b => f a = b
  | a, x :: xs, b => f a = x ∧ Path f x xs b
def IsCyc (f : Int → Int) : List Int → Prop
  | [] => False
  | a :: xs => Path f a xs a
theorem path_append {f : Int → Int} {h b : Int} : ∀ {a : Int} {xs ys : List Int}, Path f a (xs ++ h :: ys) b ↔ Path f a xs h ∧ Path f h ys b
  | a, [], ys => by
    show f a = h ∧ Path f h ys b ↔ f a = h ∧ Path f h ys b
    exact Iff.rfl
  | a, x :: xs, ys => by
    show f a = x ∧ Path f x (xs ++ h :: ys) b ↔ (f a = x ∧ Path f x xs h) ∧ Path f h ys b
    rw [path_append, and_assoc]
theorem path_last {f : Int → Int} : ∀ {a : Int} {xs : List Int} {b : Int}, Path f a xs b → ∃ z ∈ a :: xs, f z = b
  | a, [], b, h => ⟨a, List.mem_cons_self, h⟩
  | a, x :: xs, b, h => by
    obtain ⟨z, hz, e⟩ := path_last h.2
    exact ⟨z, List.mem_cons_of_mem _ hz, e⟩
theorem path_snoc {f : Int → Int} {a b : Int} {xs : List Int} (h : Path f a xs b) : Path f a (xs ++ [b]) (f b) := path_append.mpr ⟨h, rfl⟩
/-- what leads to a place of a cycle stands in it -/
theorem cyc_pred {f : Int → Int} {c : List Int} {p : Int} (h : IsCyc f c) (hp : p ∈ c) : ∃ z ∈ c, f z = p := by
  cases c with
  | nil => cases hp
  | cons a xs =>
    have h : Path f a xs a := h
    rcases List.mem_cons.mp hp with e | hp
    · subst e
      exact path_last h
    · obtain ⟨as, bs, e⟩ := List.append_of_mem hp
      subst e
      obtain ⟨z, hz, ez⟩ := path_last (path_append.mp h).1
      refine ⟨z, ?_, ez⟩
      rcases List.mem_cons.mp hz with e | hz
      · rw [e]; exact List.mem_cons_self
      · exact List.mem_cons_of_mem _ (List.mem_append_left _ hz)
theorem cyc_next {f : Int → Int} : ∀ {a : Int} {xs : List Int} {b p : Int}, Path f a xs b → p ∈ a :: xs → f p ∈ xs ∨ f p = b
  | a, [], b, p, h, hp => by
    rw [List.mem_singleton.mp hp]
    exact .inr h
  | a, x :: xs, b, p, h, hp => by
    rcases List.mem_cons.mp hp with e | hp
    · rw [e, h.1]
      exact .inl List.mem_cons_self
    · rcases cyc_next h.2 hp with z | z
      · exact .inl (List.mem_cons_of_mem _ z)
      · exact .inr z
theorem cyc_mem {f : Int → Int} {c : List Int} {p : Int} (h : IsCyc f c) (hp : p ∈ c) : f p ∈ c := by
  cases c with
  | nil => cases hp
  | cons a xs =>
    rcases cyc_next h hp with z | z
    · exact List.mem_cons_of_mem _ z
    · rw [z]; exact List.mem_cons_self
def itn (f : Int → Int) : Nat → Int → Int
  | 0, x => x
  | k + 1, x => itn f k (f x)
theorem itn_add (f : Int → Int) : ∀ (j k : Nat) (x : Int), itn f (j + k) x = itn f k (itn f j x)
  | 0, k, x => by rw [Nat.zero_add]; rfl
  | j + 1, k, x => by
    rw [show j + 1 + k = (j + k) + 1 by omega]
    show itn f (j + k) (f x) = itn f k (itn f j (f x))
    exact itn_add f j k (f x)
theorem path_itn {f : Int → Int} : ∀ {a : Int} {xs : List Int} {b : Int}, Path f a xs b → ∃ k, itn f k a = b
  | a, [], b, h => ⟨1, h⟩
  | a, x :: xs, b, h => by
    obtain ⟨k, e⟩ := path_itn h.2
    refine ⟨k + 1, ?_⟩
    show itn f k (f a) = b
    rw [h.1, e]
theorem cyc_itn {f : Int → Int} {c : List Int} (h : IsCyc f c) : ∀ x ∈ c, ∀ y ∈ c, ∃ k, itn f k x = y := by
  cases c with
  | nil => intro x hx; cases hx
  | cons a xs =>
    have h : Path f a xs a := h
    have up : ∀ y ∈ a :: xs, ∃ k, itn f k a = y := fun y hy => by
      rcases List.mem_cons.mp hy with e | hy
      · exact ⟨0, e.symm⟩
      · obtain ⟨as, bs, e⟩ := List.append_of_mem hy
        subst e
        exact path_itn (path_append.mp h).1
    have dn : ∀ y ∈ a :: xs, ∃ k, itn f k y = a := fun y hy => by
      rcases List.mem_cons.mp hy with e | hy
      · exact ⟨0, e⟩
      · obtain ⟨as, bs, e⟩ := List.append_of_mem hy
        subst e
        exact path_itn (path_append.mp h).2
    intro x hx y hy
    obtain ⟨j, ej⟩ := dn x hx
    obtain ⟨k, ek⟩ := up y hy
    exact ⟨j + k, by rw [itn_add, ej, ek]⟩
theorem cyc_stay {f : Int → Int} {c : List Int} (h : IsCyc f c) : ∀ (k : Nat) x, x ∈ c → itn f k x ∈ c
  | 0, x, hx => hx
  | k + 1, x, hx => cyc_stay h k (f x) (cyc_mem h hx)
/-- a place that is the least of all to which it leads -/
def Low (f : Int → Int) (x : Int) : Prop := ∀ k, x ≤ itn f k x
open Classical in
noncomputable def lowB (f : Int → Int) (x : Int) : Bool := decide (Low f x)
theorem lowB_iff {f : Int → Int} {x : Int} : lowB f x = true ↔ Low f x := by
  unfold lowB
  simp
theorem min_mem : ∀ (c : List Int), c ≠ [] → ∃ m ∈ c, ∀ y ∈ c, m ≤ y
  | [], h => absurd rfl h
  | [a], _ => ⟨a, List.mem_cons_self, fun y hy => by rw [List.mem_singleton.mp hy]; exact Int.le_refl _⟩
  | a :: b :: c, _ => by
    obtain ⟨m, hm, h⟩ := min_mem (b :: c) (by simp)
    by_cases z : a ≤ m
    · refine ⟨a, List.mem_cons_self, fun y hy => ?_⟩
      rcases List.mem_cons.mp hy with e | hy
      · rw [e]; exact Int.le_refl _
      · exact Int.le_trans z (h y hy)
    · refine ⟨m, List.mem_cons_of_mem _ hm, fun y hy => ?_⟩
      rcases List.mem_cons.mp hy with e | hy
      · rw [e]; omega
      · exact h y hy
theorem countP_zero {p : Int → Bool} : ∀ {c : List Int}, (∀ x ∈ c, p x = false) → c.countP p = 0
  | [], _ => rfl
  | x :: c, h => by
    rw [List.countP_cons, countP_zero fun y hy => h y (List.mem_cons_of_mem _ hy), h x List.mem_cons_self]
    rfl
theorem countP_one {p : Int → Bool} {m : Int} : ∀ {c : List Int}, c.Nodup → m ∈ c → (∀ x ∈ c, p x = true ↔ x = m) → c.countP p = 1
  | [], _, hm, _ => by cases hm
  | x :: c, nd, hm, h => by
    obtain ⟨n1, n2⟩ := List.nodup_cons.mp nd
    rw [List.countP_cons]
    by_cases z : x = m
    · rw [if_pos ((h x List.mem_cons_self).mpr z), countP_zero fun y hy => by
        cases hp : p y with
        | false => rfl
        | true =>
          have := (h y (List.mem_cons_of_mem _ hy)).mp hp
          exact absurd (this.trans z.symm ▸ hy) n1]
    · have hm : m ∈ c := by
        rcases List.mem_cons.mp hm with e | hm
        · exact absurd e.symm z
        · exact hm
      rw [if_neg fun hp => z ((h x List.mem_cons_self).mp hp), countP_one n2 hm fun y hy => h y (List.mem_cons_of_mem _ hy)]
theorem count_cyc {f : Int → Int} {c : List Int} (h : IsCyc f c) (nd : c.Nodup) : c.countP (lowB f) = 1 := by
  obtain ⟨m, hm, hl⟩ := min_mem c (by rintro rfl; exact h)
  refine countP_one nd hm fun x hx => ?_
  rw [lowB_iff]
  constructor
  · intro hL
    obtain ⟨k, e⟩ := cyc_itn h x hx m hm
    have a := hL k
    rw [e] at a
    have b := hl x hx
    omega
  · rintro rfl k
    exact hl _ (cyc_stay h k x hx)
theorem count_dec {f : Int → Int} : ∀ {D : List (List Int)}, (∀ c ∈ D, IsCyc f c) → D.flatten.Nodup → D.flatten.countP (lowB f) = D.length
  | [], _, _ => rfl
  | c :: D, h, nd => by
    rw [List.flatten_cons] at nd ⊢
    obtain ⟨n1, n2, _⟩ := List.nodup_append.mp nd
    rw [List.countP_append, count_cyc (h c List.mem_cons_self) n1, count_dec (fun d hd => h d (List.mem_cons_of_mem _ hd)) n2, List.length_cons]
    omega
/-- all ways to part the same places into cycles have as many -/
theorem dec_unique {f : Int → Int} {D E : List (List Int)} (hD : ∀ c ∈ D, IsCyc f c) (hE : ∀ c ∈ E, IsCyc f c) (nd : D.flatten.Nodup) (hp : D.flatten.Perm E.flatten) : D.length = E.length := by
  rw [← count_dec hD nd, ← count_dec hE (hp.nodup_iff.mp nd)]
  exact hp.countP_eq _
/-! ### a swap behind -/
def sf (l h x : Int) : Int := if x = l then h else if x = h then l else x
theorem sf_l (l h : Int) : sf l h l = h := by unfold sf; rw [if_pos rfl]
theorem sf_h (l h : Int) : sf l h h = l := by
  unfold sf
  split
  · rename_i e; exact e
  · rw [if_pos rfl]
theorem sf_o {l h x : Int} (h1 : x ≠ l) (h2 : x ≠ h) : sf l h x = x := by unfold sf; rw [if_neg h1, if_neg h2]
theorem sf_sf (l h x : Int) : sf l h (sf l h x) = x := by
  by_cases h1 : x = l
  · subst h1; rw [sf_l, sf_h]
  · by_cases h2 : x = h
    · subst h2; rw [sf_h, sf_l]
    · rw [sf_o h1 h2, sf_o h1 h2]
theorem path_swap {f g : Int → Int} {l h : Int} : ∀ {a : Int} {xs : List Int} {b : Int}, Path f a xs b → (∀ y ∈ xs, y ≠ l ∧ y ≠ h) → (∀ x ∈ a :: xs, g x = sf l h (f x)) → Path g a xs (sf l h b)
  | a, [], b, hp, _, hg => by
    have hp : f a = b := hp
    show g a = _
    rw [hg a List.mem_cons_self, hp]
  | a, x :: xs, b, hp, hn, hg => by
    obtain ⟨h1, h2⟩ := hn x List.mem_cons_self
    refine ⟨?_, path_swap hp.2 (fun y hy => hn y (List.mem_cons_of_mem _ hy)) fun y hy => hg y (List.mem_cons_of_mem _ hy)⟩
    rw [hg a List.mem_cons_self, hp.1, sf_o h1 h2]
theorem cyc_swap {f g : Int → Int} {l h : Int} {c : List Int} (hc : IsCyc f c) (hl : l ∉ c) (hh : h ∉ c) (hg : ∀ x ∈ c, g x = sf l h (f x)) : IsCyc g c := by
  cases c with
  | nil => exact hc
  | cons a xs =>
    have := path_swap (l := l) (h := h) hc (fun y hy => ⟨fun e => hl (e ▸ List.mem_cons_of_mem _ hy), fun e => hh (e ▸ List.mem_cons_of_mem _ hy)⟩) hg
    rw [sf_o (x := a) (fun e => hl (by rw [← e]; exact List.mem_cons_self)) (fun e => hh (by rw [← e]; exact List.mem_cons_self))] at this
    exact this
/-- a cycle begun at another of its places -/
theorem cyc_turn {f : Int → Int} {c : List Int} {x : Int} (hc : IsCyc f c) (hx : x ∈ c) : ∃ xs, IsCyc f (x :: xs) ∧ (x :: xs).Perm c := by
  cases c with
  | nil => cases hx
  | cons a xs =>
    have hc : Path f a xs a := hc
    rcases List.mem_cons.mp hx with e | hx
    · subst e
      exact ⟨xs, hc, .refl _⟩
    · obtain ⟨as, bs, e⟩ := List.append_of_mem hx
      subst e
      obtain ⟨p1, p2⟩ := path_append.mp hc
      refine ⟨bs ++ a :: as, path_append.mpr ⟨p2, p1⟩, ?_⟩
      have := List.perm_append_comm (l₁ := x :: bs) (l₂ := a :: as)
      simpa using this
theorem pull {f : Int → Int} {D : List (List Int)} {x : Int} (hD : ∀ c ∈ D, IsCyc f c) (hx : x ∈ D.flatten) :
    ∃ (c xs : List Int) (D' : List (List Int)), c ∈ D ∧ x ∈ c ∧ D.length = D'.length + 1 ∧ (∀ d ∈ D', d ∈ D) ∧ IsCyc f (x :: xs) ∧ (x :: xs).Perm c ∧ D.flatten.Perm ((x :: xs) ++ D'.flatten) := by
  obtain ⟨c, hc, hxc⟩ := List.mem_flatten.mp hx
  obtain ⟨A, B, e⟩ := List.append_of_mem hc
  obtain ⟨xs, h1, h2⟩ := cyc_turn (hD c hc) hxc
  subst e
  refine ⟨c, xs, A ++ B, hc, hxc, by simp; omega, fun d hd => ?_, h1, h2, ?_⟩
  · rcases List.mem_append.mp hd with h | h
    · exact List.mem_append_left _ h
    · exact List.mem_append_right _ (List.mem_cons_of_mem _ h)
  · rw [List.flatten_append, List.flatten_cons, List.flatten_append]
    refine .trans ?_ (h2.symm.append_right _)
    rw [← List.append_assoc, ← List.append_assoc]
    exact List.perm_append_comm.append_right _
theorem swap_dec {f g : Int → Int} {l h : Int} {D : List (List Int)} (hD : ∀ c ∈ D, IsCyc f c) (nd : D.flatten.Nodup) (hg : ∀ x ∈ D.flatten, g x = sf l h (f x)) (hl : l ∈ D.flatten) (hh : h ∈ D.flatten) (ne : l ≠ h) :
    ∃ E : List (List Int), (∀ c ∈ E, IsCyc g c) ∧ E.flatten.Perm D.flatten ∧ ((∃ c ∈ D, l ∈ c ∧ h ∈ c) ∧ E.length = D.length + 1 ∨ (∀ c ∈ D, l ∈ c → h ∉ c) ∧ E.length + 1 = D.length) := by
  obtain ⟨c, xs, D', hc, hlc, hlen, hsub, hcy, hpc, hpm⟩ := pull hD hl
  have nd2 := hpm.nodup_iff.mp nd
  obtain ⟨n1, n2, n3⟩ := List.nodup_append.mp nd2
  have nl : ∀ d ∈ D', l ∉ d := fun d hd z => n3 l List.mem_cons_self l (List.mem_flatten.mpr ⟨d, hd, z⟩) rfl
  have in1 : ∀ x ∈ l :: xs, x ∈ D.flatten := fun x hx => hpm.mem_iff.mpr (List.mem_append_left _ hx)
  have in2 : ∀ x ∈ D'.flatten, x ∈ D.flatten := fun x hx => hpm.mem_iff.mpr (List.mem_append_right _ hx)
  have hcy : Path f l xs l := hcy
  by_cases z : h ∈ l :: xs
  · have hx : h ∈ xs := by
      rcases List.mem_cons.mp z with e | z
      · exact absurd e.symm ne
      · exact z
    obtain ⟨A, B, e⟩ := List.append_of_mem hx
    subst e
    obtain ⟨p1, p2⟩ := path_append.mp hcy
    have m1 : l ∉ A ++ h :: B := (List.nodup_cons.mp n1).1
    obtain ⟨a1, a2, a3⟩ := List.nodup_append.mp (List.nodup_cons.mp n1).2
    have hA : h ∉ A := fun z => a3 h z h List.mem_cons_self rfl
    have hB : h ∉ B := (List.nodup_cons.mp a2).1
    have q1 : Path g l A l := by
      have := path_swap (l := l) (h := h) p1 (fun y hy => ⟨fun e => m1 (e ▸ List.mem_append_left _ hy), fun e => hA (e ▸ hy)⟩) fun x hx => hg x (in1 x (by
        rcases List.mem_cons.mp hx with e | hx
        · rw [e]; exact List.mem_cons_self
        · exact List.mem_cons_of_mem _ (List.mem_append_left _ hx)))
      rwa [sf_h] at this
    have q2 : Path g h B h := by
      have := path_swap (l := l) (h := h) p2 (fun y hy => ⟨fun e => m1 (e ▸ List.mem_append_right _ (List.mem_cons_of_mem _ hy)), fun e => hB (e ▸ hy)⟩) fun x hx => hg x (in1 x (List.mem_cons_of_mem _ (List.mem_append_right _ hx)))
      rwa [sf_l] at this
    have nh : ∀ d ∈ D', h ∉ d := fun d hd w => n3 h z h (List.mem_flatten.mpr ⟨d, hd, w⟩) rfl
    refine ⟨(l :: A) :: (h :: B) :: D', fun d hd => ?_, ?_, .inl ⟨⟨c, hc, hlc, hpc.mem_iff.mp z⟩, by simp; omega⟩⟩
    · rcases List.mem_cons.mp hd with e | hd
      · rw [e]; exact q1
      · rcases List.mem_cons.mp hd with e | hd
        · rw [e]; exact q2
        · exact cyc_swap (hD d (hsub d hd)) (nl d hd) (nh d hd) fun x hx => hg x (in2 x (List.mem_flatten.mpr ⟨d, hd, hx⟩))
    · refine .trans (.of_eq ?_) hpm.symm
      simp
  · have hd : h ∈ D'.flatten := by
      rcases List.mem_append.mp (hpm.mem_iff.mp hh) with w | w
      · exact absurd w z
      · exact w
    obtain ⟨d, ys, D2, hd1, hhd, hlen2, hsub2, hcy2, hpd, hpm2⟩ := pull (fun d hd => hD d (hsub d hd)) hd
    have hcy2 : Path f h ys h := hcy2
    obtain ⟨b1, b2, b3⟩ := List.nodup_append.mp (hpm2.nodup_iff.mp n2)
    have lys : l ∉ h :: ys := fun w => nl d hd1 (hpd.mem_iff.mp w)
    have q1 : Path g l xs h := by
      have := path_swap (l := l) (h := h) hcy (fun y hy => ⟨fun e => (List.nodup_cons.mp n1).1 (e ▸ hy), fun e => z (e ▸ List.mem_cons_of_mem _ hy)⟩) fun x hx => hg x (in1 x hx)
      rwa [sf_l] at this
    have q2 : Path g h ys l := by
      have := path_swap (l := l) (h := h) hcy2 (fun y hy => ⟨fun e => lys (e ▸ List.mem_cons_of_mem _ hy), fun e => (List.nodup_cons.mp b1).1 (e ▸ hy)⟩) fun x hx => hg x (in2 x (hpm2.mem_iff.mpr (List.mem_append_left _ hx)))
      rwa [sf_h] at this
    refine ⟨(l :: xs ++ h :: ys) :: D2, fun e he => ?_, ?_, .inr ⟨fun e he hle hhe => ?_, by simp; omega⟩⟩
    · rcases List.mem_cons.mp he with e1 | he
      · rw [e1]; exact path_append.mpr ⟨q1, q2⟩
      · exact cyc_swap (hD e (hsub e (hsub2 e he))) (nl e (hsub2 e he)) (fun w => b3 h List.mem_cons_self h (List.mem_flatten.mpr ⟨e, he, w⟩) rfl) fun x hx => hg x (in2 x (List.mem_flatten.mpr ⟨e, hsub2 e he, hx⟩))
    · rw [List.flatten_cons, List.append_assoc]
      exact ((List.Perm.append_left (l :: xs) hpm2.symm).trans hpm.symm)
    · -- a cycle with both is the one of l
      obtain ⟨A, B, eD⟩ := List.append_of_mem he
      obtain ⟨k, ek⟩ := cyc_itn (hD e he) l hle h hhe
      exact z (ek ▸ cyc_stay (c := l :: xs) hcy k l List.mem_cons_self)
end K

set_option maxRecDepth 100000
set_option maxHeartbeats 4000000
/-! V2: moves as lists: entries, one behind another, back, swaps behind, rows. -/
namespace K
open PySem L2 Rt
theorem mem_irange {a b x : Int} : x ∈ irange a b ↔ a ≤ x ∧ x < b := by
  unfold irange
  constructor
  · intro h
    obtain ⟨i, hi, rfl⟩ := List.mem_map.mp h
    have := List.mem_range.mp hi
    omega
  · intro h
    exact List.mem_map.mpr ⟨(x - a).toNat, List.mem_range.mpr (by omega), by omega⟩
theorem irange_nodup (a b : Int) : (irange a b).Nodup := by
  unfold irange
  refine List.pairwise_map.mpr (List.nodup_range.imp fun {i j} h e => h ?_)
  omega
theorem irange_sorted (a b : Int) : (irange a b).Pairwise (· ≤ ·) := by
  unfold irange
  refine List.pairwise_map.mpr (List.pairwise_lt_range.imp fun {i j} h => ?_)
  omega
/-- the entry of a move -/
def fn (s : List Int) (x : Int) : Int := (s[x.toNat]?).getD 0
theorem atI_fn {s : List Int} {x : Int} (h0 : 0 ≤ x) (h1 : x < s.length) : L2.atI s x = some (fn s x) := by
  unfold L2.atI ixN fn
  rw [if_pos h0, if_pos h1]
  have e : x.toNat < s.length := by omega
  simp [e]
theorem fn_map {s : List Int} {f : Int → Int} {x : Int} (h0 : 0 ≤ x) (h1 : x < s.length) : fn (s.map f) x = f (fn s x) := by
  unfold fn
  have e : x.toNat < s.length := by omega
  simp [e]
theorem fn_irange {n x : Int} (h0 : 0 ≤ x) (h1 : x < n) : fn (irange 0 n) x = x := by
  unfold fn irange
  have e : x.toNat < (n - 0).toNat := by omega
  simp [e]
  rw [List.getElem?_range (by omega)]
  simp
  omega
structure Mv (n : Int) (s : List Int) : Prop where
  pm : s.Perm (irange 0 n)
theorem Mv.len {n : Int} {s : List Int} (h : Mv n s) (h0 : 0 ≤ n) : (s.length : Int) = n := by
  rw [h.pm.length_eq, irange_length]
  omega
theorem Mv.mem {n : Int} {s : List Int} (h : Mv n s) {x : Int} : x ∈ s ↔ 0 ≤ x ∧ x < n := by
  rw [h.pm.mem_iff, mem_irange]
theorem Mv.nd {n : Int} {s : List Int} (h : Mv n s) : s.Nodup := h.pm.nodup_iff.mpr (irange_nodup 0 n)
theorem fn_mem {s : List Int} {x : Int} (h0 : 0 ≤ x) (h1 : x < s.length) : fn s x ∈ s := by
  unfold fn
  have e : x.toNat < s.length := by omega
  rw [List.getElem?_eq_getElem e]
  exact List.getElem_mem _
theorem Mv.rg {n : Int} {s : List Int} (h : Mv n s) {x : Int} (h0 : 0 ≤ x) (h1 : x < n) : 0 ≤ fn s x ∧ fn s x < n := by
  have := h.len (by omega)
  exact h.mem.mp (fn_mem h0 (by omega))
theorem Mv.inj {n : Int} {s : List Int} (h : Mv n s) {x y : Int} (x0 : 0 ≤ x) (x1 : x < n) (y0 : 0 ≤ y) (y1 : y < n) (e : fn s x = fn s y) : x = y := by
  have hl := h.len (by omega)
  unfold fn at e
  have e1 : x.toNat < s.length := by omega
  have e2 : y.toNat < s.length := by omega
  rw [List.getElem?_eq_getElem e1, List.getElem?_eq_getElem e2] at e
  have e : s[x.toNat] = s[y.toNat] := e
  have key := List.pairwise_iff_getElem.mp h.nd
  rcases Nat.lt_trichotomy x.toNat y.toNat with z | z | z
  · exact absurd e (key _ _ e1 e2 z)
  · omega
  · exact absurd e.symm (key _ _ e2 e1 z)
theorem Mv.sur {n : Int} {s : List Int} (h : Mv n s) {y : Int} (y0 : 0 ≤ y) (y1 : y < n) : ∃ x, 0 ≤ x ∧ x < n ∧ fn s x = y := by
  have hl := h.len (by omega)
  obtain ⟨i, hi, e⟩ := List.mem_iff_getElem.mp (h.mem.mpr ⟨y0, y1⟩)
  refine ⟨i, by omega, by omega, ?_⟩
  unfold fn
  rw [show ((i : Int)).toNat = i by omega, List.getElem?_eq_getElem hi]
  exact e
theorem ext_fn {s t : List Int} (hl : s.length = t.length) (h : ∀ x : Int, 0 ≤ x → x < s.length → fn s x = fn t x) : s = t := by
  refine List.ext_getElem hl fun i h1 h2 => ?_
  have := h i (by omega) (by omega)
  unfold fn at this
  rw [show ((i : Int)).toNat = i by omega, List.getElem?_eq_getElem h1, List.getElem?_eq_getElem h2] at this
  exact this
theorem Mv.ext {n : Int} {s t : List Int} (h0 : 0 ≤ n) (hs : Mv n s) (ht : Mv n t) (h : ∀ x : Int, 0 ≤ x → x < n → fn s x = fn t x) : s = t := by
  have a := hs.len h0
  have b := ht.len h0
  exact ext_fn (by omega) fun x x0 x1 => h x x0 (by omega)
theorem mv_idle (n : Int) : Mv n (irange 0 n) := ⟨.refl _⟩
theorem fn_all {n : Int} {s : List Int} (hl : (s.length : Int) = n) : (irange 0 n).map (fn s) = s := by
  refine ext_fn ?_ fun x h0 h1 => ?_
  · rw [List.length_map, irange_length]; omega
  · rw [List.length_map, irange_length] at h1
    rw [fn_map h0 (by rw [irange_length]; omega), fn_irange h0 (by omega)]
/-- one move, then another one -/
def cmp (s t : List Int) : List Int := s.map (fn t)
theorem Mv.cmp {n : Int} {s t : List Int} (h0 : 0 ≤ n) (hs : Mv n s) (ht : Mv n t) : Mv n (cmp s t) := by
  refine ⟨(hs.pm.map (fn t)).trans ?_⟩
  rw [fn_all (ht.len h0)]
  exact ht.pm
theorem fn_cmp {s t : List Int} {x : Int} (h0 : 0 ≤ x) (h1 : x < s.length) : fn (cmp s t) x = fn t (fn s x) := fn_map h0 h1
theorem cmp_idle {n : Int} {s : List Int} (hs : Mv n s) : cmp s (irange 0 n) = s := by
  refine (List.map_congr_left fun x hx => ?_).trans (List.map_id s)
  obtain ⟨a, b⟩ := hs.mem.mp hx
  exact fn_irange a b
theorem idle_cmp {n : Int} {s : List Int} (h0 : 0 ≤ n) (hs : Mv n s) : cmp (irange 0 n) s = s := fn_all (hs.len h0)
/-- a move, then a swap -/
def swp (s : List Int) (p : Int × Int) : List Int := s.map (sf p.1 p.2)
def Sw (n : Int) (p : Int × Int) : Prop := 0 ≤ p.1 ∧ p.1 < p.2 ∧ p.2 < n
theorem sf_rg {n l h x : Int} (hp : Sw n (l, h)) (x0 : 0 ≤ x) (x1 : x < n) : 0 ≤ sf l h x ∧ sf l h x < n := by
  obtain ⟨a, b, c⟩ := hp
  have a : 0 ≤ l := a
  have b : l < h := b
  have c : h < n := c
  unfold sf
  split
  · omega
  · split <;> omega
theorem sf_inj {l h x y : Int} (e : sf l h x = sf l h y) : x = y := by
  rw [← sf_sf l h x, e, sf_sf]
theorem nodup_map {f : Int → Int} : ∀ {s : List Int}, (∀ x ∈ s, ∀ y ∈ s, f x = f y → x = y) → s.Nodup → (s.map f).Nodup
  | [], _, _ => List.nodup_nil
  | x :: s, h, nd => by
    obtain ⟨a, b⟩ := List.nodup_cons.mp nd
    refine List.nodup_cons.mpr ⟨fun z => ?_, nodup_map (fun y hy z hz => h y (List.mem_cons_of_mem _ hy) z (List.mem_cons_of_mem _ hz)) b⟩
    obtain ⟨y, hy, e⟩ := List.mem_map.mp z
    rw [h y (List.mem_cons_of_mem _ hy) x List.mem_cons_self e] at hy
    exact a hy
theorem subset_len : ∀ {s t : List Int}, s.Nodup → (∀ x ∈ s, x ∈ t) → s.length ≤ t.length
  | [], t, _, _ => Nat.zero_le _
  | x :: s, t, nd, h => by
    obtain ⟨a, b⟩ := List.nodup_cons.mp nd
    have ht := h x List.mem_cons_self
    have := subset_len (s := s) (t := t.erase x) b fun y hy => (List.mem_erase_of_ne (fun e => a (by rw [← e]; exact hy))).mpr (h y (List.mem_cons_of_mem _ hy))
    rw [List.length_erase_of_mem ht] at this
    have := List.length_pos_of_mem ht
    simp only [List.length_cons]
    omega
/-- places that are unlike, and as many as there are -/
theorem mv_of {n : Int} {s : List Int} (h0 : 0 ≤ n) (hl : (s.length : Int) = n) (nd : s.Nodup) (h : ∀ x ∈ s, 0 ≤ x ∧ x < n) : Mv n s := by
  refine ⟨(List.perm_ext_iff_of_nodup nd (irange_nodup 0 n)).mpr fun x => ⟨fun hx => mem_irange.mpr (h x hx), fun hx => ?_⟩⟩
  refine Classical.byContradiction fun z => ?_
  have := subset_len (s := x :: s) (t := irange 0 n) (List.nodup_cons.mpr ⟨z, nd⟩) fun y hy => by
    rcases List.mem_cons.mp hy with e | hy
    · rw [e]; exact hx
    · exact mem_irange.mpr (h y hy)
  rw [irange_length] at this
  simp only [List.length_cons] at this
  omega
theorem Mv.swp {n : Int} {s : List Int} {p : Int × Int} (h0 : 0 ≤ n) (hs : Mv n s) (hp : Sw n p) : Mv n (swp s p) := by
  refine mv_of h0 ?_ (nodup_map (fun x _ y _ e => sf_inj e) hs.nd) fun x hx => ?_
  · rw [show (K.swp s p).length = s.length from List.length_map _]
    exact hs.len h0
  · obtain ⟨y, hy, e⟩ := List.mem_map.mp hx
    obtain ⟨a, b⟩ := hs.mem.mp hy
    rw [← e]
    exact sf_rg hp a b
theorem fn_swp {s : List Int} {p : Int × Int} {x : Int} (h0 : 0 ≤ x) (h1 : x < s.length) : fn (swp s p) x = sf p.1 p.2 (fn s x) := fn_map h0 h1
theorem swp_swp (s : List Int) (p : Int × Int) : swp (swp s p) p = s := by
  unfold swp
  rw [List.map_map]
  exact (List.map_congr_left fun x _ => sf_sf p.1 p.2 x).trans (List.map_id s)
theorem swp_cmp {n : Int} {s t : List Int} {p : Int × Int} (h0 : 0 ≤ n) (hs : Mv n s) (ht : Mv n t) : swp (cmp s t) p = cmp s (swp t p) := by
  unfold swp cmp
  rw [List.map_map]
  refine List.map_congr_left fun x hx => ?_
  obtain ⟨a, b⟩ := hs.mem.mp hx
  have := ht.len h0
  exact (fn_map a (by omega)).symm
/-- the product of a row -/
def prd (n : Int) (row : List (Int × Int)) : List Int := row.foldl swp (irange 0 n)
theorem mv_fold {n : Int} (h0 : 0 ≤ n) : ∀ (row : List (Int × Int)) {s : List Int}, Mv n s → (∀ p ∈ row, Sw n p) → Mv n (row.foldl swp s)
  | [], s, hs, _ => hs
  | p :: row, s, hs, h => mv_fold h0 row (hs.swp h0 (h p List.mem_cons_self)) fun q hq => h q (List.mem_cons_of_mem _ hq)
theorem mv_prd {n : Int} (h0 : 0 ≤ n) {row : List (Int × Int)} (h : ∀ p ∈ row, Sw n p) : Mv n (prd n row) := mv_fold h0 row (mv_idle n) h
theorem fold_cmp {n : Int} (h0 : 0 ≤ n) : ∀ (row : List (Int × Int)) {s t : List Int}, Mv n s → Mv n t → (∀ p ∈ row, Sw n p) → row.foldl swp (cmp s t) = cmp s (row.foldl swp t)
  | [], s, t, _, _, _ => rfl
  | p :: row, s, t, hs, ht, h => by
    show row.foldl swp (swp (cmp s t) p) = _
    rw [swp_cmp h0 hs ht, fold_cmp h0 row hs (ht.swp h0 (h p List.mem_cons_self)) fun q hq => h q (List.mem_cons_of_mem _ hq)]
    rfl
theorem prd_append {n : Int} (h0 : 0 ≤ n) {row other : List (Int × Int)} (h : ∀ p ∈ row, Sw n p) (ho : ∀ p ∈ other, Sw n p) : prd n (row ++ other) = cmp (prd n row) (prd n other) := by
  have := fold_cmp h0 other (mv_prd h0 h) (mv_idle n) ho
  rw [cmp_idle (mv_prd h0 h)] at this
  unfold prd at this ⊢
  rw [List.foldl_append]
  exact this
theorem cmp_assoc {n : Int} {r s t : List Int} (h0 : 0 ≤ n) (hr : Mv n r) (hs : Mv n s) : cmp (cmp r s) t = cmp r (cmp s t) := by
  unfold cmp
  rw [List.map_map]
  refine List.map_congr_left fun x hx => ?_
  obtain ⟨a, b⟩ := hr.mem.mp hx
  have := hs.len h0
  exact (fn_map a (by omega)).symm
theorem prd_rev {n : Int} (h0 : 0 ≤ n) : ∀ (row : List (Int × Int)), (∀ p ∈ row, Sw n p) → cmp (prd n row) (prd n row.reverse) = irange 0 n
  | [], _ => cmp_idle (mv_idle n)
  | p :: row, h => by
    have h1 := h p List.mem_cons_self
    have h2 : ∀ q ∈ row, Sw n q := fun q hq => h q (List.mem_cons_of_mem _ hq)
    have h3 : ∀ q ∈ row.reverse, Sw n q := fun q hq => h2 q (List.mem_reverse.mp hq)
    have hp : ∀ q ∈ [p], Sw n q := fun q hq => List.mem_singleton.mp hq ▸ h1
    have m1 := mv_prd h0 hp
    have m2 := mv_prd h0 h2
    have m3 := mv_prd h0 h3
    rw [show p :: row = [p] ++ row from rfl, prd_append h0 hp h2, List.reverse_append, show [p].reverse = [p] from rfl, prd_append h0 h3 hp, cmp_assoc h0 m1 m2, ← cmp_assoc h0 m2 m3, prd_rev h0 row h2, idle_cmp h0 m1,
      show prd n [p] = swp (irange 0 n) p from rfl, ← swp_cmp h0 ((mv_idle n).swp h0 h1) (mv_idle n), cmp_idle ((mv_idle n).swp h0 h1), swp_swp]
/-- what undoes a move -/
structure Inv (n : Int) (s b : List Int) : Prop where
  mv : Mv n b
  eq : ∀ x : Int, 0 ≤ x → x < n → fn b (fn s x) = x
theorem Inv.unique {n : Int} {s b c : List Int} (h0 : 0 ≤ n) (hs : Mv n s) (hb : Inv n s b) (hc : Mv n c) (h : ∀ x : Int, 0 ≤ x → x < n → fn c (fn s x) = x) : b = c :=
  Mv.ext h0 hb.mv hc fun y y0 y1 => by
    obtain ⟨x, x0, x1, e⟩ := hs.sur y0 y1
    rw [← e, hb.eq x x0 x1, h x x0 x1]
/-! setting entries one by one -/
theorem fn_set {s : List Int} {x y v : Int} (x0 : 0 ≤ x) (y0 : 0 ≤ y) (y1 : y < s.length) : fn (s.set y.toNat v) x = if x = y then v else fn s x := by
  unfold fn
  by_cases e : x = y
  · subst e
    rw [if_pos rfl, List.getElem?_set_self (by omega)]
    rfl
  · rw [if_neg e, List.getElem?_set_ne (by omega)]
def sets (ps : List (Int × Int)) (s : List Int) : List Int := ps.foldl (fun s p => s.set p.2.toNat p.1) s
theorem sets_len : ∀ (ps : List (Int × Int)) (s : List Int), (sets ps s).length = s.length
  | [], _ => rfl
  | p :: ps, s => (sets_len ps _).trans (List.length_set ..)
theorem sets_fn {n : Int} : ∀ (ps : List (Int × Int)) (s : List Int), (s.length : Int) = n → (∀ p ∈ ps, 0 ≤ p.2 ∧ p.2 < n) → (ps.map (·.2)).Nodup → (∀ p ∈ ps, fn (sets ps s) p.2 = p.1) ∧ ∀ x : Int, 0 ≤ x → x ∉ ps.map (·.2) → fn (sets ps s) x = fn s x
  | [], s, _, _, _ => ⟨(fun p hp => nomatch hp), fun _ _ _ => rfl⟩
  | p :: ps, s, hl, h, nd => by
    obtain ⟨n1, n2⟩ := List.nodup_cons.mp nd
    obtain ⟨a, b⟩ := h p List.mem_cons_self
    obtain ⟨k1, k2⟩ := sets_fn (n := n) ps (s.set p.2.toNat p.1) (by rw [List.length_set]; exact hl) (fun q hq => h q (List.mem_cons_of_mem _ hq)) n2
    refine ⟨fun q hq => ?_, fun x x0 hx => ?_⟩
    · rcases List.mem_cons.mp hq with e | hq
      · subst e
        refine (k2 q.2 a n1).trans ?_
        rw [fn_set a a (by omega), if_pos rfl]
      · exact k1 q hq
    · have hx : x ≠ p.2 ∧ x ∉ ps.map (·.2) := by simpa using hx
      refine (k2 x x0 hx.2).trans ?_
      rw [fn_set x0 a (by omega), if_neg hx.1]
end K

set_option maxRecDepth 100000
set_option maxHeartbeats 4000000
/-! V3: going round from a place until it comes again; the cycles one after the other. -/
namespace K
open PySem L2 Rt
/-- from p on, until s comes, these places are met -/
def Orb (f : Int → Int) (s : Int) : Int → List Int → Prop
  | p, [] => p = s
  | p, y :: ys => p = y ∧ p ≠ s ∧ Orb f s (f p) ys
theorem orbit {n : Int} {σ : List Int} {D : List (List Int)} {s : Int} (M : Mv n σ) (hD : ∀ c ∈ D, IsCyc (fn σ) c) (hDr : ∀ x ∈ D.flatten, 0 ≤ x ∧ x < n) :
    ∀ (k : Nat) (xs : List Int) (p : Int), Path (fn σ) s xs p → (s :: xs).Nodup → (∀ x ∈ s :: xs, 0 ≤ x ∧ x < n) → (∀ x ∈ s :: xs, x ∉ D.flatten) → n ≤ xs.length + k →
      ∃ ys, Orb (fn σ) s p ys ∧ Path (fn σ) s (xs ++ ys) s ∧ (s :: (xs ++ ys)).Nodup ∧ (∀ x ∈ s :: (xs ++ ys), 0 ≤ x ∧ x < n) ∧ ∀ x ∈ s :: (xs ++ ys), x ∉ D.flatten
  | 0, xs, p, hp, nd, hr, hd, hk => by
    have := subset_len (t := irange 0 n) nd fun x hx => mem_irange.mpr (hr x hx)
    rw [irange_length] at this
    simp only [List.length_cons] at this
    omega
  | k + 1, xs, p, hp, nd, hr, hd, hk => by
    by_cases z : p = s
    · subst z
      exact ⟨[], rfl, by rw [List.append_nil]; exact hp, by rw [List.append_nil]; exact nd, by rw [List.append_nil]; exact hr, by rw [List.append_nil]; exact hd⟩
    · obtain ⟨y, hy, ey⟩ := path_last hp
      obtain ⟨y0, y1⟩ := hr y hy
      have pr : 0 ≤ p ∧ p < n := by
        rw [← ey]
        exact M.rg y0 y1
      have np : p ∉ xs := fun w => by
        obtain ⟨as, bs, e⟩ := List.append_of_mem w
        subst e
        obtain ⟨p1, p2⟩ := path_append.mp hp
        obtain ⟨u, hu, eu⟩ := path_last p1
        obtain ⟨v, hv, ev⟩ := path_last p2
        have hu2 : u ∈ s :: (as ++ p :: bs) := by
          rcases List.mem_cons.mp hu with e | hu
          · rw [e]; exact List.mem_cons_self
          · exact List.mem_cons_of_mem _ (List.mem_append_left _ hu)
        have hv2 : v ∈ s :: (as ++ p :: bs) := List.mem_cons_of_mem _ (List.mem_append_right _ hv)
        obtain ⟨u0, u1⟩ := hr u hu2
        obtain ⟨v0, v1⟩ := hr v hv2
        have e := M.inj u0 u1 v0 v1 (eu.trans ev.symm)
        subst e
        obtain ⟨n1, n2⟩ := List.nodup_cons.mp nd
        rcases List.mem_cons.mp hu with e | hu
        · subst e
          exact n1 (List.mem_append_right _ hv)
        · exact (List.nodup_append.mp n2).2.2 u hu u hv rfl
      have nD : p ∉ D.flatten := fun w => by
        obtain ⟨c, hc, hpc⟩ := List.mem_flatten.mp w
        obtain ⟨u, hu, eu⟩ := cyc_pred (hD c hc) hpc
        have ur := hDr u (List.mem_flatten.mpr ⟨c, hc, hu⟩)
        have e := M.inj ur.1 ur.2 y0 y1 (eu.trans ey.symm)
        subst e
        exact hd u hy (List.mem_flatten.mpr ⟨c, hc, hu⟩)
      obtain ⟨ys, h1, h2, h3, h4, h5⟩ := orbit M hD hDr k (xs ++ [p]) (fn σ p) (path_snoc hp) (by
          have : (s :: (xs ++ [p])) = (s :: xs) ++ [p] := rfl
          rw [this]
          refine List.nodup_append.mpr ⟨nd, by simp, fun a ha b hb e => ?_⟩
          rw [List.mem_singleton.mp hb] at e
          subst e
          rcases List.mem_cons.mp ha with e | ha
          · exact z e
          · exact np ha) (fun x hx => by
          rcases List.mem_cons.mp hx with e | hx
          · exact hr x (e ▸ List.mem_cons_self)
          · rcases List.mem_append.mp hx with hx | hx
            · exact hr x (List.mem_cons_of_mem _ hx)
            · rw [List.mem_singleton.mp hx]; exact pr) (fun x hx => by
          rcases List.mem_cons.mp hx with e | hx
          · exact hd x (e ▸ List.mem_cons_self)
          · rcases List.mem_append.mp hx with hx | hx
            · exact hd x (List.mem_cons_of_mem _ hx)
            · rw [List.mem_singleton.mp hx]; exact nD) (by simp only [List.length_append, List.length_cons, List.length_nil]; omega)
      rw [List.append_assoc] at h2 h3 h4 h5
      exact ⟨p :: ys, ⟨rfl, z, h1⟩, h2, h3, h4, h5⟩
/-! the loops -/
theorem while_orb {ρ γ' : Type} {σ : List Int} {n s : Int} {c : List Int × Int → Option Bool} {b : List Int × Int → Option (Fl ρ (List Int × Int) (List Int × Int))} (M : Mv n σ)
    (hc : ∀ st, c st = some (!decide (st.2 = s))) (hb : ∀ acc p, 0 ≤ p → p < n → acc.length ≤ 100 → b (acc, p) = some (.nx (acc ++ [p], fn σ p))) :
    ∀ (ys acc : List Int) (p : Int) (fuel : Nat), Orb (fn σ) s p ys → (∀ x ∈ ys, 0 ≤ x ∧ x < n) → ys.length < fuel → acc.length + ys.length ≤ 100 → whileO (γ' := γ') c b fuel (acc, p) = some (.nx (acc ++ ys, s))
  | [], acc, p, 0, _, _, hf, _ => absurd hf (by simp)
  | y :: ys, acc, p, 0, _, _, hf, _ => absurd hf (by simp)
  | [], acc, p, fuel + 1, ho, _, _, _ => by
    have ho : p = s := ho
    subst ho
    unfold whileO
    rw [hc]
    simp
  | y :: ys, acc, p, fuel + 1, ho, hr, hf, ha => by
    obtain ⟨rfl, h1, h2⟩ := ho
    obtain ⟨p0, p1⟩ := hr p List.mem_cons_self
    simp only [List.length_cons] at hf ha
    unfold whileO
    rw [hc]
    simp only [h1, decide_false, Bool.not_false, Option.bind_some, if_true]
    rw [hb acc p p0 p1 (by omega)]
    show whileO c b fuel (acc ++ [p], fn σ p) = _
    rw [while_orb M hc hb ys (acc ++ [p]) (fn σ p) fuel h2 (fun x hx => hr x (List.mem_cons_of_mem _ hx)) (by omega) (by simp; omega), List.append_assoc]
    rfl
def flags (n : Int) (S : List Int) : List Bool := (irange 0 n).map fun i => decide (i ∈ S)
theorem flags_len (n : Int) (S : List Int) : (flags n S).length = n.toNat := by
  unfold flags
  rw [List.length_map, irange_length]
  congr 1
  omega
theorem flags_get {n : Int} {S : List Int} {x : Int} (h0 : 0 ≤ x) (h1 : x < n) : L2.atI (flags n S) x = some (decide (x ∈ S)) := by
  have hl := flags_len n S
  unfold L2.atI ixN
  rw [if_pos h0, if_pos (by omega)]
  have e : x.toNat < (flags n S).length := by omega
  have : (flags n S)[x.toNat]? = some (decide (x ∈ S)) := by
    unfold flags irange
    have e2 : x.toNat < (n - 0).toNat := by omega
    rw [List.map_map, List.getElem?_map, List.getElem?_range e2]
    simp
    rw [show max x 0 = x by omega]
  simp [this]
theorem flags_set {n : Int} {S : List Int} {x : Int} (h0 : 0 ≤ x) (h1 : x < n) : setC (flags n S) x true = some (flags n (S ++ [x])) := by
  have hl := flags_len n S
  have hl2 := flags_len n (S ++ [x])
  unfold setC ixN
  rw [if_pos h0, if_pos (by omega)]
  show some ((flags n S).set x.toNat true) = _
  congr 1
  refine List.ext_getElem (by rw [List.length_set]; omega) fun i i1 i2 => ?_
  rw [List.getElem_set]
  have i3 : i < n.toNat := by omega
  unfold flags irange
  simp only [List.map_map, List.getElem_map, List.getElem_range]
  by_cases e : x.toNat = i
  · rw [if_pos e]
    subst e
    have : ((fun i : Int => decide (i ∈ S ++ [x])) ∘ fun i : Nat => 0 + (i : Int)) x.toNat = decide ((0 + (x.toNat : Int)) ∈ S ++ [x]) := rfl
    rw [this, show (0 + (x.toNat : Int)) = x by omega]
    simp
  · rw [if_neg e]
    show decide ((0 + (i : Int)) ∈ S) = decide ((0 + (i : Int)) ∈ S ++ [x])
    have : (0 + (i : Int)) ≠ x := by omega
    rw [Bool.eq_iff_iff, decide_eq_true_iff, decide_eq_true_iff, List.mem_append, List.mem_singleton]
    exact ⟨.inl, fun w => w.resolve_right this⟩
theorem while_seen {ρ γ' : Type} {σ : List Int} {n s : Int} {c : List Bool × List Int × Int → Option Bool} {b : List Bool × List Int × Int → Option (Fl ρ (List Bool × List Int × Int) (List Bool × List Int × Int))} (M : Mv n σ)
    (hc : ∀ S acc p, 0 ≤ p → p < n → c (flags n S, acc, p) = some (!decide (p ∈ S))) (hb : ∀ S acc p, 0 ≤ p → p < n → acc.length ≤ 100 → b (flags n S, acc, p) = some (.nx (flags n (S ++ [p]), acc ++ [p], fn σ p))) :
    ∀ (ys acc S : List Int) (p : Int) (fuel : Nat), Orb (fn σ) s p ys → s ∈ S → 0 ≤ s → s < n → (∀ x ∈ ys, (0 ≤ x ∧ x < n) ∧ x ∉ S) → ys.Nodup → ys.length < fuel → acc.length + ys.length ≤ 100 → whileO (γ' := γ') c b fuel (flags n S, acc, p) = some (.nx (flags n (S ++ ys), acc ++ ys, s))
  | [], acc, S, p, 0, _, _, _, _, _, _, hf, _ => absurd hf (by simp)
  | y :: ys, acc, S, p, 0, _, _, _, _, _, _, hf, _ => absurd hf (by simp)
  | [], acc, S, p, fuel + 1, ho, hs, s0, s1, _, _, _, _ => by
    have ho : p = s := ho
    subst ho
    unfold whileO
    rw [hc S acc p s0 s1]
    simp [hs]
  | y :: ys, acc, S, p, fuel + 1, ho, hs, s0, s1, hr, nd, hf, ha => by
    obtain ⟨rfl, h1, h2⟩ := ho
    obtain ⟨⟨p0, p1⟩, pS⟩ := hr p List.mem_cons_self
    obtain ⟨n1, n2⟩ := List.nodup_cons.mp nd
    simp only [List.length_cons] at hf ha
    unfold whileO
    rw [hc S acc p p0 p1]
    simp only [pS, decide_false, Bool.not_false, Option.bind_some, if_true]
    rw [hb S acc p p0 p1 (by omega)]
    show whileO c b fuel (flags n (S ++ [p]), acc ++ [p], fn σ p) = _
    rw [while_seen M hc hb ys (acc ++ [p]) (S ++ [p]) (fn σ p) fuel h2 (List.mem_append_left _ hs) s0 s1 (fun x hx => ⟨(hr x (List.mem_cons_of_mem _ hx)).1, fun w => by
      rcases List.mem_append.mp w with w | w
      · exact (hr x (List.mem_cons_of_mem _ hx)).2 w
      · rw [List.mem_singleton.mp w] at hx
        exact n1 hx⟩) n2 (by omega) (by simp; omega), List.append_assoc, List.append_assoc]
    rfl
/-- what the loops over the starts keep -/
structure Part (n : Int) (σ : List Int) (D : List (List Int)) : Prop where
  cyc : ∀ c ∈ D, IsCyc (fn σ) c
  nd : D.flatten.Nodup
  rg : ∀ x ∈ D.flatten, 0 ≤ x ∧ x < n
theorem Part.new {n : Int} {σ : List Int} {D : List (List Int)} {s : Int} (M : Mv n σ) (h : Part n σ D) (s0 : 0 ≤ s) (s1 : s < n) (hs : s ∉ D.flatten) :
    ∃ ys, Orb (fn σ) s (fn σ s) ys ∧ (ys.length : Int) < n ∧ (s :: ys).Nodup ∧ (∀ x ∈ ys, (0 ≤ x ∧ x < n) ∧ x ∉ D.flatten) ∧ Part n σ (D ++ [s :: ys]) := by
  obtain ⟨ys, h1, h2, h3, h4, h5⟩ := orbit M h.cyc h.rg n.toNat [] (fn σ s) rfl (by simp) (fun x hx => by rw [List.mem_singleton.mp hx]; exact ⟨s0, s1⟩) (fun x hx => by rw [List.mem_singleton.mp hx]; exact hs) (by simp; omega)
  rw [List.nil_append] at h2 h3 h4 h5
  have hl := subset_len (t := irange 0 n) h3 fun x hx => mem_irange.mpr (h4 x hx)
  rw [irange_length] at hl
  simp only [List.length_cons] at hl
  refine ⟨ys, h1, by omega, h3, fun x hx => ⟨h4 x (List.mem_cons_of_mem _ hx), h5 x (List.mem_cons_of_mem _ hx)⟩, fun c hc => ?_, ?_, fun x hx => ?_⟩
  · rcases List.mem_append.mp hc with hc | hc
    · exact h.cyc c hc
    · rw [List.mem_singleton.mp hc]
      exact h2
  · rw [List.flatten_append]
    refine List.nodup_append.mpr ⟨h.nd, by simpa using h3, fun a ha b hb e => ?_⟩
    subst e
    exact h5 a (by simpa using hb) ha
  · rw [List.flatten_append] at hx
    rcases List.mem_append.mp hx with hx | hx
    · exact h.rg x hx
    · exact h4 x (by simpa using hx)
theorem Part.full {n : Int} {σ : List Int} {D : List (List Int)} (h : Part n σ D) (hall : ∀ x : Int, 0 ≤ x → x < n → x ∈ D.flatten) : D.flatten.Perm (irange 0 n) :=
  (List.perm_ext_iff_of_nodup h.nd (irange_nodup 0 n)).mpr fun x => ⟨fun hx => mem_irange.mpr (h.rg x hx), fun hx => by
    obtain ⟨a, b⟩ := mem_irange.mp hx
    exact hall x a b⟩
end K

set_option maxRecDepth 100000
set_option maxHeartbeats 4000000
/-! R1: how many cycles; strict rows of a move; a row of swaps that joins all places is no shorter than that. Nothing of a law's own mirrors: for any law. -/
namespace K
open PySem L2 Rt
/-- how many cycles -/
def Cnt (n : Int) (f : Int → Int) (k : Nat) : Prop := ∃ D : List (List Int), (∀ c ∈ D, IsCyc f c) ∧ D.flatten.Perm (irange 0 n) ∧ D.length = k
theorem Cnt.unique {n : Int} {f : Int → Int} {j k : Nat} (a : Cnt n f j) (b : Cnt n f k) : j = k := by
  obtain ⟨D, d1, d2, d3⟩ := a
  obtain ⟨E, e1, e2, e3⟩ := b
  rw [← d3, ← e3]
  exact dec_unique d1 e1 (d2.nodup_iff.mpr (irange_nodup 0 n)) (d2.trans e2.symm)
theorem cnt_idle (n : Int) : Cnt n (fn (irange 0 n)) n.toNat := by
  refine ⟨(irange 0 n).map fun x => [x], fun c hc => ?_, .of_eq ?_, ?_⟩
  · obtain ⟨x, hx, e⟩ := List.mem_map.mp hc
    obtain ⟨x0, x1⟩ := mem_irange.mp hx
    rw [← e]
    exact fn_irange x0 x1
  · induction irange 0 n with
    | nil => rfl
    | cons x l ih => rw [List.map_cons, List.flatten_cons, ih]; rfl
  · rw [List.length_map, irange_length]
    congr 1
    omega
/-- a swap behind a move: one more or one less -/
theorem cnt_swp {n : Int} {s : List Int} {p : Int × Int} (h0 : 0 ≤ n) (hs : Mv n s) (hp : Sw n p) {D : List (List Int)} (hD : ∀ c ∈ D, IsCyc (fn s) c) (hF : D.flatten.Perm (irange 0 n)) :
    ∃ k, Cnt n (fn (swp s p)) k ∧ ((∃ c ∈ D, p.1 ∈ c ∧ p.2 ∈ c) ∧ k = D.length + 1 ∨ (∀ c ∈ D, p.1 ∈ c → p.2 ∉ c) ∧ k + 1 = D.length) := by
  have hl := hs.len h0
  obtain ⟨a, b, c⟩ := hp
  have mm : ∀ x, x ∈ D.flatten ↔ 0 ≤ x ∧ x < n := fun x => by rw [hF.mem_iff, mem_irange]
  obtain ⟨E, e1, e2, e3⟩ := swap_dec (g := fn (swp s p)) (l := p.1) (h := p.2) hD (hF.nodup_iff.mpr (irange_nodup 0 n)) (fun x hx => by
    obtain ⟨x0, x1⟩ := (mm x).mp hx
    exact fn_swp x0 (by omega)) ((mm _).mpr ⟨a, by omega⟩) ((mm _).mpr ⟨by omega, c⟩) (by omega)
  exact ⟨E.length, ⟨E, e1, e2.trans hF, rfl⟩, e3⟩
theorem cnt_prd {n : Int} (h0 : 0 ≤ n) : ∀ (row : List (Int × Int)) (s : List Int) (k : Nat), Mv n s → (∀ p ∈ row, Sw n p) → Cnt n (fn s) k → ∃ j, Cnt n (fn (row.foldl swp s)) j ∧ k ≤ j + row.length ∧ (j + row.length) % 2 = k % 2
  | [], s, k, _, _, hc => ⟨k, hc, by simp, by simp⟩
  | p :: row, s, k, hs, hr, ⟨D, d1, d2, d3⟩ => by
    obtain ⟨i, c1, c2⟩ := cnt_swp h0 hs (hr p List.mem_cons_self) d1 d2
    obtain ⟨j, j1, j2, j3⟩ := cnt_prd h0 row (swp s p) i (hs.swp h0 (hr p List.mem_cons_self)) (fun q hq => hr q (List.mem_cons_of_mem _ hq)) c1
    refine ⟨j, j1, ?_, ?_⟩
    · simp only [List.length_cons]
      rcases c2 with ⟨_, e⟩ | ⟨_, e⟩ <;> omega
    · simp only [List.length_cons]
      rcases c2 with ⟨_, e⟩ | ⟨_, e⟩ <;> omega
/-- the swaps of places k, k-1, .., 1, ascending -/
def sr : Nat → List Int → List (Int × Int)
  | 0, _ => []
  | k + 1, s => if fn s (k + 1 : Nat) = (k + 1 : Nat) then sr k s else sr k (swp s (fn s (k + 1 : Nat), (k + 1 : Nat))) ++ [(fn s (k + 1 : Nat), ((k + 1 : Nat) : Int))]
/-- all places above k stay -/
def Stay (n : Int) (k : Nat) (s : List Int) : Prop := ∀ x : Int, (k : Int) < x → x < n → fn s x = x
theorem below {n : Int} {s : List Int} {k : Nat} (hs : Mv n s) (hk : (k : Int) < n) (st : Stay n k s) : 0 ≤ fn s k ∧ fn s k ≤ k := by
  obtain ⟨a, b⟩ := hs.rg (x := (k : Int)) (by omega) hk
  refine ⟨a, ?_⟩
  by_cases h : fn s k ≤ k
  · exact h
  · exfalso
    have := hs.inj (x := (k : Int)) (y := fn s k) (by omega) hk a b (st _ (by omega) b).symm
    omega
theorem sw_of {n : Int} {s : List Int} {k : Nat} (hs : Mv n s) (hk : (k : Int) < n) (st : Stay n k s) (ne : fn s k ≠ k) : Sw n (fn s k, (k : Int)) := by
  obtain ⟨a, b⟩ := below hs hk st
  exact ⟨a, by show fn s k < k; omega, hk⟩
theorem stay_swp {n : Int} {s : List Int} {k : Nat} (h0 : 0 ≤ n) (hs : Mv n s) (hk : ((k + 1 : Nat) : Int) < n) (st : Stay n (k + 1) s) : Stay n k (swp s (fn s (k + 1 : Nat), ((k + 1 : Nat) : Int))) := by
  intro x x0 x1
  have hl := hs.len h0
  rw [fn_swp (by omega) (by omega)]
  show sf (fn s (k + 1 : Nat)) (k + 1 : Nat) (fn s x) = x
  by_cases e : x = (k + 1 : Nat)
  · rw [e, sf_l]
  · have ex := st x (by omega) x1
    obtain ⟨a, b⟩ := below hs hk st
    rw [ex, sf_o (by omega) e]
theorem stay_same {n : Int} {s : List Int} {k : Nat} (st : Stay n (k + 1) s) (e : fn s (k + 1 : Nat) = (k + 1 : Nat)) : Stay n k s := by
  intro x x0 x1
  by_cases h : x = (k + 1 : Nat)
  · rw [h, e]
  · exact st x (by omega) x1
theorem sr_sw {n : Int} (h0 : 0 ≤ n) : ∀ (k : Nat) (s : List Int), (k : Int) < n → Mv n s → Stay n k s → ∀ p ∈ sr k s, Sw n p ∧ p.2 ≤ k
  | 0, s, hk, hs, st, p, hp => by cases hp
  | k + 1, s, hk, hs, st, p, hp => by
    unfold sr at hp
    split at hp
    · rename_i e
      obtain ⟨a, b⟩ := sr_sw h0 k s (by omega) hs (stay_same st e) p hp
      exact ⟨a, by omega⟩
    · rename_i e
      have sw := sw_of hs hk st e
      rcases List.mem_append.mp hp with hp | hp
      · obtain ⟨a, b⟩ := sr_sw h0 k _ (by omega) (hs.swp h0 sw) (stay_swp h0 hs hk st) p hp
        exact ⟨a, by omega⟩
      · rw [List.mem_singleton.mp hp]
        exact ⟨sw, Int.le_refl _⟩
theorem sr_rise {n : Int} (h0 : 0 ≤ n) : ∀ (k : Nat) (s : List Int), (k : Int) < n → Mv n s → Stay n k s → (sr k s).Pairwise fun p q => p.2 < q.2
  | 0, s, hk, hs, st => .nil
  | k + 1, s, hk, hs, st => by
    unfold sr
    split
    · rename_i e
      exact sr_rise h0 k s (by omega) hs (stay_same st e)
    · rename_i e
      have sw := sw_of hs hk st e
      have hs' := hs.swp h0 sw
      have st' := stay_swp h0 hs hk st
      refine List.pairwise_append.mpr ⟨sr_rise h0 k _ (by omega) hs' st', List.pairwise_singleton _ _, fun p hp q hq => ?_⟩
      rw [List.mem_singleton.mp hq]
      have := (sr_sw h0 k _ (by omega) hs' st' p hp).2
      show p.2 < ((k + 1 : Nat) : Int)
      omega
theorem sr_len : ∀ (k : Nat) (s : List Int), (sr k s).length ≤ k
  | 0, s => Nat.le_refl _
  | k + 1, s => by
    unfold sr
    split
    · exact Nat.le_succ_of_le (sr_len k s)
    · rw [List.length_append]; exact Nat.succ_le_succ (sr_len k _)
theorem stay_zero {n : Int} {s : List Int} (hs : Mv n s) (h0 : 0 < n) (st : Stay n 0 s) : s = irange 0 n := by
  refine hs.ext (by omega) (mv_idle n) fun x x0 x1 => ?_
  rw [fn_irange x0 x1]
  by_cases h : x = 0
  · obtain ⟨a, b⟩ := below (k := 0) hs h0 st
    rw [h]
    exact Int.le_antisymm b a
  · exact st x (by show ((0 : Nat) : Int) < x; omega) x1
theorem sr_prd {n : Int} (h0 : 0 < n) : ∀ (k : Nat) (s : List Int), (k : Int) < n → Mv n s → Stay n k s → prd n (sr k s) = s
  | 0, s, hk, hs, st => (stay_zero hs h0 st).symm
  | k + 1, s, hk, hs, st => by
    unfold sr
    split
    · rename_i e
      exact sr_prd h0 k s (by omega) hs (stay_same st e)
    · rename_i e
      have sw := sw_of hs hk st e
      have := sr_prd h0 k _ (by omega) (hs.swp (by omega) sw) (stay_swp (by omega) hs hk st)
      unfold prd at this ⊢
      rw [List.foldl_append, this]
      exact swp_swp s _
/-- how many cycles -/
theorem sr_cnt {n : Int} (h0 : 0 < n) : ∀ (k : Nat) (s : List Int) (c : Nat), (k : Int) < n → Mv n s → Stay n k s → Cnt n (fn s) c → (sr k s).length + c = n.toNat
  | 0, s, c, hk, hs, st, hc => by
    rw [stay_zero hs h0 st] at hc
    rw [hc.unique (cnt_idle n)]
    show 0 + _ = _
    omega
  | k + 1, s, c, hk, hs, st, hc => by
    unfold sr
    split
    · rename_i e
      exact sr_cnt h0 k s c (by omega) hs (stay_same st e) hc
    · rename_i e
      have sw := sw_of hs hk st e
      obtain ⟨D, d1, d2, d3⟩ := hc
      obtain ⟨j, j1, j2⟩ := cnt_swp (by omega) hs sw d1 d2
      have ih := sr_cnt h0 k _ j (by omega) (hs.swp (by omega) sw) (stay_swp (by omega) hs hk st) j1
      rw [List.length_append]
      show _ + 1 + c = _
      have : j = D.length + 1 := by
        rcases j2 with ⟨_, e⟩ | ⟨a, _⟩
        · exact e
        · exfalso
          have hm : ((k + 1 : Nat) : Int) ∈ D.flatten := d2.mem_iff.mpr (mem_irange.mpr ⟨by omega, hk⟩)
          obtain ⟨c, hc, hc2⟩ := List.mem_flatten.mp hm
          exact a c hc (cyc_mem (d1 c hc) hc2) hc2
      omega
theorem sr_above {n : Int} : ∀ (m k : Nat) (s : List Int), k ≤ m → (m : Int) < n → Stay n k s → sr m s = sr k s
  | 0, k, s, h, _, _ => by
    have : k = 0 := by omega
    rw [this]
  | m + 1, k, s, h, hm, st => by
    by_cases e : k = m + 1
    · rw [e]
    · have := st ((m + 1 : Nat) : Int) (by omega) hm
      rw [sr, if_pos this]
      exact sr_above m k s (by omega) (by omega) st
/-- the last swap, taken back, leaves the rest -/
theorem sr_last {n : Int} (h0 : 0 < n) : ∀ (k : Nat) (s : List Int), (k : Int) < n → Mv n s → Stay n k s → sr k s = [] ∨ ∃ r p, sr k s = r ++ [p] ∧ Sw n p ∧ sr k (swp s p) = r
  | 0, s, hk, hs, st => .inl rfl
  | k + 1, s, hk, hs, st => by
    by_cases e : fn s (k + 1 : Nat) = (k + 1 : Nat)
    · have e1 : sr (k + 1) s = sr k s := by rw [sr, if_pos e]
      rw [e1]
      rcases sr_last h0 k s (by omega) hs (stay_same st e) with h | ⟨r, p, h1, h2, h3⟩
      · exact .inl h
      · refine .inr ⟨r, p, h1, h2, ?_⟩
        have := (sr_sw (by omega) k s (by omega) hs (stay_same st e) p (h1 ▸ List.mem_append_right _ List.mem_cons_self)).2
        have hl := hs.len (by omega)
        have e2 : fn (swp s p) (k + 1 : Nat) = (k + 1 : Nat) := by
          rw [fn_swp (by omega) (by omega), e]
          obtain ⟨a, b, c⟩ := h2
          exact sf_o (by omega) (by omega)
        rw [sr, if_pos e2, h3]
    · have sw := sw_of hs hk st e
      refine .inr ⟨sr k (swp s (fn s (k + 1 : Nat), ((k + 1 : Nat) : Int))), (fn s (k + 1 : Nat), ((k + 1 : Nat) : Int)), by rw [sr, if_neg e], sw, ?_⟩
      exact sr_above (k + 1) k _ (by omega) hk (stay_swp (by omega) hs hk st)
/-! labels: places with one label are joined -/
def labs (n : Int) (lab : Int → Int) : Nat := (ddI ((irange 0 n).map lab)).length
def mrg (lab : Int → Int) (l h : Int) (x : Int) : Int := if lab x = lab h then lab l else lab x
theorem mem_labs {n : Int} {lab : Int → Int} {y : Int} : y ∈ ddI ((irange 0 n).map lab) ↔ ∃ x : Int, 0 ≤ x ∧ x < n ∧ lab x = y := by
  rw [ddI_mem, List.mem_map]
  exact ⟨fun ⟨x, hx, e⟩ => ⟨x, (mem_irange.mp hx).1, (mem_irange.mp hx).2, e⟩, fun ⟨x, a, b, e⟩ => ⟨x, mem_irange.mpr ⟨a, b⟩, e⟩⟩
theorem labs_mrg {n l h : Int} {lab : Int → Int} (hl : 0 ≤ l ∧ l < n) (hh : 0 ≤ h ∧ h < n) (ne : lab l ≠ lab h) : labs n (mrg lab l h) + 1 = labs n lab := by
  have hm : lab h ∈ ddI ((irange 0 n).map lab) := mem_labs.mpr ⟨h, hh.1, hh.2, rfl⟩
  have p : (ddI ((irange 0 n).map (mrg lab l h))).Perm ((ddI ((irange 0 n).map lab)).erase (lab h)) := by
    refine (List.perm_ext_iff_of_nodup (ddI_nodup _) ((ddI_nodup _).erase _)).mpr fun y => ?_
    rw [mem_labs, (ddI_nodup _).mem_erase_iff, mem_labs]
    constructor
    · rintro ⟨x, a, b, e⟩
      unfold mrg at e
      split at e
      · exact ⟨fun z => ne (e.trans z), l, hl.1, hl.2, e⟩
      · rename_i c
        exact ⟨fun z => c (e.trans z), x, a, b, e⟩
    · rintro ⟨z, x, a, b, e⟩
      refine ⟨x, a, b, ?_⟩
      unfold mrg
      rw [if_neg fun c => z (e.symm.trans c)]
      exact e
  have := List.length_erase_of_mem hm
  have := List.length_pos_of_mem hm
  unfold labs
  rw [p.length_eq]
  omega
theorem labs_one {n : Int} {lab : Int → Int} (n1 : 1 ≤ n) (h : ∀ x : Int, 0 ≤ x → x < n → lab x = lab 0) : labs n lab = 1 := by
  have h0 : lab 0 ∈ ddI ((irange 0 n).map lab) := mem_labs.mpr ⟨0, Int.le_refl _, by omega, rfl⟩
  have p : (ddI ((irange 0 n).map lab)).Perm [lab 0] := by
    refine (List.perm_ext_iff_of_nodup (ddI_nodup _) (by simp)).mpr fun y => ?_
    rw [mem_labs, List.mem_singleton]
    exact ⟨fun ⟨x, a, b, e⟩ => e.symm.trans (h x a b), fun e => ⟨0, Int.le_refl _, by omega, e.symm⟩⟩
  unfold labs
  rw [p.length_eq]
  rfl
/-- the labels behind a row of swaps, and what they keep -/
theorem ree_row {n : Int} (h0 : 0 ≤ n) : ∀ (row : List (Int × Int)) (s : List Int) (k : Nat) (lab : Int → Int), Mv n s → (∀ p ∈ row, Sw n p) → Cnt n (fn s) k → (∀ x : Int, 0 ≤ x → x < n → lab (fn s x) = lab x) →
    ∃ (j : Nat) (lab' : Int → Int), Cnt n (fn (row.foldl swp s)) j ∧ (∀ p ∈ row, lab' p.1 = lab' p.2) ∧ (∀ x y : Int, lab x = lab y → lab' x = lab' y) ∧ j + 2 * labs n lab ≤ k + row.length + 2 * labs n lab'
  | [], s, k, lab, hs, _, hc, hi => ⟨k, lab, hc, (fun _ h => nomatch h), fun _ _ e => e, by simp⟩
  | p :: row, s, k, lab, hs, hr, hc, hi => by
    obtain ⟨D, d1, d2, d3⟩ := hc
    have hp := hr p List.mem_cons_self
    obtain ⟨p0, p1, p2⟩ := hp
    obtain ⟨i, c1, c2⟩ := cnt_swp h0 hs (show Sw n p from ⟨p0, p1, p2⟩) d1 d2
    have hl := hs.len h0
    have next : ∀ x : Int, 0 ≤ x → x < n → mrg lab p.1 p.2 (fn (swp s p) x) = mrg lab p.1 p.2 x := fun x x0 x1 => by
      have e := hi x x0 x1
      rw [fn_swp x0 (by omega)]
      unfold mrg sf
      by_cases z1 : fn s x = p.1
      · rw [if_pos z1, if_pos rfl]
        rw [z1] at e
        by_cases w : lab x = lab p.2
        · rw [if_pos w]
        · rw [if_neg w, e]
      · rw [if_neg z1]
        by_cases z2 : fn s x = p.2
        · rw [if_pos z2]
          rw [z2] at e
          rw [if_pos e.symm]
          split <;> rfl
        · rw [if_neg z2, e]
    obtain ⟨j, lab', j1, j2, j3, j4⟩ := ree_row h0 row (swp s p) i (mrg lab p.1 p.2) (hs.swp h0 ⟨p0, p1, p2⟩) (fun q hq => hr q (List.mem_cons_of_mem _ hq)) c1 next
    have same : mrg lab p.1 p.2 p.1 = mrg lab p.1 p.2 p.2 := by
      unfold mrg
      rw [if_pos (rfl : lab p.2 = lab p.2)]
      split <;> rfl
    refine ⟨j, lab', j1, fun q hq => ?_, fun x y e => j3 x y ?_, ?_⟩
    · rcases List.mem_cons.mp hq with e | hq
      · rw [e]; exact j3 _ _ same
      · exact j2 q hq
    · unfold mrg
      rw [e]
    · rw [List.length_cons]
      by_cases z : lab p.1 = lab p.2
      · have e : mrg lab p.1 p.2 = lab := by
          funext x
          unfold mrg
          split
          · rename_i c; rw [z, c]
          · rfl
        rw [e] at j4
        rcases c2 with ⟨_, e2⟩ | ⟨_, e2⟩ <;> omega
      · have e := labs_mrg ⟨p0, by omega⟩ ⟨by omega, p2⟩ z
        have apart : ∀ c ∈ D, p.1 ∈ c → p.2 ∉ c := fun c hc h1 h2 => by
          obtain ⟨m, em⟩ := cyc_itn (d1 c hc) p.1 h1 p.2 h2
          have rg : ∀ x ∈ c, 0 ≤ x ∧ x < n := fun x hx => mem_irange.mp (d2.mem_iff.mp (List.mem_flatten.mpr ⟨c, hc, hx⟩))
          have stay : ∀ (m : Nat) (x : Int), x ∈ c → lab (itn (fn s) m x) = lab x := by
            intro m
            induction m with
            | zero => exact fun x _ => rfl
            | succ m ih => exact fun x hx => (ih (fn s x) (cyc_mem (d1 c hc) hx)).trans (hi x (rg x hx).1 (rg x hx).2)
          exact z (by rw [← em, stay m p.1 h1])
        rcases c2 with ⟨⟨c, hc, h1, h2⟩, _⟩ | ⟨_, e2⟩
        · exact absurd h2 (apart c hc h1)
        · omega
/-- a row of m swaps that joins all n places, its product of c cycles: c + n ≤ m + 2, and m + n + c is even -/
theorem ree {n : Int} (n1 : 1 ≤ n) {row : List (Int × Int)} (hr : ∀ p ∈ row, Sw n p) (hj : ∀ lab : Int → Int, (∀ p ∈ row, lab p.1 = lab p.2) → ∀ x : Int, 0 ≤ x → x < n → lab x = lab 0) {c : Nat} (hc : Cnt n (fn (prd n row)) c) :
    c + n.toNat ≤ row.length + 2 ∧ (c + row.length) % 2 = n.toNat % 2 := by
  have h0 : 0 ≤ n := by omega
  obtain ⟨j, lab', j1, j2, j3, j4⟩ := ree_row h0 row (irange 0 n) n.toNat (fun x => x) (mv_idle n) hr (cnt_idle n) fun x x0 x1 => fn_irange x0 x1
  obtain ⟨i, i1, _, i3⟩ := cnt_prd h0 row (irange 0 n) n.toNat (mv_idle n) hr (cnt_idle n)
  have e1 : j = c := j1.unique hc
  have e2 : i = c := i1.unique hc
  have q1 : labs n lab' = 1 := labs_one n1 (hj lab' j2)
  have q0 : labs n (fun x => x) = n.toNat := by
    have p : (ddI ((irange 0 n).map fun x => x)).Perm (irange 0 n) := (List.perm_ext_iff_of_nodup (ddI_nodup _) (irange_nodup 0 n)).mpr fun y => by
      rw [mem_labs, mem_irange]
      exact ⟨fun ⟨x, a, b, e⟩ => e ▸ ⟨a, b⟩, fun h => ⟨y, h.1, h.2, rfl⟩⟩
    unfold labs
    rw [p.length_eq, irange_length]
    omega
  rw [q0, q1] at j4
  subst e1 e2
  exact ⟨by omega, by omega⟩
end K

set_option maxRecDepth 100000
set_option maxHeartbeats 4000000
/-! V4: the dice, and what is drawn. -/
namespace K
open PySem L2 Rt
def DI (n : Int) (g : Gh) : Prop := ∃ l s c : Int, g = [l, s, c] ∧ 0 ≤ l ∧ 0 ≤ s ∧ s < 2 ^ 80 ∧ 0 ≤ c ∧ c ≤ n
theorem log_le {i : Int} (h1 : -(2 ^ 200) < i) (h2 : i < 2 ^ 200) : i.natAbs.log2 ≤ 200 := by
  by_cases z : i.natAbs = 0
  · rw [z]; decide
  · refine Nat.le_of_lt ((Nat.log2_lt z).mpr ?_)
    omega
theorem mulC_of {i j : Int} (h1 : -(2 ^ 200) < i) (h2 : i < 2 ^ 200) (h3 : -(2 ^ 200) < j) (h4 : j < 2 ^ 200) : mulC i j = some (i * j) := by
  unfold mulC
  have a := log_le h1 h2
  have b := log_le h3 h4
  rw [if_pos (by omega)]
theorem modC_of {i j : Int} (h : 0 < j) : modC i j = some (i % j) := by
  unfold modC
  rw [if_pos h]
theorem divC_of {i j : Int} (h : 0 < j) (h2 : j < 2 ^ 200) : divC i j = some (i / j) := by
  unfold divC
  have := log_le (i := j) (by omega) h2
  rw [if_pos ⟨h, by omega⟩]
theorem at0 (l s c : Int) : L2.atI [l, s, c] 0 = some l := rfl
theorem at1 (l s c : Int) : L2.atI [l, s, c] 1 = some s := rfl
theorem at2 (l s c : Int) : L2.atI [l, s, c] 2 = some c := rfl
theorem roll_ok {n total : Int} {g : Gh} {P : Int → Gh → Prop} (h : DI n g) (hn : n < 1000000) (h0 : 0 < total) (h1 : total < 1000000) (k : ∀ r g', 0 ≤ r → r < total → DI (n + 1) g' → P r g') : m_law_roll (total, ()) g P := by
  obtain ⟨l, s, c, rfl, hl, hs, hs2, hc, hc2⟩ := h
  unfold m_law_roll w_law_roll
  by_cases z : 0 < l
  · simp [rtOf, rtK, upF, Fl.up, W.bind, W.ret, W.get, W.gset, ofO, at0, z, modC, h0]
    refine ⟨l / total, divC_of h0 (by omega), 0, rfl, k _ _ (Int.emod_nonneg _ (by omega)) (Int.emod_lt_of_pos _ h0) ⟨l / total, s, c, rfl, Int.ediv_nonneg hl (by omega), hs, hs2, hc, by omega⟩⟩
  · simp [rtOf, rtK, upF, Fl.up, W.bind, W.ret, W.get, W.gset, ofO, at0, at1, at2, z]
    have m1 : ∀ x : Int, 0 ≤ x % 2305843009213693403 ∧ x % 2305843009213693403 < 2305843009213693403 := fun x => ⟨Int.emod_nonneg _ (by decide), Int.emod_lt_of_pos _ (by decide)⟩
    have m2 : ∀ x : Int, 0 ≤ x % 2305843009213693373 ∧ x % 2305843009213693373 < 2305843009213693373 := fun x => ⟨Int.emod_nonneg _ (by decide), Int.emod_lt_of_pos _ (by decide)⟩
    refine ⟨2, rfl, s, rfl, c + 1, rfl, _, mulC_of (by omega) (by omega) (by omega) (by omega), _, modC_of (by decide), ?_⟩
    obtain ⟨a1, a2⟩ := m1 (s + 99990001 * (c + 1))
    refine ⟨_, mulC_of (by omega) (by omega) (by omega) (by omega), c + 1, rfl, _, mulC_of (by omega) (by omega) (by omega) (by omega), _, modC_of (by decide), ?_⟩
    obtain ⟨b1, b2⟩ := m2 ((s + 99990001 * (c + 1)) % 2305843009213693403 * ((s + 99990001 * (c + 1)) % 2305843009213693403) + 83 * (c + 1))
    refine ⟨_, mulC_of (by omega) (by omega) (by omega) (by omega), _, divC_of (by decide) (by decide), _, modC_of h0, ?_⟩
    exact k _ _ (Int.emod_nonneg _ (by omega)) (Int.emod_lt_of_pos _ h0) ⟨l, s, c + 1, rfl, hl, hs, hs2, by omega, by omega⟩
theorem powC_of {i j : Int} (h0 : 0 ≤ j) (h1 : j ≤ 1000000) (h2 : i.natAbs < 2 ^ 64) : powC i j = some (i ^ j.toNat) := by
  unfold powC
  rw [if_pos ⟨h0, h1, h2⟩]
theorem atI_in {ns : List Int} {i : Int} (h0 : 0 ≤ i) (h1 : i < ns.length) : ∃ x, L2.atI ns i = some x := by
  have e : i.toNat < ns.length := by omega
  refine ⟨ns[i.toNat], ?_⟩
  unfold L2.atI ixN
  rw [if_pos h0, if_pos h1]
  simp [e]
theorem big : (10 : Int) ^ 57 * 10 ^ 60 = 10 ^ 117 := by decide +kernel
theorem bill : (0 : Int) < 1000000000000000000000000000000000000000000000000000000000000000000000000000000000000000000000000000000000000000000000 := by decide
theorem dice_ok (ns : List Int) (spot : Int) (h0 : 0 ≤ spot) (h1 : spot < 5) : ∃ g, m_law_dice (ns, spot, ()) = some g ∧ DI 0 g := by
  have key : ∀ v : Int, 0 ≤ (v.natAbs : Int) % 1152921504606846883 ∧ (v.natAbs : Int) % 1152921504606846883 < 1152921504606846883 := fun v => ⟨Int.emod_nonneg _ (by decide), Int.emod_lt_of_pos _ (by decide)⟩
  have fin : ∀ v : Int, ∃ s : Int, mulC ((v.natAbs : Int) % 1152921504606846883) 59 = some ((v.natAbs : Int) % 1152921504606846883 * 59) ∧ mulC 977 spot = some (977 * spot) ∧ mulC 47 (if v < 0 then 1 else 0) = some (47 * (if v < 0 then 1 else 0)) ∧
      s = (v.natAbs : Int) % 1152921504606846883 * 59 + 977 * spot + 47 * (if v < 0 then 1 else 0) + 13 ∧ 0 ≤ s ∧ s < 2 ^ 80 := fun v => by
    obtain ⟨a, b⟩ := key v
    have c : (0 : Int) ≤ (if v < 0 then 1 else 0) ∧ (if v < 0 then (1 : Int) else 0) ≤ 1 := by split <;> decide
    exact ⟨_, mulC_of (by omega) (by omega) (by omega) (by omega), mulC_of (by omega) (by omega) (by omega) (by omega), mulC_of (by omega) (by omega) (by omega) (by omega), rfl, by omega, by omega⟩
  have go : ∀ v : Int, ∃ g, (((modC (if 100000000000000000 < (v.natAbs : Int) then (v.natAbs : Int) - 100000000000000000 else 0) 1000000000000000000000000000000000000000000000000000000000000000000000000000000000000000000000000000000000000000000000).bind fun v12 =>
      (((((((((modC (↑v.natAbs) 1152921504606846883).bind fun p31 => mulC p31 59).bind fun p35 => (mulC 977 spot).bind fun q36 => some (p35 + q36)).bind fun p42 => (mulC 47 (if v < 0 then 1 else 0)).bind fun q43 => some (p42 + q43)).bind fun p44 => some (p44 + 13)).bind fun x48 => some [x48, 0]).bind
        fun y51 => some (v12 :: y51)).bind fun x52 => lenK x52).bind fun x53 => some (Fl.rt (β := Empty) (γ := Unit) x53))).bind rtKO) = some g ∧ DI 0 g := fun v => by
    obtain ⟨s, e1, e2, e3, es, s0, s1⟩ := fin v
    rw [modC_of bill, modC_of (by decide)]
    simp only [Option.bind_some, e1, e2, e3]
    rw [← es]
    refine ⟨_, rfl, _, s, 0, rfl, Int.emod_nonneg _ (by decide), s0, s1, by decide, by decide⟩
  unfold m_law_dice o_law_dice rtO
  by_cases hlt : spot < ns.length
  · obtain ⟨x, hx⟩ := atI_in h0 hlt
    have := go x
    simp [rtKO, powC, mulC_of, b2, hlt, hx]
    simpa using this
  · have := go (73 * spot + 41)
    simp [rtKO, powC, mulC_of, b2, hlt]
    rw [mulC_of (by decide) (by decide) (by omega) (by omega)]
    simpa using this
end K

set_option maxRecDepth 100000
set_option maxHeartbeats 4000000
/-! E2: steps, what is drawn. -/
namespace K
open PySem L2 Rt
theorem bindI {α β : Type} {m : W α} {f : α → W β} {g : Gh} {P : β → Gh → Prop} (h : m g fun a g1 => f a g1 P) : W.bind m f g P := h
theorem retI {α : Type} {a : α} {g : Gh} {P : α → Gh → Prop} (h : P a g) : W.ret a g P := h
theorem putI {g g0 : Gh} {P : Unit → Gh → Prop} (h : P () g0) : W.put g0 g P := h
theorem ofI {α : Type} {o : Option α} {a : α} {g : Gh} {P : α → Gh → Prop} (e : o = some a) (h : P a g) : ofO o g P := ⟨a, e, h⟩
theorem bindFI {ρ β β' γ : Type} {m : W (Fl ρ β γ)} {k : β → W (Fl ρ β' γ)} {g : Gh} {P : Fl ρ β' γ → Gh → Prop} (h : m g fun a g1 => bindK k a g1 P) : bindF m k g P := h
theorem rtOfI {ρ β γ : Type} {m : W (Fl ρ β γ)} {g : Gh} {P : ρ → Gh → Prop} (h : m g fun a g1 => rtK a g1 P) : rtOf m g P := h
theorem rtKI {ρ β γ : Type} {a : ρ} {g : Gh} {P : ρ → Gh → Prop} (h : P a g) : rtK (Fl.rt a : Fl ρ β γ) g P := h
theorem bindKI {ρ β β' γ : Type} {b : β} {k : β → W (Fl ρ β' γ)} {g : Gh} {P : Fl ρ β' γ → Gh → Prop} (h : k b g P) : bindK k (Fl.nx b) g P := h
theorem DI.mono {n m : Int} {g : Gh} (h : DI n g) (e : n ≤ m) : DI m g :=
  let ⟨l, s, c, a1, a2, a3, a4, a5, a6⟩ := h
  ⟨l, s, c, a1, a2, a3, a4, a5, Int.le_trans a6 e⟩
theorem lcO_map {α β : Type} {f : α → Option β} {h : α → β} : ∀ {xs : List α}, (∀ x ∈ xs, f x = some (h x)) → lcO (fun _ => some true) f xs = some (xs.map h)
  | [], _ => rfl
  | x :: xs, e => by
    unfold lcO
    simp [e x List.mem_cons_self, lcO_map (xs := xs) fun y hy => e y (List.mem_cons_of_mem _ hy)]
theorem lcO_filter {α : Type} {c : α → Bool} : ∀ {xs : List α}, lcO (fun x => some (c x)) (fun x => some x) xs = some (xs.filter c)
  | [] => rfl
  | x :: xs => by
    unfold lcO
    rw [lcO_filter (xs := xs)]
    cases h : c x <;> simp [h]
theorem whole_ok (x : Int) : m_is_whole (x, ()) = some true := rfl
theorem integer_ok {x : Int} (h1 : -(10 ^ 60) < x) (h2 : x < 10 ^ 60) : m_is_integer (x, ()) = some true := by
  unfold m_is_integer o_is_integer rtO
  have a : -1000000000000000000000000000000000000000000000000000000000000 < x := by omega
  have b : x < 1000000000000000000000000000000000000000000000000000000000000 := by omega
  simp [whole_ok, a, b, rtKO]
theorem atI_get {l : List Int} {i : Nat} (h : i < l.length) : L2.atI l (i : Int) = some l[i] := by
  unfold L2.atI ixN
  rw [if_pos (by omega), if_pos (by omega)]
  simp [h]
theorem forL_all {ρ α γ' : Type} {f : Unit → α → W (Fl ρ Unit Unit)} : ∀ (xs : List α) (g : Gh) (Q : Fl ρ Unit γ' → Gh → Prop), (∀ x ∈ xs, ∀ g (P : Fl ρ Unit Unit → Gh → Prop), (∀ g', P (.nx ()) g') → f () x g P) → (∀ g, Q (.nx ()) g) → forL f xs () g Q
  | [], g, Q, _, k => k g
  | x :: xs, g, Q, h, k => by
    unfold forL
    refine h x List.mem_cons_self g _ fun g' => ?_
    exact forL_all xs g' Q (fun y hy => h y (List.mem_cons_of_mem _ hy)) k
theorem eqv_same (l : List Int) : PyData.eqv ((dT dI).d l) ((dT dI).d l) = true := by
  show PyData.eqv (.tuple (l.map PyData.int)) (.tuple (l.map PyData.int)) = true
  have key : ∀ l : List Int, PyData.eqvAll (l.map PyData.int) (l.map PyData.int) = true := by
    intro l
    induction l with
    | nil => simp [PyData.eqvAll]
    | cons x l ih => simp [PyData.eqvAll, PyData.eqv, ih]
  simp [PyData.eqv, key]
theorem eqv_sameL (l : List Int) : PyData.eqv ((dL dI).d l) ((dL dI).d l) = true := by
  show PyData.eqv (.list (l.map PyData.int)) (.list (l.map PyData.int)) = true
  have key : ∀ l : List Int, PyData.eqvAll (l.map PyData.int) (l.map PyData.int) = true := by
    intro l
    induction l with
    | nil => simp [PyData.eqvAll]
    | cons x l ih => simp [PyData.eqvAll, PyData.eqv, ih]
  simp [PyData.eqv, key]
theorem rng_ok {a b : Int} (h1 : -1000000 ≤ a) (h2 : a ≤ 1000000) (h3 : -1000000 ≤ b) (h4 : b ≤ 1000000) : rngC a b = some (irange a b) := by
  unfold rngC
  rw [if_pos ⟨h1, h2, h3, h4⟩]
/-- a loop with dice that keeps something -/
theorem forL_inv {ρ α γ γ' : Type} {f : γ → α → W (Fl ρ γ γ)} {I : Nat → γ → Gh → Prop} : ∀ (xs : List α) (k : Nat) (s : γ) (g : Gh) (Q : Fl ρ γ γ' → Gh → Prop),
    (∀ (i : Nat) x s g (P : Fl ρ γ γ → Gh → Prop), i < k + xs.length → x ∈ xs → I i s g → (∀ s' g', I (i + 1) s' g' → P (.nx s') g') → f s x g P) → I k s g → (∀ s g, I (k + xs.length) s g → Q (.nx s) g) → forL f xs s g Q
  | [], k, s, g, Q, _, hI, q => q s g hI
  | x :: xs, k, s, g, Q, h, hI, q => by
    unfold forL
    refine h k x s g _ (by simp) List.mem_cons_self hI fun s' g' hI' => ?_
    refine forL_inv xs (k + 1) s' g' Q (fun i y s g P hi hy => h i y s g P (by simp only [List.length_cons]; omega) (List.mem_cons_of_mem _ hy)) hI' fun s g hI2 => q s g ?_
    rw [List.length_cons, show k + (xs.length + 1) = k + 1 + xs.length by omega]
    exact hI2
theorem perm_pop {l : List Int} {i : Nat} {x : Int} (h : l[i]? = some x) : l.Perm (x :: l.eraseIdx i) := by
  induction l generalizing i with
  | nil => simp at h
  | cons y l ih =>
    cases i with
    | zero =>
      simp at h
      subst h
      exact .refl _
    | succ i =>
      simp only [List.getElem?_cons_succ] at h
      exact ((ih h).cons y).trans (.swap x y _)
theorem shuffled_ok {items : List Int} {n : Int} {g : Gh} {P : List Int → Gh → Prop} (h : DI n g) (hn : n + items.length ≤ 100000) (hl : items.length ≤ 1000) (k : ∀ l g', l.Perm items → DI (n + items.length) g' → P l g') : m_law_shuffled (items, ()) g P := by
  unfold m_law_shuffled w_law_shuffled
  simp only [rtOf, rtK, W.bind, W.ret, bindF, ofO]
  refine ⟨irange 0 items.length, rng_ok (by omega) (by omega) (by omega) (by omega), ?_⟩
  refine forL_inv (I := fun i s g => (s.1 ++ s.2).Perm items ∧ s.2.length = i ∧ DI (n + i) g) _ 0 _ _ _ ?_ ⟨by simp, rfl, by simpa using h⟩ ?_
  · rintro i x ⟨left, found⟩ g P hi hx ⟨hp, hf, hd⟩ kk
    rw [irange_length] at hi
    have hlen := hp.length_eq
    simp only [List.length_append] at hlen
    have hf : found.length = i := hf
    refine roll_ok hd (by omega) (by show (0 : Int) < left.length; omega) (by show (left.length : Int) < 1000000; omega) fun r g' r0 r1 hd' => ?_
    have r1 : r < left.length := r1
    have e : r.toNat < left.length := by omega
    refine ⟨(left[r.toNat], left.eraseIdx r.toNat), ?_, found ++ [left[r.toNat]], ?_, kk _ _ ⟨?_, by simp; omega, ?_⟩⟩
    · unfold popC
      rw [if_pos (by omega)]
      have : seqIndex? r left.length = some r.toNat := by
        unfold seqIndex?
        have a : ¬ r < 0 := by omega
        simp [a, r0, r1]
      simp [this, e]
    · unfold addO
      rw [if_pos (by show found.length ≤ 1000000; omega)]
    · have := perm_pop (List.getElem?_eq_getElem e)
      refine .trans ?_ hp
      show (left.eraseIdx r.toNat ++ (found ++ [left[r.toNat]])).Perm (left ++ found)
      refine .trans ?_ (this.symm.append_right found)
      rw [← List.append_assoc]
      exact (List.perm_append_singleton _ _)
    · rw [show n + ((i + 1 : Nat) : Int) = n + (i : Int) + 1 by omega]
      exact hd'
  · rintro ⟨left, found⟩ g ⟨hp, hf, hd⟩
    rw [irange_length] at hf hd
    have hlen := hp.length_eq
    simp only [List.length_append] at hlen
    have hf : found.length = 0 + ((items.length : Int) - 0).toNat := hf
    have el : left = [] := List.length_eq_zero_iff.mp (by omega)
    subst el
    refine k found g (by simpa using hp) (hd.mono (by omega))
theorem move_drawn_ok {t n : Int} {g : Gh} {P : List Int → Gh → Prop} (t0 : 0 ≤ t) (t1 : t ≤ 1000) (h : DI n g) (hn : n + t ≤ 100000) (k : ∀ l g', Mv t l → DI (n + t) g' → P l g') : m_law_move_drawn (t, ()) g P := by
  unfold m_law_move_drawn w_law_move_drawn
  repeat (first | with_reducible apply rtOfI | with_reducible apply bindFI | with_reducible apply bindI | with_reducible apply retI | with_reducible apply rtKI | with_reducible apply bindKI | with_reducible apply putI)
  refine ofI (a := irange 0 t) (rng_ok (by show -1000000 ≤ (0:Int); omega) (by omega) (by show -1000000 ≤ t; omega) (by show t ≤ 1000000; omega)) ?_
  have e : ((irange 0 t).length : Int) = t := by rw [irange_length]; omega
  repeat (first | with_reducible apply rtOfI | with_reducible apply bindFI | with_reducible apply bindI | with_reducible apply retI | with_reducible apply rtKI | with_reducible apply bindKI | with_reducible apply putI)
  refine shuffled_ok h (by omega) (by omega) fun l g' hl hd => ?_
  repeat (first | with_reducible apply rtOfI | with_reducible apply bindFI | with_reducible apply bindI | with_reducible apply retI | with_reducible apply rtKI | with_reducible apply bindKI | with_reducible apply putI)
  exact k l g' ⟨hl⟩ (hd.mono (by omega))
theorem lcW_all {α β : Type} {f : α → W β} {R : β → Prop} {n d : Int} : ∀ {xs : List α} {k : Nat} {g : Gh} {P : List β → Gh → Prop}, DI (n + k * d) g → (∀ x ∈ xs, ∀ (i : Nat) g (Q : β → Gh → Prop), i < k + xs.length → DI (n + i * d) g → (∀ b g', R b → DI (n + (i + 1 : Nat) * d) g' → Q b g') → f x g Q) → (∀ bs g', bs.length = xs.length → (∀ b ∈ bs, R b) → DI (n + (k + xs.length : Nat) * d) g' → P bs g') → lcW (fun _ => W.ret true) f xs g P
  | [], k, g, P, h, _, q => q [] g rfl (fun _ hb => nomatch hb) h
  | x :: xs, k, g, P, h, hf, q => by
    unfold lcW
    show ((f x).bind _) g P
    refine hf x List.mem_cons_self k g _ (by simp) h fun b g1 hb hd => ?_
    refine lcW_all (xs := xs) (k := k + 1) hd (fun y hy i g Q hi => hf y (List.mem_cons_of_mem _ hy) i g Q (by simp only [List.length_cons]; omega)) fun bs g2 hl hbs hd2 => ?_
    refine q (b :: bs) g2 (by simp [hl]) (fun c hc => ?_) (by rw [List.length_cons, show k + (xs.length + 1) = k + 1 + xs.length by omega]; exact hd2)
    rcases List.mem_cons.mp hc with e | hc
    · rw [e]; exact hb
    · exact hbs c hc
end K

set_option maxRecDepth 100000
set_option maxHeartbeats 4000000
/-! E3: moves one behind another, undone. -/
namespace K
open PySem L2 Rt
theorem count_ok {x a b : Int} (h1 : -(10 ^ 60) < x) (h2 : x < 10 ^ 60) : m_is_count (x, a, b, ()) = some (decide (a ≤ x ∧ x ≤ b)) := by
  unfold m_is_count o_is_count rtO
  by_cases z1 : a ≤ x <;> by_cases z2 : x ≤ b <;> simp [integer_ok h1 h2, rtKO, z1, z2]
theorem rep_one {α : Type} {x : α} {k : Int} (h0 : 0 ≤ k) (h1 : k ≤ 1000000) : repC [x] k = some (List.replicate k.toNat x) := by
  unfold repC
  rw [if_pos ⟨h1, by simp, by omega⟩]
  congr 1
  generalize k.toNat = m
  induction m with
  | zero => rfl
  | succ m ih => rw [List.replicate_succ, List.flatten_cons, ih, List.replicate_succ]; rfl
theorem setC_ok {α : Type} {s : List α} {x : Int} {v : α} (h0 : 0 ≤ x) (h1 : x < s.length) : setC s x v = some (s.set x.toNat v) := by
  unfold setC ixN
  rw [if_pos h0, if_pos h1]
  rfl
theorem for_sets {ρ γ' : Type} {n : Int} : ∀ (ps : List (Int × Int)) (s : List Int), (s.length : Int) = n → (∀ p ∈ ps, 0 ≤ p.2 ∧ p.2 < n) → forO (ρ := ρ) (γ' := γ') (fun (s : List Int) (p : Int × Int) => (setC s p.2 p.1).bind fun l => some (Fl.nx l)) ps s = some (.nx (sets ps s))
  | [], s, _, _ => rfl
  | p :: ps, s, hl, h => by
    obtain ⟨a, b⟩ := h p List.mem_cons_self
    unfold forO
    rw [setC_ok a (by omega)]
    exact for_sets ps (s.set p.2.toNat p.1) (by rw [List.length_set]; exact hl) fun q hq => h q (List.mem_cons_of_mem _ hq)
theorem enumI_mem {s : List Int} {p : Int × Int} (h : p ∈ enumI s) : 0 ≤ p.1 ∧ p.1 < s.length ∧ p.2 = fn s p.1 := by
  obtain ⟨q, hq, e⟩ := List.mem_map.mp (show p ∈ (s.zipIdx).map (fun p => (((p.2 : Nat) : Int), p.1)) from h)
  obtain ⟨_, h2, h3⟩ := List.mem_zipIdx hq
  subst e
  have h2 : q.2 < s.length := by omega
  refine ⟨by show (0 : Int) ≤ (q.2 : Int); omega, by show (q.2 : Int) < _; omega, ?_⟩
  show q.1 = fn s (q.2 : Int)
  unfold fn
  rw [show ((q.2 : Int)).toNat = q.2 by omega, List.getElem?_eq_getElem h2]
  simpa using h3
theorem enumI_snd (s : List Int) : (enumI s).map (·.2) = s := by
  unfold enumI
  rw [List.map_map]
  exact List.zipIdx_map_fst ..
theorem enumI_has {s : List Int} {x : Int} (h0 : 0 ≤ x) (h1 : x < s.length) : (x, fn s x) ∈ enumI s := by
  have e : x.toNat < s.length := by omega
  refine List.mem_map.mpr ⟨(fn s x, x.toNat), ?_, ?_⟩
  · refine List.mem_zipIdx_iff_getElem?.mpr ?_
    show s[x.toNat]? = some (fn s x)
    unfold fn
    rw [List.getElem?_eq_getElem e]
    rfl
  · show ((x.toNat : Int), fn s x) = _
    rw [show (x.toNat : Int) = x by omega]
theorem sets_inv {n : Int} {s : List Int} (h0 : 0 ≤ n) (hs : Mv n s) : Inv n s (sets (enumI s) (List.replicate s.length 0)) := by
  have hl := hs.len h0
  obtain ⟨k1, _⟩ := sets_fn (n := n) (enumI s) (List.replicate s.length 0) (by rw [List.length_replicate]; exact hl) (fun p hp => by
    obtain ⟨a, b, c⟩ := enumI_mem hp
    rw [c]
    exact hs.rg a (by omega)) (by rw [enumI_snd]; exact hs.nd)
  have eq : ∀ x : Int, 0 ≤ x → x < n → fn (sets (enumI s) (List.replicate s.length 0)) (fn s x) = x := fun x x0 x1 => k1 _ (enumI_has x0 (by omega))
  have el : ((sets (enumI s) (List.replicate s.length 0)).length : Int) = n := by rw [sets_len, List.length_replicate]; exact hl
  refine ⟨mv_of h0 el ?_ fun y hy => ?_, eq⟩
  · rw [← fn_all el]
    refine nodup_map (fun x hx y hy e => ?_) (irange_nodup 0 n)
    obtain ⟨x0, x1⟩ := mem_irange.mp hx
    obtain ⟨y0, y1⟩ := mem_irange.mp hy
    obtain ⟨u, u0, u1, eu⟩ := hs.sur x0 x1
    obtain ⟨v, v0, v1, ev⟩ := hs.sur y0 y1
    rw [← eu, ← ev, eq u u0 u1, eq v v0 v1] at e
    rw [← eu, ← ev, e]
  · rw [← fn_all el] at hy
    obtain ⟨x, hx, e⟩ := List.mem_map.mp hy
    obtain ⟨x0, x1⟩ := mem_irange.mp hx
    obtain ⟨u, u0, u1, eu⟩ := hs.sur x0 x1
    rw [← e, ← eu, eq u u0 u1]
    exact ⟨u0, u1⟩
theorem is_move_ok {n : Int} {s : List Int} (h1 : 1 ≤ n) (h2 : n ≤ 24) (h : Mv n s) : m_is_move (s, ()) = some true := by
  have hl := h.len (by omega)
  have e1 : lcO (fun _ : Int => some true) (fun x => m_is_count (x, 0, (s.length : Int) - 1, ())) s = some (s.map fun _ => true) := lcO_map fun x hx => by
    obtain ⟨a, b⟩ := h.mem.mp hx
    rw [count_ok (by omega) (by omega)]
    have : 0 ≤ x ∧ x ≤ (s.length : Int) - 1 := by omega
    rw [decide_eq_true this]
  have e2 : sortI s = irange 0 s.length := by
    rw [hl]
    exact sorted_unique ((sortI_perm s).trans h.pm) (sortI_sorted s) (irange_sorted 0 n)
  have e3 : rngC 0 (s.length : Int) = some (irange 0 s.length) := rng_ok (by omega) (by omega) (by omega) (by omega)
  have a1 : (1 : Int) ≤ s.length := by omega
  have a2 : (s.length : Int) ≤ 24 := by omega
  unfold m_is_move o_is_move rtO
  simp only [Option.bind_some, Bool.not_true, Bool.false_eq_true, if_false, a1, a2, decide_true, if_true, e1, e2, e3, eqv_sameL]
  simp [rtKO]
theorem check_move_ok {n : Int} {s : List Int} (h1 : 1 ≤ n) (h2 : n ≤ 24) (h : Mv n s) : m_check_move (s, ()) = some () := by
  unfold m_check_move o_check_move rtNO
  simp [is_move_ok h1 h2 h, rtKNO]
end K

set_option maxRecDepth 100000
set_option maxHeartbeats 4000000
/-! E4: the cycles, as the program and as the law find them. -/
namespace K
open PySem L2 Rt
theorem Part.lens {n : Int} {σ : List Int} {D : List (List Int)} (h : Part n σ D) (h0 : 0 ≤ n) : (D.flatten.length : Int) ≤ n ∧ D.length ≤ D.flatten.length := by
  have a := subset_len (t := irange 0 n) h.nd fun x hx => mem_irange.mpr (h.rg x hx)
  rw [irange_length] at a
  have b := count_dec h.cyc h.nd
  have c := List.countP_le_length (p := lowB (fn σ)) (l := D.flatten)
  exact ⟨by omega, by omega⟩
theorem flat_snoc (D : List (List Int)) (c : List Int) : (D ++ [c]).flatten = D.flatten ++ c := by simp
theorem cyc_for {n : Int} {σ : List Int} (h0 : 0 ≤ n) (M : Mv n σ) : ∃ D, Part n σ D ∧ D.flatten.Perm (irange 0 n) ∧
    (∀ {ρ γ' : Type} (b : List (List Int) × List Int → Int → Option (Fl ρ (List (List Int) × List Int) (List (List Int) × List Int))),
      (∀ D x, Part n σ D → 0 ≤ x → x < n → x ∈ D.flatten → b (D, D.flatten) x = some (.nx (D, D.flatten))) →
      (∀ D x ys, Part n σ D → 0 ≤ x → x < n → x ∉ D.flatten → Orb (fn σ) x (fn σ x) ys → (ys.length : Int) < n → (∀ y ∈ ys, 0 ≤ y ∧ y < n) → b (D, D.flatten) x = some (.nx (D ++ [x :: ys], D.flatten ++ x :: ys))) →
      forO (γ' := γ') b (irange 0 n) ([], []) = some (.nx (D, D.flatten))) ∧
    (∀ {ρ γ' : Type} (b : List (List Int) × List Bool → Int → Option (Fl ρ (List (List Int) × List Bool) (List (List Int) × List Bool))),
      (∀ D x, Part n σ D → 0 ≤ x → x < n → x ∈ D.flatten → b (D, flags n D.flatten) x = some (.ct (D, flags n D.flatten))) →
      (∀ D x ys, Part n σ D → 0 ≤ x → x < n → x ∉ D.flatten → Orb (fn σ) x (fn σ x) ys → (ys.length : Int) < n → (x :: ys).Nodup → (∀ y ∈ ys, (0 ≤ y ∧ y < n) ∧ y ∉ D.flatten) → b (D, flags n D.flatten) x = some (.nx (D ++ [x :: ys], flags n (D.flatten ++ x :: ys)))) →
      forO (γ' := γ') b (irange 0 n) ([], flags n []) = some (.nx (D, flags n D.flatten))) := by
  have key : ∀ (ss : List Int) (D0 : List (List Int)), Part n σ D0 → (∀ x ∈ ss, 0 ≤ x ∧ x < n) → ∃ D, Part n σ D ∧ (∀ x ∈ D0.flatten, x ∈ D.flatten) ∧ (∀ x ∈ ss, x ∈ D.flatten) ∧
      (∀ {ρ γ' : Type} (b : List (List Int) × List Int → Int → Option (Fl ρ (List (List Int) × List Int) (List (List Int) × List Int))),
        (∀ D x, Part n σ D → 0 ≤ x → x < n → x ∈ D.flatten → b (D, D.flatten) x = some (.nx (D, D.flatten))) →
        (∀ D x ys, Part n σ D → 0 ≤ x → x < n → x ∉ D.flatten → Orb (fn σ) x (fn σ x) ys → (ys.length : Int) < n → (∀ y ∈ ys, 0 ≤ y ∧ y < n) → b (D, D.flatten) x = some (.nx (D ++ [x :: ys], D.flatten ++ x :: ys))) →
        forO (γ' := γ') b ss (D0, D0.flatten) = some (.nx (D, D.flatten))) ∧
      (∀ {ρ γ' : Type} (b : List (List Int) × List Bool → Int → Option (Fl ρ (List (List Int) × List Bool) (List (List Int) × List Bool))),
        (∀ D x, Part n σ D → 0 ≤ x → x < n → x ∈ D.flatten → b (D, flags n D.flatten) x = some (.ct (D, flags n D.flatten))) →
        (∀ D x ys, Part n σ D → 0 ≤ x → x < n → x ∉ D.flatten → Orb (fn σ) x (fn σ x) ys → (ys.length : Int) < n → (x :: ys).Nodup → (∀ y ∈ ys, (0 ≤ y ∧ y < n) ∧ y ∉ D.flatten) → b (D, flags n D.flatten) x = some (.nx (D ++ [x :: ys], flags n (D.flatten ++ x :: ys)))) →
        forO (γ' := γ') b ss (D0, flags n D0.flatten) = some (.nx (D, flags n D.flatten))) := by
    intro ss
    induction ss with
    | nil => exact fun D0 hP _ => ⟨D0, hP, fun _ h => h, (fun _ h => nomatch h), fun b _ _ => rfl, fun b _ _ => rfl⟩
    | cons x ss ih =>
      intro D0 hP hr
      obtain ⟨x0, x1⟩ := hr x List.mem_cons_self
      by_cases z : x ∈ D0.flatten
      · obtain ⟨D, p1, p2, p3, p4, p5⟩ := ih D0 hP fun y hy => hr y (List.mem_cons_of_mem _ hy)
        refine ⟨D, p1, p2, fun y hy => ?_, fun b h1 h2 => ?_, fun b h1 h2 => ?_⟩
        · rcases List.mem_cons.mp hy with e | hy
          · rw [e]; exact p2 x z
          · exact p3 y hy
        · unfold forO
          rw [h1 D0 x hP x0 x1 z]
          exact p4 b h1 h2
        · unfold forO
          rw [h1 D0 x hP x0 x1 z]
          exact p5 b h1 h2
      · obtain ⟨ys, o1, o2, o3, o4, o5⟩ := hP.new M x0 x1 z
        obtain ⟨D, p1, p2, p3, p4, p5⟩ := ih _ o5 fun y hy => hr y (List.mem_cons_of_mem _ hy)
        rw [flat_snoc] at p2 p4 p5
        refine ⟨D, p1, fun y hy => p2 y (List.mem_append_left _ hy), fun y hy => ?_, fun b h1 h2 => ?_, fun b h1 h2 => ?_⟩
        · rcases List.mem_cons.mp hy with e | hy
          · rw [e]; exact p2 x (List.mem_append_right _ List.mem_cons_self)
          · exact p3 y hy
        · unfold forO
          rw [h2 D0 x ys hP x0 x1 z o1 o2 fun y hy => (o4 y hy).1]
          exact p4 b h1 h2
        · unfold forO
          rw [h2 D0 x ys hP x0 x1 z o1 o2 o3 o4]
          exact p5 b h1 h2
  obtain ⟨D, p1, p2, p3, p4, p5⟩ := key (irange 0 n) [] ⟨(fun _ h => nomatch h), List.nodup_nil, fun _ h => nomatch h⟩ fun x hx => mem_irange.mp hx
  exact ⟨D, p1, p1.full fun x x0 x1 => p3 x (mem_irange.mpr ⟨x0, x1⟩), p4, p5⟩
theorem flags_nil {n : Int} (h0 : 0 ≤ n) : List.replicate n.toNat false = flags n [] := by
  unfold flags irange
  rw [List.map_map]
  refine List.ext_getElem (by simp) fun i h1 h2 => by simp
theorem addO_ok {α : Type} {xs : List α} {v : α} (h : xs.length ≤ 1000000) : addO xs v = some (xs ++ [v]) := by unfold addO; rw [if_pos h]
theorem catC_ok {α : Type} {xs ys : List α} (h : xs.length + ys.length ≤ 1000000) : catC xs ys = some (xs ++ ys) := by unfold catC; rw [if_pos h]
theorem fin_for {ρ α γ γ' δ : Type} {b : γ → α → Option (Fl ρ γ γ)} {xs : List α} {s r : γ} {k : Fl ρ γ γ' → Option δ} {d : δ} (h : forO (γ' := γ') b xs s = some (.nx r)) (h2 : k (.nx r) = some d) : (forO (γ' := γ') b xs s).bind k = some d := by
  rw [h]
  exact h2
theorem cycles_ok {n : Int} {σ : List Int} (h1 : 1 ≤ n) (h2 : n ≤ 24) (M : Mv n σ) : ∃ D, m_cycles (σ, ()) = some D ∧ Part n σ D ∧ D.flatten.Perm (irange 0 n) := by
  have h0 : 0 ≤ n := by omega
  have hl := M.len h0
  obtain ⟨D, hP, hF, hL, hC⟩ := cyc_for h0 M
  have e1 : rngC 0 n = some (irange 0 n) := rng_ok (by omega) (by omega) (by omega) (by omega)
  refine ⟨D, ?_, hP, hF⟩
  · unfold m_cycles o_cycles rtO
    have e2 : lenK [false] = some [false] := rfl
    have e3 : repC [false] n = some (flags n []) := by rw [rep_one h0 (by omega), flags_nil h0]
    simp only [Option.bind_some, check_move_ok h1 h2 M, hl, e1, e2, e3, bindFO]
    rw [Option.bind_assoc]
    refine fin_for (hC _ ?_ ?_) rfl
    · intro D x P x0 x1 hx
      simp only [flags_get x0 x1, Option.bind_some, hx, decide_true, if_true]
      rfl
    · intro D x ys P x0 x1 hx ho hy nd hr
      obtain ⟨l1, l2⟩ := P.lens h0
      simp only [flags_get x0 x1, Option.bind_some, hx, decide_false, Bool.false_eq_true, if_false]
      have step : ∀ (γ' : Type), whileO (ρ := List (List Int)) (γ' := γ') (fun (s22 : List Bool × List Int × Int) => (L2.atI s22.1 s22.2.2).bind fun b25 => some (!b25)) (fun (s22 : List Bool × List Int × Int) => (setC s22.1 s22.2.2 true).bind fun (l28 : List Bool) => (addO s22.2.1 s22.2.2).bind fun (l30 : List Int) => (L2.atI σ s22.2.2).bind fun (v31 : Int) => some (Fl.nx (l28, l30, v31))) 100 (flags n D.flatten, [], x) = some (.nx (flags n (D.flatten ++ x :: ys), x :: ys, x)) := fun γ' => by
        unfold whileO
        simp only [flags_get x0 x1, Option.bind_some, hx, decide_false, Bool.not_false, if_true, flags_set x0 x1, addO_ok (xs := ([] : List Int)) (v := x) (by simp), atI_fn x0 (show x < (σ.length : Int) by omega)]
        simp only [List.nil_append, turnKO]
        rw [while_seen (s := x) M (fun S acc p p0 p1 => by simp only [flags_get p0 p1, Option.bind_some]) (fun S acc p p0 p1 ha => by
          simp only [flags_set p0 p1, addO_ok (show acc.length ≤ 1000000 by omega), Option.bind_some, atI_fn p0 (show p < (σ.length : Int) by omega)]) ys [x] (D.flatten ++ [x]) (fn σ x) 99 ho (List.mem_append_right _ List.mem_cons_self) x0 x1 (fun y hy => ⟨(hr y hy).1, fun w => by
            rcases List.mem_append.mp w with w | w
            · exact (hr y hy).2 w
            · rw [List.mem_singleton.mp w] at hy
              exact (List.nodup_cons.mp nd).1 hy⟩) (List.nodup_cons.mp nd).2 (by omega) (by simp; omega), List.append_assoc]
        rfl
      rw [step]
      show (addO D (x :: ys)).bind _ = _
      rw [addO_ok (by omega)]
      rfl
end K

set_option maxRecDepth 100000
set_option maxHeartbeats 4000000
/-! E5: the kind of a move: whatever way its cycles are told; the same for a renamed move. -/
namespace K
open PySem L2 Rt
theorem path_len {f : Int → Int} : ∀ {a : Int} {xs : List Int} {b : Int}, Path f a xs b → itn f (xs.length + 1) a = b ∧ ∀ (j : Nat) (h : j < xs.length), itn f (j + 1) a = xs[j]
  | a, [], b, h => ⟨h, fun j h => absurd h (Nat.not_lt_zero j)⟩
  | a, x :: xs, b, h => by
    obtain ⟨h1, h2⟩ := path_len h.2
    refine ⟨?_, fun j hj => ?_⟩
    · show itn f (xs.length + 1) (f a) = b
      rw [h.1, h1]
    · show itn f j (f a) = _
      rw [h.1]
      cases j with
      | zero => rfl
      | succ j => exact h2 j (Nat.lt_of_succ_lt_succ hj)
def Per (f : Int → Int) (L : Nat) (x : Int) : Prop := itn f L x = x ∧ ∀ j, 0 < j → j < L → itn f j x ≠ x
theorem cyc_per {f : Int → Int} {c : List Int} {x : Int} (h : IsCyc f c) (nd : c.Nodup) (hx : x ∈ c) : Per f c.length x := by
  obtain ⟨xs, h1, h2⟩ := cyc_turn h hx
  obtain ⟨p1, p2⟩ := path_len (show Path f x xs x from h1)
  rw [← h2.length_eq, List.length_cons]
  refine ⟨p1, fun j j0 j1 e => ?_⟩
  obtain ⟨n1, _⟩ := List.nodup_cons.mp (h2.nodup_iff.mpr nd)
  obtain ⟨i, rfl⟩ : ∃ i, j = i + 1 := ⟨j - 1, by omega⟩
  have hi : i < xs.length := by omega
  rw [p2 i hi] at e
  exact n1 (e ▸ List.getElem_mem hi)
theorem per_unique {f : Int → Int} {L M : Nat} {x : Int} (hL : 0 < L) (hM : 0 < M) (a : Per f L x) (b : Per f M x) : L = M := by
  rcases Nat.lt_trichotomy L M with c | c | c
  · exact absurd a.1 (b.2 L hL c)
  · exact c
  · exact absurd b.1 (a.2 M hM c)
open Classical in
noncomputable def perB (f : Int → Int) (L : Nat) (x : Int) : Bool := decide (Per f L x)
theorem perB_iff {f : Int → Int} {L : Nat} {x : Int} : perB f L x = true ↔ Per f L x := by
  unfold perB
  simp
theorem cyc_pos {f : Int → Int} {c : List Int} (h : IsCyc f c) : 0 < c.length := by
  cases c with
  | nil => exact h.elim
  | cons a xs => exact Nat.succ_pos _
theorem count_per {f : Int → Int} {L : Nat} (hL : 0 < L) : ∀ {D : List (List Int)}, (∀ c ∈ D, IsCyc f c) → D.flatten.Nodup → D.flatten.countP (perB f L) = L * (D.map List.length).count L
  | [], _, _ => rfl
  | c :: D, hD, nd => by
    rw [List.flatten_cons] at nd ⊢
    obtain ⟨n1, n2, _⟩ := List.nodup_append.mp nd
    have hc := hD c List.mem_cons_self
    rw [List.countP_append, count_per hL (fun d hd => hD d (List.mem_cons_of_mem _ hd)) n2, List.map_cons, List.count_cons]
    by_cases e : c.length = L
    · have : c.countP (perB f L) = c.length := List.countP_eq_length.mpr fun x hx => perB_iff.mpr (e ▸ cyc_per hc n1 hx)
      rw [this, e, if_pos (by simp), Nat.mul_add, Nat.mul_one, Nat.add_comm]
    · have : c.countP (perB f L) = 0 := countP_zero fun x hx => by
        rw [Bool.eq_false_iff]
        exact fun z => e (per_unique (cyc_pos hc) hL (cyc_per hc n1 hx) (perB_iff.mp z))
      rw [this, if_neg (by simpa using e), Nat.zero_add, Nat.add_zero]
theorem lens_unique {f : Int → Int} {D E : List (List Int)} (hD : ∀ c ∈ D, IsCyc f c) (hE : ∀ c ∈ E, IsCyc f c) (nd : D.flatten.Nodup) (hp : D.flatten.Perm E.flatten) : (D.map List.length).Perm (E.map List.length) := by
  have ne := hp.nodup_iff.mp nd
  have zero : ∀ {D : List (List Int)}, (∀ c ∈ D, IsCyc f c) → (D.map List.length).count 0 = 0 := fun {D} h => by
    refine List.count_eq_zero.mpr fun z => ?_
    obtain ⟨c, hc, e⟩ := List.mem_map.mp z
    exact absurd e (Nat.ne_of_gt (cyc_pos (h c hc)))
  refine List.perm_iff_count.mpr fun L => ?_
  cases L with
  | zero => rw [zero hD, zero hE]
  | succ L =>
    have a := count_per (Nat.succ_pos L) hD nd
    have b := count_per (Nat.succ_pos L) hE ne
    rw [hp.countP_eq, b] at a
    exact (Nat.eq_of_mul_eq_mul_left (Nat.succ_pos L) a).symm
def lens (D : List (List Int)) : List Int := D.map fun c => (c.length : Int)
def kd (D : List (List Int)) : List Int := (sortI (lens D)).reverse
theorem sortI_of {xs ys : List Int} (h : xs.Perm ys) : sortI xs = sortI ys := sorted_unique ((sortI_perm xs).trans (h.trans (sortI_perm ys).symm)) (sortI_sorted xs) (sortI_sorted ys)
/-- the cycles of a move of n places -/
structure Cy (n : Int) (s : List Int) (D : List (List Int)) : Prop where
  cyc : ∀ c ∈ D, IsCyc (fn s) c
  all : D.flatten.Perm (irange 0 n)
theorem Cy.nd {n : Int} {s : List Int} {D : List (List Int)} (h : Cy n s D) : D.flatten.Nodup := h.all.nodup_iff.mpr (irange_nodup 0 n)
theorem Cy.kd_unique {n : Int} {s : List Int} {D E : List (List Int)} (a : Cy n s D) (b : Cy n s E) : kd D = kd E := by
  have h := lens_unique a.cyc b.cyc a.nd (a.all.trans b.all.symm)
  unfold kd
  have e : ∀ D : List (List Int), lens D = (D.map List.length).map (fun k : Nat => (k : Int)) := fun D => by unfold lens; rw [List.map_map] <;> rfl
  rw [sortI_of (show (lens D).Perm (lens E) by rw [e, e]; exact h.map _)]
theorem path_map {f g h : Int → Int} : ∀ {a : Int} {xs : List Int} {b : Int}, Path f a xs b → (∀ x ∈ a :: xs, g (h x) = h (f x)) → Path g (h a) (xs.map h) (h b)
  | a, [], b, p, e => (e a List.mem_cons_self).trans (congrArg h p)
  | a, x :: xs, b, p, e => ⟨(e a List.mem_cons_self).trans (congrArg h p.1), path_map p.2 fun y hy => e y (List.mem_cons_of_mem _ hy)⟩
/-- a move and one that does the same to other names -/
theorem Cy.ren {n : Int} {s o t : List Int} {D : List (List Int)} (h0 : 0 ≤ n) (h : Cy n s D) (ho : Mv n o) (e : ∀ x : Int, 0 ≤ x → x < n → fn t (fn o x) = fn o (fn s x)) : Cy n t (D.map fun c => c.map (fn o)) := by
  have rg : ∀ x ∈ D.flatten, 0 ≤ x ∧ x < n := fun x hx => mem_irange.mp (h.all.mem_iff.mp hx)
  refine ⟨fun c hc => ?_, ?_⟩
  · obtain ⟨d, hd, rfl⟩ := List.mem_map.mp hc
    have hi := h.cyc d hd
    cases d with
    | nil => exact hi.elim
    | cons a xs => exact path_map hi fun x hx => e x (rg x (List.mem_flatten.mpr ⟨_, hd, hx⟩)).1 (rg x (List.mem_flatten.mpr ⟨_, hd, hx⟩)).2
  · have := h.all.map (fn o)
    rw [fn_all (ho.len h0), List.map_flatten] at this
    exact this.trans ho.pm
theorem kd_map {D : List (List Int)} {f : Int → Int} : kd (D.map fun c => c.map f) = kd D := by
  unfold kd lens
  rw [List.map_map]
  congr 2
  exact List.map_congr_left fun c _ => by simp
theorem cy_of {n : Int} {s : List Int} (h1 : 1 ≤ n) (h2 : n ≤ 24) (M : Mv n s) : ∃ D, m_cycles (s, ()) = some D ∧ Cy n s D := by
  obtain ⟨D, a, c, d⟩ := cycles_ok h1 h2 M
  exact ⟨D, a, c.cyc, d⟩
theorem kind_of_ok {s : List Int} {D : List (List Int)} (h : m_cycles (s, ()) = some D) : m_kind_of (s, ()) = some (kd D) := by
  have e1 : lcO (fun _ : List Int => some true) (fun x => some (x.length : Int)) D = some (lens D) := lcO_map fun x hx => rfl
  unfold m_kind_of o_kind_of rtO
  simp only [Option.bind_some, h, e1]
  rfl
theorem lot_of_ok (xs : List Int) : m_law_lot_of (xs, ()) = some (sortI xs).reverse := rfl
/-! the law's kind -/
theorem lens_snoc (D : List (List Int)) (c : List Int) : lens (D ++ [c]) = lens D ++ [(c.length : Int)] := by unfold lens; simp
theorem kind_for {n : Int} {σ : List Int} (h0 : 0 ≤ n) (M : Mv n σ) : ∃ D, Part n σ D ∧ D.flatten.Perm (irange 0 n) ∧
    (∀ {ρ γ' : Type} (b : List Int × List Int → Int → Option (Fl ρ (List Int × List Int) (List Int × List Int))),
      (∀ D x, Part n σ D → 0 ≤ x → x < n → x ∈ D.flatten → b (lens D, D.flatten) x = some (.nx (lens D, D.flatten))) →
      (∀ D x ys, Part n σ D → 0 ≤ x → x < n → x ∉ D.flatten → Orb (fn σ) x (fn σ x) ys → (ys.length : Int) < n → (x :: ys).Nodup → (∀ y ∈ ys, (0 ≤ y ∧ y < n) ∧ y ∉ D.flatten) → b (lens D, D.flatten) x = some (.nx (lens (D ++ [x :: ys]), D.flatten ++ x :: ys))) →
      forO (γ' := γ') b (irange 0 n) ([], []) = some (.nx (lens D, D.flatten))) := by
  have key : ∀ (ss : List Int) (D0 : List (List Int)), Part n σ D0 → (∀ x ∈ ss, 0 ≤ x ∧ x < n) → ∃ D, Part n σ D ∧ (∀ x ∈ D0.flatten, x ∈ D.flatten) ∧ (∀ x ∈ ss, x ∈ D.flatten) ∧
      (∀ {ρ γ' : Type} (b : List Int × List Int → Int → Option (Fl ρ (List Int × List Int) (List Int × List Int))),
        (∀ D x, Part n σ D → 0 ≤ x → x < n → x ∈ D.flatten → b (lens D, D.flatten) x = some (.nx (lens D, D.flatten))) →
        (∀ D x ys, Part n σ D → 0 ≤ x → x < n → x ∉ D.flatten → Orb (fn σ) x (fn σ x) ys → (ys.length : Int) < n → (x :: ys).Nodup → (∀ y ∈ ys, (0 ≤ y ∧ y < n) ∧ y ∉ D.flatten) → b (lens D, D.flatten) x = some (.nx (lens (D ++ [x :: ys]), D.flatten ++ x :: ys))) →
        forO (γ' := γ') b ss (lens D0, D0.flatten) = some (.nx (lens D, D.flatten))) := by
    intro ss
    induction ss with
    | nil => exact fun D0 hP _ => ⟨D0, hP, fun _ h => h, (fun _ h => nomatch h), fun b _ _ => rfl⟩
    | cons x ss ih =>
      intro D0 hP hr
      obtain ⟨x0, x1⟩ := hr x List.mem_cons_self
      have hr' := fun y hy => hr y (List.mem_cons_of_mem _ hy)
      by_cases z : x ∈ D0.flatten
      · obtain ⟨D, p1, p2, p3, p4⟩ := ih D0 hP hr'
        refine ⟨D, p1, p2, fun y hy => ?_, fun b h1 h2 => ?_⟩
        · rcases List.mem_cons.mp hy with e | hy
          · rw [e]; exact p2 x z
          · exact p3 y hy
        · unfold forO
          rw [h1 D0 x hP x0 x1 z]
          exact p4 b h1 h2
      · obtain ⟨ys, o1, o2, o3, o4, o5⟩ := hP.new M x0 x1 z
        obtain ⟨D, p1, p2, p3, p4⟩ := ih _ o5 hr'
        rw [flat_snoc] at p2 p4
        refine ⟨D, p1, fun y hy => p2 y (List.mem_append_left _ hy), fun y hy => ?_, fun b h1 h2 => ?_⟩
        · rcases List.mem_cons.mp hy with e | hy
          · rw [e]; exact p2 x (List.mem_append_right _ List.mem_cons_self)
          · exact p3 y hy
        · unfold forO
          rw [h2 D0 x ys hP x0 x1 z o1 o2 o3 o4]
          exact p4 b h1 h2
  obtain ⟨D, p1, p2, p3, p4⟩ := key (irange 0 n) [] ⟨(fun _ h => nomatch h), List.nodup_nil, fun _ h => nomatch h⟩ fun x hx => mem_irange.mp hx
  exact ⟨D, p1, p1.full fun x x0 x1 => p3 x (mem_irange.mpr ⟨x0, x1⟩), p4⟩
theorem any_mem {S : List Int} {x : Int} : (S.any fun y => decide (y = x)) = decide (x ∈ S) := by
  rw [Bool.eq_iff_iff, List.any_eq_true, decide_eq_true_iff]
  exact ⟨fun ⟨y, hy, e⟩ => of_decide_eq_true e ▸ hy, fun h => ⟨x, h, by simp⟩⟩
theorem while_met {ρ γ' : Type} {σ : List Int} {n s : Int} {c : List Int × Int × Int → Option Bool} {b : List Int × Int × Int → Option (Fl ρ (List Int × Int × Int) (List Int × Int × Int))}
    (hc : ∀ S k p, c (S, k, p) = some (!decide (p ∈ S))) (hb : ∀ S k p, 0 ≤ p → p < n → S.length ≤ 100 → b (S, k, p) = some (.nx (S ++ [p], k + 1, fn σ p))) :
    ∀ (ys S : List Int) (k p : Int) (fuel : Nat), Orb (fn σ) s p ys → s ∈ S → (∀ x ∈ ys, (0 ≤ x ∧ x < n) ∧ x ∉ S) → ys.Nodup → ys.length < fuel → S.length + ys.length ≤ 100 → whileO (γ' := γ') c b fuel (S, k, p) = some (.nx (S ++ ys, k + ys.length, s))
  | [], S, k, p, 0, _, _, _, _, hf, _ => absurd hf (by simp)
  | y :: ys, S, k, p, 0, _, _, _, _, hf, _ => absurd hf (by simp)
  | [], S, k, p, fuel + 1, ho, hs, _, _, _, _ => by
    have ho : p = s := ho
    subst ho
    unfold whileO
    rw [hc]
    simp [hs]
  | y :: ys, S, k, p, fuel + 1, ho, hs, hr, nd, hf, ha => by
    obtain ⟨rfl, h1, h2⟩ := ho
    obtain ⟨⟨p0, p1⟩, pS⟩ := hr p List.mem_cons_self
    obtain ⟨n1, n2⟩ := List.nodup_cons.mp nd
    simp only [List.length_cons] at hf ha
    unfold whileO
    rw [hc]
    simp only [pS, decide_false, Bool.not_false, Option.bind_some, if_true]
    rw [hb S k p p0 p1 (by omega)]
    show whileO c b fuel (S ++ [p], k + 1, fn σ p) = _
    rw [while_met hc hb ys (S ++ [p]) (k + 1) (fn σ p) fuel h2 (List.mem_append_left _ hs) (fun x hx => ⟨(hr x (List.mem_cons_of_mem _ hx)).1, fun w => by
      rcases List.mem_append.mp w with w | w
      · exact (hr x (List.mem_cons_of_mem _ hx)).2 w
      · rw [List.mem_singleton.mp w] at hx
        exact n1 hx⟩) n2 (by omega) (by simp; omega), List.append_assoc]
    simp only [List.length_cons, List.singleton_append]
    rw [show k + 1 + (ys.length : Int) = k + ((ys.length + 1 : Nat) : Int) by omega]
theorem law_kind_ok {n : Int} {s : List Int} {D : List (List Int)} (h1 : 1 ≤ n) (h2 : n ≤ 24) (M : Mv n s) (hD : Cy n s D) : m_law_kind (s, ()) = some (kd D) := by
  have h0 : 0 ≤ n := by omega
  have hl := M.len h0
  obtain ⟨E, hP, hF, hK⟩ := kind_for h0 M
  have e1 : rngC 0 n = some (irange 0 n) := rng_ok (by omega) (by omega) (by omega) (by omega)
  rw [hD.kd_unique ⟨hP.cyc, hF⟩]
  unfold m_law_kind o_law_kind rtO
  simp only [Option.bind_some, hl, e1, bindFO]
  rw [Option.bind_assoc]
  refine fin_for (hK _ ?_ ?_) rfl
  · intro D x P x0 x1 hx
    unfold whileO
    simp only [any_mem, hx, decide_true, Bool.not_true, Bool.false_eq_true, if_false, Option.bind_some]
    rfl
  · intro D x ys P x0 x1 hx ho hy nd hr
    obtain ⟨l1, l2⟩ := P.lens h0
    obtain ⟨m1, m2⟩ := List.nodup_cons.mp nd
    have step : ∀ (γ' : Type), whileO (ρ := List Int) (γ' := γ') (fun (s9 : List Int × Int × Int) => some (!(s9.1.any fun y12 => decide (y12 = s9.2.2)))) (fun (s9 : List Int × Int × Int) => (addO s9.1 s9.2.2).bind fun (l14 : List Int) => (some (s9.2.1 + 1)).bind fun (v15 : Int) => (L2.atI s s9.2.2).bind fun (v16 : Int) => some (Fl.nx (l14, v15, v16))) 100 (D.flatten, 0, x) = some (.nx (D.flatten ++ x :: ys, 1 + ys.length, x)) := fun γ' => by
      unfold whileO
      simp only [any_mem, hx, decide_false, Bool.not_false, if_true, Option.bind_some, addO_ok (show D.flatten.length ≤ 1000000 by omega), atI_fn x0 (show x < (s.length : Int) by omega), turnKO]
      rw [while_met (n := n) (s := x) (fun S k p => by simp only [any_mem]) (fun S k p p0 p1 ha => by
        simp only [addO_ok (show S.length ≤ 1000000 by omega), Option.bind_some, atI_fn p0 (show p < (s.length : Int) by omega)]) ys (D.flatten ++ [x]) (0 + 1) (fn s x) 99 ho (List.mem_append_right _ List.mem_cons_self) (fun y hy => ⟨(hr y hy).1, fun w => by
          rcases List.mem_append.mp w with w | w
          · exact (hr y hy).2 w
          · rw [List.mem_singleton.mp w] at hy
            exact m1 hy⟩) m2 (by omega) (by simp only [List.length_append, List.length_cons, List.length_nil]; omega), List.append_assoc]
      rfl
    simp only [Option.bind_some] at step ⊢
    rw [step]
    have pos : (0 : Int) < 1 + ys.length := by omega
    simp only [Option.bind_some, bindKO, pos, decide_true, if_true, addO_ok (show (lens D).length ≤ 1000000 by unfold lens; rw [List.length_map]; omega)]
    rw [lens_snoc, List.length_cons, show ((ys.length + 1 : Nat) : Int) = 1 + ys.length by omega]
end K

set_option maxRecDepth 100000
set_option maxHeartbeats 4000000
/-! E6: the law's own moves; renaming. -/
namespace K
open PySem L2 Rt
theorem law_behind_ok {n : Int} {s t : List Int} (hs : Mv n s) (ht : Mv n t) (h0 : 0 ≤ n) : m_law_behind (s, t, ()) = some (cmp s t) := by
  have tl := ht.len h0
  have e1 : lcO (fun _ : Int => some true) (fun x => L2.atI t x) s = some (s.map (fn t)) := lcO_map fun x hx => by
    obtain ⟨a, b⟩ := hs.mem.mp hx
    exact atI_fn a (by omega)
  unfold m_law_behind o_law_behind rtO
  simp only [Option.bind_some, e1]
  rfl
theorem Inv.right {n : Int} {s b : List Int} (h : Inv n s b) (hs : Mv n s) : ∀ x : Int, 0 ≤ x → x < n → fn s (fn b x) = x := fun x x0 x1 => by
  obtain ⟨u, u0, u1, e⟩ := hs.sur x0 x1
  rw [← e, h.eq u u0 u1]
theorem Inv.symm {n : Int} {s b : List Int} (h : Inv n s b) (hs : Mv n s) : Inv n b s := ⟨hs, h.right hs⟩
theorem idx_ok {n y : Int} {s b : List Int} (h0 : 0 ≤ n) (hs : Mv n s) (h : Inv n s b) (y0 : 0 ≤ y) (y1 : y < n) : idxC s y = some (fn b y) := by
  have hl := hs.len h0
  obtain ⟨r0, r1⟩ := h.mv.rg y0 y1
  have e0 := h.right hs y y0 y1
  have at_ : ∀ (j : Nat) (hj : j < s.length), fn s (j : Int) = s[j] := fun j hj => by
    unfold fn
    rw [show ((j : Int)).toNat = j by omega, List.getElem?_eq_getElem hj]
    rfl
  have hi : (fn b y).toNat < s.length := by omega
  have k : (s.findIdx? fun z => decide (z = y)) = some (fn b y).toNat := by
    refine List.findIdx?_eq_some_iff_getElem.mpr ⟨hi, ?_, fun j hj => ?_⟩
    · rw [← at_ _ hi, show (((fn b y).toNat : Nat) : Int) = fn b y by omega, e0]
      simp
    · rw [← at_ j (by omega)]
      simp only [decide_eq_true_eq]
      intro e
      have := h.eq (j : Int) (by omega) (by omega)
      rw [e] at this
      omega
  unfold idxC
  rw [k]
  show some (((fn b y).toNat : Nat) : Int) = _
  rw [show (((fn b y).toNat : Nat) : Int) = fn b y by omega]
theorem law_undone_ok {n : Int} {s b : List Int} (h0 : 0 ≤ n) (h2 : n ≤ 24) (hs : Mv n s) (h : Inv n s b) : m_law_undone (s, ()) = some b := by
  have hl := hs.len h0
  have e1 : rngC 0 n = some (irange 0 n) := rng_ok (by omega) (by omega) (by omega) (by omega)
  have e2 : lcO (fun _ : Int => some true) (fun x => idxC s x) (irange 0 n) = some ((irange 0 n).map (fn b)) := lcO_map fun x hx => by
    obtain ⟨a, c⟩ := mem_irange.mp hx
    exact idx_ok h0 hs h a c
  rw [fn_all (h.mv.len h0)] at e2
  unfold m_law_undone o_law_undone rtO
  simp only [Option.bind_some, hl, e1, e2]
  rfl
/-- s, told with other names -/
def ren (b s o : List Int) : List Int := cmp (cmp b s) o
theorem Mv.ren {n : Int} {s o b : List Int} (h0 : 0 ≤ n) (hs : Mv n s) (ho : Mv n o) (h : Inv n o b) : Mv n (ren b s o) := (h.mv.cmp h0 hs).cmp h0 ho
theorem fn_ren {n : Int} {s o b : List Int} (h0 : 0 ≤ n) (hs : Mv n s) (ho : Mv n o) (h : Inv n o b) {x : Int} (x0 : 0 ≤ x) (x1 : x < n) : fn (K.ren b s o) (fn o x) = fn o (fn s x) := by
  obtain ⟨r0, r1⟩ := ho.rg x0 x1
  have bl := h.mv.len h0
  unfold K.ren
  have e1 := fn_cmp (s := cmp b s) (t := o) r0 (by rw [(h.mv.cmp h0 hs).len h0]; exact r1)
  have e2 := fn_cmp (s := b) (t := s) r0 (by omega)
  rw [e1, e2, h.eq x x0 x1]
theorem ren_unique {n : Int} {s o t u : List Int} (h0 : 0 ≤ n) (ho : Mv n o) (ht : Mv n t) (hu : Mv n u) (e1 : ∀ x : Int, 0 ≤ x → x < n → fn t (fn o x) = fn o (fn s x)) (e2 : ∀ x : Int, 0 ≤ x → x < n → fn u (fn o x) = fn o (fn s x)) : t = u :=
  Mv.ext h0 ht hu fun y y0 y1 => by
    obtain ⟨x, x0, x1, e⟩ := ho.sur y0 y1
    rw [← e, e1 x x0 x1, e2 x x0 x1]
theorem enumI_fst (s : List Int) : (enumI s).map (·.1) = irange 0 s.length := by
  unfold enumI irange
  rw [List.map_map]
  refine List.ext_getElem (by simp) fun i h1 h2 => ?_
  simp
theorem for_ren {ρ γ' : Type} {n : Int} {o : List Int} (hl : (o.length : Int) = n) (ho : Mv n o) : ∀ (ps : List (Int × Int)) (r : List Int), (r.length : Int) = n → (∀ p ∈ ps, (0 ≤ p.1 ∧ p.1 < n) ∧ 0 ≤ p.2 ∧ p.2 < n) →
    forO (ρ := ρ) (γ' := γ') (fun (s20 : List Int) (x21 : Int × Int) => (L2.atI o x21.2).bind fun v26 => (L2.atI o x21.1).bind fun j27 => (setC s20 j27 v26).bind fun (l28 : List Int) => some (Fl.nx l28)) ps r = some (.nx (sets (ps.map fun p => (fn o p.2, fn o p.1)) r))
  | [], r, _, _ => rfl
  | p :: ps, r, hr, h => by
    obtain ⟨⟨a, b⟩, c, d⟩ := h p List.mem_cons_self
    obtain ⟨r0, r1⟩ := ho.rg a b
    unfold forO
    simp only [atI_fn c (show p.2 < (o.length : Int) by omega), atI_fn a (show p.1 < (o.length : Int) by omega), Option.bind_some, setC_ok (v := fn o p.2) r0 (show fn o p.1 < (r.length : Int) by omega)]
    exact for_ren hl ho ps (r.set (fn o p.1).toNat (fn o p.2)) (by rw [List.length_set]; exact hr) fun q hq => h q (List.mem_cons_of_mem _ hq)
theorem cmp_inv {n : Int} {s b : List Int} (h0 : 0 ≤ n) (hs : Mv n s) (h : Inv n s b) : cmp s b = irange 0 n :=
  Mv.ext h0 (hs.cmp h0 h.mv) (mv_idle n) fun x x0 x1 => by
    have sl := hs.len h0
    rw [fn_cmp x0 (by omega), h.eq x x0 x1, fn_irange x0 x1]
theorem ren_back {n : Int} {s o b : List Int} (h0 : 0 ≤ n) (hs : Mv n s) (ho : Mv n o) (h : Inv n o b) : ren o (ren b s o) b = s := by
  have hi := h.symm ho
  have ht := hs.ren h0 ho h
  refine ren_unique (s := ren b s o) (o := b) h0 h.mv (ht.ren h0 h.mv hi) hs (fun x x0 x1 => fn_ren h0 ht h.mv hi x0 x1) fun x x0 x1 => ?_
  obtain ⟨r0, r1⟩ := h.mv.rg x0 x1
  have e := fn_ren h0 hs ho h r0 r1
  rw [h.right ho x x0 x1] at e
  have := h.eq (fn s (fn b x)) (hs.rg r0 r1).1 (hs.rg r0 r1).2
  rw [e, this]
theorem ren_ren {n : Int} {s o l b c d : List Int} (h0 : 0 ≤ n) (hs : Mv n s) (ho : Mv n o) (hl : Mv n l) (h : Inv n o b) (hc : Inv n l c) (hd : Inv n (cmp o l) d) : ren c (ren b s o) l = ren d s (cmp o l) := by
  have ht := hs.ren h0 ho h
  have hol := ho.cmp h0 hl
  have ol := ho.len h0
  refine ren_unique (s := s) (o := cmp o l) h0 hol (ht.ren h0 hl hc) (hs.ren h0 hol hd) (fun x x0 x1 => ?_) fun x x0 x1 => fn_ren h0 hs hol hd x0 x1
  obtain ⟨r0, r1⟩ := ho.rg x0 x1
  obtain ⟨q0, q1⟩ := hs.rg x0 x1
  rw [fn_cmp x0 (by omega), fn_ren h0 ht hl hc r0 r1, fn_ren h0 hs ho h x0 x1, fn_cmp q0 (by omega)]
end K

set_option maxRecDepth 100000
set_option maxHeartbeats 4000000
/-! H7: which places moves join: by names that are merged, in both texts. -/
namespace K
open PySem L2 Rt
/-- the pairs join all places -/
def JP (n : Int) (ps : List (Int × Int)) : Prop := ∀ lab : Int → Int, (∀ p ∈ ps, lab p.1 = lab p.2) → ∀ x : Int, 0 ≤ x → x < n → lab x = lab 0
/-- the names: pairs have one name, and no two places have one that need not -/
structure Fin1 (n : Int) (ps : List (Int × Int)) (t : List Int) : Prop where
  len : (t.length : Int) = n
  rg : ∀ p ∈ ps, (0 ≤ p.1 ∧ p.1 < n) ∧ 0 ≤ p.2 ∧ p.2 < n
  one : ∀ p ∈ ps, fn t p.1 = fn t p.2
  few : ∀ lab : Int → Int, (∀ p ∈ ps, lab p.1 = lab p.2) → ∀ x y : Int, 0 ≤ x → x < n → 0 ≤ y → y < n → fn t x = fn t y → lab x = lab y
def mg (a b c m : Int) : Int := if m = a ∨ m = b then c else m
def jstep (ch : Int → Int → Int) (t : List Int) (p : Int × Int) : List Int := t.map (mg (fn t p.1) (fn t p.2) (ch (fn t p.1) (fn t p.2)))
theorem Fin1.idle {n : Int} (h0 : 0 ≤ n) : Fin1 n [] (irange 0 n) := ⟨by rw [irange_length]; omega, (fun _ h => nomatch h), (fun _ h => nomatch h), fun lab _ x y x0 x1 y0 y1 e => by rw [fn_irange x0 x1, fn_irange y0 y1] at e; rw [e]⟩
theorem fn_jstep {ch : Int → Int → Int} {t : List Int} {p : Int × Int} {x : Int} (x0 : 0 ≤ x) (x1 : x < t.length) : fn (jstep ch t p) x = mg (fn t p.1) (fn t p.2) (ch (fn t p.1) (fn t p.2)) (fn t x) := fn_map x0 x1
theorem Fin1.step {n : Int} {ps : List (Int × Int)} {t : List Int} {p : Int × Int} {ch : Int → Int → Int} (hc : ∀ a b, ch a b = a ∨ ch a b = b) (h : Fin1 n ps t) (hp : (0 ≤ p.1 ∧ p.1 < n) ∧ 0 ≤ p.2 ∧ p.2 < n) : Fin1 n (ps ++ [p]) (jstep ch t p) := by
  have hl := h.len
  have at_ : ∀ x : Int, 0 ≤ x → x < n → fn (jstep ch t p) x = mg (fn t p.1) (fn t p.2) (ch (fn t p.1) (fn t p.2)) (fn t x) := fun x x0 x1 => fn_jstep x0 (by omega)
  refine ⟨by unfold jstep; rw [List.length_map]; exact hl, fun q hq => ?_, fun q hq => ?_, fun lab hlab x y x0 x1 y0 y1 e => ?_⟩
  · rcases List.mem_append.mp hq with hq | hq
    · exact h.rg q hq
    · rw [List.mem_singleton.mp hq]; exact hp
  · rcases List.mem_append.mp hq with hq | hq
    · obtain ⟨⟨a0, a1⟩, b0, b1⟩ := h.rg q hq
      rw [at_ _ a0 a1, at_ _ b0 b1, h.one q hq]
    · obtain ⟨⟨a0, a1⟩, b0, b1⟩ := hp
      rw [List.mem_singleton.mp hq, at_ _ a0 a1, at_ _ b0 b1]
      unfold mg
      rw [if_pos (.inl rfl), if_pos (.inr rfl)]
  · obtain ⟨⟨a0, a1⟩, b0, b1⟩ := hp
    have old := h.few lab fun q hq => hlab q (List.mem_append_left _ hq)
    have new := hlab p (List.mem_append_right _ List.mem_cons_self)
    -- where the name is one of the two
    have is : ∀ z : Int, 0 ≤ z → z < n → (fn t z = fn t p.1 ∨ fn t z = fn t p.2) → lab z = lab p.1 := fun z z0 z1 w => by
      rcases w with w | w
      · exact old z p.1 z0 z1 a0 a1 w
      · rw [old z p.2 z0 z1 b0 b1 w, new]
    have cin : ch (fn t p.1) (fn t p.2) = fn t p.1 ∨ ch (fn t p.1) (fn t p.2) = fn t p.2 := hc _ _
    rw [at_ x x0 x1, at_ y y0 y1] at e
    unfold mg at e
    by_cases zx : fn t x = fn t p.1 ∨ fn t x = fn t p.2 <;> by_cases zy : fn t y = fn t p.1 ∨ fn t y = fn t p.2
    · rw [is x x0 x1 zx, is y y0 y1 zy]
    · rw [if_pos zx, if_neg zy] at e
      exact absurd (e ▸ cin) zy
    · rw [if_neg zx, if_pos zy] at e
      exact absurd (e ▸ cin) zx
    · rw [if_neg zx, if_neg zy] at e
      exact old x y x0 x1 y0 y1 e
theorem Fin1.fold {n : Int} {ch : Int → Int → Int} (hc : ∀ a b, ch a b = a ∨ ch a b = b) : ∀ (ps : List (Int × Int)) {done : List (Int × Int)} {t : List Int}, Fin1 n done t → (∀ p ∈ ps, (0 ≤ p.1 ∧ p.1 < n) ∧ 0 ≤ p.2 ∧ p.2 < n) → Fin1 n (done ++ ps) (ps.foldl (jstep ch) t)
  | [], done, t, h, _ => by rw [List.append_nil]; exact h
  | p :: ps, done, t, h, hp => by
    have := Fin1.fold hc ps (h.step hc (hp p List.mem_cons_self)) fun q hq => hp q (List.mem_cons_of_mem _ hq)
    rw [List.append_assoc] at this
    exact this
/-- all have one name -/
def Same1 (n : Int) (t : List Int) : Prop := ∀ x : Int, 0 ≤ x → x < n → fn t x = fn t 0
theorem Fin1.same {n : Int} {ps : List (Int × Int)} {t : List Int} (n1 : 1 ≤ n) (h : Fin1 n ps t) : Same1 n t ↔ JP n ps :=
  ⟨fun s lab hl x x0 x1 => h.few lab hl x 0 x0 x1 (Int.le_refl _) (by omega) (s x x0 x1), fun j x x0 x1 => j (fn t) h.one x x0 x1⟩
/-! the pairs of moves -/
def pairs (row : List (List Int)) : List (Int × Int) := row.flatMap enumI
def JA (n : Int) (row : List (List Int)) : Prop := ∀ lab : Int → Int, (∀ s ∈ row, ∀ x : Int, 0 ≤ x → x < n → lab (fn s x) = lab x) → ∀ x : Int, 0 ≤ x → x < n → lab x = lab 0
theorem pairs_rg {n : Int} (h0 : 0 ≤ n) {row : List (List Int)} (hr : ∀ s ∈ row, Mv n s) : ∀ p ∈ pairs row, (0 ≤ p.1 ∧ p.1 < n) ∧ 0 ≤ p.2 ∧ p.2 < n := fun p hp => by
  obtain ⟨s, hs, hp⟩ := List.mem_flatMap.mp hp
  obtain ⟨a, b, c⟩ := enumI_mem hp
  have hl := (hr s hs).len h0
  have := (hr s hs).rg a (by omega)
  rw [c]
  exact ⟨⟨a, by omega⟩, this⟩
theorem jp_ja {n : Int} (h0 : 0 ≤ n) {row : List (List Int)} (hr : ∀ s ∈ row, Mv n s) : JP n (pairs row) ↔ JA n row := by
  have key : ∀ lab : Int → Int, (∀ p ∈ pairs row, lab p.1 = lab p.2) ↔ ∀ s ∈ row, ∀ x : Int, 0 ≤ x → x < n → lab (fn s x) = lab x := fun lab => by
    constructor
    · intro h s hs x x0 x1
      have hl := (hr s hs).len h0
      exact (h (x, fn s x) (List.mem_flatMap.mpr ⟨s, hs, enumI_has x0 (by omega)⟩)).symm
    · intro h p hp
      obtain ⟨s, hs, hp⟩ := List.mem_flatMap.mp hp
      obtain ⟨a, b, c⟩ := enumI_mem hp
      have hl := (hr s hs).len h0
      rw [c, h s hs p.1 a (by omega)]
  exact ⟨fun h lab hl => h lab ((key lab).mpr hl), fun h lab hl => h lab ((key lab).mp hl)⟩
/-! loops that step -/
theorem forO_fold {ρ α γ γ' : Type} {b : γ → α → Option (Fl ρ γ γ)} {f : γ → α → γ} {I : γ → Prop} : ∀ (xs : List α) (s : γ), I s → (∀ s x, x ∈ xs → I s → b s x = some (.nx (f s x)) ∧ I (f s x)) → forO (γ' := γ') b xs s = some (.nx (xs.foldl f s)) ∧ I (xs.foldl f s)
  | [], s, h, _ => ⟨rfl, h⟩
  | x :: xs, s, h, k => by
    obtain ⟨e, h2⟩ := k s x List.mem_cons_self h
    unfold forO
    rw [e]
    exact forO_fold xs (f s x) h2 fun s y hy => k s y (List.mem_cons_of_mem _ hy)
theorem foldl_flat {α β γ : Type} (f : γ → β → γ) (g : α → List β) : ∀ (xs : List α) (s : γ), (xs.flatMap g).foldl f s = xs.foldl (fun s x => (g x).foldl f s) s
  | [], s => rfl
  | x :: xs, s => by rw [List.flatMap_cons, List.foldl_append, List.foldl_cons, foldl_flat f g xs]
theorem min_ch (a b : Int) : (if b < a then b else a) = a ∨ (if b < a then b else a) = b := by
  split
  · exact .inr rfl
  · exact .inl rfl
def lowch (a b : Int) : Int := if b < a then b else a
/-- names from below -/
def Low1 (n : Int) (t : List Int) : Prop := (t.length : Int) = n ∧ ∀ x : Int, 0 ≤ x → x < n → 0 ≤ fn t x ∧ fn t x ≤ x
theorem Low1.step {n : Int} {t : List Int} {p : Int × Int} (h : Low1 n t) (hp : (0 ≤ p.1 ∧ p.1 < n) ∧ 0 ≤ p.2 ∧ p.2 < n) : Low1 n (jstep lowch t p) := by
  obtain ⟨hl, h⟩ := h
  refine ⟨by unfold jstep; rw [List.length_map]; exact hl, fun x x0 x1 => ?_⟩
  rw [fn_jstep x0 (by omega)]
  have h1 := h p.1 hp.1.1 hp.1.2
  have h2 := h p.2 hp.2.1 hp.2.2
  have h3 := h x x0 x1
  unfold mg lowch
  split
  · rename_i z
    split <;> omega
  · exact h3
theorem law_joined_ok {n : Int} {row : List (List Int)} (n1 : 1 ≤ n) (n2 : n ≤ 24) (hr : ∀ s ∈ row, Mv n s) : ∃ t, m_law_joined (n, row, ()) = some t ∧ t = (pairs row).foldl (jstep lowch) (irange 0 n) ∧ Low1 n t := by
  have h0 : 0 ≤ n := by omega
  have e1 : rngC 0 n = some (irange 0 n) := rng_ok (by omega) (by omega) (by omega) (by omega)
  have l0 : Low1 n (irange 0 n) := ⟨by rw [irange_length]; omega, fun x x0 x1 => by rw [fn_irange x0 x1]; omega⟩
  have inner : ∀ (γ' : Type) (s : List Int), s ∈ row → ∀ t, Low1 n t → forO (ρ := List Int) (γ' := γ') (fun (s6 : List Int) (x7 : Int × Int) => (L2.atI s6 x7.1).bind fun x12 => (L2.atI s6 x7.2).bind fun x10 => (lcO (fun (_ : Int) => some true) (fun (x16 : Int) => if ([x12, x10].any fun y22 => decide (y22 = x16)) = true then some (if x10 < x12 then x10 else x12) else some x16) s6).bind fun v15 => some (Fl.nx v15)) (enumI s) t = some (.nx ((enumI s).foldl (jstep lowch) t)) ∧ Low1 n ((enumI s).foldl (jstep lowch) t) := by
    intro γ' s hs t ht
    refine forO_fold (I := Low1 n) (enumI s) t ht fun t p hp ht => ?_
    have rg := pairs_rg h0 hr p (List.mem_flatMap.mpr ⟨s, hs, hp⟩)
    refine ⟨?_, ht.step rg⟩
    have hl := ht.1
    rw [atI_fn rg.1.1 (show p.1 < (t.length : Int) by omega), atI_fn rg.2.1 (show p.2 < (t.length : Int) by omega)]
    have e : lcO (fun (_ : Int) => some true) (fun (x16 : Int) => if ([fn t p.1, fn t p.2].any fun y22 => decide (y22 = x16)) = true then some (if fn t p.2 < fn t p.1 then fn t p.2 else fn t p.1) else some x16) t = some (jstep lowch t p) := lcO_map fun x hx => by
      unfold mg lowch
      by_cases z : x = fn t p.1 ∨ x = fn t p.2
      · rw [if_pos z, if_pos]
        rcases z with z | z <;> simp [z]
      · rw [if_neg z, if_neg]
        intro w
        simp at w
        exact z (w.imp Eq.symm Eq.symm)
    simp only [Option.bind_some, e]
  have outer : ∀ (γ' : Type), _ := fun γ' => forO_fold (ρ := List Int) (γ' := γ') (b := fun (s3 : List Int) (x4 : List Int) => (forO (γ' := List Int) (fun (s6 : List Int) (x7 : Int × Int) => (L2.atI s6 x7.1).bind fun x12 => (L2.atI s6 x7.2).bind fun x10 => (lcO (fun (_ : Int) => some true) (fun (x16 : Int) => if ([x12, x10].any fun y22 => decide (y22 = x16)) = true then some (if x10 < x12 then x10 else x12) else some x16) s6).bind fun v15 => some (Fl.nx v15)) (enumI x4) s3).bind (bindKO fun s6 => some (Fl.nx s6))) (f := fun t s => (enumI s).foldl (jstep lowch) t) (I := Low1 n) row (irange 0 n) l0 fun t s hs ht => by
    obtain ⟨e, h2⟩ := inner (List Int) s hs t ht
    refine ⟨?_, h2⟩
    rw [e]
    rfl
  refine ⟨_, ?_, rfl, ?_⟩
  · unfold m_law_joined o_law_joined rtO
    simp only [Option.bind_some, e1, bindFO, Option.bind_assoc]
    rw [(outer _).1]
    show some _ = some _
    congr 1
    unfold pairs
    rw [foldl_flat]
  · have := (outer Unit).2
    unfold pairs
    rw [foldl_flat]
    exact this

/-! the program's: marks, then groups -/
def newch (_ b : Int) : Int := b
theorem keys_grp1 : ∀ (G : List (Int × List Int)) (k i : Int), (grp1 G k i).map (·.1) = if k ∈ G.map (·.1) then G.map (·.1) else G.map (·.1) ++ [k]
  | [], k, i => rfl
  | g :: G, k, i => by
    unfold grp1
    by_cases z : g.1 = k
    · rw [if_pos z, if_pos (by rw [List.map_cons, z]; exact List.mem_cons_self)]
      rfl
    · rw [if_neg z, List.map_cons, List.map_cons, keys_grp1 G k i]
      by_cases w : k ∈ G.map (·.1)
      · rw [if_pos w, if_pos (List.mem_cons_of_mem _ w)]
      · rw [if_neg w, if_neg]
        · rfl
        · intro y
          rcases List.mem_cons.mp y with y | y
          · exact z y.symm
          · exact w y
theorem keys_grps : ∀ (ps : List (Int × Int)) (G : List (Int × List Int)), (G.map (·.1)).Nodup → ((grps ps G).map (·.1)).Nodup ∧ ∀ k, k ∈ (grps ps G).map (·.1) ↔ k ∈ G.map (·.1) ∨ k ∈ ps.map (·.2)
  | [], G, h => ⟨h, fun k => by show k ∈ G.map (·.1) ↔ _; simp⟩
  | p :: ps, G, h => by
    have nd : ((grp1 G p.2 p.1).map (·.1)).Nodup := by
      rw [keys_grp1]
      split
      · exact h
      · rename_i z
        exact List.nodup_append.mpr ⟨h, by simp, fun x hx y hy e => z (by rw [List.mem_singleton.mp hy] at e; exact e ▸ hx)⟩
    obtain ⟨a, b⟩ := keys_grps ps (grp1 G p.2 p.1) nd
    refine ⟨a, fun k => (b k).trans ?_⟩
    rw [keys_grp1, List.map_cons, List.mem_cons]
    split
    · rename_i z
      constructor
      · rintro (w | w)
        · exact .inl w
        · exact .inr (.inr w)
      · rintro (w | w | w)
        · exact .inl w
        · exact .inl (w ▸ z)
        · exact .inr w
    · rw [List.mem_append, List.mem_singleton]
      constructor
      · rintro ((w | w) | w)
        · exact .inl w
        · exact .inr (.inl w)
        · exact .inr (.inr w)
      · rintro (w | w | w)
        · exact .inl (.inl w)
        · exact .inl (.inr w)
        · exact .inr w
theorem enumI_snds {t : List Int} {k : Int} : k ∈ (enumI t).map (·.2) ↔ ∃ x : Int, 0 ≤ x ∧ x < t.length ∧ fn t x = k := by
  rw [enumI_snd]
  constructor
  · intro h
    obtain ⟨i, hi, e⟩ := List.getElem_of_mem h
    refine ⟨(i : Int), by omega, by omega, ?_⟩
    unfold fn
    rw [show ((i : Int)).toNat = i by omega, List.getElem?_eq_getElem hi]
    exact e
  · rintro ⟨x, x0, x1, e⟩
    exact e ▸ fn_mem x0 x1
theorem grps_one {n : Int} {t : List Int} (n1 : 1 ≤ n) (hl : (t.length : Int) = n) : (grps (enumI t) []).length ≤ 1 ↔ Same1 n t := by
  obtain ⟨nd, mem⟩ := keys_grps (enumI t) [] List.nodup_nil
  have ll : ((grps (enumI t) []).map (·.1)).length = (grps (enumI t) []).length := List.length_map _
  rw [← ll]
  generalize (grps (enumI t) []).map (·.1) = ks at nd mem
  have has : ∀ x : Int, 0 ≤ x → x < n → fn t x ∈ ks := fun x x0 x1 => (mem _).mpr (.inr (enumI_snds.mpr ⟨x, x0, by omega, rfl⟩))
  constructor
  · intro h x x0 x1
    have a := has x x0 x1
    have b := has 0 (Int.le_refl _) (by omega)
    match ks, h, a, b with
    | [k], _, a, b => rw [List.mem_singleton.mp a, List.mem_singleton.mp b]
    | _ :: _ :: _, h, _, _ => exact absurd h (by simp)
  · intro s
    have all : ∀ k ∈ ks, k = fn t 0 := fun k hk => by
      rcases (mem k).mp hk with z | z
      · cases z
      · obtain ⟨x, x0, x1, e⟩ := enumI_snds.mp z
        rw [← e]
        exact s x x0 (by omega)
    match ks, nd, all with
    | [], _, _ => exact Nat.zero_le _
    | [_], _, _ => exact Nat.le_refl _
    | a :: b :: r, nd, all =>
      exfalso
      refine (List.nodup_cons.mp nd).1 ?_
      rw [all a List.mem_cons_self, ← all b (List.mem_cons_of_mem _ List.mem_cons_self)]
      exact List.mem_cons_self
theorem places_ok {n : Int} {ps : List (Int × Int)} (n1 : 1 ≤ n) (n2 : n ≤ 24) (hp : ∀ p ∈ ps, (0 ≤ p.1 ∧ p.1 < n) ∧ 0 ≤ p.2 ∧ p.2 < n) : ∃ L, m_joined_places (n, ps, ()) = some L ∧ (L.length ≤ 1 ↔ JP n ps) := by
  have h0 : 0 ≤ n := by omega
  have e1 : rngC 0 n = some (irange 0 n) := rng_ok (by omega) (by omega) (by omega) (by omega)
  have key : ∀ (γ' : Type), _ := fun γ' => forO_fold (ρ := List (List Int)) (γ' := γ') (b := fun (s3 : List Int) (x4 : Int × Int) => (L2.atI s3 x4.1).bind fun x9 => (L2.atI s3 x4.2).bind fun x10 => (if (!decide (x9 = x10)) = true then (lcO (fun (_ : Int) => some true) (fun (x17 : Int) => if decide (x17 = x9) = true then some x10 else some x17) s3).bind fun v16 => some (Fl.nx v16) else some (Fl.nx s3)).bind (bindKO fun s15 => some (Fl.nx s15)))
    (f := jstep newch) (I := fun t => (t.length : Int) = n) ps (irange 0 n) (by rw [irange_length]; omega) fun t p hpp hl => by
      obtain ⟨⟨a0, a1⟩, b0, b1⟩ := hp p hpp
      refine ⟨?_, by unfold jstep; rw [List.length_map]; exact hl⟩
      rw [atI_fn a0 (show p.1 < (t.length : Int) by omega), atI_fn b0 (show p.2 < (t.length : Int) by omega)]
      simp only [Option.bind_some]
      by_cases z : fn t p.1 = fn t p.2
      · rw [if_neg (by simp [z])]
        have : jstep newch t p = t := by
          unfold jstep
          refine (List.map_congr_left fun x _ => ?_).trans (List.map_id _)
          unfold mg newch
          split
          · rename_i w
            rcases w with w | w
            · rw [w, z]; rfl
            · rw [w]; rfl
          · rfl
        rw [this]
        rfl
      · rw [if_pos (by simp [z])]
        have e : lcO (fun (_ : Int) => some true) (fun (x17 : Int) => if decide (x17 = fn t p.1) = true then some (fn t p.2) else some x17) t = some (jstep newch t p) := lcO_map fun x hx => by
          unfold mg newch
          by_cases w : x = fn t p.1
          · simp [w]
          · by_cases w2 : x = fn t p.2
            · simp [w2]
            · simp [w, w2]
        rw [e]
        rfl
  have hF := Fin1.fold (ch := newch) (fun a b => .inr rfl) ps (Fin1.idle h0) hp
  rw [List.nil_append] at hF
  refine ⟨(grps (enumI (ps.foldl (jstep newch) (irange 0 n))) []).map (·.2), ?_, ?_⟩
  · unfold m_joined_places o_joined_places rtO
    have e4 : ∀ L : List (List Int), lcO (fun _ => some true) (fun x => some x) L = some (L.map fun x => x) := fun L => lcO_map fun x _ => rfl
    simp only [Option.bind_some, e1, bindFO, Option.bind_assoc]
    rw [(key _).1]
    simp only [Option.bind_some, bindKO, e4, List.map_id']
    rfl
  · rw [List.length_map, grps_one n1 hF.len, hF.same n1]
end K

set_option maxRecDepth 100000
set_option maxHeartbeats 4000000
/-! H8: least swaps, products, the genus in both texts; it is a whole number from 0 on. -/
namespace K
open PySem L2 Rt
/-- how many cycles -/
def cyn (s : List Int) : Nat := ((m_cycles (s, ())).getD []).length
theorem cyn_of {n : Int} {s : List Int} (h1 : 1 ≤ n) (h2 : n ≤ 24) (M : Mv n s) : ∃ D, m_cycles (s, ()) = some D ∧ Cy n s D ∧ D.length = cyn s := by
  obtain ⟨D, a, b⟩ := cy_of h1 h2 M
  exact ⟨D, a, b, by unfold cyn; rw [a]; rfl⟩
theorem cyn_cnt {n : Int} {s : List Int} (h1 : 1 ≤ n) (h2 : n ≤ 24) (M : Mv n s) : Cnt n (fn s) (cyn s) := by
  obtain ⟨D, _, b, c⟩ := cyn_of h1 h2 M
  exact ⟨D, b.cyc, b.all, c⟩
theorem kd_len (D : List (List Int)) : (kd D).length = D.length := by
  unfold kd lens
  rw [List.length_reverse, (sortI_perm _).length_eq, List.length_map]
theorem law_kind_len {n : Int} {s : List Int} (h1 : 1 ≤ n) (h2 : n ≤ 24) (M : Mv n s) : ∃ k, m_law_kind (s, ()) = some k ∧ k.length = cyn s := by
  obtain ⟨D, _, b, c⟩ := cyn_of h1 h2 M
  exact ⟨kd D, law_kind_ok h1 h2 M b, by rw [kd_len, c]⟩
theorem kind_len {n : Int} {s : List Int} (h1 : 1 ≤ n) (h2 : n ≤ 24) (M : Mv n s) : ∃ k, m_kind_of (s, ()) = some k ∧ k.length = cyn s := by
  obtain ⟨D, a, b, c⟩ := cyn_of h1 h2 M
  exact ⟨kd D, kind_of_ok a, by rw [kd_len, c]⟩
theorem law_least_ok {n : Int} {s : List Int} (h1 : 1 ≤ n) (h2 : n ≤ 24) (M : Mv n s) : m_law_le_least (s, ()) = some (n - cyn s) := by
  obtain ⟨k, a, b⟩ := law_kind_len h1 h2 M
  have hl := M.len (by omega)
  unfold m_law_le_least o_law_le_least rtO
  simp only [Option.bind_some, a, hl, b]
  rfl
theorem least_ok {n : Int} {s : List Int} (h1 : 1 ≤ n) (h2 : n ≤ 24) (M : Mv n s) : m_least_number (s, ()) = some (n - cyn s) := by
  obtain ⟨D, a, b, c⟩ := cyn_of h1 h2 M
  have hl := M.len (by omega)
  unfold m_least_number o_least_number rtO
  simp only [Option.bind_some, check_move_ok h1 h2 M, a, hl, c]
  rfl
theorem least_swaps_ok {n : Int} {s : List Int} (h1 : 1 ≤ n) (h2 : n ≤ 24) (M : Mv n s) : m_least_swaps (s, ()) = some (n - 2 + cyn s) := by
  obtain ⟨k, a, b⟩ := kind_len h1 h2 M
  have hl := M.len (by omega)
  unfold m_least_swaps o_least_swaps rtO
  simp only [Option.bind_some, a, hl, b]
  rfl
/-! products -/
def pr (n : Int) (row : List (List Int)) : List Int := row.foldl cmp (irange 0 n)
theorem mv_pr_from {n : Int} (h0 : 0 ≤ n) : ∀ (row : List (List Int)) (t : List Int), Mv n t → (∀ s ∈ row, Mv n s) → Mv n (row.foldl cmp t)
  | [], t, h, _ => h
  | s :: row, t, h, k => mv_pr_from h0 row (cmp t s) (h.cmp h0 (k s List.mem_cons_self)) fun u hu => k u (List.mem_cons_of_mem _ hu)
theorem mv_pr {n : Int} (h0 : 0 ≤ n) {row : List (List Int)} (h : ∀ s ∈ row, Mv n s) : Mv n (pr n row) := mv_pr_from h0 row _ (mv_idle n) h
theorem pr_from {n : Int} (h0 : 0 ≤ n) : ∀ (row : List (List Int)) (t : List Int), Mv n t → (∀ s ∈ row, Mv n s) → row.foldl cmp t = cmp t (pr n row)
  | [], t, h, _ => (cmp_idle h).symm
  | s :: row, t, h, k => by
    have hs := k s List.mem_cons_self
    have hr : ∀ u ∈ row, Mv n u := fun u hu => k u (List.mem_cons_of_mem _ hu)
    have e1 : (s :: row).foldl cmp t = cmp (cmp t s) (pr n row) := pr_from h0 row (cmp t s) (h.cmp h0 hs) hr
    have e2 : pr n (s :: row) = cmp s (pr n row) := by
      show row.foldl cmp (cmp (irange 0 n) s) = _
      rw [idle_cmp h0 hs, pr_from h0 row s hs hr]
    rw [e1, e2, cmp_assoc h0 h hs]
theorem pr_cons {n : Int} (h0 : 0 ≤ n) {s : List Int} {row : List (List Int)} (hs : Mv n s) (hr : ∀ u ∈ row, Mv n u) : pr n (s :: row) = cmp s (pr n row) := by
  show row.foldl cmp (cmp (irange 0 n) s) = _
  rw [idle_cmp h0 hs, pr_from h0 row s hs hr]
theorem pr_snoc {n : Int} {s : List Int} {row : List (List Int)} : pr n (row ++ [s]) = cmp (pr n row) s := by
  unfold pr
  rw [List.foldl_append]
  rfl
theorem then_ok {n : Int} {s t : List Int} (hs : Mv n s) (ht : Mv n t) (h0 : 0 ≤ n) : m_then (s, t, ()) = some (cmp s t) := by
  have tl := ht.len h0
  have e1 : lcO (fun _ : Int => some true) (fun x => L2.atI t x) s = some (s.map (fn t)) := lcO_map fun x hx => by
    obtain ⟨a, b⟩ := hs.mem.mp hx
    exact atI_fn a (by omega)
  unfold m_then o_then rtO
  simp only [Option.bind_some, e1]
  rfl
theorem law_product_ok {n : Int} {row : List (List Int)} (n1 : 1 ≤ n) (n2 : n ≤ 24) (hr : ∀ s ∈ row, Mv n s) : m_law_le_product (n, row, ()) = some (pr n row) := by
  have h0 : 0 ≤ n := by omega
  have e1 : rngC 0 n = some (irange 0 n) := rng_ok (by omega) (by omega) (by omega) (by omega)
  have key : ∀ (γ' : Type), _ := fun γ' => forO_fold (ρ := List Int) (γ' := γ') (b := fun (t s : List Int) => (m_law_behind (t, s, ())).bind fun v => some (Fl.nx v)) (f := cmp) (I := Mv n) row (irange 0 n) (mv_idle n) fun t s hs ht => ⟨by rw [law_behind_ok ht (hr s hs) h0]; rfl, ht.cmp h0 (hr s hs)⟩
  unfold m_law_le_product o_law_le_product rtO
  simp only [Option.bind_some, e1, bindFO]
  rw [(key _).1]
  rfl
theorem at_head {row : List (List Int)} (hne : row ≠ []) : ∃ s ∈ row, L2.atI row 0 = some s := by
  cases row with
  | nil => exact absurd rfl hne
  | cons s row => exact ⟨s, List.mem_cons_self, by unfold L2.atI ixN; simp⟩
theorem product_ok {n : Int} {row : List (List Int)} (n1 : 1 ≤ n) (n2 : n ≤ 24) (hne : row ≠ []) (hr : ∀ s ∈ row, Mv n s) : m_product (row, ()) = some (pr n row) := by
  have h0 : 0 ≤ n := by omega
  have e1 : rngC 0 n = some (irange 0 n) := rng_ok (by omega) (by omega) (by omega) (by omega)
  have key : ∀ (γ' : Type), _ := fun γ' => forO_fold (ρ := List Int) (γ' := γ') (b := fun (t s : List Int) => (m_then (t, s, ())).bind fun v => some (Fl.nx v)) (f := cmp) (I := Mv n) row (irange 0 n) (mv_idle n) fun t s hs ht => ⟨by rw [then_ok ht (hr s hs) h0]; rfl, ht.cmp h0 (hr s hs)⟩
  obtain ⟨s, hs, ea⟩ := at_head hne
  have hl := (hr s hs).len h0
  have ei : m_idle_move (n, ()) = some (irange 0 n) := by
    unfold m_idle_move o_idle_move rtO
    simp only [Option.bind_some, e1]
    rfl
  unfold m_product o_product rtO
  simp only [Option.bind_some, ea, hl, ei, bindFO]
  rw [(key _).1]
  rfl
/-! the genus -/
def gsum (n : Int) (row : List (List Int)) : Int := (row.map fun s => n - (cyn s : Int)).sum
def gv (n : Int) (row : List (List Int)) : Int := gsum n row - n + 2 - cyn (pr n row)
theorem same_max {n : Int} {t : List Int} (n1 : 1 ≤ n) (h : Low1 n t) : ∃ m, maxL t = some m ∧ (¬ 0 < m ↔ Same1 n t) := by
  obtain ⟨hl, h⟩ := h
  cases t with
  | nil => simp at hl; omega
  | cons x xs =>
    refine ⟨xs.foldl max x, rfl, ?_⟩
    have key : ∀ (xs : List Int) (x : Int), (∀ y ∈ x :: xs, y ≤ xs.foldl max x) ∧ xs.foldl max x ∈ x :: xs := by
      intro xs
      induction xs with
      | nil => exact fun x => ⟨fun y hy => by rw [List.mem_singleton.mp hy]; exact Int.le_refl _, List.mem_cons_self⟩
      | cons z xs ih =>
        intro x
        obtain ⟨a, b⟩ := ih (max x z)
        refine ⟨fun y hy => ?_, ?_⟩
        · have hm := a (max x z) List.mem_cons_self
          rcases List.mem_cons.mp hy with e | hy
          · rw [e]; exact Int.le_trans (Int.le_max_left x z) hm
          · rcases List.mem_cons.mp hy with e | hy
            · rw [e]; exact Int.le_trans (Int.le_max_right x z) hm
            · exact a y (List.mem_cons_of_mem _ hy)
        · show (xs.foldl max (max x z)) ∈ _
          rcases List.mem_cons.mp b with e | b
          · rw [e]
            rcases Int.le_total x z with w | w
            · rw [Int.max_eq_right w]; exact List.mem_cons_of_mem _ List.mem_cons_self
            · rw [Int.max_eq_left w]; exact List.mem_cons_self
          · exact List.mem_cons_of_mem _ (List.mem_cons_of_mem _ b)
    obtain ⟨k1, k2⟩ := key xs x
    have z0 : fn (x :: xs) 0 = 0 := by
      have := h 0 (Int.le_refl _) (by omega)
      omega
    constructor
    · intro hm y y0 y1
      have a := k1 _ (fn_mem y0 (show y < ((x :: xs).length : Int) by omega))
      have b := h y y0 y1
      rw [z0]
      omega
    · intro s hm
      have : (xs.foldl max x) ∈ (enumI (x :: xs)).map (·.2) := by rw [enumI_snd]; exact k2
      obtain ⟨y, y0, y1, e⟩ := enumI_snds.mp this
      have := s y y0 (by omega)
      omega
theorem law_genus_ok {n : Int} {row : List (List Int)} (n1 : 1 ≤ n) (n2 : n ≤ 24) (hr : ∀ s ∈ row, Mv n s) : (JA n row → m_law_le_genus (n, row, ()) = some (eI.enc (gv n row / 2))) ∧ (¬ JA n row → m_law_le_genus (n, row, ()) = some (eN.enc ())) := by
  have h0 : 0 ≤ n := by omega
  obtain ⟨t, e1, et, lo⟩ := law_joined_ok n1 n2 hr
  obtain ⟨m, e2, hm⟩ := same_max n1 lo
  have hF := Fin1.fold (ch := lowch) min_ch (pairs row) (Fin1.idle h0) (pairs_rg h0 hr)
  rw [List.nil_append, ← et] at hF
  rw [hF.same n1, jp_ja h0 hr] at hm
  have e3 : lcO (fun _ : List Int => some true) (fun x => m_law_le_least (x, ())) row = some (row.map fun s => n - (cyn s : Int)) := lcO_map fun s hs => law_least_ok n1 n2 (hr s hs)
  obtain ⟨k, e4, e5⟩ := law_kind_len n1 n2 (mv_pr h0 hr)
  refine ⟨fun j => ?_, fun j => ?_⟩
  · have hm : ¬ 0 < m := hm.mpr j
    unfold m_law_le_genus o_law_le_genus rtO
    simp only [Option.bind_some, e1, e2, hm, decide_false, Bool.false_eq_true, if_false, e3, law_product_ok n1 n2 hr, e4, e5, divC_of (show (0 : Int) < 2 by decide) (show (2 : Int) < 2 ^ 200 by decide)]
    rfl
  · have hm : 0 < m := Classical.byContradiction fun z => j (hm.mp z)
    unfold m_law_le_genus o_law_le_genus rtO
    simp only [Option.bind_some, e1, e2, hm, decide_true, if_true]
    rfl
theorem places_of_moves_ok {n : Int} {row : List (List Int)} (n1 : 1 ≤ n) (n2 : n ≤ 24) (hne : row ≠ []) (hlen : row.length ≤ 1000) (hr : ∀ s ∈ row, Mv n s) : ∃ L, m_places_of_moves (row, ()) = some L ∧ (L.length ≤ 1 ↔ JA n row) := by
  have h0 : 0 ≤ n := by omega
  obtain ⟨L, e1, e2⟩ := places_ok n1 n2 (pairs_rg h0 hr)
  rw [jp_ja h0 hr] at e2
  obtain ⟨s, hs, ea⟩ := at_head hne
  have hl := (hr s hs).len h0
  have key : ∀ (γ' : Type), ∀ (r : List (List Int)) (acc : List (Int × Int)), (∀ s ∈ r, s ∈ row) → acc.length + r.length * 24 ≤ 1000000 → forO (ρ := List (List Int)) (γ' := γ') (fun (s2 : List (Int × Int)) (x3 : List Int) => (catC s2 (enumI x3)).bind fun l5 => some (Fl.nx l5)) r acc = some (.nx (acc ++ pairs r)) := by
    intro γ' r
    induction r with
    | nil => intro acc _ _; unfold pairs; rw [List.flatMap_nil, List.append_nil]; rfl
    | cons u r ih =>
      intro acc hs hlen
      have ul := (hr u (hs u List.mem_cons_self)).len h0
      rw [List.length_cons] at hlen
      unfold forO
      rw [catC_ok (by rw [enumI_len]; omega)]
      show forO _ r (acc ++ enumI u) = _
      rw [ih (acc ++ enumI u) (fun s h => hs s (List.mem_cons_of_mem _ h)) (by rw [List.length_append, enumI_len]; omega), List.append_assoc]
      rfl
  refine ⟨L, ?_, e2⟩
  unfold m_places_of_moves o_places_of_moves rtO
  simp only [Option.bind_some, bindFO]
  rw [key _ row [] (fun _ h => h) (by simp; omega)]
  simp only [Option.bind_some, bindKO, List.nil_append, ea, hl, e1]
  rfl
theorem genus_ok {n : Int} {row : List (List Int)} (n1 : 1 ≤ n) (n2 : n ≤ 24) (hne : row ≠ []) (hlen : row.length ≤ 8) (hr : ∀ s ∈ row, Mv n s) : (JA n row → m_genus_of_row (row, ()) = some (eI.enc (gv n row / 2))) ∧ (¬ JA n row → m_genus_of_row (row, ()) = some (eN.enc ())) := by
  have h0 : 0 ≤ n := by omega
  obtain ⟨s, hs, ea⟩ := at_head hne
  have hl := (hr s hs).len h0
  have hp : 0 < row.length := List.length_pos_iff.mpr hne
  have e0 : m_are_moves (row, 8, ()) = some true := by
    have a1 : lcO (fun _ : List Int => some true) (fun x => m_is_move (x, ())) row = some (row.map fun _ => true) := lcO_map fun s hs => is_move_ok n1 n2 (hr s hs)
    have a2 : lcO (fun _ : List Int => some true) (fun x => some (decide ((x.length : Int) = n))) row = some (row.map fun _ => true) := lcO_map fun s hs => by
      rw [decide_eq_true ((hr s hs).len h0)]
    have b1 : (1 : Int) ≤ row.length := by omega
    have b2 : (row.length : Int) ≤ 8 := by omega
    have c : (row.map fun _ => true).all id = true := by simp
    unfold m_are_moves o_are_moves rtO
    simp only [Option.bind_some, Bool.not_true, Bool.false_eq_true, if_false, b1, b2, decide_true, if_true, a1, ea, hl, a2, c]
    rfl
  obtain ⟨L, e1, e2⟩ := places_of_moves_ok n1 n2 hne (by omega) hr
  have e3 : lcO (fun _ : List Int => some true) (fun x => m_least_number (x, ())) row = some (row.map fun s => n - (cyn s : Int)) := lcO_map fun s hs => least_ok n1 n2 (hr s hs)
  refine ⟨fun j => ?_, fun j => ?_⟩
  · have hm : ¬ (1 : Int) < L.length := by have := e2.mpr j; omega
    have eg : m_genus (row, ()) = some (eI.enc (gv n row / 2)) := by
      unfold m_genus o_genus rtO
      simp only [Option.bind_some, e1, hm, decide_false, Bool.false_eq_true, if_false, e3, product_ok n1 n2 hne hr, least_swaps_ok n1 n2 (mv_pr h0 hr), divC_of (show (0 : Int) < 2 by decide) (show (2 : Int) < 2 ^ 200 by decide)]
      show some (eI.enc (((row.map fun s => n - (cyn s : Int)).sum - (n - 2 + (cyn (pr n row) : Int))) / 2)) = _
      unfold gv gsum
      congr 3
      omega
    unfold m_genus_of_row o_genus_of_row rtO
    simp only [Option.bind_some, e0, Bool.not_true, Bool.false_eq_true, if_false, eg]
    rfl
  · have hm : (1 : Int) < L.length := by
      have : ¬ L.length ≤ 1 := fun z => j (e2.mp z)
      omega
    have eg : m_genus (row, ()) = some (eN.enc ()) := by
      unfold m_genus o_genus rtO
      simp only [Option.bind_some, e1, hm, decide_true, if_true]
      rfl
    unfold m_genus_of_row o_genus_of_row rtO
    simp only [Option.bind_some, e0, Bool.not_true, Bool.false_eq_true, if_false, eg]
    rfl
/-! a whole number from 0 on -/
theorem lab_prd {n : Int} (h0 : 0 ≤ n) {lab : Int → Int} : ∀ (r : List (Int × Int)) (t : List Int), Mv n t → (∀ p ∈ r, Sw n p) → (∀ p ∈ r, lab p.1 = lab p.2) → (∀ x : Int, 0 ≤ x → x < n → lab (fn t x) = lab x) → ∀ x : Int, 0 ≤ x → x < n → lab (fn (r.foldl swp t) x) = lab x
  | [], t, _, _, _, h, x, x0, x1 => h x x0 x1
  | p :: r, t, ht, hs, hl, h, x, x0, x1 => by
    have tl := ht.len h0
    refine lab_prd h0 r (swp t p) (ht.swp h0 (hs p List.mem_cons_self)) (fun q hq => hs q (List.mem_cons_of_mem _ hq)) (fun q hq => hl q (List.mem_cons_of_mem _ hq)) (fun y y0 y1 => ?_) x x0 x1
    have e := hl p List.mem_cons_self
    rw [fn_swp y0 (by omega)]
    rw [← h y y0 y1]
    unfold sf
    split
    · rename_i z; rw [z]; exact e.symm
    · split
      · rename_i z; rw [z]; exact e
      · rfl
theorem sr_all {n : Int} (n1 : 1 ≤ n) {s : List Int} (hs : Mv n s) : (∀ p ∈ sr (n - 1).toNat s, Sw n p) ∧ prd n (sr (n - 1).toNat s) = s ∧ ∀ c, Cnt n (fn s) c → (sr (n - 1).toNat s).length + c = n.toNat := by
  have hk : (((n - 1).toNat : Nat) : Int) < n := by omega
  have st : Stay n (n - 1).toNat s := fun x x0 x1 => by omega
  exact ⟨fun p hp => (sr_sw (by omega) _ s hk hs st p hp).1, sr_prd (by omega) _ s hk hs st, fun c hc => sr_cnt (by omega) _ s c hk hs st hc⟩
theorem parity {n : Int} {row : List (List Int)} (n1 : 1 ≤ n) (n2 : n ≤ 24) (hr : ∀ s ∈ row, Mv n s) (j : JA n row) : 0 ≤ gv n row ∧ gv n row % 2 = 0 := by
  have h0 : 0 ≤ n := by omega
  have key : ∀ (row : List (List Int)), (∀ s ∈ row, Mv n s) → (∀ p ∈ row.flatMap (sr (n - 1).toNat), Sw n p) ∧ prd n (row.flatMap (sr (n - 1).toNat)) = pr n row ∧ ((row.flatMap (sr (n - 1).toNat)).length : Int) = gsum n row := by
    intro row
    induction row with
    | nil => exact fun _ => ⟨(fun _ h => nomatch h), rfl, rfl⟩
    | cons s row ih =>
      intro hr
      have hs := hr s List.mem_cons_self
      have hr' : ∀ u ∈ row, Mv n u := fun u hu => hr u (List.mem_cons_of_mem _ hu)
      obtain ⟨a, b, c⟩ := ih hr'
      obtain ⟨a1, b1, c1⟩ := sr_all n1 hs
      have cn := c1 _ (cyn_cnt n1 n2 hs)
      rw [List.flatMap_cons]
      refine ⟨fun p hp => (List.mem_append.mp hp).elim (a1 p) (a p), ?_, ?_⟩
      · rw [prd_append h0 a1 a, b1, b, pr_cons h0 hs hr']
      · rw [List.length_append]
        have e : gsum n (s :: row) = (n - cyn s) + gsum n row := by
          unfold gsum
          rw [List.map_cons, List.sum_cons]
        rw [e, ← c]
        omega
  obtain ⟨a, b, c⟩ := key row hr
  have hj : ∀ lab : Int → Int, (∀ p ∈ row.flatMap (sr (n - 1).toNat), lab p.1 = lab p.2) → ∀ x : Int, 0 ≤ x → x < n → lab x = lab 0 := fun lab hlab => j lab fun s hs x x0 x1 => by
    obtain ⟨a1, b1, _⟩ := sr_all n1 (hr s hs)
    have := lab_prd h0 (lab := lab) (sr (n - 1).toNat s) (irange 0 n) (mv_idle n) a1 (fun p hp => hlab p (List.mem_flatMap.mpr ⟨s, hs, hp⟩)) (fun y y0 y1 => by rw [fn_irange y0 y1]) x x0 x1
    rw [show (sr (n - 1).toNat s).foldl swp (irange 0 n) = s from b1] at this
    exact this
  obtain ⟨r1, r2⟩ := ree n1 a hj (by rw [b]; exact cyn_cnt n1 n2 (mv_pr h0 hr))
  unfold gv
  omega
end K

set_option maxRecDepth 100000
set_option maxHeartbeats 4000000
/-! H9: moves carried by a move; the last one, carried by the product undone, put first. -/
namespace K
open PySem L2 Rt
theorem carried_ok {n : Int} {s o b : List Int} (h1 : 1 ≤ n) (h2 : n ≤ 24) (hs : Mv n s) (ho : Mv n o) (h : Inv n o b) : m_law_le_carried (s, o, ()) = some (ren b s o) := by
  have h0 : 0 ≤ n := by omega
  have sl := hs.len h0
  have ol := ho.len h0
  have e1 : lenK [(0 : Int)] = some [0] := rfl
  have e2 : repC [(0 : Int)] n = some (List.replicate n.toNat 0) := rep_one h0 (by omega)
  have rl : ((List.replicate n.toNat (0 : Int)).length : Int) = n := by rw [List.length_replicate]; omega
  have bd : ∀ p ∈ enumI s, (0 ≤ p.1 ∧ p.1 < n) ∧ 0 ≤ p.2 ∧ p.2 < n := fun p hp => by
    obtain ⟨a, b, c⟩ := enumI_mem hp
    have := hs.rg a (by omega)
    rw [c]
    exact ⟨⟨a, by omega⟩, this⟩
  have e3 := fun (γ' : Type) => for_ren (ρ := List Int) (γ' := γ') ol ho (enumI s) (List.replicate n.toNat 0) rl bd
  have e4 : sets ((enumI s).map fun p => (fn o p.2, fn o p.1)) (List.replicate n.toNat 0) = ren b s o := by
    have nd : (((enumI s).map fun p => (fn o p.2, fn o p.1)).map (·.2)).Nodup := by
      rw [List.map_map]
      show ((enumI s).map fun p => fn o p.1).Nodup
      have : ((enumI s).map fun p => fn o p.1) = ((enumI s).map (·.1)).map (fn o) := by rw [List.map_map] <;> rfl
      rw [this, enumI_fst, sl, fn_all ol]
      exact ho.nd
    obtain ⟨k1, _⟩ := sets_fn (n := n) ((enumI s).map fun p => (fn o p.2, fn o p.1)) (List.replicate n.toNat 0) rl (fun q hq => by
      obtain ⟨p, hp, e⟩ := List.mem_map.mp hq
      rw [← e]
      exact ho.rg (bd p hp).1.1 (bd p hp).1.2) nd
    have tl := (hs.ren h0 ho h).len h0
    refine ext_fn (by rw [sets_len, List.length_replicate]; omega) fun y y0 y1 => ?_
    rw [sets_len, List.length_replicate] at y1
    obtain ⟨x, x0, x1, e⟩ := ho.sur y0 (show y < n by omega)
    rw [← e, fn_ren h0 hs ho h x0 x1]
    exact k1 (fn o (fn s x), fn o x) (List.mem_map.mpr ⟨(x, fn s x), enumI_has x0 (by omega), rfl⟩)
  unfold m_law_le_carried o_law_le_carried rtO
  simp only [Option.bind_some, sl, e1, e2, bindFO, e3, e4]
  rfl
/-- a move that does the same to other names has as many cycles -/
theorem cyn_ren {n : Int} {s o b : List Int} (h1 : 1 ≤ n) (h2 : n ≤ 24) (hs : Mv n s) (ho : Mv n o) (h : Inv n o b) : cyn (ren b s o) = cyn s := by
  have h0 : 0 ≤ n := by omega
  obtain ⟨D, _, c, l⟩ := cyn_of h1 h2 hs
  have c2 := c.ren (t := ren b s o) h0 ho fun x x0 x1 => fn_ren h0 hs ho h x0 x1
  have := (cyn_cnt h1 h2 (hs.ren h0 ho h)).unique ⟨_, c2.cyc, c2.all, rfl⟩
  rw [this, List.length_map, l]
theorem inv_ex {n : Int} {o : List Int} (h0 : 0 ≤ n) (ho : Mv n o) : ∃ b, Inv n o b := ⟨_, sets_inv h0 ho⟩
theorem ren_cmp {n : Int} {s t o b : List Int} (h0 : 0 ≤ n) (hs : Mv n s) (ht : Mv n t) (ho : Mv n o) (h : Inv n o b) : ren b (cmp s t) o = cmp (ren b s o) (ren b t o) := by
  have m1 := hs.ren h0 ho h
  have m2 := ht.ren h0 ho h
  refine ren_unique (s := cmp s t) (o := o) h0 ho ((hs.cmp h0 ht).ren h0 ho h) (m1.cmp h0 m2) (fun x x0 x1 => fn_ren h0 (hs.cmp h0 ht) ho h x0 x1) fun x x0 x1 => ?_
  obtain ⟨r0, r1⟩ := ho.rg x0 x1
  obtain ⟨s0, s1⟩ := hs.rg x0 x1
  have l1 := m1.len h0
  have l2 := hs.len h0
  rw [fn_cmp r0 (by omega), fn_ren h0 hs ho h x0 x1, fn_ren h0 ht ho h s0 s1, fn_cmp x0 (by omega)]
theorem ren_idle {n : Int} {o b : List Int} (h0 : 0 ≤ n) (ho : Mv n o) (h : Inv n o b) : ren b (irange 0 n) o = irange 0 n :=
  ren_unique (s := irange 0 n) (o := o) h0 ho ((mv_idle n).ren h0 ho h) (mv_idle n) (fun x x0 x1 => fn_ren h0 (mv_idle n) ho h x0 x1) fun x x0 x1 => by
    obtain ⟨r0, r1⟩ := ho.rg x0 x1
    rw [fn_irange r0 r1, fn_irange x0 x1]
theorem pr_ren {n : Int} {o b : List Int} (h0 : 0 ≤ n) (ho : Mv n o) (h : Inv n o b) : ∀ (row : List (List Int)), (∀ s ∈ row, Mv n s) → pr n (row.map fun s => ren b s o) = ren b (pr n row) o
  | [], _ => (ren_idle h0 ho h).symm
  | s :: row, hr => by
    have hs := hr s List.mem_cons_self
    have hr' : ∀ u ∈ row, Mv n u := fun u hu => hr u (List.mem_cons_of_mem _ hu)
    rw [List.map_cons, pr_cons h0 (hs.ren h0 ho h) (fun u hu => by
      obtain ⟨v, hv, e⟩ := List.mem_map.mp hu
      rw [← e]; exact (hr' v hv).ren h0 ho h), pr_ren h0 ho h row hr', pr_cons h0 hs hr', ren_cmp h0 hs (mv_pr h0 hr') ho h]
theorem gsum_map {n : Int} {f : List Int → List Int} : ∀ (row : List (List Int)), (∀ s ∈ row, cyn (f s) = cyn s) → gsum n (row.map f) = gsum n row
  | [], _ => rfl
  | s :: row, h => by
    have := gsum_map (n := n) (f := f) row fun u hu => h u (List.mem_cons_of_mem _ hu)
    unfold gsum at this ⊢
    rw [List.map_cons, List.map_cons, List.sum_cons, List.map_cons, List.sum_cons, this, h s List.mem_cons_self]
theorem ja_ren {n : Int} {o b : List Int} (n1 : 1 ≤ n) (ho : Mv n o) (h : Inv n o b) {row : List (List Int)} (hr : ∀ s ∈ row, Mv n s) (j : JA n row) : JA n (row.map fun s => ren b s o) := fun lab hlab => by
  have h0 : 0 ≤ n := by omega
  have k := j (fun x => lab (fn o x)) fun s hs x x0 x1 => by
    have := hlab (ren b s o) (List.mem_map.mpr ⟨s, hs, rfl⟩) (fn o x) (ho.rg x0 x1).1 (ho.rg x0 x1).2
    rw [fn_ren h0 (hr s hs) ho h x0 x1] at this
    exact this
  have all : ∀ y : Int, 0 ≤ y → y < n → lab y = lab (fn o 0) := fun y y0 y1 => by
    obtain ⟨x, x0, x1, e⟩ := ho.sur y0 y1
    rw [← e]
    exact k x x0 x1
  intro x x0 x1
  rw [all x x0 x1, all 0 (Int.le_refl _) (by omega)]
theorem carried_all {n : Int} {o b : List Int} (n1 : 1 ≤ n) (n2 : n ≤ 24) (ho : Mv n o) (h : Inv n o b) {row : List (List Int)} (hr : ∀ s ∈ row, Mv n s) :
    (∀ s ∈ row.map (fun s => ren b s o), Mv n s) ∧ gv n (row.map fun s => ren b s o) = gv n row ∧ (JA n (row.map fun s => ren b s o) ↔ JA n row) := by
  have h0 : 0 ≤ n := by omega
  have hm : ∀ s ∈ row.map (fun s => ren b s o), Mv n s := fun s hs => by
    obtain ⟨u, hu, e⟩ := List.mem_map.mp hs
    rw [← e]; exact (hr u hu).ren h0 ho h
  refine ⟨hm, ?_, fun j => ?_, ja_ren n1 ho h hr⟩
  · unfold gv
    rw [gsum_map row fun s hs => cyn_ren n1 n2 (hr s hs) ho h, pr_ren h0 ho h row hr, cyn_ren n1 n2 (mv_pr h0 hr) ho h]
  · have hi := h.symm ho
    have := ja_ren n1 h.mv hi hm j
    rw [List.map_map] at this
    have e : row.map ((fun s => ren o s b) ∘ fun s => ren b s o) = row := by
      refine (List.map_congr_left fun s hs => ?_).trans (List.map_id _)
      exact ren_back h0 (hr s hs) ho h
    rw [e] at this
    exact this
/-! the last move first -/
theorem turned_pr {n : Int} {last P back : List Int} {row : List (List Int)} (h0 : 0 ≤ n) (hr : ∀ s ∈ row, Mv n s) (hl : Mv n last) (eP : pr n (row ++ [last]) = P) (hb : Inv n P back) : pr n (ren P last back :: row) = P := by
  have mQ := mv_pr h0 hr
  have eP : cmp (pr n row) last = P := by rw [← eP, pr_snoc]
  have mP : Mv n P := eP ▸ mQ.cmp h0 hl
  have hi := hb.symm mP
  have mt := hl.ren h0 hb.mv hi
  rw [pr_cons h0 mt hr]
  refine Mv.ext h0 (mt.cmp h0 mQ) mP fun y y0 y1 => ?_
  -- y = back x
  obtain ⟨x, x0, x1, e⟩ := hb.mv.sur y0 y1
  have tl := mt.len h0
  have ql := mQ.len h0
  rw [fn_cmp y0 (by omega), ← e, fn_ren h0 hl hb.mv hi x0 x1]
  -- back (last x), then Q: P of it is last of Q of it
  have l01 := hl.rg x0 x1
  have e1 := hb.right mP (fn last x) l01.1 l01.2
  have b01 := hb.mv.rg l01.1 l01.2
  rw [← eP, fn_cmp b01.1 (by omega)] at e1
  have e2 := hl.inj (mQ.rg b01.1 b01.2).1 (mQ.rg b01.1 b01.2).2 x0 x1 e1
  rw [e2, hb.right mP x x0 x1]
theorem lab_pr {n : Int} (h0 : 0 ≤ n) {lab : Int → Int} : ∀ (row : List (List Int)), (∀ s ∈ row, Mv n s) → (∀ s ∈ row, ∀ x : Int, 0 ≤ x → x < n → lab (fn s x) = lab x) → ∀ x : Int, 0 ≤ x → x < n → lab (fn (pr n row) x) = lab x
  | [], _, _, x, x0, x1 => by
    show lab (fn (irange 0 n) x) = _
    rw [fn_irange x0 x1]
  | s :: row, hr, hl, x, x0, x1 => by
    have hs := hr s List.mem_cons_self
    have hr' : ∀ u ∈ row, Mv n u := fun u hu => hr u (List.mem_cons_of_mem _ hu)
    have sl := hs.len h0
    obtain ⟨s0, s1⟩ := hs.rg x0 x1
    rw [pr_cons h0 hs hr', fn_cmp x0 (by omega), lab_pr h0 row hr' (fun u hu => hl u (List.mem_cons_of_mem _ hu)) _ s0 s1, hl s List.mem_cons_self x x0 x1]
theorem turned_all {n : Int} {last P back : List Int} {row : List (List Int)} (n1 : 1 ≤ n) (n2 : n ≤ 24) (hr : ∀ s ∈ row, Mv n s) (hl : Mv n last) (eP : pr n (row ++ [last]) = P) (hb : Inv n P back) :
    (∀ s ∈ ren P last back :: row, Mv n s) ∧ gv n (ren P last back :: row) = gv n (row ++ [last]) ∧ (JA n (ren P last back :: row) ↔ JA n (row ++ [last])) := by
  have h0 : 0 ≤ n := by omega
  have hall : ∀ s ∈ row ++ [last], Mv n s := fun s hs => (List.mem_append.mp hs).elim (hr s) fun w => by rw [List.mem_singleton.mp w]; exact hl
  have mP : Mv n P := eP ▸ mv_pr h0 hall
  have hi := hb.symm mP
  have mt := hl.ren h0 hb.mv hi
  have hm : ∀ s ∈ ren P last back :: row, Mv n s := fun s hs => (List.mem_cons.mp hs).elim (fun e => e ▸ mt) (hr s)
  refine ⟨hm, ?_, ?_⟩
  · unfold gv
    rw [turned_pr h0 hr hl eP hb, eP]
    have : gsum n (ren P last back :: row) = gsum n (row ++ [last]) := by
      unfold gsum
      rw [List.map_cons, List.sum_cons, List.map_append, List.sum_append, cyn_ren n1 n2 hl hb.mv hi]
      simp
      omega
    rw [this]
  · constructor
    · -- a name that the row keeps is kept by the turned row
      intro j lab hlab
      refine j lab fun s hs x x0 x1 => ?_
      rcases List.mem_cons.mp hs with e | hs
      · subst e
        have hP := lab_pr h0 _ hall hlab
        rw [eP] at hP
        -- x = back y
        obtain ⟨y, y0, y1, e⟩ := hb.mv.sur x0 x1
        have l01 := hl.rg y0 y1
        rw [← e, fn_ren h0 hl hb.mv hi y0 y1]
        have b1 : ∀ z : Int, 0 ≤ z → z < n → lab (fn back z) = lab z := fun z z0 z1 => by
          have := hP (fn back z) (hb.mv.rg z0 z1).1 (hb.mv.rg z0 z1).2
          rw [hb.right mP z z0 z1] at this
          exact this.symm
        rw [b1 _ l01.1 l01.2, b1 y y0 y1, hlab last (List.mem_append_right _ List.mem_cons_self) y y0 y1]
      · exact hlab s (List.mem_append_left _ hs) x x0 x1
    · intro j lab hlab
      refine j lab fun s hs x x0 x1 => ?_
      rcases List.mem_append.mp hs with hs | hs
      · exact hlab s (List.mem_cons_of_mem _ hs) x x0 x1
      · rw [List.mem_singleton.mp hs]
        have hP := lab_pr h0 _ hm hlab
        rw [turned_pr h0 hr hl eP hb] at hP
        have b1 : ∀ z : Int, 0 ≤ z → z < n → lab (fn back z) = lab z := fun z z0 z1 => by
          have := hP (fn back z) (hb.mv.rg z0 z1).1 (hb.mv.rg z0 z1).2
          rw [hb.right mP z z0 z1] at this
          exact this.symm
        have l01 := hl.rg x0 x1
        have bx := hb.mv.rg x0 x1
        have := hlab _ List.mem_cons_self (fn back x) bx.1 bx.2
        rw [fn_ren h0 hl hb.mv hi x0 x1, b1 _ l01.1 l01.2, b1 x x0 x1] at this
        exact this
end K

set_option maxRecDepth 100000
set_option maxHeartbeats 4000000
/-! H10: a drawn row. -/
namespace K
open PySem L2 Rt
theorem ifF {ρ : Type} {b : Bool} {x y : W ρ} {g : Gh} {P : ρ → Gh → Prop} (e : b = false) (h : y g P) : (if b = true then x else y) g P := by
  rw [if_neg (by rw [e]; decide)]
  exact h
theorem ifT {ρ : Type} {b : Bool} {x y : W ρ} {g : Gh} {P : ρ → Gh → Prop} (e : b = true) (h : x g P) : (if b = true then x else y) g P := by
  rw [if_pos e]
  exact h
theorem ifE {ρ : Type} {b : Bool} {x y : W ρ} {g : Gh} {P : ρ → Gh → Prop} (h1 : b = true → x g P) (h2 : b = false → y g P) : (if b = true then x else y) g P := by
  cases b with
  | true => rw [if_pos rfl]; exact h1 rfl
  | false => rw [if_neg (by decide)]; exact h2 rfl
/-- both ways give v -/
theorem ifQ {ρ : Type} {b : Bool} {x y : W ρ} {g : Gh} {P : ρ → Gh → Prop} (v : ρ) (h1 : b = true → ∀ P' : ρ → Gh → Prop, P' v g → x g P') (h2 : b = false → ∀ P' : ρ → Gh → Prop, P' v g → y g P') (h : P v g) : (if b = true then x else y) g P :=
  ifE (fun z => h1 z P h) fun z => h2 z P h
/-- where two ways meet -/
theorem bindFJ {ρ β β' γ : Type} {m : W (Fl ρ β γ)} {k : β → W (Fl ρ β' γ)} {g : Gh} {P : Fl ρ β' γ → Gh → Prop} (R : β → Gh → Prop) (h1 : ∀ Q : Fl ρ β γ → Gh → Prop, (∀ b g', R b g' → Q (.nx b) g') → m g Q) (h2 : ∀ b g', R b g' → k b g' P) : bindF m k g P :=
  bindFI (h1 _ fun b g' r => bindKI (h2 b g' r))
/-- an integer, or None -/
def IN (d : PyData) : Prop := (∃ v, d = eI.enc v) ∨ d = eN.enc ()
theorem IN.clean {d : PyData} (h : IN d) : cleanO d = some d := by
  rcases h with ⟨v, e⟩ | e <;> subst e <;> rfl
theorem IN.eqs {d : PyData} (h : IN d) : eqC d d = some true := by
  rcases h with ⟨v, e⟩ | e <;> subst e
  · unfold eqC
    rw [if_pos ⟨rfl, rfl⟩]
    show some (PyData.eqv (.int v) (.int v)) = _
    simp [PyData.eqv]
  · rfl
/-- what is due -/
theorem due_ok {n : Int} {row : List (List Int)} (n1 : 1 ≤ n) (n2 : n ≤ 24) (hr : ∀ s ∈ row, Mv n s) : ∃ d, m_law_le_genus (n, row, ()) = some d ∧ IN d ∧ (isNonV d = false → JA n row) ∧
    ∀ row' : List (List Int), row' ≠ [] → row'.length ≤ 8 → (∀ s ∈ row', Mv n s) → gv n row' = gv n row → (JA n row' ↔ JA n row) → m_genus_of_row (row', ()) = some d := by
  obtain ⟨a, b⟩ := law_genus_ok n1 n2 hr
  by_cases j : JA n row
  · refine ⟨_, a j, .inl ⟨_, rfl⟩, fun _ => j, fun row' h1 h2 h3 h4 h5 => ?_⟩
    rw [(genus_ok n1 n2 h1 h2 h3).1 (h5.mpr j), h4]
  · refine ⟨_, b j, .inr rfl, (fun z => absurd z (by decide)), fun row' h1 h2 h3 h4 h5 => ?_⟩
    exact (genus_ok n1 n2 h1 h2 h3).2 fun z => j (h5.mp z)
theorem parity_ok {n : Int} {row : List (List Int)} (n1 : 1 ≤ n) (n2 : n ≤ 24) (hr : ∀ s ∈ row, Mv n s) (j : JA n row) : m_law_parity_right (n, row, ()) = some true := by
  have h0 : 0 ≤ n := by omega
  obtain ⟨p1, p2⟩ := parity n1 n2 hr j
  have e3 : lcO (fun _ : List Int => some true) (fun x => m_law_le_least (x, ())) row = some (row.map fun s => n - (cyn s : Int)) := lcO_map fun s hs => law_least_ok n1 n2 (hr s hs)
  obtain ⟨k, e4, e5⟩ := law_kind_len n1 n2 (mv_pr h0 hr)
  unfold gv gsum at p1 p2
  unfold m_law_parity_right o_law_parity_right rtO
  simp only [Option.bind_some, e3, law_product_ok n1 n2 hr, e4, e5, p1, decide_true, if_true, modC_of (show (0 : Int) < 2 by decide), p2]
  rfl
theorem lcW_map {α β : Type} {f : α → W β} {h : α → β} : ∀ {xs : List α} {g : Gh} {P : List β → Gh → Prop}, (∀ x ∈ xs, ∀ g (Q : β → Gh → Prop), Q (h x) g → f x g Q) → P (xs.map h) g → lcW (fun _ => W.ret true) f xs g P
  | [], g, P, _, q => q
  | x :: xs, g, P, hf, q => by
    show ((f x).bind _) g P
    exact bindI (hf x List.mem_cons_self g _ (bindI (lcW_map (fun y hy => hf y (List.mem_cons_of_mem _ hy)) (retI q))))
theorem last_ex {row : List (List Int)} (h : row ≠ []) : ∃ r l, row = r ++ [l] ∧ L2.atI row (-1) = some l ∧ cutL row none (some (-1)) = r := by
  obtain ⟨r, l, e⟩ : ∃ r l, row = r ++ [l] := ⟨row.dropLast, row.getLast h, (List.dropLast_concat_getLast h).symm⟩
  refine ⟨r, l, e, ?_, ?_⟩
  · subst e
    unfold L2.atI ixN
    rw [if_neg (by decide), if_pos (by simp; omega), Option.bind_some, show ((-1 : Int) + ((r ++ [l]).length : Nat)).toNat = r.length by simp; omega]
    simp
  · subst e
    unfold cutL HT.sIx
    simp
    rw [show ((-1 : Int) + (r.length + 1)) = (r.length : Int) by omega]
    simp
theorem right_ok {m : Int} {g : Gh} {P : Bool → Gh → Prop} (h : DI m g) (hm : m ≤ 1000) (k : ∀ g', DI (m + 50) g' → P true g') : m_law_right () g P := by
  unfold m_law_right w_law_right
  repeat (first | with_reducible apply rtOfI | with_reducible apply bindFI | with_reducible apply bindI | with_reducible apply retI | with_reducible apply rtKI | with_reducible apply bindKI | with_reducible apply putI)
  refine roll_ok h (by omega) (by decide) (by decide) fun r g1 r0 r1 h1 => ?_
  repeat (first | with_reducible apply rtOfI | with_reducible apply bindFI | with_reducible apply bindI | with_reducible apply retI | with_reducible apply rtKI | with_reducible apply bindKI | with_reducible apply putI)
  generalize en : 1 + r = n
  have n1 : 1 ≤ n := by omega
  have n2 : n ≤ 24 := by omega
  have h0 : 0 ≤ n := by omega
  refine roll_ok h1 (by omega) (by decide) (by decide) fun q g2 q0 q1 h2 => ?_
  repeat (first | with_reducible apply rtOfI | with_reducible apply bindFI | with_reducible apply bindI | with_reducible apply retI | with_reducible apply rtKI | with_reducible apply bindKI | with_reducible apply putI)
  refine ofI (rng_ok (by omega) (by omega) (by omega) (by omega)) ?_
  repeat (first | with_reducible apply rtOfI | with_reducible apply bindFI | with_reducible apply bindI | with_reducible apply retI | with_reducible apply rtKI | with_reducible apply bindKI | with_reducible apply putI)
  refine lcW_all (R := Mv n) (n := m + 1 + 1) (d := n) (k := 0) (by rw [show m + 1 + 1 + ((0 : Nat) : Int) * n = m + 1 + 1 by simp]; exact h2) (fun x hx i g Q hi hd hQ => ?_) fun row g3 hlen hrow h3 => ?_
  · have b1 : (i : Int) * n ≤ 5 * 6 := Int.mul_le_mul (by rw [irange_length] at hi; omega) (by omega) (by omega) (by decide)
    repeat (first | with_reducible apply rtOfI | with_reducible apply bindFI | with_reducible apply bindI | with_reducible apply retI | with_reducible apply rtKI | with_reducible apply bindKI | with_reducible apply putI)
    refine move_drawn_ok h0 (by omega) hd (by omega) fun l g' hl hd' => hQ l g' hl ?_
    rw [show m + 1 + 1 + ((i + 1 : Nat) : Int) * n = m + 1 + 1 + (i : Int) * n + n by rw [Int.natCast_add, Int.add_mul]; omega]
    exact hd'
  have hlen : row.length ≤ 5 ∧ 1 ≤ row.length := by rw [irange_length] at hlen; omega
  have h3 : DI (m + 32) g3 := h3.mono (by
    rw [irange_length]
    have : ((0 + (1 + q - 0).toNat : Nat) : Int) * n ≤ 5 * 6 := Int.mul_le_mul (by omega) (by omega) (by omega) (by decide)
    omega)
  repeat (first | with_reducible apply rtOfI | with_reducible apply bindFI | with_reducible apply bindI | with_reducible apply retI | with_reducible apply rtKI | with_reducible apply bindKI | with_reducible apply putI)
  refine roll_ok h3 (by omega) (by decide) (by decide) fun u g4 u0 u1 h4 => ?_
  repeat (first | with_reducible apply rtOfI | with_reducible apply bindI | with_reducible apply retI | with_reducible apply rtKI | with_reducible apply bindKI)
  refine ofI rfl ?_
  have hne : row ≠ [] := List.length_pos_iff.mp (by omega)
  refine bindFJ (fun row' g' => row' ≠ [] ∧ row'.length ≤ 6 ∧ (∀ s ∈ row', Mv n s) ∧ DI (m + 32 + 1) g') (fun Q hQ => ?_) ?_
  · refine ifE (fun _ => ?_) fun _ => ?_
    · obtain ⟨s, hs, ea⟩ := at_head hne
      obtain ⟨b, hb⟩ := inv_ex h0 (hrow s hs)
      repeat (first | with_reducible apply rtOfI | with_reducible apply bindI | with_reducible apply retI | with_reducible apply rtKI | with_reducible apply bindKI)
      refine ofI ea ?_
      repeat (first | with_reducible apply rtOfI | with_reducible apply bindI | with_reducible apply retI | with_reducible apply rtKI | with_reducible apply bindKI)
      refine ofI (law_undone_ok h0 n2 (hrow s hs) hb) ?_
      repeat (first | with_reducible apply rtOfI | with_reducible apply bindI | with_reducible apply retI | with_reducible apply rtKI | with_reducible apply bindKI)
      refine ofI (catC_ok (by simp; omega)) ?_
      repeat (first | with_reducible apply rtOfI | with_reducible apply bindI | with_reducible apply retI | with_reducible apply rtKI | with_reducible apply bindKI)
      refine hQ _ _ ⟨by simp, by simp; omega, fun t ht => ?_, h4⟩
      rcases List.mem_append.mp ht with ht | ht
      · exact hrow t ht
      · rw [List.mem_singleton.mp ht]; exact hb.mv
    · with_reducible apply retI
      exact hQ _ _ ⟨hne, by omega, hrow, h4⟩
  intro row' g5 ⟨hne', hlen', hr', h5⟩
  obtain ⟨d, e1, hd, hj, hg⟩ := due_ok n1 n2 hr'
  have e2 := hg row' hne' (by omega) hr' rfl Iff.rfl
  repeat (first | with_reducible apply rtOfI | with_reducible apply bindFI | with_reducible apply bindI | with_reducible apply retI | with_reducible apply rtKI | with_reducible apply bindKI | with_reducible apply putI)
  refine ofI e1 ?_
  repeat (first | with_reducible apply rtOfI | with_reducible apply bindFI | with_reducible apply bindI | with_reducible apply retI | with_reducible apply rtKI | with_reducible apply bindKI | with_reducible apply putI)
  refine ofI e2 ?_
  repeat (first | with_reducible apply rtOfI | with_reducible apply bindFI | with_reducible apply bindI | with_reducible apply retI | with_reducible apply rtKI | with_reducible apply bindKI | with_reducible apply putI)
  refine ofI hd.clean ?_
  repeat (first | with_reducible apply rtOfI | with_reducible apply bindFI | with_reducible apply bindI | with_reducible apply retI | with_reducible apply rtKI | with_reducible apply bindKI | with_reducible apply putI)
  refine ofI hd.clean ?_
  refine ofI (a := false) (by rw [hd.eqs]; rfl) ?_
  refine ifF rfl ?_
  repeat (first | with_reducible apply rtOfI | with_reducible apply bindFI | with_reducible apply bindI | with_reducible apply retI | with_reducible apply rtKI | with_reducible apply bindKI | with_reducible apply putI)
  refine ifQ false (fun z P' hP => ?_) (fun z P' hP => ?_) ?_
  · have j := hj (by simpa using z)
    repeat (first | with_reducible apply rtOfI | with_reducible apply bindFI | with_reducible apply bindI | with_reducible apply retI | with_reducible apply rtKI | with_reducible apply bindKI | with_reducible apply putI)
    refine ofI (parity_ok n1 n2 hr' j) ?_
    repeat (first | with_reducible apply rtOfI | with_reducible apply bindFI | with_reducible apply bindI | with_reducible apply retI | with_reducible apply rtKI | with_reducible apply bindKI | with_reducible apply putI)
    exact hP
  · with_reducible apply retI
    exact hP
  refine ifF rfl ?_
  repeat (first | with_reducible apply rtOfI | with_reducible apply bindFI | with_reducible apply bindI | with_reducible apply retI | with_reducible apply rtKI | with_reducible apply bindKI | with_reducible apply putI)
  refine move_drawn_ok h0 (by omega) h5 (by omega) fun by_ g6 hby h6 => ?_
  obtain ⟨bi, hbi⟩ := inv_ex h0 hby
  obtain ⟨c1, c2, c3⟩ := carried_all n1 n2 hby hbi hr'
  repeat (first | with_reducible apply rtOfI | with_reducible apply bindFI | with_reducible apply bindI | with_reducible apply retI | with_reducible apply rtKI | with_reducible apply bindKI | with_reducible apply putI)
  refine lcW_map (h := fun s => ren bi s by_) (fun s hs g Q hQ => ?_) ?_
  · repeat (first | with_reducible apply rtOfI | with_reducible apply bindFI | with_reducible apply bindI | with_reducible apply retI | with_reducible apply rtKI | with_reducible apply bindKI | with_reducible apply putI)
    exact ofI (carried_ok n1 n2 (hr' s hs) hby hbi) hQ
  repeat (first | with_reducible apply rtOfI | with_reducible apply bindFI | with_reducible apply bindI | with_reducible apply retI | with_reducible apply rtKI | with_reducible apply bindKI | with_reducible apply putI)
  refine ofI (hg _ (by simpa using hne') (by rw [List.length_map]; omega) c1 c2 c3) ?_
  repeat (first | with_reducible apply rtOfI | with_reducible apply bindFI | with_reducible apply bindI | with_reducible apply retI | with_reducible apply rtKI | with_reducible apply bindKI | with_reducible apply putI)
  refine ofI hd.clean ?_
  repeat (first | with_reducible apply rtOfI | with_reducible apply bindFI | with_reducible apply bindI | with_reducible apply retI | with_reducible apply rtKI | with_reducible apply bindKI | with_reducible apply putI)
  refine ofI hd.clean ?_
  refine ofI (a := false) (by rw [hd.eqs]; rfl) ?_
  refine ifF rfl ?_
  repeat (first | with_reducible apply rtOfI | with_reducible apply bindFI | with_reducible apply bindI | with_reducible apply retI | with_reducible apply rtKI | with_reducible apply bindKI | with_reducible apply putI)
  refine ofI (law_product_ok n1 n2 hr') ?_
  repeat (first | with_reducible apply rtOfI | with_reducible apply bindFI | with_reducible apply bindI | with_reducible apply retI | with_reducible apply rtKI | with_reducible apply bindKI | with_reducible apply putI)
  have mP := mv_pr h0 hr'
  obtain ⟨back, hb⟩ := inv_ex h0 mP
  refine ofI (law_undone_ok h0 n2 mP hb) ?_
  repeat (first | with_reducible apply rtOfI | with_reducible apply bindFI | with_reducible apply bindI | with_reducible apply retI | with_reducible apply rtKI | with_reducible apply bindKI | with_reducible apply putI)
  obtain ⟨rr, l, el, ea, ec⟩ := last_ex hne'
  have hl : Mv n l := hr' l (by rw [el]; exact List.mem_append_right _ List.mem_cons_self)
  have hrr : ∀ s ∈ rr, Mv n s := fun s hs => hr' s (by rw [el]; exact List.mem_append_left _ hs)
  have hi := hb.symm mP
  obtain ⟨t1, t2, t3⟩ := turned_all n1 n2 hrr hl (by rw [← el]) hb
  rw [← el] at t2 t3
  refine ofI ea ?_
  repeat (first | with_reducible apply rtOfI | with_reducible apply bindFI | with_reducible apply bindI | with_reducible apply retI | with_reducible apply rtKI | with_reducible apply bindKI | with_reducible apply putI)
  refine ofI (carried_ok n1 n2 hl hb.mv hi) ?_
  repeat (first | with_reducible apply rtOfI | with_reducible apply bindFI | with_reducible apply bindI | with_reducible apply retI | with_reducible apply rtKI | with_reducible apply bindKI | with_reducible apply putI)
  rw [ec]
  have lrr : rr.length ≤ 5 := by
    have := congrArg List.length el
    rw [List.length_append, List.length_singleton] at this
    omega
  refine ofI (catC_ok (by simp; omega)) ?_
  repeat (first | with_reducible apply rtOfI | with_reducible apply bindFI | with_reducible apply bindI | with_reducible apply retI | with_reducible apply rtKI | with_reducible apply bindKI | with_reducible apply putI)
  have et : [ren (pr n row') l back] ++ rr = ren (pr n row') l back :: rr := rfl
  rw [et]
  refine ofI (law_product_ok n1 n2 t1) ?_
  repeat (first | with_reducible apply rtOfI | with_reducible apply bindFI | with_reducible apply bindI | with_reducible apply retI | with_reducible apply rtKI | with_reducible apply bindKI | with_reducible apply putI)
  refine ofI (law_product_ok n1 n2 hr') ?_
  rw [turned_pr h0 hrr hl (by rw [← el]) hb]
  refine ofI (a := true) (by rw [eqv_same]) ?_
  refine ifT rfl ?_
  repeat (first | with_reducible apply rtOfI | with_reducible apply bindFI | with_reducible apply bindI | with_reducible apply retI | with_reducible apply rtKI | with_reducible apply bindKI | with_reducible apply putI)
  refine ofI (hg _ (by simp) (by simp; omega) t1 t2 t3) ?_
  repeat (first | with_reducible apply rtOfI | with_reducible apply bindFI | with_reducible apply bindI | with_reducible apply retI | with_reducible apply rtKI | with_reducible apply bindKI | with_reducible apply putI)
  refine ofI hd.clean ?_
  repeat (first | with_reducible apply rtOfI | with_reducible apply bindFI | with_reducible apply bindI | with_reducible apply retI | with_reducible apply rtKI | with_reducible apply bindKI | with_reducible apply putI)
  refine ofI hd.clean ?_
  refine ofI hd.eqs ?_
  repeat (first | with_reducible apply rtOfI | with_reducible apply bindFI | with_reducible apply bindI | with_reducible apply retI | with_reducible apply rtKI | with_reducible apply bindKI | with_reducible apply putI)
  exact k g6 (h6.mono (by omega))
end K

set_option maxRecDepth 100000
set_option maxHeartbeats 4000000
/-! H11: the law. -/
namespace K
open PySem L2 Rt
theorem lenK_ok {α : Type} (xs : List α) (h : Nat.ble xs.length 100 = true) : lenK xs = some xs := by
  unfold lenK
  have := Nat.le_of_ble_eq_true h
  first | rw [if_pos (by omega)] | rw [if_pos h] | simp [h]
def isI (o : Option PyData) (v : Int) : Bool := match o with
  | some (.int w) => decide (w = v)
  | _ => false
theorem isI_eq {o : Option PyData} {v : Int} (h : isI o v = true) : o = some (.int v) := by
  unfold isI at h
  split at h
  · rw [of_decide_eq_true h]
  · cases h
def isN (o : Option PyData) : Bool := match o with
  | some .none => true
  | _ => false
theorem isN_eq {o : Option PyData} (h : isN o = true) : o = some (eN.enc ()) := by
  unfold isN at h
  split at h
  · rfl
  · cases h
theorem law_holds (ns : List Int) (_ : ns.length ≤ 63) : m_law (ns, ()) [] (fun b _ => b = true) := by
  unfold m_law w_law
  have hr : ∃ k : Int, 0 ≤ k ∧ k ≤ 3 ∧ (if (if (ns.length : Int) < 3 then (ns.length : Int) else 3) > 1 then (if (ns.length : Int) < 3 then (ns.length : Int) else 3) else 1) = k := ⟨_, by split <;> (try split) <;> omega, by split <;> (try split) <;> omega, rfl⟩
  obtain ⟨k, k0, k5, ek⟩ := hr
  repeat (first | with_reducible apply rtOfI | with_reducible apply bindFI | with_reducible apply bindI | with_reducible apply retI | with_reducible apply rtKI | with_reducible apply bindKI | with_reducible apply putI)
  refine ofI (a := irange 0 k) ?_ ?_
  · refine .trans (congrArg (rngC 0) ek) ?_
    exact rng_ok (by omega) (by omega) (by omega) (by omega)
  repeat (first | with_reducible apply rtOfI | with_reducible apply bindFI | with_reducible apply bindI | with_reducible apply retI | with_reducible apply rtKI | with_reducible apply bindKI | with_reducible apply putI)
  refine forL_all _ _ _ (fun x hx g P hP => ?_) fun g => ?_
  · obtain ⟨x0, x1⟩ := mem_irange.mp hx
    obtain ⟨g0, e0, d0⟩ := dice_ok ns x (by omega) (by omega)
    repeat (first | with_reducible apply rtOfI | with_reducible apply bindFI | with_reducible apply bindI | with_reducible apply retI | with_reducible apply rtKI | with_reducible apply bindKI | with_reducible apply putI)
    refine ofI e0 ?_
    repeat (first | with_reducible apply rtOfI | with_reducible apply bindFI | with_reducible apply bindI | with_reducible apply retI | with_reducible apply rtKI | with_reducible apply bindKI | with_reducible apply putI)
    refine ofI (rng_ok (by omega) (by omega) (by omega) (by omega)) ?_
    repeat (first | with_reducible apply rtOfI | with_reducible apply bindFI | with_reducible apply bindI | with_reducible apply retI | with_reducible apply rtKI | with_reducible apply bindKI | with_reducible apply putI)
    refine forL_inv (I := fun i _ g => DI (50 * (i : Int)) g) _ 0 () g0 _ (fun i y s g P hi hy hd hP => ?_) (by exact d0) fun s g hd => ?_
    · rw [irange_length] at hi
      repeat (first | with_reducible apply rtOfI | with_reducible apply bindFI | with_reducible apply bindI | with_reducible apply retI | with_reducible apply rtKI | with_reducible apply bindKI | with_reducible apply putI)
      refine right_ok hd (by omega) fun g2 hd2 => ?_
      repeat (first | with_reducible apply rtOfI | with_reducible apply bindFI | with_reducible apply bindI | with_reducible apply retI | with_reducible apply rtKI | with_reducible apply bindKI | with_reducible apply putI)
      refine ifF rfl ?_
      repeat (first | with_reducible apply rtOfI | with_reducible apply bindFI | with_reducible apply bindI | with_reducible apply retI | with_reducible apply rtKI | with_reducible apply bindKI | with_reducible apply putI)
      exact hP () g2 (by rw [show (50 : Int) * ((i + 1 : Nat) : Int) = 50 * (i : Int) + 50 by omega]; exact hd2)
    · repeat (first | with_reducible apply rtOfI | with_reducible apply bindFI | with_reducible apply bindI | with_reducible apply retI | with_reducible apply rtKI | with_reducible apply bindKI | with_reducible apply putI)
      exact hP g
  · have c1 : m_genus_of_row ([[1, 2, 0], [1, 2, 0]], ()) = some (PyData.int 1) := isI_eq (by decide +kernel)
    have c2 : m_genus_of_row ([[1, 2, 0], [1, 2, 0], [1, 2, 0]], ()) = some (PyData.int 1) := isI_eq (by decide +kernel)
    have c3 : m_genus_of_row ([[1, 0, 2]], ()) = some (eN.enc ()) := isN_eq (by decide +kernel)
    have c4 : m_genus_of_row ([[0], [0]], ()) = some (PyData.int 0) := isI_eq (by decide +kernel)
    repeat (first | with_reducible apply rtOfI | with_reducible apply bindFI | with_reducible apply bindI | with_reducible apply retI | with_reducible apply rtKI | with_reducible apply bindKI | with_reducible apply putI)
    refine ofI (lenK_ok _ rfl) ?_
    repeat (first | with_reducible apply rtOfI | with_reducible apply bindFI | with_reducible apply bindI | with_reducible apply retI | with_reducible apply rtKI | with_reducible apply bindKI | with_reducible apply putI)
    refine ofI (lenK_ok _ rfl) ?_
    repeat (first | with_reducible apply rtOfI | with_reducible apply bindFI | with_reducible apply bindI | with_reducible apply retI | with_reducible apply rtKI | with_reducible apply bindKI | with_reducible apply putI)
    refine ofI (lenK_ok _ rfl) ?_
    repeat (first | with_reducible apply rtOfI | with_reducible apply bindFI | with_reducible apply bindI | with_reducible apply retI | with_reducible apply rtKI | with_reducible apply bindKI | with_reducible apply putI)
    refine ofI c1 ?_
    repeat (first | with_reducible apply rtOfI | with_reducible apply bindFI | with_reducible apply bindI | with_reducible apply retI | with_reducible apply rtKI | with_reducible apply bindKI | with_reducible apply putI)
    refine ofI (lenK_ok _ rfl) ?_
    repeat (first | with_reducible apply rtOfI | with_reducible apply bindFI | with_reducible apply bindI | with_reducible apply retI | with_reducible apply rtKI | with_reducible apply bindKI | with_reducible apply putI)
    refine ofI (lenK_ok _ rfl) ?_
    repeat (first | with_reducible apply rtOfI | with_reducible apply bindFI | with_reducible apply bindI | with_reducible apply retI | with_reducible apply rtKI | with_reducible apply bindKI | with_reducible apply putI)
    refine ofI (lenK_ok _ rfl) ?_
    repeat (first | with_reducible apply rtOfI | with_reducible apply bindFI | with_reducible apply bindI | with_reducible apply retI | with_reducible apply rtKI | with_reducible apply bindKI | with_reducible apply putI)
    refine ofI (lenK_ok _ rfl) ?_
    repeat (first | with_reducible apply rtOfI | with_reducible apply bindFI | with_reducible apply bindI | with_reducible apply retI | with_reducible apply rtKI | with_reducible apply bindKI | with_reducible apply putI)
    refine ofI c2 ?_
    repeat (first | with_reducible apply rtOfI | with_reducible apply bindFI | with_reducible apply bindI | with_reducible apply retI | with_reducible apply rtKI | with_reducible apply bindKI | with_reducible apply putI)
    refine ofI (lenK_ok _ rfl) ?_
    repeat (first | with_reducible apply rtOfI | with_reducible apply bindFI | with_reducible apply bindI | with_reducible apply retI | with_reducible apply rtKI | with_reducible apply bindKI | with_reducible apply putI)
    refine ofI (a := (eL eV).enc [PyData.int 1, PyData.int 1]) (by kernel_rfl) ?_
    repeat (first | with_reducible apply rtOfI | with_reducible apply bindFI | with_reducible apply bindI | with_reducible apply retI | with_reducible apply rtKI | with_reducible apply bindKI | with_reducible apply putI)
    refine ofI (lenK_ok _ rfl) ?_
    repeat (first | with_reducible apply rtOfI | with_reducible apply bindFI | with_reducible apply bindI | with_reducible apply retI | with_reducible apply rtKI | with_reducible apply bindKI | with_reducible apply putI)
    refine ofI (a := true) (by kernel_rfl) ?_
    refine ifT rfl ?_
    repeat (first | with_reducible apply rtOfI | with_reducible apply bindFI | with_reducible apply bindI | with_reducible apply retI | with_reducible apply rtKI | with_reducible apply bindKI | with_reducible apply putI)
    refine ofI (lenK_ok _ rfl) ?_
    repeat (first | with_reducible apply rtOfI | with_reducible apply bindFI | with_reducible apply bindI | with_reducible apply retI | with_reducible apply rtKI | with_reducible apply bindKI | with_reducible apply putI)
    refine ofI c3 ?_
    repeat (first | with_reducible apply rtOfI | with_reducible apply bindFI | with_reducible apply bindI | with_reducible apply retI | with_reducible apply rtKI | with_reducible apply bindKI | with_reducible apply putI)
    refine ifT rfl ?_
    repeat (first | with_reducible apply rtOfI | with_reducible apply bindFI | with_reducible apply bindI | with_reducible apply retI | with_reducible apply rtKI | with_reducible apply bindKI | with_reducible apply putI)
    refine ofI (lenK_ok _ rfl) ?_
    repeat (first | with_reducible apply rtOfI | with_reducible apply bindFI | with_reducible apply bindI | with_reducible apply retI | with_reducible apply rtKI | with_reducible apply bindKI | with_reducible apply putI)
    refine ofI c4 ?_
    repeat (first | with_reducible apply rtOfI | with_reducible apply bindFI | with_reducible apply bindI | with_reducible apply retI | with_reducible apply rtKI | with_reducible apply bindKI | with_reducible apply putI)
    refine ofI (a := PyData.int 0) (by kernel_rfl) ?_
    repeat (first | with_reducible apply rtOfI | with_reducible apply bindFI | with_reducible apply bindI | with_reducible apply retI | with_reducible apply rtKI | with_reducible apply bindKI | with_reducible apply putI)
    refine ofI (a := true) (by kernel_rfl) ?_
    repeat (first | with_reducible apply rtOfI | with_reducible apply bindFI | with_reducible apply bindI | with_reducible apply retI | with_reducible apply rtKI | with_reducible apply bindKI | with_reducible apply putI)
    rfl
end K

open PySem PySem.W PyProof.Rows
set_option maxHeartbeats 0 in
theorem PySem.Challenge.cw_swapsheets_k76_whole_genus_of_rows_of_mo_holds : PySem.Challenge.rw_swapsheets_k76_whole_genus_of_rows_of_mo.Holds := by
  w_on; o_law; k_head; (case hw => w_witness2)
  k_fill
  refine Rt.walk_ofX (π := fun A => A.guards = some []) (l := PySem.Challenge.rw_swapsheets_k76_whole_genus_of_rows_of_mo) (n := 63) (k := 12) (x := "_law_script") (CX := fun _ => L2.CX0) (sp := fun w => Rt.SpW (Rt.pC (Rt.qX _) Rt.p0).ra Rt.qB K.m_law) rfl rfl (by decide) rfl ⟨rfl, by decide, by decide⟩ (fun w h Y => PySem.W.kIn_of Y) ?F (fun _ H a ns hl _ hS => Rt.law_end K.law_holds H a ns hl hS) (fun _ _ _ _ _ h => h)
  case F =>
    intro w mg fa h KX G hmg XX
    refine' K.all_mk KX G hmg XX ?a_law_dice ?d_law_dice ?a_law_roll ?d_law_roll ?a_law_shuffled ?d_law_shuffled ?a_law_move_drawn ?d_law_move_drawn ?a_law_undone ?d_law_undone ?a_law_joined ?d_law_joined ?a_law_lot_of ?d_law_lot_of ?a_law_kind ?d_law_kind ?a_law_le_least ?d_law_le_least ?a_law_behind ?d_law_behind ?a_law_le_product ?d_law_le_product ?a_law_le_genus ?d_law_le_genus ?a_is_whole ?d_is_whole ?a_is_integer ?d_is_integer ?a_is_count ?d_is_count ?a_is_move ?d_is_move ?a_are_moves ?d_are_moves ?a_joined_places ?d_joined_places ?a_places_of_moves ?d_places_of_moves ?a_check_move ?d_check_move ?a_cycles ?d_cycles ?a_least_number ?d_least_number ?a_idle_move ?d_idle_move ?a_then ?d_then ?a_product ?d_product ?a_sorted_lot ?d_sorted_lot ?a_kind_of ?d_kind_of ?a_least_swaps ?d_least_swaps ?a_genus ?d_genus ?a_genus_of_row ?d_genus_of_row ?a_law_parity_right ?d_law_parity_right ?a_law_le_carried ?d_law_le_carried ?a_law_right ?d_law_right ?a_law ?d_law ?z_abs ?z_all ?z_bool ?z_enumerate ?z_int ?z_isinstance ?z_len ?z_list ?z_max ?z_min ?z_range ?z_sorted ?z_sum ?z_tuple ?i_MAX_FACTORS ?i_MOST_PLACES ?i_g_FIRST_TOO_LONG
    (case a_law_dice => k_is)
    (case d_law_dice => refine' ⟨_, L2.fun_mk (st := K.slaw_dice) ?l ?c ?k⟩; (case l => k_is); (case c => k_is); (case k => k_is))
    (case a_law_roll => k_is)
    (case d_law_roll => refine' ⟨_, L2.fun_mk (st := K.slaw_roll) ?l ?c ?k⟩; (case l => k_is); (case c => k_is); (case k => k_is))
    (case a_law_shuffled => k_is)
    (case d_law_shuffled => refine' ⟨_, L2.fun_mk (st := K.slaw_shuffled) ?l ?c ?k⟩; (case l => k_is); (case c => k_is); (case k => k_is))
    (case a_law_move_drawn => k_is)
    (case d_law_move_drawn => refine' ⟨_, L2.fun_mk (st := K.slaw_move_drawn) ?l ?c ?k⟩; (case l => k_is); (case c => k_is); (case k => k_is))
    (case a_law_undone => k_is)
    (case d_law_undone => refine' ⟨_, L2.fun_mk (st := K.slaw_undone) ?l ?c ?k⟩; (case l => k_is); (case c => k_is); (case k => k_is))
    (case a_law_joined => k_is)
    (case d_law_joined => refine' ⟨_, L2.fun_mk (st := K.slaw_joined) ?l ?c ?k⟩; (case l => k_is); (case c => k_is); (case k => k_is))
    (case a_law_lot_of => k_is)
    (case d_law_lot_of => refine' ⟨_, L2.fun_mk (st := K.slaw_lot_of) ?l ?c ?k⟩; (case l => k_is); (case c => k_is); (case k => k_is))
    (case a_law_kind => k_is)
    (case d_law_kind => refine' ⟨_, L2.fun_mk (st := K.slaw_kind) ?l ?c ?k⟩; (case l => k_is); (case c => k_is); (case k => k_is))
    (case a_law_le_least => k_is)
    (case d_law_le_least => refine' ⟨_, L2.fun_mk (st := K.slaw_le_least) ?l ?c ?k⟩; (case l => k_is); (case c => k_is); (case k => k_is))
    (case a_law_behind => k_is)
    (case d_law_behind => refine' ⟨_, L2.fun_mk (st := K.slaw_behind) ?l ?c ?k⟩; (case l => k_is); (case c => k_is); (case k => k_is))
    (case a_law_le_product => k_is)
    (case d_law_le_product => refine' ⟨_, L2.fun_mk (st := K.slaw_le_product) ?l ?c ?k⟩; (case l => k_is); (case c => k_is); (case k => k_is))
    (case a_law_le_genus => k_is)
    (case d_law_le_genus => refine' ⟨_, L2.fun_mk (st := K.slaw_le_genus) ?l ?c ?k⟩; (case l => k_is); (case c => k_is); (case k => k_is))
    (case a_is_whole => k_is)
    (case d_is_whole => refine' ⟨_, L2.fun_mk (st := K.sis_whole) ?l ?c ?k⟩; (case l => k_is); (case c => k_is); (case k => k_is))
    (case a_is_integer => k_is)
    (case d_is_integer => refine' ⟨_, L2.fun_mk (st := K.sis_integer) ?l ?c ?k⟩; (case l => k_is); (case c => k_is); (case k => k_is))
    (case a_is_count => k_is)
    (case d_is_count => refine' ⟨_, L2.fun_mk (st := K.sis_count) ?l ?c ?k⟩; (case l => k_is); (case c => k_is); (case k => k_is))
    (case a_is_move => k_is)
    (case d_is_move => refine' ⟨_, L2.fun_mk (st := K.sis_move) ?l ?c ?k⟩; (case l => k_is); (case c => k_is); (case k => k_is))
    (case a_are_moves => k_is)
    (case d_are_moves => refine' ⟨_, L2.fun_mk (st := K.sare_moves) ?l ?c ?k⟩; (case l => k_is); (case c => k_is); (case k => k_is))
    (case a_joined_places => k_is)
    (case d_joined_places => refine' ⟨_, L2.fun_mk (st := K.sjoined_places) ?l ?c ?k⟩; (case l => k_is); (case c => k_is); (case k => k_is))
    (case a_places_of_moves => k_is)
    (case d_places_of_moves => refine' ⟨_, L2.fun_mk (st := K.splaces_of_moves) ?l ?c ?k⟩; (case l => k_is); (case c => k_is); (case k => k_is))
    (case a_check_move => k_is)
    (case d_check_move => refine' ⟨_, L2.fun_mk (st := K.scheck_move) ?l ?c ?k⟩; (case l => k_is); (case c => k_is); (case k => k_is))
    (case a_cycles => k_is)
    (case d_cycles => refine' ⟨_, L2.fun_mk (st := K.scycles) ?l ?c ?k⟩; (case l => k_is); (case c => k_is); (case k => k_is))
    (case a_least_number => k_is)
    (case d_least_number => refine' ⟨_, L2.fun_mk (st := K.sleast_number) ?l ?c ?k⟩; (case l => k_is); (case c => k_is); (case k => k_is))
    (case a_idle_move => k_is)
    (case d_idle_move => refine' ⟨_, L2.fun_mk (st := K.sidle_move) ?l ?c ?k⟩; (case l => k_is); (case c => k_is); (case k => k_is))
    (case a_then => k_is)
    (case d_then => refine' ⟨_, L2.fun_mk (st := K.sthen) ?l ?c ?k⟩; (case l => k_is); (case c => k_is); (case k => k_is))
    (case a_product => k_is)
    (case d_product => refine' ⟨_, L2.fun_mk (st := K.sproduct) ?l ?c ?k⟩; (case l => k_is); (case c => k_is); (case k => k_is))
    (case a_sorted_lot => k_is)
    (case d_sorted_lot => refine' ⟨_, L2.fun_mk (st := K.ssorted_lot) ?l ?c ?k⟩; (case l => k_is); (case c => k_is); (case k => k_is))
    (case a_kind_of => k_is)
    (case d_kind_of => refine' ⟨_, L2.fun_mk (st := K.skind_of) ?l ?c ?k⟩; (case l => k_is); (case c => k_is); (case k => k_is))
    (case a_least_swaps => k_is)
    (case d_least_swaps => refine' ⟨_, L2.fun_mk (st := K.sleast_swaps) ?l ?c ?k⟩; (case l => k_is); (case c => k_is); (case k => k_is))
    (case a_genus => k_is)
    (case d_genus => refine' ⟨_, L2.fun_mk (st := K.sgenus) ?l ?c ?k⟩; (case l => k_is); (case c => k_is); (case k => k_is))
    (case a_genus_of_row => k_is)
    (case d_genus_of_row => refine' ⟨_, L2.fun_mk (st := K.sgenus_of_row) ?l ?c ?k⟩; (case l => k_is); (case c => k_is); (case k => k_is))
    (case a_law_parity_right => k_is)
    (case d_law_parity_right => refine' ⟨_, L2.fun_mk (st := K.slaw_parity_right) ?l ?c ?k⟩; (case l => k_is); (case c => k_is); (case k => k_is))
    (case a_law_le_carried => k_is)
    (case d_law_le_carried => refine' ⟨_, L2.fun_mk (st := K.slaw_le_carried) ?l ?c ?k⟩; (case l => k_is); (case c => k_is); (case k => k_is))
    (case a_law_right => k_is)
    (case d_law_right => refine' ⟨_, L2.fun_mk (st := K.slaw_right) ?l ?c ?k⟩; (case l => k_is); (case c => k_is); (case k => k_is))
    (case a_law => k_is)
    (case d_law => refine' ⟨_, L2.fun_mk (st := K.slaw) ?l ?c ?k⟩; (case l => k_is); (case c => k_is); (case k => k_is))
    (case z_abs => k_is)
    (case z_all => k_is)
    (case z_bool => k_is)
    (case z_enumerate => k_is)
    (case z_int => k_is)
    (case z_isinstance => k_is)
    (case z_len => k_is)
    (case z_list => k_is)
    (case z_max => k_is)
    (case z_min => k_is)
    (case z_range => k_is)
    (case z_sorted => k_is)
    (case z_sum => k_is)
    (case z_tuple => k_is)
    (case i_MAX_FACTORS => k_is)
    (case i_MOST_PLACES => k_is)
    (case i_g_FIRST_TOO_LONG => simp)

