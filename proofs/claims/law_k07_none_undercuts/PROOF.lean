import PyProof.Rows.All
import Wide.All
import OpenK.AllK
import Wide.FinOn
import HandS.ForMost
import HandS.IsInst
import HandS.Zip
import HandS.TupAny
import HandS.Walk
import HandS.More
import HandS.Codes
import KE.KTupSum
import HandS.TupMul
import HandS.Style
import KE.GoesEnumKw
import KE.DataMinMax
import PyProof.Rows.CallKwBuiltin
import PySem.Challenge.RW_larderlist_k07_none_undercuts
set_option Elab.async false
set_option linter.all false
set_option maxRecDepth 100000
set_option maxHeartbeats 4000000
namespace Lar
open PySem PySem.Spec PyProof.Rows L2

/-! ### defs of the text, as they are called -/
structure DefAt (K : PySem.W.Frag) (mg : Str → Option Value) (x : Str) (st : Stmt) : Prop where
  ex : ∃ f fd, Fun K x x st f fd ∧ mg x = some (.ref f)
structure Clb (P : Program) (w : World) (K : PySem.W.Frag) (mg : Str → Option Value) (base : Heap) (k : Nat) (x : Str) (ps : List Str) (sp : Sp) : Prop where
  ex : ∃ f fd, FnOk P w K mg base CX0 k f fd ps sp ∧ mg x = some (.ref f) ∧ PySem.W.keepIn K (.ref f) = true ∧ Binds K fd ps []
theorem DefAt.clb {P : Program} {w : World} {K : PySem.W.Frag} {mg : Str → Option Value} {base : Heap} {x : Str} {st : Stmt} {N ps : List Str} {k : Nat} {sp : Sp} (D : DefAt K mg x st)
    (S : FnScope N ps (defScope st)) (len : ∀ vs H Q E, sp vs H Q E → vs.length = ps.length)
    (hb : ∀ (kV doc pm : Value) (an : Option Addr) (cdv ct : Value) (us : List Value), us.length = ps.length → bindArgs (PySem.W.fnOf x x (defArgs st) (defBody st) (defScope st) .none kV doc pm an cdv ct) ⟨us, []⟩ = pure (ps.zip us))
    (hbody : ∀ (f : Addr) (cdv : Value) (A : Around) (outer : List Env) (s : Shared) (H : Hp) (vs : List V) (Q : VK) (E : XK), Room k (A.deeper (envOfC x (defScope st) s.heap.objs.size f cdv)) → sp vs H Q E →
      ∃ t, PSs (cxOf CX0 P w K mg base N x (defScope st) f cdv A outer s H E).nox (defBody st) t ∧ t { nx := fun _ H' => Q .non H', rt := Q } (start N vs) H) : Clb P w K mg base (k + 1) x ps sp := by
  obtain ⟨f, fd, F, hm⟩ := D.ex
  exact ⟨f, fd, F.ok S len (fun cdv A outer s H vs Q E hr h => hbody f cdv A outer s H vs Q E hr h), hm, F.kp, F.binds hb⟩
theorem pe_cal {X : Cx} {k : Nat} {x : Str} {ps : List Str} {sp : Sp} {e : Expr} {es : List Expr} {t : TA} {p pos : Pos} (C : Clb X.prog X.w X.K X.mg X.base k x ps sp) (hr : Room k X.A) (ha : PA X (e :: es) t) (hg : Gl X x := by rfl)
    (hdb : (x == ("__debug__" : Str)) = false := by decide) (he : starEach (e :: es) X.env = (false, eval e X.env) :: starEach es X.env := by rfl) (hpl : (backTo pos (starEach es X.env)).any (·.1) = false := by rfl) :
    PE X (.Call (.Name x p) (e :: es) [] pos) (tCall sp [] E0 t) := by
  obtain ⟨f, fd, F, hm, hk, hb⟩ := C.ex
  exact pe_call F hr hg hm hk hb .nil pass0 ha hdb he hpl

/-! ### heaps -/
theorem same_upd {H : Hp} {p : Addr} {o : HO} (h : H p = none) : Same H (upd H p o) := fun b x e => by
  rw [upd_ne (ne_of_none e h)]
  exact e
theorem _root_.L2.Same.new {H H' : Hp} {p : Addr} {o : HO} (e : Same H H') (h : H' p = none) : Same H (upd H' p o) := e.trans (same_upd h)
/-- what H did not know may change -/
theorem _root_.L2.Same.mut {H H' : Hp} {p : Addr} {o : HO} (e : Same H H') (h : H p = none) : Same H (upd H' p o) := fun a u ha => by
  rw [upd_ne (ne_of_none ha h)]
  exact e a u ha
theorem _root_.L2.Same.seqT {K : PySem.W.Frag} {H H' : Hp} {a : Addr} {xs : List V} (e : Same H H') (h : SqT K H a xs) : SqT K H' a xs := by
  rcases h with (h | ⟨o, h⟩) | h
  · exact .inl (.inl (e _ _ h))
  · exact .inl (.inr ⟨o, e _ _ h⟩)
  · exact .inr h
theorem sqL {K : PySem.W.Frag} {H : Hp} {a : Addr} {xs : List V} (h : H a = some (.lst xs)) : SqL K H a xs := .inl (.inl h)
theorem sqT {K : PySem.W.Frag} {H : Hp} {a : Addr} {xs : List V} (h : H a = some (.tup xs)) : SqT K H a xs := .inl (.inl h)
theorem small {n : Nat} (h : n ≤ 100000) : n ≤ sizeLine := Nat.le_trans h (by decide)
theorem small' {n : Nat} (h : n < 100000) : n < sizeLine := Nat.lt_of_lt_of_le h (by decide)
theorem map_ix {α : Type} {f : α → V} {xs : List α} {i : Nat} {v : V} (h : (xs.map f)[i]? = some v) : ∃ x, xs[i]? = some x ∧ v = f x := by
  rw [List.getElem?_map] at h
  cases e : xs[i]? with
  | none => rw [e] at h; cases h
  | some x => rw [e] at h; exact ⟨x, rfl, (Option.some.inj h).symm⟩
theorem ix_map {α : Type} {f : α → V} {xs : List α} {i : Nat} {x : α} (h : xs[i]? = some x) : (xs.map f)[i]? = some (f x) := by
  rw [List.getElem?_map, h]; rfl
theorem take_succ' {α : Type} {xs : List α} {i : Nat} {x : α} (h : xs[i]? = some x) : xs.take (i + 1) = xs.take i ++ [x] := by
  rw [List.take_add_one, h]; rfl

/-! ### tests -/
section
variable {A B : Prop} {i j : Int} {x y : Str}
theorem it_lt (h1 : i < j → A) (h2 : ¬ i < j → B) : if decide (i < j) = true then A else B := ite2 (fun h => h1 (of_decide_eq_true h)) (fun h => h2 fun z => h (decide_eq_true z))
theorem it_le (h1 : i ≤ j → A) (h2 : ¬ i ≤ j → B) : if decide (i ≤ j) = true then A else B := ite2 (fun h => h1 (of_decide_eq_true h)) (fun h => h2 fun z => h (decide_eq_true z))
theorem it_eqI (h1 : i = j → A) (h2 : ¬ i = j → B) : if decide (V.int i = V.int j) = true then A else B := ite2 (fun h => h1 (V.int.inj (of_decide_eq_true h))) (fun h => h2 fun z => h (decide_eq_true (congrArg V.int z)))
theorem it_eqS (h1 : x = y → A) (h2 : ¬ x = y → B) : if decide (V.str x = V.str y) = true then A else B := ite2 (fun h => h1 (V.str.inj (of_decide_eq_true h))) (fun h => h2 fun z => h (decide_eq_true (congrArg V.str z)))
theorem it_neI (h1 : ¬ i = j → A) (h2 : i = j → B) : if (!decide (V.int i = V.int j)) = true then A else B := by
  by_cases e : i = j
  · subst e
    rw [decide_eq_true rfl]
    exact iteF (h2 rfl)
  · rw [decide_eq_false (fun z => e (V.int.inj z))]
    exact iteT (h1 e)
end
/-! ### the rules that speak of the written part, with it said -/
section
variable {X : Cx} {K : PySem.W.Frag}
theorem kpg_tup (K : PySem.W.Frag) {es : List Expr} {k : Nat} {t : TGs} {n : Nat} {pos : Pos} (hc : X.calm = true) (h : PGs X es t) (hK : X.K = K := by rfl) (hn : (assignEach es X.env).length = n := by rfl) (hst : (assignEach es X.env).findIdx? (·.1) = none := by rfl) :
    PG X (.Tuple es k pos) (gTup K n t) := by subst hK; exact pg_tup hc h hn hst
theorem kpi_list (K : PySem.W.Frag) {tg l : Expr} {tl : TE} (h : PE X l tl) (hK : X.K = K := by rfl) : PI X tg l (iList K tl) := by subst hK; exact pi_list h
theorem kpi_tup (K : PySem.W.Frag) {tg l : Expr} {tl : TE} (h : PE X l tl) (hK : X.K = K := by rfl) : PI X tg l (iTup K tl) := by subst hK; exact pi_tup h
theorem kix_list (K : PySem.W.Frag) (hK : X.K = K := by rfl) : IxR X (rIxL K) := by subst hK; exact ix_list
theorem kix_tup (K : PySem.W.Frag) (hK : X.K = K := by rfl) : IxR X (rIxT K) := by subst hK; exact ix_tup
theorem ksl_list (K : PySem.W.Frag) (hK : X.K = K := by rfl) : SlR X (rSlL K) := by subst hK; exact sl_list
theorem ksl_tupA (K : PySem.W.Frag) (hK : X.K = K := by rfl) : SlR X (rSlA K) := by subst hK; exact sl_tupA
theorem kcall_len_seq (K : PySem.W.Frag) (hK : X.K = K := by rfl) : CallR X (.builtin "len") (fun xs H Q => ∃ p ys, xs = [.ref p] ∧ (SqL K H p ys ∨ SqT K H p ys) ∧ Q (.int ys.length) H) := by subst hK; exact call_len_seq
theorem kcr_sum (K : PySem.W.Frag) (hc : X.calm = true) (hK : X.K = K := by rfl) : CallR X (.builtin "sum") (rSum K) := by subst hK; exact cr_sum hc
theorem kcr_max (K : PySem.W.Frag) (hc : X.calm = true) (hK : X.K = K := by rfl) : CallR X (.builtin "max") (rMax K) := by subst hK; exact cr_max hc
theorem kcr_min (K : PySem.W.Frag) (hc : X.calm = true) (hK : X.K = K := by rfl) : CallR X (.builtin "min") (rMin K) := by subst hK; exact cr_min hc
theorem kcall_tuple_of (K : PySem.W.Frag) (hK : X.K = K := by rfl) : CallR X (.type "tuple") (fun xs H Q => ∃ p ys, xs = [.ref p] ∧ ((SqL K H p ys ∧ ∀ l, H l = none → Q (.ref l) (upd H l (.tup ys))) ∨ (SqT K H p ys ∧ Q (.ref p) H))) := by subst hK; exact call_tuple_of
theorem kcall_list_of (K : PySem.W.Frag) (hK : X.K = K := by rfl) : CallR X (.type "list") (fun xs H Q => ∃ p ys, xs = [.ref p] ∧ (SqL K H p ys ∨ SqT K H p ys) ∧ ∀ l, H l = none → Q (.ref l) (upd H l (.lst ys))) := by subst hK; exact call_list_of
theorem kcall_isi (K : PySem.W.Frag) (hK : X.K = K := by rfl) : CallR X (.builtin "isinstance") (rIsi K) := by subst hK; exact call_isi
theorem kop_eqD (K : PySem.W.Frag) (hu : X.A.units + 64 < cLine) (hK : X.K = K := by rfl) : OpR X (compareOp .Eq) (rEqD K) := by subst hK; exact op_eqD hu
theorem kop_neD (K : PySem.W.Frag) (hu : X.A.units + 64 < cLine) (hK : X.K = K := by rfl) : OpR X (compareOp .NotEq) (rNeD K) := by subst hK; exact op_neD hu
theorem kop_catA (K : PySem.W.Frag) (hK : X.K = K := by rfl) : OpR X (binaryOp .Add) (rCatA K) := by subst hK; exact op_catA
theorem kpi_zipA (K : PySem.W.Frag) {e e2 : Expr} {ta : TA} {p pos tpos : Pos} {elts : List Expr} {kk : Nat} (hg : Gl X "zip") (hm : X.mg "zip" = none) (ha : PA X [e, e2] ta) (hK : X.K = K := by rfl)
    (hs : starEach [e, e2] X.env = (false, eval e X.env) :: starEach [e2] X.env := by rfl) (hpl : (backTo pos (starEach [e2] X.env)).any (·.1) = false := by rfl) :
    PI X (.Tuple elts kk tpos) (.Call (.Name "zip" p) [e, e2] [] pos) (RZ.iZipA K ta) := by subst hK; exact RZ.pi_zipA hg hm ha hs hpl
theorem kpi_enum (K : PySem.W.Frag) {e : Expr} {ta : TA} {p pos tpos : Pos} {elts : List Expr} {kk : Nat} (hg : Gl X "enumerate") (hm : X.mg "enumerate" = none) (ha : PA X [e] ta) (hK : X.K = K := by rfl)
    (hs : starEach [e] X.env = [(false, eval e X.env)] := by rfl) :
    PI X (.Tuple elts kk tpos) (.Call (.Name "enumerate" p) [e] [] pos) (iEnum K ta) := by subst hK; exact pi_enum hg hm ha hs
theorem kpe_bm (K : PySem.W.Frag) {T name id : String} {r : V → List V → Hp → VK → Prop} {o e : Expr} {es : List Expr} {to : TE} {t : TA} {apos cpos : Pos} (pa : PlainAttrs T) (slot : Slot T name id) (hty : typeOf (.builtin id) = pure (.type "method_descriptor")) (hm : MtR X id r) (ho : PE X o to) (ha : PA X (e :: es) t) (hK : X.K = K := by rfl)
    (hbase : attributeBase o name X.env (eval o X.env) = eval o X.env := by rfl)
    (hfew : ((backTo cpos (starEach (e :: es) X.env)).all (fun x => !x.1) && (backToKw cpos (keywordEach [] X.env)).all (fun x => x.1.isSome)
      && decide ((e :: es).length + ([] : List Keyword).length + (if ([] : List Keyword).isEmpty then 0 else 1) < 30)) = true := by rfl)
    (hline : (apos.endLine == cpos.line) = true := by rfl) (hs : starEach (e :: es) X.env = (false, eval e X.env) :: starEach es X.env := by rfl) (hplain : (backTo cpos (starEach es X.env)).any (·.1) = false := by rfl) :
    PE X (.Call (.Attribute o name apos) (e :: es) [] cpos) (tBM K T r to t) := by subst hK; exact pe_bm pa slot hty hm ho ha hbase hfew hline hs hplain
end
/-! ### sum of a tuple of ints -/
section
variable {X : Cx} {K : PySem.W.Frag}
def rSumT (K : PySem.W.Frag) : List V → Hp → VK → Prop := fun vs H Q => ∃ (a : Addr) (ns : List Int), vs = [V.ref a] ∧ SqT K H a (ns.map V.int) ∧ Q (.int ns.sum) H
theorem kcr_sumT (K : PySem.W.Frag) (hc : X.calm = true) (hK : X.K = K := by rfl) : CallR X (.builtin "sum") (rSumT K) := by
  subst hK
  intro pins s σ H vs us Q I r h
  obtain ⟨a, ns, rfl, hs, q⟩ := h
  obtain ⟨its, rv, hl, _⟩ := I.tuple hs
  rw [Vals.ref1 r]
  have hi : IntsAre its ns := rv.ints
  obtain ⟨xs, e⟩ := hi.allInts.items
  have hn : numsOf (intItems xs).toList = ns := by rw [← e]; exact hi.numsOf
  rw [nums_intItems] at hn
  rw [e] at hl
  refine PySem.W.ktm_sumG (I.ok.hd hc) hl fun h' tk t' hk => ?_
  rw [preSum_eq, List.take_of_length_le (by simp), hn]
  exact ⟨.int _, H, I.kept hk, ⟨_, rfl⟩, q⟩
end
end Lar
namespace Lar
open PySem PySem.Spec PyProof.Rows L2
/-! ### the names -/
abbrev sgn : Str := "abcdefghijklmnopqrstuvwxyz"
def sg (i : Int) : Str := ⟨#[sgn.cps.toList.getD (i % 26).toNat 0]⟩
theorem sgn_len : sgn.cps.toList.length = 26 := by decide +kernel
theorem sgn_len' : sgn.length = 26 := by decide +kernel
theorem sg_at (i : Int) : atI sgn.cps.toList (i % 26) = some (sgn.cps.toList.getD (i % 26).toNat 0) := by
  have h1 := Int.emod_nonneg i (show (26 : Int) ≠ 0 by decide)
  have h2 := Int.emod_lt_of_pos i (show (0 : Int) < 26 by decide)
  have hl : (i % 26).toNat < sgn.cps.toList.length := by rw [sgn_len]; omega
  have e : sgn.cps.toList[(i % 26).toNat]? = some (sgn.cps.toList.getD (i % 26).toNat 0) := by
    rw [List.getD_eq_getElem?_getD, List.getElem?_eq_getElem hl]; rfl
  have q := atI_nat e
  rw [Int.toNat_of_nonneg h1] at q
  exact q
theorem sg_len (i : Int) : (sg i).length = 1 := rfl
def nmAt (more : Int) : Nat → Int
  | 0 => more / 7
  | t + 1 => nmAt more t + 1 + more / 182 % 25
def nmNm (more : Int) : Nat → Str
  | 0 => ""
  | t + 1 => nmNm more t ++ sg (nmAt more (t + 1))
theorem app_len (x y : Str) : (x ++ y).length = x.length + y.length := by
  show (x.cps ++ y.cps).size = x.cps.size + y.cps.size
  exact Array.size_append
theorem nmNm_len (more : Int) : ∀ t, (nmNm more t).length = t
  | 0 => rfl
  | t + 1 => by
    show (nmNm more t ++ sg _).length = t + 1
    rw [app_len, nmNm_len more t]; rfl
def words : List Str := ["total", "day", "flour", "salt", "left", "used", "short", "salts", "a", "z", "oil"]
def min6 (i : Int) : Int := if 6 < i then 6 else i
def nameBy (seed k : Int) : Str :=
  if seed % 6 = 0 ∧ k < 4 then words.getD ((seed / 6 + k) % 11).toNat ""
  else
    let more := seed / 6
    let n := (1 + more % 7).toNat
    let nm := nmNm more n
    let at' := nmAt more n
    let spot := more / 4550 % (n : Int)
    if 3 < k then cutS nm none (some (min6 spot)) ++ (sg (at' + k / 26) ++ sg k) ++ cutS nm (some (min6 spot)) (some 6)
    else if 3 < seed % 6 then sg (more / 7 + k) ++ nm
    else if k = 1 then cutS nm none (some spot) ++ sg (Txt.find sgn ⟨#[nm.cps.toList.getD spot.toNat 0]⟩ + 1) ++ cutS nm (some (spot + 1)) none
    else nm ++ [("" : Str), "", sg at', sg (at' + 1)].getD k.toNat ""
/-! ### data of tuples in the heap -/
/-- the tuples stand as they stood -/
def SameT (H H' : Hp) : Prop := ∀ b xs, H b = some (.tup xs) → H' b = some (.tup xs)
theorem SameT.refl (H : Hp) : SameT H H := fun _ _ h => h
theorem SameT.trans {H H1 H2 : Hp} (a : SameT H H1) (b : SameT H1 H2) : SameT H H2 := fun c o h => b c o (a c o h)
theorem SameT.of {H H' : Hp} (e : Same H H') : SameT H H' := fun b xs h => e b _ h
theorem SameT.lst {H : Hp} {p : Addr} {xs : List V} {o : HO} (h : H p = some (.lst xs)) : SameT H (upd H p o) := fun b ys hb => by
  rw [upd_ne (fun z => by subst z; rw [h] at hb; cases hb)]
  exact hb
theorem SameT.dict {H : Hp} {p : Addr} {kvs : List (Key × V)} {o : HO} (h : H p = some (.dK kvs)) : SameT H (upd H p o) := fun b ys hb => by
  rw [upd_ne (fun z => by subst z; rw [h] at hb; cases hb)]
  exact hb
theorem SameT.new {H : Hp} {p : Addr} {o : HO} (h : H p = none) : SameT H (upd H p o) := SameT.of (same_upd h)
section
variable {α : Type}
/-- vs tell xs, one by one -/
structure Held (R : Hp → V → α → Prop) (H : Hp) (vs : List V) (xs : List α) : Prop where
  len : vs.length = xs.length
  all : ∀ (i : Nat) (v : V) (x : α), vs[i]? = some v → xs[i]? = some x → R H v x
def MonoT (R : Hp → V → α → Prop) : Prop := ∀ H H' v x, SameT H H' → R H v x → R H' v x
theorem Held.nil {R : Hp → V → α → Prop} {H : Hp} : Held R H [] [] := ⟨rfl, fun i v x h => by simp at h⟩
theorem Held.mono {R : Hp → V → α → Prop} (m : MonoT R) {H H' : Hp} {vs : List V} {xs : List α} (e : SameT H H') (h : Held R H vs xs) : Held R H' vs xs := ⟨h.len, fun i v x a b => m _ _ _ _ e (h.all i v x a b)⟩
theorem Held.snoc {R : Hp → V → α → Prop} {H : Hp} {vs : List V} {xs : List α} {v : V} {x : α} (h : Held R H vs xs) (r : R H v x) : Held R H (vs ++ [v]) (xs ++ [x]) := by
  refine ⟨by rw [List.length_append, List.length_append, h.len]; rfl, fun i v' x' hv hx => ?_⟩
  by_cases hi : i < vs.length
  · rw [List.getElem?_append_left hi] at hv
    rw [List.getElem?_append_left (by rw [← h.len]; exact hi)] at hx
    exact h.all i _ _ hv hx
  · rw [List.getElem?_append_right (by omega)] at hv
    rw [List.getElem?_append_right (by have := h.len; omega)] at hx
    have e : i - vs.length = 0 := by
      have := (List.getElem?_eq_some_iff.mp hv).1
      simp at this
      omega
    rw [e] at hv
    rw [← h.len, e] at hx
    have e1 : v = v' := Option.some.inj hv
    have e2 : x = x' := Option.some.inj hx
    rw [← e1, ← e2]
    exact r
theorem Held.get {R : Hp → V → α → Prop} {H : Hp} {vs : List V} {xs : List α} {i : Nat} {v : V} (h : Held R H vs xs) (hv : vs[i]? = some v) : ∃ x, xs[i]? = some x ∧ R H v x := by
  have hi : i < xs.length := by rw [← h.len]; exact (List.getElem?_eq_some_iff.mp hv).1
  exact ⟨xs[i], List.getElem?_eq_getElem hi, h.all i v _ hv (List.getElem?_eq_getElem hi)⟩
/-- a tuple of things -/
def TupAll (R : Hp → V → α → Prop) (H : Hp) (v : V) (xs : List α) : Prop := ∃ t vs, v = .ref t ∧ H t = some (.tup vs) ∧ Held R H vs xs
theorem TupAll.mono {R : Hp → V → α → Prop} (m : MonoT R) : MonoT (TupAll R) := fun H H' v xs e ⟨t, vs, h1, h2, h3⟩ => ⟨t, vs, h1, e _ _ h2, h3.mono m e⟩
end
abbrev Need := Str × Int
abbrev Dish := Int × List Need
structure Batch where
  name : Str
  amount : Int
  last : Int
def NeedAt (H : Hp) (v : V) (x : Need) : Prop := ∃ t, v = .ref t ∧ H t = some (.tup [.str x.1, .int x.2])
theorem NeedAt.mono : MonoT NeedAt := fun _ _ _ _ e ⟨t, h1, h2⟩ => ⟨t, h1, e _ _ h2⟩
def DishAt (H : Hp) (v : V) (d : Dish) : Prop := ∃ t u, v = .ref t ∧ H t = some (.tup [.int d.1, u]) ∧ TupAll NeedAt H u d.2
theorem DishAt.mono : MonoT DishAt := fun _ _ _ _ e ⟨t, u, h1, h2, h3⟩ => ⟨t, u, h1, e _ _ h2, TupAll.mono NeedAt.mono _ _ _ _ e h3⟩
abbrev DishesAt : Hp → V → List Dish → Prop := TupAll DishAt
theorem DishesAt.mono : MonoT DishesAt := TupAll.mono DishAt.mono
def BatchAt (H : Hp) (v : V) (b : Batch) : Prop := ∃ t, v = .ref t ∧ H t = some (.tup [.str b.name, .int b.amount, .int b.last])
theorem BatchAt.mono : MonoT BatchAt := fun _ _ _ _ e ⟨t, h1, h2⟩ => ⟨t, h1, e _ _ h2⟩
abbrev LarderAt : Hp → V → List Batch → Prop := TupAll BatchAt
theorem LarderAt.mono : MonoT LarderAt := TupAll.mono BatchAt.mono
def NameOf (seed : Int) (x : Str) : Prop := ∃ k : Nat, k < 12 ∧ x = nameBy seed k
structure GoodDish (seed : Int) (d : Dish) : Prop where
  day1 : 1 ≤ d.1
  day7 : d.1 ≤ 7
  many : d.2.length ≤ 20
  need : ∀ x ∈ d.2, (1 ≤ x.2 ∧ x.2 ≤ 200) ∧ NameOf seed x.1
structure GoodBatch (seed : Int) (b : Batch) : Prop where
  am1 : 1 ≤ b.amount
  am2 : b.amount ≤ 200
  la1 : 1 ≤ b.last
  la2 : b.last ≤ 99
  name : NameOf seed b.name
/-! ### comprehensions, by filterMap -/
section
variable {α β γ : Type} {J : It} {n : Nat} {G : Hp → Prop} {Y : Nat → Hp → V → Hp → Prop}
theorem held_eq {f : α → V} {H : Hp} {vs : List V} {xs : List α} (h : Held (fun _ v x => v = f x) H vs xs) : vs = xs.map f := by
  apply List.ext_getElem?
  intro i
  rw [List.getElem?_map]
  cases e : vs[i]? with
  | none =>
    have : xs[i]? = none := by
      rw [List.getElem?_eq_none_iff, ← h.len]
      exact List.getElem?_eq_none_iff.mp e
    rw [this]; rfl
  | some v =>
    obtain ⟨x, hx, rx⟩ := h.get e
    rw [hx, rx]; rfl
theorem mono_eq {f : α → V} : MonoT (fun (_ : Hp) (v : V) (x : α) => v = f x) := fun _ _ _ _ _ h => h
/-- a comprehension over what walks: the new list tells (xs.filterMap f) -/
theorem lc_rel (w : Walk J n G Y) {xs : List α} (hn : xs.length = n) {f : α → Option β} {R : Hp → V → β → Prop} (mR : MonoT R) {g : TG} {tt : TT} {te : TE} {ws : List Nat} {σ : L2.St} {H1 : Hp} {D : Addr} {Qd : Hp → Prop}
    (hD : H1 D = none) (hG : ∀ H, Same H1 H → G H) (hz : n ≤ 100000)
    (hs : ∀ (i : Nat) (v : V) (x : α) (H H' : Hp) (Ky : V → Hp → Prop) (Kn : Hp → Prop), xs[i]? = some x → Same H1 H → Y i H v H' → (∀ y b H4, f x = some b → Same H H4 → R H4 y b → Ky y H4) → (∀ H3, f x = none → Same H H3 → Kn H3) →
      g v (wipe σ ws) H' fun σ2 H2 => wipe σ2 ws = wipe σ ws ∧ tt σ2 H2 fun b H3 => if b = true then te σ2 H3 Ky else Kn H3)
    (hd : ∀ H' ys, Same H1 H' → H' D = some (.lst ys) → Held R H' ys (xs.filterMap f) → Qd H') :
    ∃ W : Nat → Nat → Hp → Prop, (∃ m, W 0 m (upd H1 D (.lst []))) ∧ ∀ i m H, W i m H →
      (J.stop i H ∧ Qd H) ∨ (J.go i H ∧ ∃ Nx : Hp → Prop, (∀ H', Nx H' → ∃ m', m' < m ∧ W (i + 1) m' H') ∧ ∀ x H', J.yld i H x H' → g x (wipe σ ws) H' fun σ2 H2 => wipe σ2 ws = wipe σ ws ∧ tt σ2 H2 fun b H3 =>
        if b = true then te σ2 H3 fun y H4 => ∃ acc, H4 D = some (.lst acc) ∧ acc.length < sizeLine ∧ Nx (upd H4 D (.lst (acc ++ [y]))) else Nx H3) := by
  refine lc_it w (fun i H => Same H1 H ∧ ∃ ys, H D = some (.lst ys) ∧ Held R H ys ((xs.take i).filterMap f)) ⟨same_upd hD, [], upd_same, Held.nil⟩ (fun i H _ p => hG H p.1) (fun i v H H' hi p y => ?_) (fun H p => ?_)
  · obtain ⟨sm, ys, hDl, hh⟩ := p
    have hx : xs[i]? = some (xs[i]'(by omega)) := List.getElem?_eq_getElem (by omega)
    refine hs i v _ H H' _ _ hx sm y (fun y b H4 e s4 r => ?_) (fun H3 e s3 => ?_)
    · refine ⟨_, s4 _ _ hDl, ?_, (sm.trans s4).mut hD, ys ++ [y], upd_same, ?_⟩
      · have h1 := List.length_filterMap_le f (xs.take i)
        rw [List.length_take] at h1
        exact small' (by rw [hh.len]; omega)
      · have st := SameT.lst (o := .lst (ys ++ [y])) (s4 _ _ hDl)
        rw [take_succ' hx, List.filterMap_append]
        have e2 : List.filterMap f [xs[i]'(by omega)] = [b] := by rw [List.filterMap_cons_some e]; rfl
        rw [e2]
        exact (hh.mono mR ((SameT.of s4).trans st)).snoc (mR _ _ _ _ st r)
    · refine ⟨sm.trans s3, ys, s3 _ _ hDl, ?_⟩
      rw [take_succ' hx, List.filterMap_append]
      have e2 : List.filterMap f [xs[i]'(by omega)] = [] := by rw [List.filterMap_cons_none e]; rfl
      rw [e2, List.append_nil]
      exact hh.mono mR (SameT.of s3)
  · obtain ⟨sm, ys, hDl, hh⟩ := p
    rw [← hn, List.take_length] at hh
    exact hd H ys sm hDl hh
/-- .. of two clauses: the outer one -/
theorem lc2_out (w : Walk J n G Y) {xs : List α} (hn : xs.length = n) {F : α → List γ} {R : Hp → V → γ → Prop} {g : TG} {te : L2.St → Hp → (Hp → Prop) → Prop} {ws : List Nat} {σ : L2.St} {H1 : Hp} {D : Addr} {Qd : Hp → Prop}
    (hD : H1 D = none) (hG : ∀ H, Same H1 H → G H)
    (hs : ∀ (i : Nat) (v : V) (x : α) (H H' : Hp) (ys : List V) (Nx : Hp → Prop), xs[i]? = some x → Same H1 H → Y i H v H' → H D = some (.lst ys) → Held R H ys ((xs.take i).flatMap F) →
      (∀ H3 ys, Same H1 H3 → H3 D = some (.lst ys) → Held R H3 ys ((xs.take i).flatMap F ++ F x) → Nx H3) →
      g v (wipe σ ws) H' fun σ2 H2 => wipe σ2 ws = wipe σ ws ∧ te σ2 H2 Nx)
    (hd : ∀ H' ys, Same H1 H' → H' D = some (.lst ys) → Held R H' ys (xs.flatMap F) → Qd H') :
    ∃ W : Nat → Nat → Hp → Prop, (∃ m, W 0 m (upd H1 D (.lst []))) ∧ ∀ i m H, W i m H →
      (J.stop i H ∧ Qd H) ∨ (J.go i H ∧ ∃ Nx : Hp → Prop, (∀ H', Nx H' → ∃ m', m' < m ∧ W (i + 1) m' H') ∧ ∀ x H', J.yld i H x H' → g x (wipe σ ws) H' fun σ2 H2 => wipe σ2 ws = wipe σ ws ∧ te σ2 H2 Nx) := by
  refine ⟨fun i m H => m = n - i ∧ i ≤ n ∧ Same H1 H ∧ ∃ ys, H D = some (.lst ys) ∧ Held R H ys ((xs.take i).flatMap F), ⟨n, by simp, Nat.zero_le _, same_upd hD, [], upd_same, Held.nil⟩, ?_⟩
  rintro i m H ⟨rfl, hi, sm, ys, hDl, hh⟩
  by_cases hlt : i < n
  · refine .inr ⟨w.goes i H hlt (hG H sm), fun H' => Same H1 H' ∧ ∃ ys, H' D = some (.lst ys) ∧ Held R H' ys ((xs.take (i + 1)).flatMap F), fun H' p' => ⟨n - (i + 1), by omega, rfl, hlt, p'⟩, fun v H' y => ?_⟩
    have hx : xs[i]? = some (xs[i]'(by omega)) := List.getElem?_eq_getElem (by omega)
    refine hs i v _ H H' ys _ hx sm (w.yields i H v H' hlt (hG H sm) y) hDl hh (fun H3 ys' s3 hD3 h3 => ⟨s3, ys', hD3, ?_⟩)
    rw [take_succ' hx, List.flatMap_append]
    have e2 : List.flatMap F [xs[i]'(by omega)] = F (xs[i]'(by omega)) := by simp
    rw [e2]
    exact h3
  · have e : i = n := by omega
    subst e
    rw [← hn, List.take_length] at hh
    exact .inl ⟨w.stops H (hG H sm), hd H ys sm hDl hh⟩
/-- .. the inner one -/
theorem lc2_in (w : Walk J n G Y) {xs : List α} (hn : xs.length = n) {f : α → Option γ} {R : Hp → V → γ → Prop} (mR : MonoT R) {g : TG} {tt : TT} {te : TE} {ws : List Nat} {σ : L2.St} {H0 H1 : Hp} {D : Addr} {ys0 : List V} {zs : List γ} {Qd : Hp → Prop}
    (hD : H0 D = none) (s1 : Same H0 H1) (hD1 : H1 D = some (.lst ys0)) (h1 : Held R H1 ys0 zs) (hG : ∀ H, Same H0 H → SameT H1 H → G H) (hz : zs.length + n ≤ 100000)
    (hs : ∀ (i : Nat) (v : V) (x : α) (H H' : Hp) (Ky : V → Hp → Prop) (Kn : Hp → Prop), xs[i]? = some x → Same H0 H → SameT H1 H → Y i H v H' → (∀ y b H4, f x = some b → Same H H4 → R H4 y b → Ky y H4) → (∀ H3, f x = none → Same H H3 → Kn H3) →
      g v (wipe σ ws) H' fun σ2 H2 => wipe σ2 ws = wipe σ ws ∧ tt σ2 H2 fun b H3 => if b = true then te σ2 H3 Ky else Kn H3)
    (hd : ∀ H' ys, Same H0 H' → H' D = some (.lst ys) → Held R H' ys (zs ++ xs.filterMap f) → Qd H') :
    ∃ W : Nat → Nat → Hp → Prop, (∃ m, W 0 m H1) ∧ ∀ i m H, W i m H →
      (J.stop i H ∧ Qd H) ∨ (J.go i H ∧ ∃ Nx : Hp → Prop, (∀ H', Nx H' → ∃ m', m' < m ∧ W (i + 1) m' H') ∧ ∀ x H', J.yld i H x H' → g x (wipe σ ws) H' fun σ2 H2 => wipe σ2 ws = wipe σ ws ∧ tt σ2 H2 fun b H3 =>
        if b = true then te σ2 H3 fun y H4 => ∃ acc, H4 D = some (.lst acc) ∧ acc.length < sizeLine ∧ Nx (upd H4 D (.lst (acc ++ [y]))) else Nx H3) := by
  refine ⟨fun i m H => m = n - i ∧ i ≤ n ∧ Same H0 H ∧ SameT H1 H ∧ ∃ ys, H D = some (.lst ys) ∧ Held R H ys (zs ++ (xs.take i).filterMap f), ⟨n, by simp, Nat.zero_le _, s1, SameT.refl _, ys0, hD1, by simpa using h1⟩, ?_⟩
  rintro i m H ⟨rfl, hi, sm, st, ys, hDl, hh⟩
  by_cases hlt : i < n
  · refine .inr ⟨w.goes i H hlt (hG H sm st), fun H' => Same H0 H' ∧ SameT H1 H' ∧ ∃ ys, H' D = some (.lst ys) ∧ Held R H' ys (zs ++ (xs.take (i + 1)).filterMap f), fun H' p' => ⟨n - (i + 1), by omega, rfl, hlt, p'⟩, fun v H' y => ?_⟩
    have hx : xs[i]? = some (xs[i]'(by omega)) := List.getElem?_eq_getElem (by omega)
    refine hs i v _ H H' _ _ hx sm st (w.yields i H v H' hlt (hG H sm st) y) (fun y b H4 e s4 r => ?_) (fun H3 e s3 => ?_)
    · have su := SameT.lst (o := .lst (ys ++ [y])) (s4 _ _ hDl)
      refine ⟨_, s4 _ _ hDl, ?_, (sm.trans s4).mut hD, (st.trans (SameT.of s4)).trans su, ys ++ [y], upd_same, ?_⟩
      · have h2 := List.length_filterMap_le f (xs.take i)
        rw [List.length_take] at h2
        exact small' (by rw [hh.len, List.length_append]; omega)
      · rw [take_succ' hx, List.filterMap_append]
        have e2 : List.filterMap f [xs[i]'(by omega)] = [b] := by rw [List.filterMap_cons_some e]; rfl
        rw [e2, ← List.append_assoc]
        exact (hh.mono mR ((SameT.of s4).trans su)).snoc (mR _ _ _ _ su r)
    · refine ⟨sm.trans s3, st.trans (SameT.of s3), ys, s3 _ _ hDl, ?_⟩
      rw [take_succ' hx, List.filterMap_append]
      have e2 : List.filterMap f [xs[i]'(by omega)] = [] := by rw [List.filterMap_cons_none e]; rfl
      rw [e2, List.append_nil]
      exact hh.mono mR (SameT.of s3)
  · have e : i = n := by omega
    subst e
    rw [← hn, List.take_length] at hh
    exact .inl ⟨w.stops H (hG H sm st), hd H ys sm hDl hh⟩
end
/-- the walk over two tuples -/
theorem walk_zipT {K : PySem.W.Frag} {a b : Addr} {xs ys : List V} {n : Nat} (hn : n = min xs.length ys.length) : Walk (RZ.ItzT K a b) n (fun H => SqT K H a xs ∧ SqT K H b ys) (YPair (fun i => xs[i]?) (fun i => ys[i]?)) := by
  subst hn
  refine ⟨fun i _ hi q => ?_, fun _ q => ⟨xs, ys, q.1, q.2, by omega⟩, fun i H v H' _ q y => ?_⟩
  · have h1 : i < xs.length := by omega
    have h2 : i < ys.length := by omega
    exact ⟨xs, ys, xs[i], ys[i], q.1, q.2, by simp [h1], by simp [h2]⟩
  · obtain ⟨T, x, z, h1, h2, h3, h4, h5⟩ := y
    exact ⟨T, x, z, h1, h2, h3, h4 xs q.1, h5 ys q.2⟩
/-- the turns of a range -/
theorem range_ix {n i k : Nat} (h : (List.range n)[i]? = some k) : k = i ∧ i < n := by
  obtain ⟨h1, h2⟩ := List.getElem?_eq_some_iff.mp h
  rw [List.getElem_range] at h2
  exact ⟨h2.symm, by simpa using h1⟩
/-! ### what is needed, kept, lacking -/
def PairAt (H : Hp) (v : V) (x : Int × Int) : Prop := ∃ t, v = .ref t ∧ H t = some (.tup [.int x.1, .int x.2])
theorem PairAt.mono : MonoT PairAt := fun _ _ _ _ e ⟨t, h1, h2⟩ => ⟨t, h1, e _ _ h2⟩
def onDay (ps : List (Int × Int)) (day : Int) : Int := (ps.filterMap fun x => if x.1 = day then some x.2 else none).sum
def toDay (ps : List (Int × Int)) (day : Int) : Int := (ps.filterMap fun x => if day ≤ x.2 then some x.1 else none).sum
def pairsOf (ds : List Dish) (nm : Str) : List (Int × Int) := ds.flatMap fun d => d.2.filterMap fun x => if x.1 = nm then some (d.1, x.2) else none
def neededL (ds : List Dish) (nm : Str) : List Int := (List.range 7).map fun i => onDay (pairsOf ds nm) (1 + (i : Nat))
def fromL (xs : List Int) : List Int := (List.range 7).map fun i => (xs.drop i).sum
def keptPairs (lar : List Batch) (nm : Str) : List (Int × Int) := lar.filterMap fun b => if b.name = nm then some (b.amount, b.last) else none
def keptL (lar : List Batch) (nm : Str) : List Int := (List.range 7).map fun i => toDay (keptPairs lar nm) (1 + (i : Nat))
def mx0 (x : Int) : Int := if x > 0 then x else 0
def lackL (ds : List Dish) (lar : List Batch) (nm : Str) : List Int := (List.range 7).map fun i => mx0 ((fromL (neededL ds nm)).getD i 0 - (keptL lar nm).getD i 0)
theorem neededL_len (ds : List Dish) (nm : Str) : (neededL ds nm).length = 7 := by unfold neededL; simp
theorem fromL_len (xs : List Int) : (fromL xs).length = 7 := by unfold fromL; simp
theorem keptL_len (lar : List Batch) (nm : Str) : (keptL lar nm).length = 7 := by unfold keptL; simp
theorem lackL_len (ds : List Dish) (lar : List Batch) (nm : Str) : (lackL ds lar nm).length = 7 := by unfold lackL; simp
theorem fm_some {α β : Type} (f : α → β) (xs : List α) : xs.filterMap (fun x => some (f x)) = xs.map f := by
  induction xs with
  | nil => rfl
  | cons x r ih =>
    show f x :: List.filterMap (fun x => some (f x)) r = _
    rw [ih]; rfl
theorem pairsOf_len {n : Nat} : ∀ (ds : List Dish) (nm : Str), (∀ d ∈ ds, d.2.length ≤ n) → (pairsOf ds nm).length ≤ ds.length * n
  | [], _, _ => by simp [pairsOf]
  | d :: r, nm, h => by
    have ih := pairsOf_len r nm fun d hd => h d (List.mem_cons_of_mem _ hd)
    have h1 := List.length_filterMap_le (fun x : Need => if x.1 = nm then some (d.1, x.2) else none) d.2
    have h2 := h d List.mem_cons_self
    unfold pairsOf at ih ⊢
    rw [List.flatMap_cons, List.length_append, List.length_cons, Nat.succ_mul]
    omega
/-! ### the law's own reckoning of what lacks -/
def needOf (d : Dish) (nm : Str) : Int := (d.2.filterMap fun x => if x.1 = nm then some x.2 else none).sum
def needFrom (ds : List Dish) (nm : Str) (day : Int) : Int := (ds.map fun d => if day ≤ d.1 then needOf d nm else 0).sum
def keptTo (lar : List Batch) (nm : Str) (day : Int) : Int := (lar.map fun b => if b.name = nm ∧ day ≤ b.last then b.amount else 0).sum
def lackDay (ds : List Dish) (lar : List Batch) (nm : Str) (day : Int) : Int := mx0 (needFrom ds nm day - keptTo lar nm day)
def lackW (ds : List Dish) (lar : List Batch) (nm : Str) : List Int := (List.range 7).map fun i => lackDay ds lar nm (1 + (i : Nat))
theorem toDay_kept (nm : Str) (day : Int) : ∀ lar : List Batch, toDay (keptPairs lar nm) day = keptTo lar nm day
  | [] => rfl
  | b :: r => by
    have ih := toDay_kept nm day r
    unfold toDay keptPairs keptTo at ih ⊢
    rw [List.map_cons, List.sum_cons, ← ih]
    by_cases e : b.name = nm
    · by_cases l : day ≤ b.last
      · simp only [List.filterMap_cons, if_pos e, if_pos l, if_pos (And.intro e l), List.sum_cons]
      · simp only [List.filterMap_cons, if_pos e, if_neg l, if_neg (fun z : b.name = nm ∧ day ≤ b.last => l z.2)]
        omega
    · simp only [List.filterMap_cons, if_neg e, if_neg (fun z : b.name = nm ∧ day ≤ b.last => e z.1)]
      omega
theorem onDay_app (xs ys : List (Int × Int)) (day : Int) : onDay (xs ++ ys) day = onDay xs day + onDay ys day := by
  unfold onDay
  rw [List.filterMap_append, List.sum_append]
theorem onDay_one (k day : Int) (nm : Str) : ∀ ns : List Need, onDay (ns.filterMap fun x => if x.1 = nm then some (k, x.2) else none) day = if k = day then (ns.filterMap fun x => if x.1 = nm then some x.2 else none).sum else 0
  | [] => by unfold onDay; simp
  | x :: r => by
    have ih := onDay_one k day nm r
    unfold onDay at ih ⊢
    by_cases e : x.1 = nm
    · by_cases d : k = day
      · simp only [List.filterMap_cons, if_pos e, if_pos d, List.sum_cons] at ih ⊢
        rw [ih]
      · simp only [List.filterMap_cons, if_pos e, if_neg d] at ih ⊢
        exact ih
    · simp only [List.filterMap_cons, if_neg e]
      exact ih
theorem onDay_cons (d : Dish) (r : List Dish) (nm : Str) (day : Int) : onDay (pairsOf (d :: r) nm) day = (if d.1 = day then needOf d nm else 0) + onDay (pairsOf r nm) day := by
  unfold pairsOf
  rw [List.flatMap_cons, onDay_app, onDay_one]; rfl
theorem seven (f : Nat → Int) : (List.range 7).map f = [f 0, f 1, f 2, f 3, f 4, f 5, f 6] := rfl
theorem from_needed (nm : Str) : ∀ (ds : List Dish), (∀ d ∈ ds, 1 ≤ d.1 ∧ d.1 ≤ 7) → ∀ i : Nat, i < 7 → ((neededL ds nm).drop i).sum = needFrom ds nm (1 + (i : Nat))
  | [], _, i, hi => by
    have h : i = 0 ∨ i = 1 ∨ i = 2 ∨ i = 3 ∨ i = 4 ∨ i = 5 ∨ i = 6 := by omega
    rcases h with e | e | e | e | e | e | e <;> subst e <;> rfl
  | d :: r, hd, i, hi => by
    have ih := from_needed nm r (fun x hx => hd x (List.mem_cons_of_mem _ hx)) i hi
    have hd1 := hd d List.mem_cons_self
    unfold neededL at ih ⊢
    unfold needFrom at ih ⊢
    rw [List.map_cons, List.sum_cons, ← ih, seven, seven]
    simp only [onDay_cons]
    generalize needOf d nm = z
    have h : i = 0 ∨ i = 1 ∨ i = 2 ∨ i = 3 ∨ i = 4 ∨ i = 5 ∨ i = 6 := by omega
    have h2 : d.1 = 1 ∨ d.1 = 2 ∨ d.1 = 3 ∨ d.1 = 4 ∨ d.1 = 5 ∨ d.1 = 6 ∨ d.1 = 7 := by omega
    rcases h2 with e2 | e2 | e2 | e2 | e2 | e2 | e2 <;> rw [e2] <;> rcases h with e | e | e | e | e | e | e <;> subst e <;> simp <;> omega
theorem lack_eq (ds : List Dish) (lar : List Batch) (nm : Str) (hd : ∀ d ∈ ds, 1 ≤ d.1 ∧ d.1 ≤ 7) : lackL ds lar nm = lackW ds lar nm := by
  unfold lackL lackW
  apply List.map_congr_left
  intro i hi
  have hi7 : i < 7 := List.mem_range.mp hi
  unfold lackDay
  have e1 : (fromL (neededL ds nm)).getD i 0 = needFrom ds nm (1 + (i : Nat)) := by
    unfold fromL
    rw [List.getD_eq_getElem?_getD, List.getElem?_map, List.getElem?_eq_getElem (by simpa using hi7), List.getElem_range]
    exact from_needed nm ds hd i hi7
  have e2 : (keptL lar nm).getD i 0 = keptTo lar nm (1 + (i : Nat)) := by
    unfold keptL
    rw [List.getD_eq_getElem?_getD, List.getElem?_map, List.getElem?_eq_getElem (by simpa using hi7), List.getElem_range]
    exact toDay_kept nm _ lar
  rw [e1, e2]
theorem needFrom_snoc (ds : List Dish) (d : Dish) (nm : Str) (day : Int) : needFrom (ds ++ [d]) nm day = needFrom ds nm day + if day ≤ d.1 then needOf d nm else 0 := by
  unfold needFrom
  rw [List.map_append, List.sum_append]; simp
theorem keptTo_snoc (lar : List Batch) (b : Batch) (nm : Str) (day : Int) : keptTo (lar ++ [b]) nm day = keptTo lar nm day + if b.name = nm ∧ day ≤ b.last then b.amount else 0 := by
  unfold keptTo
  rw [List.map_append, List.sum_append]; simp
/-- what is kept, as the law reckons it -/
def dueK (lar : List Batch) (nm : Str) (i : Int) : Int := (lar.filterMap fun b => if b.name = nm ∧ i < b.last then some b.amount else none).sum
theorem dueK_eq (nm : Str) (i : Int) : ∀ lar : List Batch, dueK lar nm i = keptTo lar nm (1 + i)
  | [] => rfl
  | b :: r => by
    have ih := dueK_eq nm i r
    unfold dueK keptTo at ih ⊢
    rw [List.map_cons, List.sum_cons, ← ih]
    by_cases e : b.name = nm ∧ i < b.last
    · have e2 : b.name = nm ∧ 1 + i ≤ b.last := ⟨e.1, by omega⟩
      simp only [List.filterMap_cons, if_pos e, if_pos e2, List.sum_cons]
    · have e2 : ¬ (b.name = nm ∧ 1 + i ≤ b.last) := fun z => e ⟨z.1, by omega⟩
      simp only [List.filterMap_cons, if_neg e, if_neg e2]
      omega
theorem keptL_eq (lar : List Batch) (nm : Str) : keptL lar nm = (List.range 7).map fun i => dueK lar nm (i : Nat) := by
  unfold keptL
  apply List.map_congr_left
  intro i _
  rw [toDay_kept, dueK_eq]
end Lar
namespace Lar
open PySem PySem.Spec PyProof.Rows L2
/-! ### the greatest of a tuple of ints -/
section
variable {prog : Program} {w : World} {A : Around} {E : Value → Shared → Prop} {s : Shared} {t : Addr}
theorem max_tupI {xs : Array (Int × Tok)} {Q : Value → Shared → Prop} (hh : A.handled = none) (ht : s.heap.IsTuple t (intItems xs)) (h0 : 0 < xs.size)
    (h : ∀ v h' tk, (intItems xs)[argBest (fun i j => decide (numAt xs i > numAt xs j)) (xs.size - 1)]? = some v → (∀ b o, s.heap.get? b = some o → h'.get? b = some o) → Q v { s with heap := h', toks := tk }) :
    wpAny (model prog w) A (call (.builtin "max") [.ref t]) Q E s := by
  obtain ⟨o, ho, hc, n, hd⟩ := id ht
  have hne : t ≠ s.heap.objs.size := Nat.ne_of_lt (Heap.lt_size ho)
  have hsz : (intItems xs).size = xs.size := by simp [intItems]
  have W := (Walks.tuple (prog := prog) (w := w) (A := A.in1) hh s.heap.objs.size t hne (intItems xs)).toS
  rw [hsz] at W
  refine call_max_walkS (wpAny_pyIter_tuple ht ?_)
  refine ⟨s.heap.objs.size, _, _, _, _, _, _, _, rfl, W, ⟨⟨_, Heap.get?_push_size _ rfl, rfl, rfl⟩, ht.at fun o e => Heap.get?_push_of_some _ e⟩, fun b hb => ?_, h0, CmpOf.ints_gt (numAt xs) (fun i v hP => intItems_at hP), fun v s' hP hm => ?_⟩
  · rcases List.mem_cons.mp hb with rfl | hb
    · exact Heap.lt_size (Heap.get?_push_size _ rfl)
    · obtain rfl := List.mem_singleton.mp hb
      exact Heap.lt_size (Heap.get?_push_of_some _ ho)
  · obtain ⟨h', g', d', tk', os'⟩ := s'
    have e1 : g' = s.gens := hm.gens
    have e2 : d' = s.drawn := hm.drawn
    have e3 : os' = s.os := hm.os
    subst e1 e2 e3
    exact h v h' tk' hP fun b o e => hm.heap b o (fun hb => absurd (Heap.lt_size e) ((List.mem_singleton.mp hb) ▸ Nat.lt_irrefl _)) (Heap.get?_push_of_some _ e)
end
section
variable {X : Cx}
/-- max(xs), xs a list or a tuple of ints -/
def rMaxA (K : PySem.W.Frag) : List V → Hp → VK → Prop := fun vs H Q => ∃ (a : Addr) (ns : List Int), vs = [V.ref a] ∧ (SqL K H a (ns.map V.int) ∨ SqT K H a (ns.map V.int)) ∧ 0 < ns.length ∧ ∀ m, m ∈ ns → (∀ y, y ∈ ns → y ≤ m) → Q (.int m) H
theorem kcr_maxA (K : PySem.W.Frag) (hc : X.calm = true) (hK : X.K = K := by rfl) : CallR X (.builtin "max") (rMaxA K) := by
  subst hK
  intro pins s σ H vs us Q I r h
  obtain ⟨a, ns, rfl, hs, hne, q⟩ := h
  rw [Vals.ref1 r]
  rcases hs with hs | hs
  · obtain ⟨its, rv, hl, _⟩ := I.list hs
    exact max_raw (I.ok.hd hc) hl.isList rv.ints hne fun h' tk m t' hk h1 h2 => ⟨.int _, H, I.kept hk, ⟨_, rfl⟩, q m h1 h2⟩
  · obtain ⟨its, rv, hl, _⟩ := I.tuple hs
    have hi : IntsAre its ns := rv.ints
    obtain ⟨xs, e⟩ := hi.allInts.items
    have hn : numsOf (intItems xs).toList = ns := by rw [← e]; exact hi.numsOf
    rw [nums_intItems] at hn
    rw [e] at hl
    have hsz : 0 < xs.size := by rw [← hn] at hne; simpa using hne
    refine max_tupI (I.ok.hd hc) hl hsz fun v h' tk hv hk => ?_
    obtain ⟨t', rfl⟩ := intItems_at hv
    obtain ⟨h1, h2⟩ := argBest_gt (numAt xs) (xs.size - 1)
    refine ⟨.int _, H, I.kept hk, ⟨_, rfl⟩, q _ ?_ fun y hy => ?_⟩
    · rw [numAt_eq, hn]; exact PySem.getD_mem (by rw [← hn, List.length_map, Array.length_toList]; omega)
    · rw [← hn] at hy
      obtain ⟨j, hj, rfl⟩ := mem_getD hy
      rw [List.length_map, Array.length_toList] at hj
      rw [← numAt_eq]; exact h2 j (by omega)
/-- a list's or a tuple's item -/
def rIxA (K : PySem.W.Frag) : R2 := fun x y H Q => ∃ p xs i v, x = .ref p ∧ y = .int i ∧ (SqL K H p xs ∨ SqT K H p xs) ∧ atI xs i = some v ∧ Q v H
theorem kix_seq (K : PySem.W.Frag) (hK : X.K = K := by rfl) : IxR X (rIxA K) := by
  subst hK
  intro value slice pins s σ H x y v u Q I rx ry h hs
  obtain ⟨p, xs, i, z, hx, hy, hq, he, q⟩ := h
  refine (IxR.or ix_list ix_tup) value slice pins s σ H x y v u Q I rx ry ?_ hs
  rcases hq with hq | hq
  · exact .inl ⟨p, xs, i, z, hx, hy, hq, he, q⟩
  · exact .inr ⟨p, xs, i, z, hx, hy, hq, he, q⟩
theorem kop_repT (K : PySem.W.Frag) (hK : X.K = K := by rfl) : OpR X (binaryOp .Mult) (rRepT K) := by subst hK; exact op_repT
end
theorem ixN_of {n j : Nat} {k : Int} (h : k = j) (hj : j < n) : ixN n k = some j := by
  subst h
  unfold ixN
  rw [if_pos (by omega), if_pos (by omega)]; simp
theorem same_none {H H' : Hp} {a : Addr} (s : Same H H') (h : H' a = none) : H a = none := by
  cases e : H a with
  | none => rfl
  | some x => rw [s _ _ e] at h; cases h
/-! ### offers -/
structure Offer where
  size : Int
  price : Int
  last : Int
def OfferAt (H : Hp) (v : V) (o : Offer) : Prop := ∃ t, v = .ref t ∧ H t = some (.tup [.int o.size, .int o.price, .int o.last])
theorem OfferAt.mono : MonoT OfferAt := fun _ _ _ _ e ⟨t, h1, h2⟩ => ⟨t, h1, e _ _ h2⟩
structure GoodOffer (o : Offer) : Prop where
  size1 : 1 ≤ o.size
  size2 : o.size ≤ 200
  price0 : 0 ≤ o.price
  price2 : o.price ≤ 1000000
  last1 : 1 ≤ o.last
  last2 : o.last ≤ 99
/-- a list or a tuple -/
def SqA (K : PySem.W.Frag) (H : Hp) (a : Addr) (xs : List V) : Prop := SqL K H a xs ∨ SqT K H a xs
theorem SqA.l {K : PySem.W.Frag} {H : Hp} {a : Addr} {xs : List V} (h : H a = some (.lst xs)) : SqA K H a xs := .inl (sqL h)
theorem SqA.t {K : PySem.W.Frag} {H : Hp} {a : Addr} {xs : List V} (h : H a = some (.tup xs)) : SqA K H a xs := .inr (sqT h)
theorem SqA.same {K : PySem.W.Frag} {H H' : Hp} {a : Addr} {xs : List V} (h : SqA K H a xs) (e : Same H H') : SqA K H' a xs := by
  rcases h with h | h
  · exact .inl (e.seq h)
  · exact .inr (e.seqT h)
def OffersIn (K : PySem.W.Frag) (H : Hp) (v : V) (os : List Offer) : Prop := ∃ a us, v = .ref a ∧ SqA K H a us ∧ Held OfferAt H us os
theorem OffersIn.same {K : PySem.W.Frag} {H H' : Hp} {v : V} {os : List Offer} (h : OffersIn K H v os) (e : Same H H') : OffersIn K H' v os := by
  obtain ⟨a, us, h1, h2, h3⟩ := h
  exact ⟨a, us, h1, h2.same e, h3.mono OfferAt.mono (SameT.of e)⟩
def IntsIn (K : PySem.W.Frag) (H : Hp) (v : V) (ns : List Int) : Prop := ∃ a, v = .ref a ∧ SqA K H a (ns.map V.int)
theorem IntsIn.same {K : PySem.W.Frag} {H H' : Hp} {v : V} {ns : List Int} (h : IntsIn K H v ns) (e : Same H H') : IntsIn K H' v ns := by
  obtain ⟨a, h1, h2⟩ := h
  exact ⟨a, h1, h2.same e⟩
/-- a tuple of offers -/
abbrev OffersAt : Hp → V → List Offer → Prop := TupAll OfferAt
theorem OffersAt.mono : MonoT OffersAt := TupAll.mono OfferAt.mono
theorem OffersAt.in {K : PySem.W.Frag} {H : Hp} {v : V} {os : List Offer} (h : OffersAt H v os) : OffersIn K H v os := by
  obtain ⟨a, us, h1, h2, h3⟩ := h
  exact ⟨a, us, h1, SqA.t h2, h3⟩
/-! ### plain sums over what is bought -/
def costOf (os : List Offer) (cs : List Int) : Int := ((os.zip cs).map fun p => p.1.price * p.2).sum
def heldZ (zs : List (Offer × Int)) (day : Int) : Int := (zs.map fun p => if day ≤ p.1.last then p.1.size * p.2 else 0).sum
def heldOn (os : List Offer) (cs : List Int) (day : Int) : Int := heldZ (os.zip cs) day
def servesB (os : List Offer) (cs : List Int) (ls : List Int) : Bool := (List.range 7).all fun i => decide (ls.getD i 0 ≤ heldOn os cs (1 + (i : Nat)))
theorem heldZ_snoc (zs : List (Offer × Int)) (p : Offer × Int) (day : Int) : heldZ (zs ++ [p]) day = heldZ zs day + if day ≤ p.1.last then p.1.size * p.2 else 0 := by
  unfold heldZ
  rw [List.map_append, List.sum_append]; simp
theorem heldZ_fm (zs : List (Offer × Int)) (day : Int) : (zs.filterMap fun p => if day ≤ p.1.last then some (p.1.size * p.2) else none).sum = heldZ zs day := by
  unfold heldZ
  induction zs with
  | nil => rfl
  | cons p r ih =>
    rw [List.map_cons, List.sum_cons, ← ih]
    by_cases e : day ≤ p.1.last
    · simp only [List.filterMap_cons, if_pos e, List.sum_cons]
    · simp only [List.filterMap_cons, if_neg e]; omega
theorem zip_ix {α β : Type} {xs : List α} {ys : List β} {i : Nat} {x : α} {y : β} (h1 : xs[i]? = some x) (h2 : ys[i]? = some y) : (xs.zip ys)[i]? = some (x, y) := by
  rw [List.getElem?_zip_eq_some]; exact ⟨h1, h2⟩
theorem ix_zip {α β : Type} {xs : List α} {ys : List β} {i : Nat} {p : α × β} (h : (xs.zip ys)[i]? = some p) : xs[i]? = some p.1 ∧ ys[i]? = some p.2 := by
  rwa [List.getElem?_zip_eq_some] at h
theorem zip_len {α β : Type} {xs : List α} {ys : List β} (h : xs.length = ys.length) : (xs.zip ys).length = xs.length := by
  rw [List.length_zip]; omega
def GoodLs (ls : List Int) : Prop := ls.length = 7 ∧ ∀ x ∈ ls, 0 ≤ x ∧ x ≤ 200
theorem GoodLs.set {ls : List Int} {i : Nat} {z : Int} (h : GoodLs ls) (h0 : 0 ≤ z) (h1 : z ≤ 200) : GoodLs (ls.set i z) := ⟨by rw [List.length_set]; exact h.1, fun x hx => by
  rcases List.mem_or_eq_of_mem_set hx with y | y
  · exact h.2 x y
  · subst y; exact ⟨h0, h1⟩⟩
/-! ### what the program's functions promise -/
def spPriceOf : Sp := fun vs H Q _ => ∃ (v : V) (b : Addr) (os : List Offer) (cs : List Int), vs = [v, .ref b] ∧ OffersAt H v os ∧ H b = some (.tup (cs.map V.int)) ∧ os.length = cs.length ∧ os.length ≤ 1000 ∧ (∀ o ∈ os, GoodOffer o) ∧ (∀ c ∈ cs, 0 ≤ c) ∧
  ∀ H', Same H H' → Q (.int (costOf os cs)) H'
def spServes : Sp := fun vs H Q _ => ∃ (v : V) (b c : Addr) (os : List Offer) (cs ls : List Int), vs = [v, .ref b, .ref c] ∧ OffersAt H v os ∧ H b = some (.tup (cs.map V.int)) ∧ H c = some (.tup (ls.map V.int)) ∧ os.length = cs.length ∧ os.length ≤ 1000 ∧ (∀ o ∈ os, GoodOffer o) ∧ (∀ c ∈ cs, 0 ≤ c) ∧ GoodLs ls ∧
  ∀ H', Same H H' → Q (.bl (servesB os cs ls)) H'
end Lar
namespace Lar
open PySem PySem.Spec PyProof.Rows L2
section
theorem meets_enum1B {v : Value} {o : Obj} {H : Heap → Prop} (B : Begins v o H) :
    Meets (Builtin.«enumerate.__new__» ⟨[.type "enumerate", v], []⟩) (fun _ R s => H s.heap ∧
      R (.ok (.ret (.ref (s.heap.push o).objs.size))) { s with heap := (s.heap.push o).push { cls := .type "enumerate", data := .fields #[.none, .bool false, .ref s.heap.objs.size, rawInt 0, .none, .none] } }) :=
  .of_wp fun prog w A R s h => by
    obtain ⟨hp, g, d, tk, os⟩ := s; obtain ⟨h1, h⟩ := h
    have hsub := sub_enumerate
    have q1 : ∀ {A' : Around} {E : Value → Shared → Prop} {Q : Value → Shared → Prop}, Q (.ref hp.objs.size) ⟨hp.push o, g, d, tk, os⟩ → wpAny (model prog w) A' (pyIter v) Q E ⟨hp, g, d, tk, os⟩ :=
      fun q => B.iter prog w _ _ ⟨hp, g, d, tk, os⟩ _ h1 q
    wp_walk using q1
    refine wpAny_stack_any fun st => wpAny_pure ?_
    split
    · rename_i c _ _ _ _ _
      cases (c == Value.type "enumerate")
      · wp_walk using q1
        exact ⟨_, rfl, h⟩
      · wp_walk using q1
        exact ⟨_, rfl, h⟩
    · wp_walk using q1
      exact ⟨_, rfl, h⟩
end
end Lar
namespace Lar
open PySem PySem.Spec PyProof.Rows L2
/-! ### enumerate over a tuple, from a number on -/
section
variable {prog : Program} {w : World} {A : Around} {E : Value → Shared → Prop} {s : Shared}
theorem enum_begins1 {v : Value} {o : Obj} {H : Heap → Prop} {Q : Value → Shared → Prop} (B : Begins v o H) (h1 : H s.heap)
    (h : ∀ h', IsEnum h' (s.heap.objs.size + 1) s.heap.objs.size 0 .none → h'.get? s.heap.objs.size = some o → h'.objs.size = s.heap.objs.size + 2 →
      (∀ b o, s.heap.get? b = some o → h'.get? b = some o) → Q (.ref (s.heap.objs.size + 1)) { s with heap := h' }) :
    wpAny (model prog w) A (call (.type "enumerate") [v]) Q E s := by
  refine callType_new F.called_enumerate (by decide) (F.typeCall_enumerate_1 _) (F.newCall_enumerate_1 _) (fun obj => F.args_object_init_2 obj _) F.entry_enumerate_new
    (meets_enum1B B) ⟨h1, ?_⟩
  have hz : (s.heap.push o).objs.size = s.heap.objs.size + 1 := Heap.size_push ..
  show _ ∧ _
  rw [hz]
  have he : IsEnum ((s.heap.push o).push { cls := .type "enumerate", data := .fields #[.none, .bool false, .ref s.heap.objs.size, rawInt 0, .none, .none] }) (s.heap.objs.size + 1) s.heap.objs.size 0 .none := by
    have := Heap.get?_push_size (s.heap.push o) (o := { cls := .type "enumerate", data := .fields #[.none, .bool false, .ref s.heap.objs.size, rawInt 0, .none, .none] }) rfl
    rw [hz] at this; exact this
  refine ⟨⟨_, he, rfl⟩, h _ he (Heap.get?_push_of_some _ (Heap.get?_push_size _ B.free)) (by rw [Heap.size_push, hz]) fun b o x => Heap.get?_push_of_some _ (Heap.get?_push_of_some _ x)⟩
theorem callWith_typeKw {M : Model} {E : Value → Shared → Prop} {env : Env} {pos : Pos} {T : String} {e : Expr} {rest : List Expr} {kws : List Keyword} {Q : Value → Shared → Prop}
    (h : wpAny M A (spliced (backTo pos (starEach (e :: rest) env))) (fun vs s₁ => wpAny M A (evalAll ((backToKw pos (keywordEach kws env)).map (·.2)))
      (fun kvs s₂ => wpAny M A (call (.type T) vs (((backToKw pos (keywordEach kws env)).filterMap (·.1)).zip kvs)) Q E s₂) E s₁) E s)
    (he : backTo pos (starEach (e :: rest) env) = (false, eval e env) :: backTo pos (starEach rest env) := by rfl)
    (hplain : (backTo pos (starEach (e :: rest) env)).any (·.1) = false := by rfl)
    (hall : (backToKw pos (keywordEach kws env)).all (·.1.isSome) = true := by rfl)
    (hkw : (backToKw pos (keywordEach kws env)).any (·.1.isNone) = false := by rfl) :
    wpAny M A (callWith pos (.type T) [] (backTo pos (starEach (e :: rest) env)) (backToKw pos (keywordEach kws env))) Q E s := by
  have h2 : wpAny M A (evalArgs (.type T) true (backTo pos (starEach (e :: rest) env)) (backToKw pos (keywordEach kws env))) (fun a s₁ => wpAny M A (call (.type T) ([] ++ a.pos) a.kw) Q E s₁) E s := by
    rw [he] at h ⊢
    exact evalArgs_kwB hall h
  unfold callWith
  refine wpAny_bind (wpAny_holding (wpAny_mono h2 (fun a s₁ h₁ => wpAny_bind (wpAny_standAt ?_)) fun _ _ x => x))
  simp only [hplain, hkw, Bool.or_false]
  refine wpAny_bind (wpAny_pure ?_)
  exact wpAny_bind (wpAny_mono h₁ (fun r s₂ hr => wpAny_bind (wpAny_holding (wpAny_point (wpAny_pure hr)))) fun _ _ x => x)
end
/-- the tuple at a, each item in a new pair behind its number, from lo on -/
def IteT (K : PySem.W.Frag) (lo : Int) (a : Addr) : It :=
  ⟨fun i H => ∃ (xs : List V) (x : V), SqT K H a xs ∧ xs[i]? = some x, fun i H v H' => ∃ T x, v = .ref T ∧ H T = none ∧ H' = upd H T (.tup [.int (lo + (i : Nat)), x]) ∧ ∀ xs, SqT K H a xs → xs[i]? = some x, fun i H => ∃ xs : List V, SqT K H a xs ∧ xs.length = i⟩
theorem tup_ne {h : Heap} {a e : Addr} {its : Array Value} {o : Obj} (p : h.IsTuple a its) (he : h.get? e = some o) (hc : o.cls ≠ .type "tuple") : e ≠ a := by
  rintro rfl
  obtain ⟨o', ho, c, _⟩ := p
  rw [he] at ho
  cases ho
  exact hc c
theorem turn_enumT {P : Program} {w : World} {K : PySem.W.Frag} {elts : List Expr} {kk : Nat} {tpos : Pos} (lo : Int) (a e it : Addr) :
    Turn P w K (.Tuple elts kk tpos) (IteT K lo a) [e, it] e (fun i h => (∃ old, IsEnum h e it (lo + (i : Nat)) old) ∧ h.IsTupleIter it a i ∧ e ≠ it) where
  mem := by simp
  obj := fun i h st b hb => by
    obtain ⟨⟨old, he⟩, ⟨o, ho, hc, hd⟩, _⟩ := st
    have e' : b = e ∨ b = it := by simpa using hb
    rcases e' with z | z
    · rw [z]; exact ⟨_, he, fun v q => nomatch q⟩
    · rw [z]; exact ⟨o, ho, fun v q => by rw [hd] at q; cases q⟩
  keep := fun i h h' st k => let ⟨⟨old, he⟩, hi, hne⟩ := st; ⟨⟨old, k e (by simp) _ he⟩, hi.at fun o q => k it (by simp) o q, hne⟩
  item := by
    intro X hP hw hK hc i pins s σ H E I hf st hg
    subst hP hw hK
    obtain ⟨⟨old, he⟩, hit, hne⟩ := st
    obtain ⟨xs, x, hq, hx⟩ := hg
    obtain ⟨its, rv, p, hz⟩ := I.tuple hq
    have pT : s.heap.IsTuple a its.toArray := p
    obtain ⟨u, hu, ru⟩ := rv.get hx
    have hel : e < s.heap.objs.size := Heap.lt_size he
    have hil : it < s.heap.objs.size := by obtain ⟨_, q, _⟩ := hit; exact Heap.lt_size q
    have hea : e ≠ a := tup_ne pT he (fun z => absurd z (by simp))
    have hia : it ≠ a := by
      obtain ⟨o, ho, hcl, _⟩ := id hit
      exact tup_ne pT ho (fun z => by rw [hcl] at z; simp at z)
    have hin : i < its.toArray.size := by
      have := (List.getElem?_eq_some_iff.mp hu).1
      simpa using this
    refine wpAny_pyNext_enum_itemC (Draws.tuple (A := X.A.in1) (show X.A.in1.handled = none from I.ok.hd hc) it a (Ne.symm hia) its.toArray) he ⟨hit, pT⟩ hin hne (by simp [hne, hea]) fun y h' tk hy ho hst hT hsz hk => ?_
    have ey : y = u := by
      have h1 : its.toArray[i]? = some u := by simpa using hu
      rw [h1] at hy
      exact (Option.some.inj hy).symm
    subst ey
    refine ⟨_, rfl, wpAny_letOwnedTupleGo_enum (s := { s with heap := h', toks := tk + 1 }) ho fun h'' he' sb => ?_⟩
    have hT2 : h''.get? s.heap.objs.size = some { cls := .type "tuple", data := .seq #[.int (lo + (i : Nat)) tk, y] } := (sb.2 _ (Nat.ne_of_gt hel)).trans hT
    have new : ObjOk X.prog X.w (upd H s.heap.objs.size (.tup [.int (lo + (i : Nat)), x])) h'' s.heap.objs.size (.tup [.int (lo + (i : Nat)), x]) :=
      ⟨by show 2 ≤ sizeLine; decide, [.int (lo + (i : Nat)) tk, y], .cons ⟨_, rfl⟩ (.cons ru .nil), ⟨_, hT2, rfl, _, rfl⟩⟩
    have I1 : Inv X pins σ (upd H s.heap.objs.size (.tup [.int (lo + (i : Nat)), x])) { s with heap := h'', toks := tk + 1 } :=
      I.turnedNew (ch := [e, it]) (fun b ob hb q => (sb.2 b (fun z => hb (by simp [z]))).trans (hk b ob (fun z => hb (by simp [z])) (fun z => hb (by simp [z])) q)) hf (Nat.le_refl _) new
    refine ⟨.ref s.heap.objs.size, _, I1, rfl, ⟨_, x, rfl, I.hok.fresh (Nat.le_refl _), rfl, fun ys hy => by rw [I.tuple_inj hy hq]; exact hx⟩, ⟨⟨y, ?_⟩, hst.1.at fun o q => (sb.2 it (Ne.symm hne)).trans q, hne⟩, fun b hb => ?_⟩
    · have e1 : lo + ((i + 1 : Nat) : Int) = lo + (i : Int) + 1 := by omega
      rw [e1]; exact he'
    · have hb' : b < s.heap.objs.size := by
        have e' : b = e ∨ b = it := by simpa using hb
        rcases e' with z | z
        · rw [z]; exact hel
        · rw [z]; exact hil
      rw [upd_ne (Nat.ne_of_lt hb')]
      exact (hf b hb).1
  done := by
    intro X hP hw hK hc i pins s σ H E I hf st hg
    subst hP hw hK
    obtain ⟨⟨old, he⟩, hit, hne⟩ := st
    obtain ⟨xs, hq, hx⟩ := hg
    obtain ⟨its, rv, p, hz⟩ := I.tuple hq
    have pT : s.heap.IsTuple a its.toArray := p
    obtain ⟨f0, f1, f2, f3, f4, f5⟩ := hf it (by simp)
    have hl := rv.length
    have hia : it ≠ a := by
      obtain ⟨o, ho, hcl, _⟩ := id hit
      exact tup_ne pT ho (fun z => by rw [hcl] at z; simp at z)
    have en : i = its.toArray.size := by simp; omega
    refine wpAny_pyNext_enum_endD (Draws.tuple (A := X.A.in1) (show X.A.in1.handled = none from I.ok.hd hc) it a (Ne.symm hia) its.toArray) he (by rw [← en]; exact ⟨hit, pT⟩) fun h' eb => ⟨rfl, I.turned (t' := s.toks) (fun b o hb q => eb b o hb q) f0 f1 f3 f4 f5⟩
  self := fun A i s Q E st h => let ⟨⟨_, he⟩, _⟩ := st; wpAny_pyIter_enum he h
def iEnumT (K : PySem.W.Frag) (ta : TA) : TI := fun σ H R => ta σ H fun vs H1 => ∃ a xs, vs = [.ref a] ∧ SqT K H1 a xs ∧ R (IteT K 0 a) H1
theorem kpi_enumT {X : Cx} (K : PySem.W.Frag) {e : Expr} {ta : TA} {p pos tpos : Pos} {elts : List Expr} {kk : Nat} (hg : Gl X "enumerate") (hm : X.mg "enumerate" = none) (ha : PA X [e] ta) (hK : X.K = K := by rfl) (hs : starEach [e] X.env = [(false, eval e X.env)] := by rfl) :
    PI X (.Tuple elts kk tpos) (.Call (.Name "enumerate" p) [e] [] pos) (iEnumT K ta) := by
  subst hK
  refine ⟨fun pins s σ H R I h => ?_⟩
  refine Call_ (ld_blt I hg hm boot_enumerate (PyProof.Rows.callWith_type1 (thn (ha.run pos pins s σ H _ I h) fun us s1 ⟨vs, H1, I1, r1, q1⟩ => ?_) hs rfl))
  obtain ⟨a, xs, ex, hq, q⟩ := q1
  subst ex
  cases r1 with
  | cons r rr =>
    cases rr
    cases r
    obtain ⟨its, rv, p', hz⟩ := I1.tuple hq
    have pT : s1.heap.IsTuple a its.toArray := p'
    refine enum_begins1 (begins_tuple a its.toArray) pT fun h' he hit hsz hk => wpAny_pyIter_enum he ?_
    have I2 : Inv X pins σ H1 { s1 with heap := h' } := I1.kept (t' := s1.toks) hk
    refine ⟨s1.heap.objs.size + 1, [s1.heap.objs.size + 1, s1.heap.objs.size], _, _, H1, rfl, I2, turn_enumT 0 a (s1.heap.objs.size + 1) s1.heap.objs.size, ⟨⟨.none, he⟩, ⟨_, hit, rfl, rfl⟩, Nat.succ_ne_self _⟩, fun b hb => ?_, q⟩
    have e' : b = s1.heap.objs.size + 1 ∨ b = s1.heap.objs.size := by simpa using hb
    have hle : s1.heap.objs.size ≤ b := by
      rcases e' with z | z
      · rw [z]; exact Nat.le_add_right _ _
      · rw [z]; exact Nat.le_refl _
    exact I1.fpOk hle (I1.hok.fresh hle)
/-- enumerate(e, start=n) -/
def iEnumS (K : PySem.W.Frag) (n : Int) (ta : TA) : TI := fun σ H R => ta σ H fun vs H1 => ∃ a xs, vs = [.ref a] ∧ SqT K H1 a xs ∧ R (IteT K n a) H1
theorem kpi_enumS {X : Cx} (K : PySem.W.Frag) {e : Expr} {ta : TA} {p pos tpos kpos npos : Pos} {knd : Nat} {elts : List Expr} {kk : Nat} {n : Int} (hg : Gl X "enumerate") (hm : X.mg "enumerate" = none) (ha : PA X [e] ta) (h0 : -(2 ^ 63) ≤ n) (h1 : n < 2 ^ 63) (hK : X.K = K := by rfl)
    (he : backTo pos (starEach [e] X.env) = (false, eval e X.env) :: backTo pos (starEach [] X.env) := by rfl) (hpl : (backTo pos (starEach [e] X.env)).any (·.1) = false := by rfl) :
    PI X (.Tuple elts kk tpos) (.Call (.Name "enumerate" p) [e] [⟨some "start", .Constant (.int n) knd npos, kpos⟩] pos) (iEnumS K n ta) := by
  subst hK
  refine ⟨fun pins s σ H R I h => ?_⟩
  refine wpAny_Call_Name_kw (ld_blt I hg hm boot_enumerate (callWith_typeKw (T := "enumerate") (thn (ha.run pos pins s σ H _ I h) fun us s1 ⟨vs, H1, I1, r1, q1⟩ => ?_) he hpl))
  obtain ⟨a, xs, ex, hq, q⟩ := q1
  subst ex
  cases r1 with
  | cons r rr =>
    cases rr
    cases r
    obtain ⟨its, rv, p', hz⟩ := I1.tuple hq
    have pT : s1.heap.IsTuple a its.toArray := p'
    refine kws_cons (wpAny_Constant_int (kws_nil ?_))
    refine enum_begins_start (s := { s1 with toks := _ }) (begins_tuple a its.toArray) pT h0 h1 fun h' he hit hsz hk => wpAny_pyIter_enum he ?_
    have I2 : Inv X pins σ H1 { s1 with heap := h', toks := _ } := I1.kept (t' := s1.toks + 1) hk
    refine ⟨s1.heap.objs.size + 1, [s1.heap.objs.size + 1, s1.heap.objs.size], _, _, H1, rfl, I2, turn_enumT n a (s1.heap.objs.size + 1) s1.heap.objs.size, ⟨⟨.none, ?_⟩, ⟨_, hit, rfl, rfl⟩, Nat.succ_ne_self _⟩, fun b hb => ?_, q⟩
    · have e1 : n + ((0 : Nat) : Int) = n := by simp
      rw [e1]; exact he
    have e' : b = s1.heap.objs.size + 1 ∨ b = s1.heap.objs.size := by simpa using hb
    have hle : s1.heap.objs.size ≤ b := by
      rcases e' with z | z
      · rw [z]; exact Nat.le_add_right _ _
      · rw [z]; exact Nat.le_refl _
    exact I1.fpOk hle (I1.hok.fresh hle)
/-- its walk -/
theorem walk_enumT {K : PySem.W.Frag} {lo : Int} {a : Addr} {xs : List V} : Walk (IteT K lo a) xs.length (fun H => SqT K H a xs) (YPair (fun i => some (.int (lo + (i : Nat)))) (fun i => xs[i]?)) := by
  refine ⟨fun i _ hi q => ⟨xs, xs[i], q, by simp [hi]⟩, fun _ q => ⟨xs, q, rfl⟩, fun i H v H' _ q y => ?_⟩
  obtain ⟨T, x, h1, h2, h3, h4⟩ := y
  exact ⟨T, .int (lo + (i : Nat)), x, h1, h2, h3, rfl, h4 xs q⟩
end Lar
namespace Lar
open PySem PySem.Spec PyProof.Rows L2
theorem kcr_all {X : Cx} (K : PySem.W.Frag) (hc : X.calm = true) (hK : X.K = K := by rfl) : CallR X (.builtin "all") (rAll K) := by subst hK; exact cr_all hc
def spHeld : Sp := fun vs H Q _ => ∃ (v : V) (b : Addr) (os : List Offer) (cs : List Int) (day : Int), vs = [v, .ref b, .int day] ∧ OffersAt H v os ∧ H b = some (.tup (cs.map V.int)) ∧ os.length = cs.length ∧ os.length ≤ 1000 ∧ (∀ o ∈ os, GoodOffer o) ∧
  ∀ H', Same H H' → Q (.int (heldOn os cs day)) H'
end Lar
namespace Lar
/-! ### sums weighed by counts -/
def wsum (f : Offer → Int) (os : List Offer) (cs : List Int) : Int := ((os.zip cs).map fun p => f p.1 * p.2).sum
theorem wsum_nil (f : Offer → Int) (cs : List Int) : wsum f [] cs = 0 := by simp [wsum]
theorem wsum_cons (f : Offer → Int) (o : Offer) (os : List Offer) (c : Int) (cs : List Int) : wsum f (o :: os) (c :: cs) = f o * c + wsum f os cs := by simp [wsum]
theorem costOf_w (os : List Offer) (cs : List Int) : costOf os cs = wsum Offer.price os cs := rfl
def onto (day : Int) (o : Offer) : Int := if day ≤ o.last then o.size else 0
theorem heldOn_w (os : List Offer) (cs : List Int) (day : Int) : heldOn os cs day = wsum (onto day) os cs := by
  unfold heldOn heldZ wsum
  congr 1
  apply List.map_congr_left
  intro p _
  unfold onto
  split
  · rfl
  · simp
/-- one more of the k-th -/
theorem wsum_set (f : Offer → Int) (z : Int) : ∀ (os : List Offer) (cs : List Int) (k : Nat) (o : Offer) (c : Int), os[k]? = some o → cs[k]? = some c → wsum f os (cs.set k (c + z)) = wsum f os cs + f o * z
  | [], _, k, _, _, h, _ => by simp at h
  | _ :: _, [], k, _, _, _, h => by simp at h
  | o' :: os, c' :: cs, 0, o, c, h1, h2 => by
    have e1 : o' = o := by simpa using h1
    have e2 : c' = c := by simpa using h2
    subst e1 e2
    rw [List.set_cons_zero, wsum_cons, wsum_cons, Int.mul_add]
    omega
  | o' :: os, c' :: cs, k + 1, o, c, h1, h2 => by
    rw [List.set_cons_succ, wsum_cons, wsum_cons, wsum_set f z os cs k o c (by simpa using h1) (by simpa using h2)]
    omega
theorem wsum_nonneg (f : Offer → Int) : ∀ (os : List Offer) (cs : List Int), (∀ o ∈ os, 0 ≤ f o) → (∀ c ∈ cs, 0 ≤ c) → 0 ≤ wsum f os cs
  | [], cs, _, _ => by rw [wsum_nil]; decide
  | _ :: _, [], _, _ => by simp [wsum]
  | o :: os, c :: cs, h1, h2 => by
    rw [wsum_cons]
    have a := wsum_nonneg f os cs (fun x hx => h1 x (List.mem_cons_of_mem _ hx)) (fun x hx => h2 x (List.mem_cons_of_mem _ hx))
    have b := Int.mul_nonneg (h1 o List.mem_cons_self) (h2 c List.mem_cons_self)
    omega
/-- where no counted one tells f and g apart -/
theorem wsum_congr (f g : Offer → Int) : ∀ (os : List Offer) (cs : List Int), (∀ (k : Nat) o c, os[k]? = some o → cs[k]? = some c → c ≠ 0 → f o = g o) → wsum f os cs = wsum g os cs
  | [], cs, _ => by rw [wsum_nil, wsum_nil]
  | _ :: _, [], _ => by simp [wsum]
  | o :: os, c :: cs, h => by
    rw [wsum_cons, wsum_cons, wsum_congr f g os cs (fun k o' c' h1 h2 => h (k + 1) o' c' (by simpa using h1) (by simpa using h2))]
    by_cases e : c = 0
    · subst e; simp
    · rw [h 0 o c rfl rfl e]
theorem wsum_zero (f : Offer → Int) : ∀ (os : List Offer) (cs : List Int), (∀ (k : Nat) o c, os[k]? = some o → cs[k]? = some c → c ≠ 0 → f o = 0) → wsum f os cs = 0
  | [], cs, _ => wsum_nil _ _
  | _ :: _, [], _ => by simp [wsum]
  | o :: os, c :: cs, h => by
    rw [wsum_cons, wsum_zero f os cs (fun k o' c' h1 h2 => h (k + 1) o' c' (by simpa using h1) (by simpa using h2))]
    by_cases e : c = 0
    · subst e; simp
    · rw [h 0 o c rfl rfl e]; simp
theorem wsum_zeros (f : Offer → Int) (os : List Offer) (n : Nat) : wsum f os (List.replicate n 0) = 0 := wsum_zero f _ _ fun k o c _ h2 hc => by
  rw [List.getElem?_replicate] at h2
  split at h2
  · exact absurd (Option.some.inj h2).symm hc
  · cases h2
/-! ### what a table is -/
def dayOf (o : Offer) : Int := if o.last < 7 then o.last else 7
def lackAt (ls : List Int) (d : Nat) : Nat := (ls.getD (d - 1) 0).toNat
def cellT (rows : List (List (Option Int))) (d a : Nat) : Option Int := (rows.getD (d - 1) []).getD a none
def goT (ls : List Int) (rows : List (List (Option Int))) (d a : Nat) : Option Int := if d < 7 then cellT rows (d + 1) (max a (lackAt ls (d + 1))) else if a = 0 then some 0 else none
structure IsTable (os : List Offer) (ls : List Int) (M : Nat) (rows : List (List (Option Int))) : Prop where
  len : rows.length = 7
  each : ∀ r ∈ rows, r.length = M + 1
  most : ∀ d : Nat, lackAt ls d ≤ M
  from_ : ∀ (d a : Nat) (c : Int), 1 ≤ d → d ≤ 7 → a ≤ M → cellT rows d a = some c → goT ls rows d a = some c ∨ (0 < a ∧ ∃ o r, o ∈ os ∧ dayOf o = d ∧ cellT rows d (a - o.size.toNat) = some r ∧ c = r + o.price)
  go : ∀ (d a : Nat) (g : Int), 1 ≤ d → d ≤ 7 → a ≤ M → goT ls rows d a = some g → ∃ c, cellT rows d a = some c ∧ c ≤ g
  take : ∀ (d a : Nat) (o : Offer) (r : Int), 1 ≤ d → d ≤ 7 → a ≤ M → 0 < a → o ∈ os → dayOf o = d → cellT rows d (a - o.size.toNat) = some r → ∃ c, cellT rows d a = some c ∧ c ≤ r + o.price
theorem day_on {o : Offer} {d : Nat} (h : dayOf o = d) (h1 : 1 ≤ d) : ∀ e : Nat, e ≤ d → onto e o = o.size := fun e he => by
  unfold onto
  rw [if_pos]
  unfold dayOf at h
  split at h <;> omega
theorem onto_next {o : Offer} {d : Nat} (h : dayOf o ≠ d) (hd : d < 7) : onto d o = onto ((d + 1 : Nat) : Int) o := by
  unfold onto
  unfold dayOf at h
  have : ((d : Int) ≤ o.last) ↔ (((d + 1 : Nat) : Int) ≤ o.last) := by
    split at h <;> omega
  by_cases e : (d : Int) ≤ o.last
  · rw [if_pos e, if_pos (this.mp e)]
  · rw [if_neg e, if_neg (fun z => e (this.mpr z))]
theorem onto_last {o : Offer} (h : dayOf o ≠ (7 : Nat)) : onto ((7 : Nat) : Int) o = 0 := by
  unfold onto
  unfold dayOf at h
  rw [if_neg]
  split at h <;> omega
theorem onto_nonneg {o : Offer} (g : GoodOffer o) (e : Int) : 0 ≤ onto e o := by
  unfold onto
  split
  · have := g.size1; omega
  · decide
theorem ix_mem {α : Type} {xs : List α} {k : Nat} {x : α} (h : xs[k]? = some x) : x ∈ xs := List.mem_of_getElem? h
section
variable {os : List Offer} {ls : List Int} {M : Nat} {rows : List (List (Option Int))}
/-- the sum of the counts -/
def sumC (cs : List Int) : Nat := (cs.map Int.toNat).sum
theorem sumC_set : ∀ (cs : List Int) (k : Nat) (c : Int), cs[k]? = some c → 0 < c → sumC (cs.set k (c + -1)) + 1 = sumC cs
  | [], k, c, h, _ => by simp at h
  | c' :: cs, 0, c, h, hc => by
    have e : c' = c := by simpa using h
    subst e
    unfold sumC
    rw [List.set_cons_zero, List.map_cons, List.sum_cons, List.map_cons, List.sum_cons]
    omega
  | c' :: cs, k + 1, c, h, hc => by
    have ih := sumC_set cs k c (by simpa using h) hc
    unfold sumC at ih ⊢
    rw [List.set_cons_succ, List.map_cons, List.sum_cons, List.map_cons, List.sum_cons]
    omega
theorem nn_set {cs : List Int} {k : Nat} {z : Int} (h : ∀ c ∈ cs, 0 ≤ c) (hz : 0 ≤ z) : ∀ c ∈ cs.set k z, 0 ≤ c := fun c hc => by
  rcases List.mem_or_eq_of_mem_set hc with y | y
  · exact h c y
  · omega
/-- no buying undercuts a cell -/
theorem under (T : IsTable os ls M rows) (hg : ∀ o ∈ os, GoodOffer o) {fs : List Offer} (hf : ∀ o ∈ fs, o ∈ os) :
    ∀ (j n d a : Nat) (cs : List Int), d + j = 7 → 1 ≤ d → sumC cs = n → (∀ c ∈ cs, 0 ≤ c) → a ≤ M → (a : Int) ≤ heldOn fs cs d → (∀ e : Nat, d < e → e ≤ 7 → (lackAt ls e : Int) ≤ heldOn fs cs e) →
      ∃ c, cellT rows d a = some c ∧ c ≤ costOf fs cs := by
  intro j
  induction j with
  | zero =>
    intro n
    induction n with
    | zero =>
      intro d a cs hd h1 hs hn ha hh hb
      have hd7 : d = 7 := by omega
      subst hd7
      have z : ∀ (k : Nat) o c, fs[k]? = some o → cs[k]? = some c → c ≠ 0 → onto ((7 : Nat) : Int) o = 0 := fun k o c _ h2 hc => by
        exfalso
        have hpos : 0 < c := by have := hn c (ix_mem h2); omega
        have := sumC_set cs k c h2 hpos
        omega
      rw [heldOn_w, wsum_zero _ _ _ z] at hh
      have ha0 : a = 0 := by omega
      subst ha0
      obtain ⟨c, e, l⟩ := T.go 7 0 0 (by decide) (by decide) (Nat.zero_le _) rfl
      refine ⟨c, e, Int.le_trans l ?_⟩
      rw [costOf_w]
      exact wsum_nonneg _ _ _ (fun o ho => (hg o (hf o ho)).price0) hn
    | succ n ih =>
      intro d a cs hd h1 hs hn ha hh hb
      have hd7 : d = 7 := by omega
      subst hd7
      by_cases ex : ∃ (k : Nat) (o : Offer) (c : Int), fs[k]? = some o ∧ cs[k]? = some c ∧ 0 < c ∧ dayOf o = (7 : Nat)
      · obtain ⟨k, o, c, ho, hc, hp, hdo⟩ := ex
        have g := hg o (hf o (ix_mem ho))
        have hs' := sumC_set cs k c hc hp
        have hheld := wsum_set (onto ((7 : Nat) : Int)) (-1) fs cs k o c ho hc
        have hcost := wsum_set Offer.price (-1) fs cs k o c ho hc
        rw [day_on hdo (by decide) 7 (Nat.le_refl _)] at hheld
        have hw0 := wsum_nonneg (onto ((7 : Nat) : Int)) fs (cs.set k (c + -1)) (fun x hx => onto_nonneg (hg x (hf x hx)) _) (nn_set hn (by omega))
        have g1 := g.size1
        have g0 := g.price0
        obtain ⟨r, er, lr⟩ := ih 7 (a - o.size.toNat) (cs.set k (c + -1)) hd h1 (by omega) (nn_set hn (by omega)) (by omega) (by rw [heldOn_w, hheld]; rw [heldOn_w] at hh; omega) (fun e h7 h8 => by omega)
        rw [costOf_w, hcost] at lr
        by_cases ha0 : a = 0
        · subst ha0
          rw [Nat.zero_sub] at er
          refine ⟨r, er, ?_⟩
          rw [costOf_w]
          omega
        · obtain ⟨c', e', l'⟩ := T.take 7 a o r (by decide) (by decide) ha (by omega) (hf o (ix_mem ho)) hdo er
          refine ⟨c', e', ?_⟩
          rw [costOf_w]
          omega
      · have z : ∀ (k : Nat) o c, fs[k]? = some o → cs[k]? = some c → c ≠ 0 → onto ((7 : Nat) : Int) o = 0 := fun k o c h1 h2 hc => by
          have hpos : 0 < c := by have := hn c (ix_mem h2); omega
          exact onto_last fun e => ex ⟨k, o, c, h1, h2, hpos, e⟩
        rw [heldOn_w, wsum_zero _ _ _ z] at hh
        have ha0 : a = 0 := by omega
        subst ha0
        obtain ⟨c, e, l⟩ := T.go 7 0 0 (by decide) (by decide) (Nat.zero_le _) rfl
        refine ⟨c, e, Int.le_trans l ?_⟩
        rw [costOf_w]
        exact wsum_nonneg _ _ _ (fun o ho => (hg o (hf o ho)).price0) hn
  | succ j jh =>
    intro n
    induction n with
    | zero =>
      intro d a cs hd h1 hs hn ha hh hb
      have z : ∀ (k : Nat) o c, fs[k]? = some o → cs[k]? = some c → c ≠ 0 → onto (d : Int) o = onto ((d + 1 : Nat) : Int) o := fun k o c _ h2 hc => by
        exfalso
        have hpos : 0 < c := by have := hn c (ix_mem h2); omega
        have := sumC_set cs k c h2 hpos
        omega
      rw [heldOn_w, wsum_congr _ _ _ _ z, ← heldOn_w] at hh
      have hl := hb (d + 1) (by omega) (by omega)
      have hm := T.most (d + 1)
      obtain ⟨c, e, l⟩ := jh 0 (d + 1) (max a (lackAt ls (d + 1))) cs (by omega) (by omega) hs hn (by omega) (by omega) (fun e h7 h8 => hb e (by omega) h8)
      have eg : goT ls rows d a = some c := by unfold goT; rw [if_pos (by omega)]; exact e
      obtain ⟨c', e', l'⟩ := T.go d a c h1 (by omega) ha eg
      exact ⟨c', e', by omega⟩
    | succ n ih =>
      intro d a cs hd h1 hs hn ha hh hb
      by_cases ex : ∃ (k : Nat) (o : Offer) (c : Int), fs[k]? = some o ∧ cs[k]? = some c ∧ 0 < c ∧ dayOf o = d
      · obtain ⟨k, o, c, ho, hc, hp, hdo⟩ := ex
        have g := hg o (hf o (ix_mem ho))
        have hs' := sumC_set cs k c hc hp
        have hheld := wsum_set (onto (d : Int)) (-1) fs cs k o c ho hc
        have hcost := wsum_set Offer.price (-1) fs cs k o c ho hc
        rw [day_on hdo h1 d (Nat.le_refl _)] at hheld
        have hw0 := wsum_nonneg (onto (d : Int)) fs (cs.set k (c + -1)) (fun x hx => onto_nonneg (hg x (hf x hx)) _) (nn_set hn (by omega))
        have g1 := g.size1
        have g0 := g.price0
        obtain ⟨r, er, lr⟩ := ih d (a - o.size.toNat) (cs.set k (c + -1)) hd h1 (by omega) (nn_set hn (by omega)) (by omega) (by rw [heldOn_w, hheld]; rw [heldOn_w] at hh; omega) (fun e h7 h8 => by
          have hb' := hb e h7 h8
          have hx := wsum_set (onto (e : Int)) (-1) fs cs k o c ho hc
          have : onto (e : Int) o = 0 := by
            unfold onto
            rw [if_neg]
            unfold dayOf at hdo
            split at hdo <;> omega
          rw [this] at hx
          rw [heldOn_w, hx]
          rw [heldOn_w] at hb'
          omega)
        rw [costOf_w, hcost] at lr
        by_cases ha0 : a = 0
        · subst ha0
          rw [Nat.zero_sub] at er
          refine ⟨r, er, ?_⟩
          rw [costOf_w]
          omega
        · obtain ⟨c', e', l'⟩ := T.take d a o r h1 (by omega) ha (by omega) (hf o (ix_mem ho)) hdo er
          refine ⟨c', e', ?_⟩
          rw [costOf_w]
          omega
      · have z : ∀ (k : Nat) o c, fs[k]? = some o → cs[k]? = some c → c ≠ 0 → onto (d : Int) o = onto ((d + 1 : Nat) : Int) o := fun k o c h1 h2 hc => by
          have hpos : 0 < c := by have := hn c (ix_mem h2); omega
          exact onto_next (fun e => ex ⟨k, o, c, h1, h2, hpos, e⟩) (by omega)
        rw [heldOn_w, wsum_congr _ _ _ _ z, ← heldOn_w] at hh
        have hl := hb (d + 1) (by omega) (by omega)
        have hm := T.most (d + 1)
        obtain ⟨c, e, l⟩ := jh (n + 1) (d + 1) (max a (lackAt ls (d + 1))) cs (by omega) (by omega) hs hn (by omega) (by omega) (fun e h7 h8 => hb e (by omega) h8)
        have eg : goT ls rows d a = some c := by unfold goT; rw [if_pos (by omega)]; exact e
        obtain ⟨c', e', l'⟩ := T.go d a c h1 (by omega) ha eg
        exact ⟨c', e', by omega⟩
end
end Lar
namespace Lar
section
variable {os : List Offer} {ls : List Int} {M : Nat} {rows rows2 : List (List (Option Int))}
/-! ### one table alone -/
theorem tab_le (T : IsTable os ls M rows) (U : IsTable os ls M rows2) (hg : ∀ o ∈ os, GoodOffer o) :
    ∀ (j d : Nat), d + j = 7 → 1 ≤ d → ∀ (n a : Nat) (c : Int), a ≤ n → a ≤ M → cellT rows d a = some c → ∃ c', cellT rows2 d a = some c' ∧ c' ≤ c := by
  intro j
  induction j with
  | zero =>
    intro d hd h1 n
    induction n with
    | zero =>
      intro a c hn ha hc
      have hd7 : d = 7 := by omega
      have ha0 : a = 0 := by omega
      subst hd7 ha0
      rcases T.from_ 7 0 c (by decide) (by decide) ha hc with e | ⟨h, _⟩
      · exact U.go 7 0 c (by decide) (by decide) ha e
      · omega
    | succ n ih =>
      intro a c hn ha hc
      have hd7 : d = 7 := by omega
      subst hd7
      rcases T.from_ 7 a c (by decide) (by decide) ha hc with e | ⟨h, o, r, ho, hdo, hr, rfl⟩
      · exact U.go 7 a c (by decide) (by decide) ha e
      · have := (hg o ho).size1
        obtain ⟨r', er, lr⟩ := ih (a - o.size.toNat) r (by omega) (by omega) hr
        obtain ⟨c', e', l'⟩ := U.take 7 a o r' (by decide) (by decide) ha h ho hdo er
        exact ⟨c', e', by omega⟩
  | succ j jh =>
    intro d hd h1 n
    have GO : ∀ (a : Nat) (c : Int), a ≤ M → goT ls rows d a = some c → ∃ c', cellT rows2 d a = some c' ∧ c' ≤ c := fun a c ha e => by
      unfold goT at e
      rw [if_pos (by omega)] at e
      have hm := T.most (d + 1)
      obtain ⟨r, er, lr⟩ := jh (d + 1) (by omega) (by omega) _ _ c (Nat.le_refl _) (by omega) e
      obtain ⟨c', e', l'⟩ := U.go d a r h1 (by omega) ha (by unfold goT; rw [if_pos (by omega)]; exact er)
      exact ⟨c', e', by omega⟩
    induction n with
    | zero =>
      intro a c hn ha hc
      have ha0 : a = 0 := by omega
      subst ha0
      rcases T.from_ d 0 c h1 (by omega) ha hc with e | ⟨h, _⟩
      · exact GO 0 c ha e
      · omega
    | succ n ih =>
      intro a c hn ha hc
      rcases T.from_ d a c h1 (by omega) ha hc with e | ⟨h, o, r, ho, hdo, hr, rfl⟩
      · exact GO a c ha e
      · have := (hg o ho).size1
        obtain ⟨r', er, lr⟩ := ih (a - o.size.toNat) r (by omega) (by omega) hr
        obtain ⟨c', e', l'⟩ := U.take d a o r' h1 (by omega) ha h ho hdo er
        exact ⟨c', e', by omega⟩
theorem tab_cell (T : IsTable os ls M rows) (U : IsTable os ls M rows2) (hg : ∀ o ∈ os, GoodOffer o) (d a : Nat) (h1 : 1 ≤ d) (h7 : d ≤ 7) (ha : a ≤ M) : cellT rows d a = cellT rows2 d a := by
  have A := tab_le T U hg (7 - d) d (by omega) h1 a a
  have B := tab_le U T hg (7 - d) d (by omega) h1 a a
  cases e : cellT rows d a with
  | none =>
    cases e2 : cellT rows2 d a with
    | none => rfl
    | some c2 =>
      obtain ⟨c, z, _⟩ := B c2 (Nat.le_refl _) ha e2
      rw [e] at z; cases z
  | some c =>
    obtain ⟨c2, z, l⟩ := A c (Nat.le_refl _) ha e
    obtain ⟨c3, z3, l3⟩ := B c2 (Nat.le_refl _) ha z
    rw [e] at z3
    have e4 := Option.some.inj z3
    rw [z]
    congr 1
    omega
theorem tab_one (T : IsTable os ls M rows) (U : IsTable os ls M rows2) (hg : ∀ o ∈ os, GoodOffer o) : rows = rows2 := by
  have hl : rows.length = rows2.length := by rw [T.len, U.len]
  refine List.ext_getElem hl fun i h1 h2 => ?_
  have e1 := T.each _ (List.getElem_mem h1)
  have e2 := U.each _ (List.getElem_mem h2)
  refine List.ext_getElem (by rw [e1, e2]) fun a h3 h4 => ?_
  have i7 : i < 7 := by rw [← T.len]; exact h1
  have := tab_cell T U hg (i + 1) a (by omega) (by omega) (by omega)
  unfold cellT at this
  rw [Nat.add_sub_cancel, List.getD_eq_getElem?_getD, List.getD_eq_getElem?_getD, List.getD_eq_getElem?_getD, List.getD_eq_getElem?_getD, List.getElem?_eq_getElem h1, List.getElem?_eq_getElem h2] at this
  simp only [Option.getD_some] at this
  rw [List.getElem?_eq_getElem h3, List.getElem?_eq_getElem h4] at this
  simpa using this
/-! ### the greatest lack behind a day -/
def mxA (ls : List Int) : Nat → Nat
  | 0 => 0
  | j + 1 => max (lackAt ls (7 - j)) (mxA ls j)
theorem mxA_le (T : IsTable os ls M rows) : ∀ j, mxA ls j ≤ M
  | 0 => Nat.zero_le _
  | j + 1 => by
    have := T.most (7 - j)
    have := mxA_le T j
    unfold mxA
    omega
/-- a lesser amount costs no more; nor does one that lacks behind all the same -/
theorem tab_mono (T : IsTable os ls M rows) (hg : ∀ o ∈ os, GoodOffer o) :
    ∀ (j d : Nat), d + j = 7 → 1 ≤ d → ∀ (n a a' : Nat) (c : Int), a ≤ n → a ≤ M → a' ≤ max a (mxA ls j) → cellT rows d a = some c → ∃ c', cellT rows d a' = some c' ∧ c' ≤ c := by
  intro j
  induction j with
  | zero =>
    intro d hd h1 n
    have hd7 : d = 7 := by omega
    subst hd7
    induction n with
    | zero =>
      intro a a' c hn ha h' hc
      have : a = 0 := by omega
      subst this
      have : a' = 0 := by unfold mxA at h'; omega
      subst this
      exact ⟨c, hc, Int.le_refl _⟩
    | succ n ih =>
      intro a a' c hn ha h' hc
      unfold mxA at h'
      rcases T.from_ 7 a c (by decide) (by decide) ha hc with e | ⟨h, o, r, ho, hdo, hr, rfl⟩
      · unfold goT at e
        rw [if_neg (by decide)] at e
        split at e
        · rename_i a0
          subst a0
          have : a' = 0 := by omega
          subst this
          exact ⟨c, hc, Int.le_refl _⟩
        · cases e
      · have g := hg o ho
        have := g.size1
        have := g.price0
        obtain ⟨r', er, lr⟩ := ih (a - o.size.toNat) (a' - o.size.toNat) r (by omega) (by omega) (by unfold mxA; omega) hr
        by_cases a0 : a' = 0
        · subst a0
          rw [Nat.zero_sub] at er
          exact ⟨r', er, by omega⟩
        · obtain ⟨c', e', l'⟩ := T.take 7 a' o r' (by decide) (by decide) (by omega) (by omega) ho hdo er
          exact ⟨c', e', by omega⟩
  | succ j jh =>
    intro d hd h1 n
    have hmx := mxA_le T (j + 1)
    have hL : lackAt ls (7 - j) = lackAt ls (d + 1) := by congr 1; omega
    have hlm := T.most (d + 1)
    have GO : ∀ (a a' : Nat) (c : Int), a ≤ M → a' ≤ max a (mxA ls (j + 1)) → goT ls rows d a = some c → ∃ c', cellT rows d a' = some c' ∧ c' ≤ c := fun a a' c ha h' e => by
      unfold mxA at h'
      rw [hL] at h'
      unfold mxA at hmx
      rw [hL] at hmx
      unfold goT at e
      rw [if_pos (by omega)] at e
      obtain ⟨r, er, lr⟩ := jh (d + 1) (by omega) (by omega) _ _ (max a' (lackAt ls (d + 1))) c (Nat.le_refl _) (by omega) (by omega) e
      obtain ⟨c', e', l'⟩ := T.go d a' r h1 (by omega) (by omega) (by unfold goT; rw [if_pos (by omega)]; exact er)
      exact ⟨c', e', by omega⟩
    induction n with
    | zero =>
      intro a a' c hn ha h' hc
      have ha0 : a = 0 := by omega
      subst ha0
      rcases T.from_ d 0 c h1 (by omega) ha hc with e | ⟨h, _⟩
      · exact GO 0 a' c ha h' e
      · omega
    | succ n ih =>
      intro a a' c hn ha h' hc
      rcases T.from_ d a c h1 (by omega) ha hc with e | ⟨h, o, r, ho, hdo, hr, rfl⟩
      · exact GO a a' c ha h' e
      · have g := hg o ho
        have := g.size1
        have := g.price0
        obtain ⟨r', er, lr⟩ := ih (a - o.size.toNat) (a' - o.size.toNat) r (by omega) (by omega) (by omega) hr
        by_cases a0 : a' = 0
        · subst a0
          rw [Nat.zero_sub] at er
          exact ⟨r', er, by omega⟩
        · obtain ⟨c', e', l'⟩ := T.take d a' o r' h1 (by omega) (by omega) (by omega) ho hdo er
          exact ⟨c', e', by omega⟩
/-- where no more is asked than lacks behind, the walk goes on -/
theorem tab_stay (T : IsTable os ls M rows) (hg : ∀ o ∈ os, GoodOffer o) {j d : Nat} (hd : d + j = 7) (h1 : 1 ≤ d) :
    ∀ (n a : Nat) (c : Int), a ≤ n → a ≤ mxA ls j → cellT rows d a = some c → goT ls rows d a = some c := by
  have hmx := mxA_le T j
  intro n
  induction n with
  | zero =>
    intro a c hn ha hc
    rcases T.from_ d a c h1 (by omega) (by omega) hc with e | ⟨h, _⟩
    · exact e
    · omega
  | succ n ih =>
    intro a c hn ha hc
    rcases T.from_ d a c h1 (by omega) (by omega) hc with e | ⟨h, o, r, ho, hdo, hr, rfl⟩
    · exact e
    · have g := hg o ho
      have := g.size1
      have := g.price0
      have e2 := ih (a - o.size.toNat) r (by omega) (by omega) hr
      cases j with
      | zero => unfold mxA at ha; omega
      | succ j =>
        have hL : lackAt ls (7 - j) = lackAt ls (d + 1) := by congr 1; omega
        unfold mxA at ha
        rw [hL] at ha
        unfold mxA at hmx
        rw [hL] at hmx
        unfold goT at e2
        rw [if_pos (by omega)] at e2
        obtain ⟨r', er, lr⟩ := tab_mono T hg j (d + 1) (by omega) (by omega) _ _ (max a (lackAt ls (d + 1))) r (Nat.le_refl _) (by omega) (by omega) e2
        have eg : goT ls rows d a = some r' := by unfold goT; rw [if_pos (by omega)]; exact er
        obtain ⟨c', e', l'⟩ := T.go d a r' h1 (by omega) (by omega) eg
        rw [hc] at e'
        have := Option.some.inj e'
        rw [eg]
        congr 1
        omega
/-! ### the walk -/
def fits (rows : List (List (Option Int))) (d a : Nat) (o : Offer) : Bool := decide (dayOf o = d) && (match cellT rows d (a - o.size.toNat) with | none => false | some r => decide (some (r + o.price) = cellT rows d a))
theorem fits_iff {d a : Nat} {o : Offer} : fits rows d a o = true ↔ dayOf o = d ∧ ∃ r, cellT rows d (a - o.size.toNat) = some r ∧ some (r + o.price) = cellT rows d a := by
  unfold fits
  cases e : cellT rows d (a - o.size.toNat) with
  | none => simp
  | some r => simp
def firstT (os : List Offer) (rows : List (List (Option Int))) (d a : Nat) : Option Nat := os.findIdx? (fits rows d a)
def walkT (os : List Offer) (ls : List Int) (rows : List (List (Option Int))) : Nat → Nat → Nat → List Int → Option (List Int)
  | 0, _, _, _ => none
  | t + 1, d, a, cs =>
    if cellT rows d a = goT ls rows d a then
      if d = 7 then some cs else walkT os ls rows t (d + 1) (max a (lackAt ls (d + 1))) cs
    else
      match firstT os rows d a with
      | none => none
      | some k => walkT os ls rows t d (a - ((os.getD k ⟨0, 0, 0⟩).size.toNat)) (cs.set k (cs.getD k 0 + 1))
structure Walked (os : List Offer) (ls : List Int) (d a : Nat) (c : Int) (cs cs' : List Int) : Prop where
  len : cs'.length = cs.length
  nn : ∀ x ∈ cs', 0 ≤ x
  cost : costOf os cs' = costOf os cs + c
  here : heldOn os cs d + a ≤ heldOn os cs' d
  behind : ∀ e : Nat, d < e → e ≤ 7 → heldOn os cs e + lackAt ls e ≤ heldOn os cs' e
  ahead : ∀ e : Nat, e ≤ d → heldOn os cs' d - heldOn os cs d = heldOn os cs' e - heldOn os cs e
theorem walk_ok (T : IsTable os ls M rows) (hg : ∀ o ∈ os, GoodOffer o) :
    ∀ (t j d a : Nat) (c : Int) (cs : List Int), d + j = 7 → 1 ≤ d → a ≤ M → max a (mxA ls j) + j + 1 ≤ t → cs.length = os.length → (∀ x ∈ cs, 0 ≤ x) → cellT rows d a = some c →
      ∃ cs', walkT os ls rows t d a cs = some cs' ∧ Walked os ls d a c cs cs' := by
  intro t
  induction t with
  | zero => intro j d a c cs _ _ _ h; omega
  | succ t ih =>
    intro j d a c cs hd h1 ha ht hlen hn hc
    unfold walkT
    by_cases eg : cellT rows d a = goT ls rows d a
    · rw [if_pos eg]
      rw [hc] at eg
      by_cases d7 : d = 7
      · rw [if_pos d7]
        subst d7
        unfold goT at eg
        rw [if_neg (by decide)] at eg
        split at eg
        · rename_i a0
          subst a0
          have := Option.some.inj eg
          subst this
          exact ⟨cs, rfl, rfl, hn, by omega, by omega, fun e h h' => by omega, fun e _ => by omega⟩
        · cases eg
      · rw [if_neg d7]
        cases j with
        | zero => omega
        | succ j =>
          have hL : lackAt ls (7 - j) = lackAt ls (d + 1) := by congr 1; omega
          unfold goT at eg
          rw [if_pos (by omega)] at eg
          have hm := T.most (d + 1)
          unfold mxA at ht
          rw [hL] at ht
          obtain ⟨cs', e', W⟩ := ih j (d + 1) (max a (lackAt ls (d + 1))) c cs (by omega) (by omega) (by omega) (by omega) hlen hn eg.symm
          have w1 := W.here
          refine ⟨cs', e', W.len, W.nn, W.cost, ?_, fun e h h' => ?_, fun e h => ?_⟩
          · have := W.ahead d (by omega)
            omega
          · by_cases e1 : e = d + 1
            · subst e1; omega
            · exact W.behind e (by omega) h'
          · -- of those of a later day each holds on all days up to d alike
            have a1 := W.ahead e (by omega)
            have a2 := W.ahead d (by omega)
            omega
    · rw [if_neg eg]
      rcases T.from_ d a c h1 (by omega) ha hc with e | ⟨h0, o, r, ho, hdo, hr, rfl⟩
      · rw [hc, e] at eg; exact absurd rfl eg
      · have ff : fits rows d a o = true := fits_iff.mpr ⟨hdo, r, hr, hc.symm⟩
        cases ef : firstT os rows d a with
        | none =>
          have := List.findIdx?_eq_none_iff.mp ef o ho
          rw [ff] at this; cases this
        | some k =>
          obtain ⟨hk, fk, _⟩ := List.findIdx?_eq_some_iff_getElem.mp ef
          obtain ⟨hdk, r', hr', hs⟩ := fits_iff.mp fk
          have eo : os.getD k ⟨0, 0, 0⟩ = os[k] := by rw [List.getD_eq_getElem?_getD, List.getElem?_eq_getElem hk]; rfl
          have ec : cs.getD k 0 = cs[k]'(by omega) := by rw [List.getD_eq_getElem?_getD, List.getElem?_eq_getElem (by omega)]; rfl
          rw [hc] at hs
          have hs' := Option.some.inj hs
          have gk := hg _ (List.getElem_mem hk)
          have g1 := gk.size1
          have hst : mxA ls j < a := by
            by_cases z : a ≤ mxA ls j
            · have := tab_stay T hg hd h1 a a _ (Nat.le_refl _) z hc
              rw [hc, this] at eg
              exact absurd rfl eg
            · omega
          show ∃ cs', walkT os ls rows t d (a - ((os.getD k ⟨0, 0, 0⟩).size.toNat)) (cs.set k (cs.getD k 0 + 1)) = some cs' ∧ _
          rw [eo, ec]
          have hco := List.getElem?_eq_getElem (show k < cs.length by omega)
          have hoo := List.getElem?_eq_getElem hk
          have c0 := hn _ (List.getElem_mem (show k < cs.length by omega))
          obtain ⟨cs', e', W⟩ := ih j d (a - os[k].size.toNat) r' (cs.set k (cs[k]'(by omega) + 1)) hd h1 (by omega) (by omega) (by rw [List.length_set]; exact hlen) (nn_set hn (by omega)) hr'
          have wc := wsum_set Offer.price 1 os cs k _ _ hoo hco
          have wh : ∀ e : Int, heldOn os (cs.set k (cs[k]'(by omega) + 1)) e = heldOn os cs e + onto e os[k] * 1 := fun e => by
            rw [heldOn_w, heldOn_w]
            exact wsum_set (onto e) 1 os cs k _ _ hoo hco
          have on : ∀ e : Nat, e ≤ d → onto e os[k] = os[k].size := day_on hdk h1
          refine ⟨cs', e', by rw [W.len, List.length_set], W.nn, ?_, ?_, fun e h h' => ?_, fun e h => ?_⟩
          · rw [W.cost, costOf_w, wc, ← costOf_w]; omega
          · have := W.here
            rw [wh, on d (Nat.le_refl _)] at this
            omega
          · have b := W.behind e h h'
            rw [wh] at b
            have := onto_nonneg gk e
            omega
          · have b := W.ahead e h
            rw [wh, wh, on e h, on d (Nat.le_refl _)] at b
            omega
end
end Lar
namespace Lar
open PySem PySem.Spec PyProof.Rows L2
theorem min7 (o : Offer) : (if (7 : Int) < o.last then (7 : Int) else o.last) = dayOf o := by
  unfold dayOf
  split <;> split <;> omega
def cellV : Option Int → V
  | none => .non
  | some x => .int x
theorem cellV_inj {x y : Option Int} (h : cellV x = cellV y) : x = y := by
  cases x with
  | none => cases y with
    | none => rfl
    | some y => cases h
  | some x => cases y with
    | none => cases h
    | some y => rw [V.int.inj h]
theorem cellV_scal (x y : Option Int) : scal (cellV x) (cellV y) = true := by cases x <;> cases y <;> rfl
theorem it_some {A B : Prop} {x : Option Int} (h1 : ∀ z, x = some z → A) (h2 : x = none → B) : if (!decide (cellV x = V.non)) = true then A else B := by
  cases x with
  | none => exact iteF (h2 rfl)
  | some z => exact iteT (h1 z rfl)
theorem it_none {A B : Prop} {x : Option Int} (h1 : x = none → A) (h2 : ∀ z, x = some z → B) : if decide (cellV x = V.non) = true then A else B := by
  cases x with
  | none => exact iteT (h1 rfl)
  | some z => exact iteF (h2 z rfl)
theorem dp_ints {K : PySem.W.Frag} {H : Hp} : ∀ zs : List Int, DpAll K H (zs.map V.int) (zs.map PyData.int)
  | [] => .nil
  | z :: r => .cons (.int z) (dp_ints r)
theorem int_lay : ∀ zs : List Int, PyData.canLayAll0 (zs.map PyData.int) = true
  | [] => by simp [PyData.canLayAll0]
  | z :: r => by
    rw [List.map_cons, PyData.canLayAll0, int_lay r]
    simp [PyData.canLay0]
theorem int_deep : ∀ zs : List Int, PyData.depthAll (zs.map PyData.int) = 0
  | [] => by simp [PyData.depthAll]
  | z :: r => by
    rw [List.map_cons, PyData.depthAll, int_deep r]
    simp [PyData.depth]
theorem int_shaped (zs : List Int) : SeqAt.shaped (.list (zs.map PyData.int)) = true := by
  unfold SeqAt.shaped
  rw [PyData.canLay0, int_lay, PyData.depth, int_deep]
  rfl
theorem nil_eqv (zs : List Int) : PyData.eqv (.list (zs.map PyData.int)) (.list []) = zs.isEmpty := by
  rw [PyData.eqv]
  cases zs with
  | nil => simp [PyData.eqvAll]
  | cons z r => simp [PyData.eqvAll]
def RowAt (H : Hp) (v : V) (r : List (Option Int)) : Prop := ∃ t, v = .ref t ∧ H t = some (.tup (r.map cellV))
theorem RowAt.mono : MonoT RowAt := fun _ _ _ _ e ⟨t, h1, h2⟩ => ⟨t, h1, e _ _ h2⟩
abbrev RowsAt : Hp → V → List (List (Option Int)) → Prop := TupAll RowAt
theorem RowsAt.mono : MonoT RowsAt := TupAll.mono RowAt.mono
/-- the greatest -/
def mostL (ls : List Int) : Nat := (ls.map Int.toNat).foldr max 0
theorem mostL_ge : ∀ (ls : List Int) (x : Int), x ∈ ls → x.toNat ≤ mostL ls
  | [], x, h => nomatch h
  | y :: r, x, h => by
    unfold mostL
    rw [List.map_cons, List.foldr_cons]
    rcases List.mem_cons.mp h with e | e
    · subst e; omega
    · have := mostL_ge r x e
      unfold mostL at this
      omega
theorem mostL_mem : ∀ (ls : List Int), ls ≠ [] → ∃ x ∈ ls, x.toNat = mostL ls
  | [], h => absurd rfl h
  | [y], _ => ⟨y, List.mem_singleton.mpr rfl, by unfold mostL; simp⟩
  | y :: z :: r, _ => by
    obtain ⟨x, hx, e⟩ := mostL_mem (z :: r) (by simp)
    unfold mostL at e ⊢
    rw [List.map_cons, List.foldr_cons]
    by_cases h : y.toNat ≤ ((z :: r).map Int.toNat).foldr max 0
    · exact ⟨x, List.mem_cons_of_mem _ hx, by rw [e]; omega⟩
    · exact ⟨y, List.mem_cons_self, by omega⟩
theorem mostL_eq {ls : List Int} (g : GoodLs ls) {m : Int} (h1 : m ∈ ls) (h2 : ∀ y ∈ ls, y ≤ m) : m = mostL ls := by
  have a := mostL_ge ls m h1
  obtain ⟨x, hx, e⟩ := mostL_mem ls (List.ne_nil_of_mem h1)
  have b := h2 x hx
  have c := (g.2 m h1).1
  have d := (g.2 x hx).1
  omega
theorem GoodLs.most {ls : List Int} (g : GoodLs ls) : mostL ls ≤ 200 := by
  obtain ⟨x, hx, e⟩ := mostL_mem ls (by intro z; have := g.1; rw [z] at this; cases this)
  have := g.2 x hx
  omega
theorem GoodLs.lack {ls : List Int} (g : GoodLs ls) (d : Nat) : lackAt ls d ≤ mostL ls := by
  unfold lackAt
  rw [List.getD_eq_getElem?_getD]
  cases e : ls[d - 1]? with
  | none => exact Nat.zero_le _
  | some x => exact mostL_ge ls x (List.mem_of_getElem? e)
theorem GoodLs.at {ls : List Int} (g : GoodLs ls) {d : Nat} (h1 : 1 ≤ d) (h7 : d ≤ 7) : ls[d - 1]? = some (lackAt ls d : Int) := by
  have hl : d - 1 < ls.length := by rw [g.1]; omega
  have e := List.getElem?_eq_getElem hl
  rw [e]
  congr 1
  unfold lackAt
  rw [List.getD_eq_getElem?_getD, e]
  have := (g.2 _ (List.getElem_mem hl)).1
  show _ = ((ls[d - 1].toNat : Nat) : Int)
  omega
theorem cell_at' {rows : List (List (Option Int))} {M d a : Nat} (hl : rows.length = 7) (he : ∀ r ∈ rows, r.length = M + 1) (h1 : 1 ≤ d) (h7 : d ≤ 7) (ha : a ≤ M) : ∃ r, rows[d - 1]? = some r ∧ r[a]? = some (cellT rows d a) := by
  have h : d - 1 < rows.length := by omega
  have e := List.getElem?_eq_getElem h
  refine ⟨_, e, ?_⟩
  have hr := he _ (List.getElem_mem h)
  unfold cellT
  rw [List.getD_eq_getElem?_getD, List.getD_eq_getElem?_getD, e]
  show _ = some ((rows[d - 1])[a]?.getD none)
  rw [List.getElem?_eq_getElem (by omega)]; rfl
/-- what is told for a cell -/
def candT (rows : List (List (Option Int))) (d a : Nat) (o : Offer) : Option Int := if 0 < a ∧ dayOf o = d then (match cellT rows d (a - o.size.toNat) with | none => none | some r => some (r + o.price)) else none
def dueT (os : List Offer) (ls : List Int) (rows : List (List (Option Int))) (d a : Nat) : List Int := (goT ls rows d a).toList ++ os.filterMap (candT rows d a)
section
variable {os : List Offer} {ls : List Int} {M : Nat} {rows : List (List (Option Int))} {d a : Nat}
theorem due_mem (T : IsTable os ls M rows) (h1 : 1 ≤ d) (h7 : d ≤ 7) (ha : a ≤ M) {z : Int} (hz : z ∈ dueT os ls rows d a) : ∃ c, cellT rows d a = some c ∧ c ≤ z := by
  rcases List.mem_append.mp hz with h | h
  · rw [Option.mem_toList] at h
    exact T.go d a z h1 h7 ha h
  · obtain ⟨o, ho, e⟩ := List.mem_filterMap.mp h
    unfold candT at e
    split at e
    · rename_i hc
      split at e
      · cases e
      · rename_i r hr
        cases e
        exact T.take d a o r h1 h7 ha hc.1 ho hc.2 hr
    · cases e
theorem due_of (T : IsTable os ls M rows) (h1 : 1 ≤ d) (h7 : d ≤ 7) (ha : a ≤ M) {c : Int} (hc : cellT rows d a = some c) : c ∈ dueT os ls rows d a := by
  rcases T.from_ d a c h1 h7 ha hc with e | ⟨h0, o, r, ho, hdo, hr, rfl⟩
  · exact List.mem_append_left _ (by rw [e]; simp)
  · refine List.mem_append_right _ (List.mem_filterMap.mpr ⟨o, ho, ?_⟩)
    unfold candT
    rw [if_pos ⟨h0, hdo⟩, hr]
theorem due_none (T : IsTable os ls M rows) (h1 : 1 ≤ d) (h7 : d ≤ 7) (ha : a ≤ M) (h : dueT os ls rows d a = []) : cellT rows d a = none := by
  cases e : cellT rows d a with
  | none => rfl
  | some c =>
    have := due_of T h1 h7 ha e
    rw [h] at this
    cases this
theorem due_min (T : IsTable os ls M rows) (h1 : 1 ≤ d) (h7 : d ≤ 7) (ha : a ≤ M) {m : Int} (hm : m ∈ dueT os ls rows d a) (hl : ∀ y ∈ dueT os ls rows d a, m ≤ y) : cellT rows d a = some m := by
  obtain ⟨c, e, l⟩ := due_mem T h1 h7 ha hm
  have := hl c (due_of T h1 h7 ha e)
  rw [e]
  congr 1
  omega
end
def spTable : Sp := fun vs H Q _ => ∃ (v : V) (c : Addr) (os : List Offer) (ls : List Int), vs = [v, .ref c] ∧ OffersAt H v os ∧ H c = some (.tup (ls.map V.int)) ∧ os.length ≤ 60 ∧ (∀ o ∈ os, GoodOffer o) ∧ GoodLs ls ∧
  ∀ v' rows H', Same H H' → RowsAt H' v' rows → IsTable os ls (mostL ls) rows → Q v' H'
def boughtT (os : List Offer) (ls : List Int) (rows : List (List (Option Int))) : Option (List Int) := if cellT rows 1 (lackAt ls 1) = none then none else walkT os ls rows 220 1 (lackAt ls 1) (List.replicate os.length 0)
def spBought : Sp := fun vs H Q _ => ∃ (v : V) (c : Addr) (os : List Offer) (ls : List Int), vs = [v, .ref c] ∧ OffersAt H v os ∧ H c = some (.tup (ls.map V.int)) ∧ os.length ≤ 60 ∧ (∀ o ∈ os, GoodOffer o) ∧ GoodLs ls ∧
  ∀ rows H', Same H H' → IsTable os ls (mostL ls) rows → (boughtT os ls rows = none → Q .non H') ∧ (∀ cs p, boughtT os ls rows = some cs → H' p = some (.tup (cs.map V.int)) → Q (.ref p) H')
end Lar
namespace Lar
open PySem PySem.Spec PyProof.Rows L2
/-! ### min(xs, default=None) of a list of ints -/
section
variable {prog : Program} {w : World} {A : Around} {E : Value → Shared → Prop} {s : Shared} {l : Addr}
theorem min_dflt {xs : Array (Int × Tok)} {d : Value} {Q : Value → Shared → Prop} (hh : A.handled = none) (hl : s.heap.IsList l (intItems xs))
    (h0 : xs.size = 0 → ∀ h' tk, (∀ b o, s.heap.get? b = some o → h'.get? b = some o) → Q d { s with heap := h', toks := tk })
    (h : 0 < xs.size → ∀ v h' tk, (intItems xs)[argBest (fun i j => decide (numAt xs i < numAt xs j)) (xs.size - 1)]? = some v → (∀ b o, s.heap.get? b = some o → h'.get? b = some o) → Q v { s with heap := h', toks := tk }) :
    wpAny (model prog w) A (call (.builtin "min") [.ref l] [(Str.ofString "default", d)]) Q E s := by
  have hz : (intItems xs).size = xs.size := by simp [intItems]
  refine call_min_walkD (PySem.W.iter_listW (A := A.in1) hh hl fun s₂ e W st hfp hw hk => ?_)
  refine ⟨_, _, _, _, _, _, _, s.heap, (fun i j => decide (numAt xs i < numAt xs j)), rfl, W, st, hfp, hw, hk, fun hz0 s' m => ?_, fun hp => ⟨fun i j vi vj s Q E _ hi hj hq => CmpOf.ints_lt (numAt xs) (fun _ _ => intItems_at) i j vi vj s Q E hi hj hq, fun v s' hP m => ?_⟩⟩
  · obtain ⟨h', tk, rfl, hk'⟩ := PySem.W.moved_old e rfl m
    exact h0 (by omega) h' tk hk'
  · obtain ⟨h', tk, rfl, hk'⟩ := PySem.W.moved_old e rfl m
    rw [hz] at hP
    exact h (by omega) v h' tk hP hk'
end
section
variable {X : Cx} {K : PySem.W.Frag}
def tMinD (K : PySem.W.Frag) (t : TA) : TE := fun σ H Q => t σ H fun vs H1 => ∃ (a : Addr) (ns : List Int), vs = [V.ref a] ∧ SqL K H1 a (ns.map V.int) ∧ (ns = [] → Q .non H1) ∧ ∀ m, m ∈ ns → (∀ y, y ∈ ns → m ≤ y) → Q (.int m) H1
theorem kpe_minD (K : PySem.W.Frag) {e : Expr} {p pos np kp : Pos} {k : Nat} {t : TA} (hc : X.calm = true) (hg : Gl X "min") (hm : X.mg "min" = none) (ha : PA X [e] t) (hK : X.K = K := by rfl)
    (he : backTo pos (starEach [e] X.env) = (false, eval e X.env) :: backTo pos (starEach [] X.env) := by rfl) (hpl : (backTo pos (starEach [e] X.env)).any (·.1) = false := by rfl) :
    PE X (.Call (.Name "min" p) [e] [⟨some "default", .Constant .none k np, kp⟩] pos) (tMinD K t) := by
  subst hK
  refine ⟨fun pins s σ H Q I h => ?_⟩
  refine wpAny_Call_Name_kw (ld_blt I hg hm (by decide +kernel) (callWith_kw (id := "min") (thn (ha.run pos pins s σ H _ I h) fun us s1 ⟨vs, H1, I1, r1, q1⟩ => ?_) he hpl))
  obtain ⟨a, ns, rfl, hs, q0, q⟩ := q1
  obtain ⟨its, rv, hl, _⟩ := I1.list hs
  rw [Vals.ref1 r1]
  refine kws_cons (Constant_none (kws_nil ?_))
  have hi : IntsAre its ns := rv.ints
  obtain ⟨xs, e⟩ := hi.allInts.items
  have hn : numsOf (intItems xs).toList = ns := by rw [← e]; exact hi.numsOf
  rw [nums_intItems] at hn
  have hl2 : s1.heap.IsList a (intItems xs) := by rw [← e]; exact hl.isList
  refine min_dflt (I1.ok.hd hc) hl2 (fun hz h' tk hk => ?_) (fun hz v h' tk hv hk => ?_)
  · have : ns = [] := by rw [← hn]; simpa using hz
    exact ⟨.non, H1, I1.kept hk, rfl, q0 this⟩
  · obtain ⟨t', rfl⟩ := intItems_at hv
    obtain ⟨h1, h2⟩ := argBest_lt (numAt xs) (xs.size - 1)
    refine ⟨.int _, H1, I1.kept hk, ⟨_, rfl⟩, q _ ?_ fun y hy => ?_⟩
    · rw [numAt_eq, hn]; exact PySem.getD_mem (by rw [← hn, List.length_map, Array.length_toList]; omega)
    · rw [← hn] at hy
      obtain ⟨j, hj, rfl⟩ := mem_getD hy
      rw [List.length_map, Array.length_toList] at hj
      rw [← numAt_eq]; exact h2 j (by omega)
/-! ### xs[i] += e of a list -/
theorem kget_list (K : PySem.W.Frag) (hK : X.K = K := by rfl) : PGet X (rIxL K) := by
  subst hK
  intro pins s σ H x y v u Q I rx ry h
  obtain ⟨p, xs, i, z, rfl, rfl, hq, he, q⟩ := h
  cases rx
  obtain ⟨t, rfl⟩ := ry
  obtain ⟨its, r, pl, hz⟩ := I.list hq
  obtain ⟨j, h1, h2, h3, h4, h5⟩ := atI_get he
  obtain ⟨w, ew, rw'⟩ := r.get h2
  have hl := r.length
  have hn := line63
  have fin : EP X pins σ Q w s := ⟨z, H, I, rw', q⟩
  by_cases h0 : 0 ≤ i
  · have hj : i.toNat = j := by
      rw [seqIndex_of h0 h5] at h1
      exact Option.some.inj h1
    exact wpAny_getItem_list pl.isList h0 (by omega) (by rw [hj]; simpa using ew) fin
  · have hj : (i + (its.toArray.size : Int)).toNat = j := by
      rw [seqIndex_neg (by omega) h4] at h1
      rw [List.size_toArray, ← hl]
      exact Option.some.inj h1
    exact wpAny_getItem_list_neg pl.isList (by omega) (by rw [List.size_toArray] <;> omega) (by omega) (by rw [hj]; simpa using ew) fin
end
end Lar
namespace Lar
open PySem PySem.Spec PyProof.Rows L2
/-! ### a table, row by row -/
/-- c is the least of xs, none where all are -/
structure IsLeast (c : Option Int) (xs : List (Option Int)) : Prop where
  le : ∀ z, some z ∈ xs → ∃ c', c = some c' ∧ c' ≤ z
  mem : ∀ c', c = some c' → some c' ∈ xs
theorem least_none {xs : List (Option Int)} (h : xs.filterMap id = []) : IsLeast none xs := by
  refine ⟨fun z hz => ?_, fun c' e => nomatch e⟩
  have : z ∈ xs.filterMap id := List.mem_filterMap.mpr ⟨some z, hz, rfl⟩
  rw [h] at this
  cases this
theorem least_some {xs : List (Option Int)} {m : Int} (hm : m ∈ xs.filterMap id) (hl : ∀ y ∈ xs.filterMap id, m ≤ y) : IsLeast (some m) xs := by
  refine ⟨fun z hz => ⟨m, rfl, hl z (List.mem_filterMap.mpr ⟨some z, hz, rfl⟩)⟩, fun c' e => ?_⟩
  cases e
  obtain ⟨a, ha, e⟩ := List.mem_filterMap.mp hm
  have : a = some m := e
  rw [← this]
  exact ha
def goG (ls : List Int) (nxt : List (Option Int)) (d a : Nat) : Option Int := if d < 7 then nxt.getD (max a (lackAt ls (d + 1))) none else if a = 0 then some 0 else none
def withO (r : List (Option Int)) (a : Nat) (s p : Int) : Option Int := match r.getD (a - s.toNat) none with | none => none | some z => some (p + z)
def soldL (os : List Offer) (d : Nat) : List (Nat × Offer) := (List.range os.length).filterMap fun k => if dayOf (os.getD k ⟨0, 0, 0⟩) = d then some (k, os.getD k ⟨0, 0, 0⟩) else none
def SoldAt (H : Hp) (v : V) (x : Nat × Offer) : Prop := ∃ t, v = .ref t ∧ H t = some (.tup [.int (x.1 : Nat), .int x.2.size, .int x.2.price])
theorem SoldAt.mono : MonoT SoldAt := fun _ _ _ _ e ⟨t, h1, h2⟩ => ⟨t, h1, e _ _ h2⟩
theorem sold_mem {os : List Offer} {d : Nat} {k : Nat} {o : Offer} : (k, o) ∈ soldL os d ↔ os[k]? = some o ∧ dayOf o = d := by
  unfold soldL
  rw [List.mem_filterMap]
  constructor
  · rintro ⟨k', hk, e⟩
    have hk' := List.mem_range.mp hk
    split at e
    · rename_i hd
      cases e
      have e1 : os.getD k ⟨0, 0, 0⟩ = os[k] := by rw [List.getD_eq_getElem?_getD, List.getElem?_eq_getElem hk']; rfl
      rw [e1] at hd ⊢
      exact ⟨List.getElem?_eq_getElem hk', hd⟩
    · cases e
  · rintro ⟨e, hd⟩
    have hk := (List.getElem?_eq_some_iff.mp e).1
    have e1 : os.getD k ⟨0, 0, 0⟩ = o := by rw [List.getD_eq_getElem?_getD, e]; rfl
    exact ⟨k, List.mem_range.mpr hk, by rw [e1, if_pos hd]⟩
theorem sold_len (os : List Offer) (d : Nat) : (soldL os d).length ≤ os.length := by
  have := List.length_filterMap_le (fun k => if dayOf (os.getD k ⟨0, 0, 0⟩) = d then some (k, os.getD k ⟨0, 0, 0⟩) else none) (List.range os.length)
  rw [List.length_range] at this
  exact this
/-- what the cell of an amount above 0 is the least of -/
def dues (os : List Offer) (ls : List Int) (nxt r : List (Option Int)) (d a : Nat) : List (Option Int) := goG ls nxt d a :: (soldL os d).map fun x => withO r a x.2.size x.2.price
structure RowIs (os : List Offer) (ls : List Int) (M d : Nat) (nxt r : List (Option Int)) : Prop where
  len : r.length = M + 1
  zero : r.getD 0 none = goG ls nxt d 0
  more : ∀ a : Nat, 0 < a → a ≤ M → IsLeast (r.getD a none) (dues os ls nxt r d a)
/-- rows rs of the days 7 - n + 1 to 7 -/
def Chain (os : List Offer) (ls : List Int) (M : Nat) (rs : List (List (Option Int))) : Prop := ∀ j : Nat, j < rs.length → RowIs os ls M (8 - rs.length + j) (rs.getD (j + 1) []) (rs.getD j [])
theorem getD_app {α : Type} {xs : List α} {x z : α} {j : Nat} (h : j < xs.length) : (xs ++ [x]).getD j z = xs.getD j z := by
  rw [List.getD_eq_getElem?_getD, List.getD_eq_getElem?_getD, List.getElem?_append_left h]
/-- a row that grows: what it is so far -/
structure RowTo (os : List Offer) (ls : List Int) (d : Nat) (nxt : List (Option Int)) (r : List (Option Int)) : Prop where
  pos : 0 < r.length
  zero : r.getD 0 none = goG ls nxt d 0
  more : ∀ a : Nat, 0 < a → a < r.length → IsLeast (r.getD a none) (dues os ls nxt r d a)
theorem withO_app {r : List (Option Int)} {c : Option Int} {a : Nat} {s p : Int} (hs : 1 ≤ s) (h0 : 0 < a) (ha : a ≤ r.length) : withO (r ++ [c]) a s p = withO r a s p := by
  unfold withO
  rw [getD_app (by omega)]
theorem dues_app {os : List Offer} (hg : ∀ o ∈ os, GoodOffer o) {ls : List Int} {nxt r : List (Option Int)} {c : Option Int} {d a : Nat} (h0 : 0 < a) (ha : a ≤ r.length) : dues os ls nxt (r ++ [c]) d a = dues os ls nxt r d a := by
  unfold dues
  congr 1
  apply List.map_congr_left
  rintro ⟨k, o⟩ hx
  have ho := (sold_mem.mp hx).1
  exact withO_app (hg o (List.mem_of_getElem? ho)).size1 h0 ha
theorem RowTo.next {os : List Offer} (hg : ∀ o ∈ os, GoodOffer o) {ls : List Int} {nxt r : List (Option Int)} {c : Option Int} {d : Nat} (R : RowTo os ls d nxt r) (h : IsLeast c (dues os ls nxt r d r.length)) : RowTo os ls d nxt (r ++ [c]) := by
  refine ⟨by rw [List.length_append]; have := R.pos; omega, by rw [getD_app R.pos]; exact R.zero, fun a h0 ha => ?_⟩
  rw [List.length_append] at ha
  have ha' : a ≤ r.length := by simpa using Nat.lt_succ_iff.mp ha
  rw [dues_app hg h0 ha']
  by_cases e : a = r.length
  · subst e
    have : (r ++ [c]).getD r.length none = c := by rw [List.getD_eq_getElem?_getD]; simp
    rw [this]
    exact h
  · rw [getD_app (by omega)]
    exact R.more a h0 (by omega)
theorem RowTo.is {os : List Offer} {ls : List Int} {nxt r : List (Option Int)} {d M : Nat} (R : RowTo os ls d nxt r) (h : r.length = M + 1) : RowIs os ls M d nxt r := ⟨h, R.zero, fun a h0 ha => R.more a h0 (by omega)⟩
theorem table_of {os : List Offer} {ls : List Int} {M : Nat} {rs : List (List (Option Int))} (hg : ∀ o ∈ os, GoodOffer o) (h7 : rs.length = 7) (hm : ∀ d : Nat, lackAt ls d ≤ M) (C : Chain os ls M rs) : IsTable os ls M rs := by
  have rowAt : ∀ d : Nat, 1 ≤ d → d ≤ 7 → RowIs os ls M d (rs.getD d []) (rs.getD (d - 1) []) := fun d h1 h2 => by
    have := C (d - 1) (by omega)
    rw [show d - 1 + 1 = d by omega, show 8 - rs.length + (d - 1) = d by omega] at this
    exact this
  have go_eq : ∀ d a : Nat, goT ls rs d a = goG ls (rs.getD d []) d a := fun d a => by
    unfold goT goG cellT
    rfl
  have with_eq : ∀ (d a : Nat) (o : Offer), withO (rs.getD (d - 1) []) a o.size o.price = (cellT rs d (a - o.size.toNat)).map fun z => o.price + z := fun d a o => by
    unfold withO cellT
    cases (rs.getD (d - 1) []).getD (a - o.size.toNat) none <;> rfl
  refine ⟨h7, fun r hr => ?_, hm, fun d a c h1 h2 ha hc => ?_, fun d a g h1 h2 ha hgo => ?_, fun d a o r h1 h2 ha h0 ho hd hr => ?_⟩
  · obtain ⟨j, hj, rfl⟩ := List.getElem_of_mem hr
    have := (rowAt (j + 1) (by omega) (by omega)).len
    rw [Nat.add_sub_cancel, List.getD_eq_getElem?_getD, List.getElem?_eq_getElem hj] at this
    exact this
  · have R := rowAt d h1 h2
    by_cases z : a = 0
    · subst z
      left
      rw [go_eq, ← R.zero]
      exact hc
    · have := (R.more a (by omega) ha).mem c hc
      rcases List.mem_cons.mp this with e | e
      · left; rw [go_eq, ← e]
      · right
        obtain ⟨⟨k, o⟩, hx, e2⟩ := List.mem_map.mp e
        obtain ⟨hk, hd⟩ := sold_mem.mp hx
        rw [with_eq] at e2
        cases er : cellT rs d (a - o.size.toNat) with
        | none => rw [er] at e2; cases e2
        | some z =>
          rw [er] at e2
          refine ⟨by omega, o, z, List.mem_of_getElem? hk, hd, er, ?_⟩
          have : o.price + z = c := Option.some.inj e2
          omega
  · have R := rowAt d h1 h2
    rw [go_eq] at hgo
    by_cases z : a = 0
    · subst z
      refine ⟨g, ?_, Int.le_refl _⟩
      rw [← hgo, ← R.zero]; rfl
    · exact (R.more a (by omega) ha).le g (List.mem_cons.mpr (.inl hgo.symm))
  · have R := rowAt d h1 h2
    obtain ⟨k, hk, rfl⟩ := List.getElem_of_mem ho
    have hx : (k, os[k]) ∈ soldL os d := sold_mem.mpr ⟨List.getElem?_eq_getElem hk, hd⟩
    refine (R.more a h0 ha).le (r + os[k].price) (List.mem_cons.mpr (.inr (List.mem_map.mpr ⟨_, hx, ?_⟩)))
    rw [with_eq, hr]
    show some (os[k].price + r) = _
    congr 1
    omega
/-! ### what the table's functions promise -/
def spLeast (K : PySem.W.Frag) : Sp := fun vs H Q _ => ∃ (p : Addr) (xs : List (Option Int)), vs = [.ref p] ∧ SqL K H p (xs.map cellV) ∧ xs.length ≤ 1000 ∧ ∀ c H', Same H H' → IsLeast c xs → Q (cellV c) H'
def spWithOffer (K : PySem.W.Frag) : Sp := fun vs H Q _ => ∃ (p : Addr) (r : List (Option Int)) (a : Nat) (s c : Int), vs = [.ref p, .int a, .int s, .int c] ∧ SqA K H p (r.map cellV) ∧ 0 ≤ s ∧ a - s.toNat < r.length ∧ Q (cellV (withO r a s c)) H
def spGoingOn (K : PySem.W.Frag) : Sp := fun vs H Q _ => ∃ (b p : Addr) (ls : List Int) (us : List V) (nxt : List (Option Int)) (M d a : Nat), vs = [.ref b, .ref p, .int d, .int a] ∧ H b = some (.tup (ls.map V.int)) ∧ GoodLs ls ∧ SqA K H p us ∧ 1 ≤ d ∧ d ≤ 7 ∧ a ≤ M ∧ (∀ d : Nat, lackAt ls d ≤ M) ∧
  (d < 7 → ∃ t, us[d]? = some (.ref t) ∧ H t = some (.tup (nxt.map cellV)) ∧ nxt.length = M + 1) ∧ Q (cellV (goG ls nxt d a)) H
def spSoldOn : Sp := fun vs H Q _ => ∃ (v : V) (os : List Offer) (d : Nat), vs = [v, .int d] ∧ OffersAt H v os ∧ os.length ≤ 60 ∧ (∀ o ∈ os, GoodOffer o) ∧ ∀ p us H', Same H H' → H p = none → H' p = some (.lst us) → Held SoldAt H' us (soldL os d) → Q (.ref p) H'
def spRowOf (K : PySem.W.Frag) : Sp := fun vs H Q _ => ∃ (v : V) (b p : Addr) (os : List Offer) (ls : List Int) (us : List V) (nxt : List (Option Int)) (d : Nat), vs = [v, .ref b, .ref p, .int d] ∧ OffersAt H v os ∧ os.length ≤ 60 ∧ (∀ o ∈ os, GoodOffer o) ∧ H b = some (.tup (ls.map V.int)) ∧ GoodLs ls ∧ SqA K H p us ∧ 1 ≤ d ∧ d ≤ 7 ∧
  (d < 7 → ∃ t, us[d]? = some (.ref t) ∧ H t = some (.tup (nxt.map cellV)) ∧ nxt.length = mostL ls + 1) ∧ ∀ v' r H', Same H H' → RowAt H' v' r → RowIs os ls (mostL ls) d nxt r → Q v' H'
end Lar
namespace Lar
open PySem PySem.Spec PyProof.Rows L2
/-! ### all but one object as it was -/
def SameBut (c : Addr) (H H' : Hp) : Prop := ∀ b x, b ≠ c → H b = some x → H' b = some x
theorem SameBut.of {c : Addr} {H H' : Hp} (e : Same H H') : SameBut c H H' := fun b x _ h => e b x h
theorem SameBut.refl (c : Addr) (H : Hp) : SameBut c H H := fun _ _ _ h => h
theorem SameBut.trans {c : Addr} {H H1 H2 : Hp} (a : SameBut c H H1) (b : SameBut c H1 H2) : SameBut c H H2 := fun d o n h => b d o n (a d o n h)
theorem SameBut.put {c : Addr} {H H' : Hp} {o : HO} (a : SameBut c H H') : SameBut c H (upd H' c o) := fun b x n h => by
  rw [upd_ne n]
  exact a b x n h
theorem SameBut.over {c : Addr} {H0 H H' : Hp} (s : Same H0 H) (h : H0 c = none) (a : SameBut c H H') : Same H0 H' := fun b x e => a b x (ne_of_none e h) (s b x e)
theorem keepA {K : PySem.W.Frag} {H H' : Hp} {a : Addr} {xs : List V} (h : ∀ x, H a = some x → H' a = some x) (q : SqA K H a xs) : SqA K H' a xs := by
  rcases q with ((q | ⟨o, q⟩) | q) | ((q | ⟨o, q⟩) | q)
  · exact .inl (.inl (.inl (h _ q)))
  · exact .inl (.inl (.inr ⟨o, h _ q⟩))
  · exact .inl (.inr q)
  · exact .inr (.inl (.inl (h _ q)))
  · exact .inr (.inl (.inr ⟨o, h _ q⟩))
  · exact .inr (.inr q)
theorem SameBut.sq {K : PySem.W.Frag} {c : Addr} {H H' : Hp} {a : Addr} {xs : List V} (e : SameBut c H H') (n : a ≠ c) (q : SqA K H a xs) : SqA K H' a xs := keepA (fun x h => e a x n h) q
/-- where c is a list all along, tuples stay -/
theorem SameBut.tup {c : Addr} {H H' : Hp} {zs : List V} (e : SameBut c H H') (h : H c = some (.lst zs)) : SameT H H' := fun b xs hb => e b _ (fun z => by subst z; rw [h] at hb; cases hb) hb
theorem cutV_from (xs : List V) (i : Nat) : cutV xs (some (i : Int)) none = xs.drop i := by
  unfold cutV
  rw [HT.sIx_nat, HT.sIx_none]
  by_cases h : i ≤ xs.length
  · rw [Nat.min_eq_left h]
    exact List.take_of_length_le (by rw [List.length_drop]; exact Nat.le_refl _)
  · rw [Nat.min_eq_right (by omega), List.drop_of_length_le (Nat.le_refl _), List.drop_of_length_le (by omega), List.take_nil]
theorem rep0 (d : Nat) : (List.replicate (d : Int).toNat [V.int 0]).flatten = (List.replicate d (0 : Int)).map V.int := by
  rw [Int.toNat_natCast]
  induction d with
  | zero => rfl
  | succ d ih => rw [List.replicate_succ, List.flatten_cons, ih, List.replicate_succ, List.map_cons]; rfl
/-! ### the offers that fit -/
abbrev oz : Offer := ⟨0, 0, 0⟩
def fitK (os : List Offer) (d : Int) : List Nat := (List.range os.length).filterMap fun k => if d ≤ (os.getD k oz).last then some k else none
theorem fit_mem {os : List Offer} {d : Int} {k : Nat} (h : k ∈ fitK os d) : k < os.length ∧ d ≤ (os.getD k oz).last := by
  obtain ⟨j, hj, e⟩ := List.mem_filterMap.mp h
  split at e
  · rename_i hd
    cases e
    exact ⟨List.mem_range.mp hj, hd⟩
  · cases e
theorem fit_nil {os : List Offer} {d : Int} (h : fitK os d = []) : ∀ o ∈ os, ¬ d ≤ o.last := fun o ho hd => by
  obtain ⟨k, hk, e⟩ := List.getElem_of_mem ho
  have : k ∈ fitK os d := List.mem_filterMap.mpr ⟨k, List.mem_range.mpr hk, by
    have e2 : os.getD k oz = o := by rw [List.getD_eq_getElem?_getD, List.getElem?_eq_getElem hk, ← e]; rfl
    rw [e2, if_pos hd]⟩
  rw [h] at this
  cases this
theorem zip_range (os : List Offer) (cs : List Int) (h : os.length = cs.length) : os.zip cs = (List.range os.length).map fun k => (os.getD k oz, cs.getD k 0) := by
  refine List.ext_getElem (by rw [zip_len h]; simp) fun i h1 h2 => ?_
  have hi : i < os.length := by rw [zip_len h] at h1; exact h1
  rw [List.getElem_zip, List.getElem_map, List.getElem_range]
  rw [List.getD_eq_getElem?_getD, List.getD_eq_getElem?_getD, List.getElem?_eq_getElem hi, List.getElem?_eq_getElem (by omega)]; rfl
theorem sum_fm (p : Nat → Prop) [DecidablePred p] (g : Nat → Int) : ∀ xs : List Nat, ((xs.filterMap fun k => if p k then some k else none).map g).sum = (xs.map fun k => if p k then g k else 0).sum
  | [] => rfl
  | x :: r => by
    rw [List.map_cons, List.sum_cons, ← sum_fm p g r]
    by_cases e : p x
    · simp only [List.filterMap_cons, if_pos e, List.map_cons, List.sum_cons]
    · simp only [List.filterMap_cons, if_neg e]; omega
theorem held_fit (os : List Offer) (cs : List Int) (h : os.length = cs.length) (d : Int) : ((fitK os d).map fun k => (os.getD k oz).size * cs.getD k 0).sum = heldOn os cs d := by
  unfold fitK
  rw [sum_fm]
  unfold heldOn heldZ
  rw [zip_range os cs h, List.map_map]; rfl
/-- what a filling up leaves -/
structure Filled (os : List Offer) (ls : List Int) (M : Nat) (i : Nat) (cs cs' : List Int) : Prop where
  len : cs'.length = cs.length
  nn : ∀ x ∈ cs', 0 ≤ x
  few : sumC cs' ≤ sumC cs + i * M
  serve : ∀ e : Nat, 7 - i < e → e ≤ 7 → (lackAt ls e : Int) ≤ heldOn os cs' e
theorem sumC_add : ∀ (cs : List Int) (k : Nat) (c x : Int), cs[k]? = some c → 0 ≤ c → 0 ≤ x → sumC (cs.set k (c + x)) = sumC cs + x.toNat
  | [], k, c, x, h, _, _ => by simp at h
  | c' :: cs, 0, c, x, h, hc, hx => by
    have e : c' = c := by simpa using h
    subst e
    unfold sumC
    rw [List.set_cons_zero, List.map_cons, List.sum_cons, List.map_cons, List.sum_cons]
    omega
  | c' :: cs, k + 1, c, x, h, hc, hx => by
    have ih := sumC_add cs k c x (by simpa using h) hc hx
    unfold sumC at ih ⊢
    rw [List.set_cons_succ, List.map_cons, List.sum_cons, List.map_cons, List.sum_cons]
    omega
theorem fill_div {l h s : Int} (hs : 1 ≤ s) (hl : h < l) : l - h ≤ s * ((l - h + s - 1) / s) ∧ 0 ≤ (l - h + s - 1) / s ∧ (l - h + s - 1) / s ≤ l - h := by
  have e := Int.mul_ediv_add_emod (l - h + s - 1) s
  have m0 := Int.emod_nonneg (l - h + s - 1) (show s ≠ 0 by omega)
  have m1 := Int.emod_lt_of_pos (l - h + s - 1) (show 0 < s by omega)
  have n0 := Int.ediv_nonneg (show 0 ≤ l - h + s - 1 by omega) (show 0 ≤ s by omega)
  refine ⟨by omega, n0, ?_⟩
  by_cases z : (l - h + s - 1) / s ≤ l - h
  · exact z
  · exfalso
    have z2 : l - h + 1 ≤ (l - h + s - 1) / s := by omega
    have := Int.mul_le_mul_of_nonneg_left z2 (show 0 ≤ s by omega)
    rw [Int.mul_add] at this
    have q : l - h ≤ s * (l - h) := by
      have := Int.mul_le_mul_of_nonneg_right hs (show 0 ≤ l - h by omega)
      omega
    omega
theorem Filled.none {os : List Offer} {ls : List Int} {M i : Nat} {cs cs' : List Int} (F : Filled os ls M i cs cs') (hi : i < 7) (h : (lackAt ls (7 - i) : Int) ≤ heldOn os cs' ((7 - i : Nat) : Int)) : Filled os ls M (i + 1) cs cs' :=
  ⟨F.len, F.nn, by have := F.few; rw [Nat.succ_mul]; omega, fun e h1 h2 => by
    by_cases z : e = 7 - i
    · subst z; exact h
    · exact F.serve e (by omega) h2⟩
theorem Filled.more {os : List Offer} {ls : List Int} {M i : Nat} {cs cs' : List Int} (F : Filled os ls M i cs cs') (hl : os.length = cs.length) (hg : ∀ o ∈ os, GoodOffer o) (hi : i < 7) (hM : lackAt ls (7 - i) ≤ M)
    {k : Nat} (hk : k ∈ fitK os ((7 - i : Nat) : Int)) (h : heldOn os cs' ((7 - i : Nat) : Int) < (lackAt ls (7 - i) : Int)) :
    Filled os ls M (i + 1) cs (cs'.set k (cs'.getD k 0 + ((lackAt ls (7 - i) : Int) - heldOn os cs' ((7 - i : Nat) : Int) + (os.getD k oz).size - 1) / (os.getD k oz).size)) := by
  obtain ⟨hk1, hk2⟩ := fit_mem hk
  have eo : os.getD k oz = os[k] := by rw [List.getD_eq_getElem?_getD, List.getElem?_eq_getElem hk1]; rfl
  have hkc : k < cs'.length := by rw [F.len, ← hl]; exact hk1
  have ec : cs'.getD k 0 = cs'[k] := by rw [List.getD_eq_getElem?_getD, List.getElem?_eq_getElem hkc]; rfl
  rw [eo] at hk2
  rw [eo, ec]
  have g := hg _ (List.getElem_mem hk1)
  have g1 := g.size1
  obtain ⟨d1, d2, d3⟩ := fill_div g1 h
  have c0 := F.nn _ (List.getElem_mem hkc)
  have hh : 0 ≤ heldOn os cs' ((7 - i : Nat) : Int) := by rw [heldOn_w]; exact wsum_nonneg _ _ _ (fun o ho => onto_nonneg (hg o ho) _) F.nn
  generalize hx : ((lackAt ls (7 - i) : Int) - heldOn os cs' ((7 - i : Nat) : Int) + os[k].size - 1) / os[k].size = x at d1 d2 d3 ⊢
  have hw : ∀ e : Int, heldOn os (cs'.set k (cs'[k] + x)) e = heldOn os cs' e + onto e os[k] * x := fun e => by
    rw [heldOn_w, heldOn_w]
    exact wsum_set (onto e) x os cs' k _ _ (List.getElem?_eq_getElem hk1) (List.getElem?_eq_getElem hkc)
  refine ⟨by rw [List.length_set]; exact F.len, nn_set F.nn (by omega), ?_, fun e h1 h2 => ?_⟩
  · have := sumC_add cs' k _ x (List.getElem?_eq_getElem hkc) c0 d2
    have f := F.few
    rw [this, Nat.succ_mul]
    omega
  · rw [hw]
    by_cases z : e = 7 - i
    · subst z
      unfold onto
      rw [if_pos hk2]
      omega
    · have := F.serve e (by omega) h2
      have := Int.mul_nonneg (onto_nonneg g e) d2
      omega
end Lar
namespace Lar
open PySem PySem.Spec PyProof.Rows L2
section
variable {os : List Offer} {ls : List Int} {rows : List (List (Option Int))}
theorem serves_iff (hls : GoodLs ls) (os : List Offer) (cs : List Int) : servesB os cs ls = true ↔ ∀ e : Nat, 1 ≤ e → e ≤ 7 → (lackAt ls e : Int) ≤ heldOn os cs e := by
  have at_ : ∀ e : Nat, 1 ≤ e → e ≤ 7 → ls.getD (e - 1) 0 = lackAt ls e := fun e h1 h7 => by
    rw [List.getD_eq_getElem?_getD, hls.at h1 h7]; rfl
  unfold servesB
  rw [List.all_eq_true]
  constructor
  · intro h e h1 h7
    have := of_decide_eq_true (h (e - 1) (List.mem_range.mpr (by omega)))
    rw [at_ e h1 h7] at this
    have e2 : (1 : Int) + ((e - 1 : Nat) : Int) = (e : Int) := by omega
    rw [e2] at this
    exact this
  · intro h i hi
    have hi7 := List.mem_range.mp hi
    have := h (i + 1) (by omega) (by omega)
    have e1 := at_ (i + 1) (by omega) (by omega)
    rw [Nat.add_sub_cancel] at e1
    have e2 : (1 : Int) + (i : Int) = ((i + 1 : Nat) : Int) := by omega
    refine decide_eq_true ?_
    rw [e1, e2]
    exact this
theorem costOf_zeros (os : List Offer) (n : Nat) : costOf os (List.replicate n 0) = 0 := by rw [costOf_w]; exact wsum_zeros _ _ _
theorem heldOn_zeros (os : List Offer) (n : Nat) (d : Int) : heldOn os (List.replicate n 0) d = 0 := by rw [heldOn_w]; exact wsum_zeros _ _ _
theorem bought_ok (T : IsTable os ls (mostL ls) rows) (hg : ∀ o ∈ os, GoodOffer o) (hls : GoodLs ls) {c : Int} (hc : cellT rows 1 (lackAt ls 1) = some c) :
    ∃ cs, boughtT os ls rows = some cs ∧ cs.length = os.length ∧ (∀ x ∈ cs, 0 ≤ x) ∧ costOf os cs = c ∧ servesB os cs ls = true := by
  have hm := hls.most
  have h1 := T.most 1
  have h2 := mxA_le T 6
  obtain ⟨cs, e, W⟩ := walk_ok T hg 220 6 1 (lackAt ls 1) c (List.replicate os.length 0) (by decide) (by decide) h1 (by omega) List.length_replicate (fun x hx => by rw [(List.mem_replicate.mp hx).2]; exact Int.le_refl _) hc
  refine ⟨cs, ?_, by rw [W.len, List.length_replicate], W.nn, by rw [W.cost, costOf_zeros]; omega, ?_⟩
  · unfold boughtT
    rw [hc, if_neg (by intro z; cases z)]
    exact e
  · rw [serves_iff hls]
    intro e h1 h7
    by_cases z : e = 1
    · subst z
      have := W.here
      rw [heldOn_zeros] at this
      omega
    · have := W.behind e (by omega) h7
      rw [heldOn_zeros] at this
      omega
theorem bought_none (hc : cellT rows 1 (lackAt ls 1) = none) : boughtT os ls rows = none := by
  unfold boughtT
  rw [if_pos hc]
/-- what serves costs no less than the cell -/
theorem serve_cell (T : IsTable os ls (mostL ls) rows) (hg : ∀ o ∈ os, GoodOffer o) (hls : GoodLs ls) {cs : List Int} (hn : ∀ x ∈ cs, 0 ≤ x) (h : servesB os cs ls = true) :
    ∃ c, cellT rows 1 (lackAt ls 1) = some c ∧ c ≤ costOf os cs := by
  rw [serves_iff hls] at h
  exact under T hg (fun o ho => ho) 6 (sumC cs) 1 (lackAt ls 1) cs (by decide) (by decide) rfl hn (T.most 1) (h 1 (by decide) (by decide)) (fun e h1 h7 => h e (by omega) h7)
end
theorem it_eqC {A B : Prop} {x y : Option Int} (h1 : x = y → A) (h2 : x ≠ y → B) : if decide (cellV x = cellV y) = true then A else B := ite2 (fun h => h1 (cellV_inj (of_decide_eq_true h))) (fun h => h2 fun z => h (decide_eq_true (congrArg cellV z)))
end Lar
namespace Lar
open PySem PySem.Spec PyProof.Rows L2
/-! ### the program's walk over the table -/
theorem it_neC {A B : Prop} {x y : Option Int} (h1 : x ≠ y → A) (h2 : x = y → B) : if (!decide (cellV x = cellV y)) = true then A else B := by
  by_cases e : x = y
  · subst e
    rw [decide_eq_true rfl]
    exact iteF (h2 rfl)
  · rw [decide_eq_false (fun z => e (cellV_inj z))]
    exact iteT (h1 e)
structure Walking (os : List Offer) (ls : List Int) (rows : List (List (Option Int))) (W0 : Option (List Int)) (d a : Nat) (cs : List Int) : Prop where
  am : a ≤ mostL ls
  len : cs.length = os.length
  nn : ∀ x ∈ cs, 0 ≤ x
  ex : ∃ t c, W0 = walkT os ls rows t d a cs ∧ max a (mxA ls (7 - d)) + (7 - d) + 1 ≤ t ∧ cellT rows d a = some c
section
variable {os : List Offer} {ls : List Int} {rows : List (List (Option Int))} {W0 : Option (List Int)} {d a : Nat} {cs : List Int}
theorem walking_start (T : IsTable os ls (mostL ls) rows) (hls : GoodLs ls) {c : Int} (hc : cellT rows 1 (lackAt ls 1) = some c) : Walking os ls rows (boughtT os ls rows) 1 (lackAt ls 1) (List.replicate os.length 0) := by
  have hm := hls.most
  have h1 := T.most 1
  have h2 := mxA_le T 6
  refine ⟨h1, List.length_replicate, fun x hx => by rw [(List.mem_replicate.mp hx).2]; exact Int.le_refl _, 220, c, ?_, by show max _ (mxA ls 6) + 6 + 1 ≤ 220; omega, hc⟩
  unfold boughtT
  rw [hc, if_neg (by intro z; cases z)]
theorem Walking.cell (W : Walking os ls rows W0 d a cs) : ∃ c, cellT rows d a = some c := by
  obtain ⟨t, c, _, _, h⟩ := W.ex
  exact ⟨c, h⟩
theorem Walking.last (W : Walking os ls rows W0 7 a cs) (h : cellT rows 7 a = goT ls rows 7 a) : W0 = some cs := by
  obtain ⟨t, c, e, hf, hc⟩ := W.ex
  cases t with
  | zero => omega
  | succ t =>
    unfold walkT at e
    rw [if_pos h, if_pos rfl] at e
    exact e
theorem Walking.next (W : Walking os ls rows W0 d a cs) (T : IsTable os ls (mostL ls) rows) (h7 : d < 7) (h : cellT rows d a = goT ls rows d a) : Walking os ls rows W0 (d + 1) (max a (lackAt ls (d + 1))) cs := by
  obtain ⟨t, c, e, hf, hc⟩ := W.ex
  have hm := T.most (d + 1)
  have ha := W.am
  refine ⟨by omega, W.len, W.nn, ?_⟩
  cases t with
  | zero => omega
  | succ t =>
    unfold walkT at e
    rw [if_pos h, if_neg (by omega)] at e
    refine ⟨t, c, e, ?_, ?_⟩
    · rw [show 7 - d = (7 - (d + 1)) + 1 by omega] at hf
      unfold mxA at hf
      rw [show 7 - (7 - (d + 1)) = d + 1 by omega] at hf
      omega
    · rw [hc] at h
      unfold goT at h
      rw [if_pos h7] at h
      exact h.symm
theorem Walking.take (W : Walking os ls rows W0 d a cs) (T : IsTable os ls (mostL ls) rows) (hg : ∀ o ∈ os, GoodOffer o) (h1 : 1 ≤ d) (h7 : d ≤ 7) (h : cellT rows d a ≠ goT ls rows d a) :
    ∃ (k : Nat) (hk : k < os.length), firstT os rows d a = some k ∧ 1 ≤ os[k].size ∧ 0 < a ∧ Walking os ls rows W0 d (a - os[k].size.toNat) (cs.set k (cs.getD k 0 + 1)) := by
  obtain ⟨t, c, e, hf, hc⟩ := W.ex
  have ha := W.am
  rcases T.from_ d a c h1 h7 ha hc with e1 | ⟨h0, o, r, ho, hdo, hr, rfl⟩
  · rw [hc, e1] at h; exact absurd rfl h
  · have ff : fits rows d a o = true := fits_iff.mpr ⟨hdo, r, hr, hc.symm⟩
    cases ef : firstT os rows d a with
    | none =>
      have := List.findIdx?_eq_none_iff.mp ef o ho
      rw [ff] at this; cases this
    | some k =>
      obtain ⟨hk, fk, _⟩ := List.findIdx?_eq_some_iff_getElem.mp ef
      obtain ⟨hdk, r', hr', hs⟩ := fits_iff.mp fk
      have eo : os.getD k ⟨0, 0, 0⟩ = os[k] := by rw [List.getD_eq_getElem?_getD, List.getElem?_eq_getElem hk]; rfl
      have g1 := (hg _ (List.getElem_mem hk)).size1
      have hst : mxA ls (7 - d) < a := by
        by_cases z : a ≤ mxA ls (7 - d)
        · have := tab_stay T hg (j := 7 - d) (d := d) (by omega) h1 a a _ (Nat.le_refl _) z hc
          rw [hc, this] at h
          exact absurd rfl h
        · omega
      have hkc : k < cs.length := by rw [W.len]; exact hk
      have ec : cs.getD k 0 = cs[k] := by rw [List.getD_eq_getElem?_getD, List.getElem?_eq_getElem hkc]; rfl
      have c0 := W.nn _ (List.getElem_mem hkc)
      refine ⟨k, hk, rfl, g1, h0, by omega, by rw [List.length_set]; exact W.len, nn_set W.nn (by rw [ec]; omega), ?_⟩
      cases t with
      | zero => omega
      | succ t =>
        unfold walkT at e
        rw [if_neg h, ef] at e
        replace e : W0 = walkT os ls rows t d (a - ((os.getD k ⟨0, 0, 0⟩).size.toNat)) (cs.set k (cs.getD k 0 + 1)) := e
        rw [eo] at e
        exact ⟨t, r', e, by omega, hr'⟩
end
/-- the first that fits, as the program looks for it -/
theorem first_of {os : List Offer} {rows : List (List (Option Int))} {r : List (Option Int)} {d a k : Nat} {c : Int} (hr : rows.getD (d - 1) [] = r) (hc : r.getD a none = some c) (hf : firstT os rows d a = some k) :
    ∃ rest, (soldL os d).filterMap (fun x => if withO r a x.2.size x.2.price = some c then some x.1 else none) = k :: rest := by
  obtain ⟨hk, fk, hj⟩ := List.findIdx?_eq_some_iff_getElem.mp hf
  have ct : ∀ x, cellT rows d x = r.getD x none := fun x => by unfold cellT; rw [hr]
  have wf : ∀ o : Offer, dayOf o = d → (withO r a o.size o.price = some c ↔ fits rows d a o = true) := fun o hd => by
    rw [fits_iff, ct, ct, hc]
    unfold withO
    cases e : r.getD (a - o.size.toNat) none with
    | none => simp
    | some z =>
      simp only [Option.some.injEq]
      constructor
      · intro h; exact ⟨hd, z, rfl, by omega⟩
      · rintro ⟨_, z', e', h⟩; omega
  have gd : ∀ j (hj : j < os.length), os.getD j ⟨0, 0, 0⟩ = os[j] := fun j hj => by rw [List.getD_eq_getElem?_getD, List.getElem?_eq_getElem hj]; rfl
  have en : List.range os.length = List.range k ++ k :: (List.range' (k + 1) (os.length - k - 1)) := by
    have h1 : os.length = k + ((os.length - k - 1) + 1) := by omega
    rw [List.range_eq_range', List.range_eq_range']
    conv => lhs; rw [h1]
    rw [← List.range'_append_1, List.range'_succ]
    simp
  unfold soldL
  rw [List.filterMap_filterMap, en, List.filterMap_append]
  have e0 : (List.range k).filterMap (fun j => (if dayOf (os.getD j ⟨0, 0, 0⟩) = d then some (j, os.getD j ⟨0, 0, 0⟩) else none).bind fun x => if withO r a x.2.size x.2.price = some c then some x.1 else none) = [] := by
    rw [List.filterMap_eq_nil_iff]
    intro j hjm
    have hjk := List.mem_range.mp hjm
    have hjo : j < os.length := by omega
    rw [gd j hjo]
    by_cases hd : dayOf os[j] = d
    · rw [if_pos hd]
      show (if withO r a os[j].size os[j].price = some c then some j else none) = none
      rw [if_neg]
      intro z
      have := (wf os[j] hd).mp z
      exact hj j hjk this
    · rw [if_neg hd]; rfl
  have hdk := (fits_iff.mp fk).1
  rw [e0, List.nil_append]
  refine ⟨_, List.filterMap_cons_some ?_⟩
  rw [gd k hk, if_pos hdk]
  show (if withO r a os[k].size os[k].price = some c then some k else none) = some k
  rw [if_pos ((wf os[k] hdk).mpr fk)]
def spFirstFit (K : PySem.W.Frag) : Sp := fun vs H Q _ => ∃ (sp p : Addr) (sus : List V) (os : List Offer) (rows : List (List (Option Int))) (r : List (Option Int)) (d a k : Nat) (c : Int), vs = [.ref sp, .ref p, .int a] ∧ SqL K H sp sus ∧ Held SoldAt H sus (soldL os d) ∧ SqA K H p (r.map cellV) ∧ os.length ≤ 60 ∧ (∀ o ∈ os, GoodOffer o) ∧
  rows.getD (d - 1) [] = r ∧ a < r.length ∧ r.getD a none = some c ∧ firstT os rows d a = some k ∧ ∀ H', Same H H' → Q (.int (k : Nat)) H'
end Lar
namespace Lar
open PySem PySem.Spec PyProof.Rows L2
local macro_rules | `(tactic| walk_at "rd") => `(tactic| repeat' first
  | refine ⟨_, rfl, ?_⟩
  | refine ⟨_, _, rfl, rfl, ?_⟩
  | refine ⟨_, _, rfl, ?_⟩
  | refine ⟨rfl, ?_⟩
  | refine ⟨⟨_, rfl⟩, ?_⟩
  | refine ⟨(by show (0 : Int) < _; decide), ?_⟩
  | refine ⟨⟨by decide, by decide⟩, ?_⟩
  | refine ⟨.inr ⟨by decide, by decide⟩, ?_⟩
  | refine ⟨.inl ⟨by decide, by decide⟩, ?_⟩
  | refine ⟨.inl ⟨by omega, by omega⟩, ?_⟩
  | refine ⟨.inr ⟨by omega, by omega⟩, ?_⟩
  | fail "rd")
def topS (i : Nat) : Stmt := PySem.Challenge.pw_larderlist_k07_none_undercuts.main.body.getD i (.Pass ⟨0, 0, 0, 0⟩)
abbrev s_mix : Stmt := topS 16
theorem sc_mix : FnScope ["_law_cell", "_law_k", "_law_x"] ["_law_cell", "_law_k"] (defScope s_mix) := ⟨rfl, rfl, rfl, by decide +kernel, rfl, by decide +kernel, by decide +kernel⟩
theorem bd_mix : ∀ (kV doc pm : Value) (an : Option Addr) (cdv ct : Value) (us : List Value), us.length = (["_law_cell", "_law_k"] : List Str).length → bindArgs (PySem.W.fnOf "_law_mix" "_law_mix" (defArgs s_mix) (defBody s_mix) (defScope s_mix) .none kV doc pm an cdv ct) ⟨us, []⟩ = pure ((["_law_cell", "_law_k"] : List Str).zip us) := fun _ _ _ _ _ _ us hl => match us, hl with | [_, _], _ => rfl
/-- a cell mixed: between 0 and a bound -/
def spMix : Sp := fun vs H Q _ => ∃ c k : Int, vs = [.int c, .int k] ∧ 0 ≤ k ∧ k ≤ 1000000 ∧ ∀ z : Int, 0 ≤ z → z < 998244353 → Q (.int z) H
theorem ok_mix {P : Program} {w : World} {K : PySem.W.Frag} {mg : Str → Option Value} {base : Heap} (D : DefAt K mg "_law_mix" s_mix) : Clb P w K mg base 1 "_law_mix" ["_law_cell", "_law_k"] spMix := by
  refine D.clb sc_mix (fun vs H Q E h => ?_) bd_mix (fun f cdv A outer s H vs Q E hr h => ?_)
  · obtain ⟨c, k, rfl, _⟩ := h
    rfl
  · obtain ⟨c, k, rfl, h0, h1, q⟩ := h
    refine ⟨_, (pss_cons (ps_set (i := 2) sc_mix.nd rfl (.inl rfl) (pe_op op_mod (pe_op op_add (pe_op op_add (pv 0) (pe_op op_mul pe_int (pv 1))) (pe_op op_mul (pe_op op_mul pe_int (pv 1)) (pv 1))) pe_int))
    (pss_one (ps_ret (pe_op op_mod (pe_op op_mul (pe_op op_mod (pe_op op_mul (pv 2) (pv 2)) pe_int) pe_int) pe_int)))), ?_⟩
    walk_at "rd"
    exact q _ (Int.emod_nonneg _ (by decide)) (Int.emod_lt_of_pos _ (by decide))
/-- the cells: a list of numbers from 0 up -/
def CellsAt (K : PySem.W.Frag) (H : Hp) (a : Addr) : Prop := ∃ cs : List Int, SqL K H a (cs.map V.int) ∧ cs.length ≤ 63 ∧ ∀ c ∈ cs, 0 ≤ c ∧ c < 1000000000000000003
theorem CellsAt.same {K : PySem.W.Frag} {H H' : Hp} {a : Addr} (h : CellsAt K H a) (e : Same H H') : CellsAt K H' a := by
  obtain ⟨cs, h1, h2⟩ := h
  exact ⟨cs, e.seq h1, h2⟩
abbrev s_cell_at : Stmt := topS 15
theorem sc_cell_at : FnScope ["_law_cells", "_law_k"] ["_law_cells", "_law_k"] (defScope s_cell_at) := ⟨rfl, rfl, rfl, by decide +kernel, rfl, by decide +kernel, by decide +kernel⟩
theorem bd_cell_at : ∀ (kV doc pm : Value) (an : Option Addr) (cdv ct : Value) (us : List Value), us.length = (["_law_cells", "_law_k"] : List Str).length → bindArgs (PySem.W.fnOf "_law_cell_at" "_law_cell_at" (defArgs s_cell_at) (defBody s_cell_at) (defScope s_cell_at) .none kV doc pm an cdv ct) ⟨us, []⟩ = pure ((["_law_cells", "_law_k"] : List Str).zip us) := fun _ _ _ _ _ _ us hl => match us, hl with | [_, _], _ => rfl
def spCellAt (K : PySem.W.Frag) : Sp := fun vs H Q _ => ∃ (a : Addr) (k : Int), vs = [.ref a, .int k] ∧ CellsAt K H a ∧ 0 ≤ k ∧ k ≤ 1000 ∧ ∀ z : Int, 0 ≤ z → z < 1000000000000000003 → Q (.int z) H
theorem ok_cell_at {P : Program} {w : World} {K : PySem.W.Frag} {mg : Str → Option Value} {base : Heap} (D : DefAt K mg "_law_cell_at" s_cell_at) (m_len : mg "len" = none) : Clb P w K mg base 1 "_law_cell_at" ["_law_cells", "_law_k"] (spCellAt K) := by
  refine D.clb sc_cell_at (fun vs H Q E h => ?_) bd_cell_at (fun f cdv A outer s H vs Q E hr h => ?_)
  · obtain ⟨a, k, rfl, _⟩ := h
    rfl
  · obtain ⟨a, k, rfl, ⟨cs, hc, hl, hb⟩, h0, h1, q⟩ := h
    refine ⟨_, (pss_cons (ps_if (pt_cmpR op_lt (pv 1) (pe_callB (kcall_len_seq K) (by rfl) m_len (by decide +kernel) (pa_cons (pv 0) pa_nil)) (nomark _))
      (pss_one (ps_ret (pe_ix (kix_list K) (pv 0) (pv 1) (fun _ _ => rfl))))
      pss_nil)
    (pss_one (ps_ret (pe_op op_mul (pe_op op_mul (pe_op op_add (pv 1) pe_int) (pe_op op_add (pv 1) pe_int)) pe_int)))), ?_⟩
    refine ⟨_, rfl, _, rfl, a, _, rfl, .inl hc, ?_⟩
    walk_at "rd"
    refine it_lt (fun hlt => ?_) (fun _ => ?_)
    · rw [List.length_map] at hlt
      have hk : k.toNat < cs.length := by omega
      refine ⟨_, rfl, _, rfl, a, _, _, .int cs[k.toNat], rfl, rfl, hc, at_of (j := k.toNat) (by omega) (ix_map (List.getElem?_eq_getElem hk)), ?_⟩
      exact q _ (hb _ (List.getElem_mem hk)).1 (hb _ (List.getElem_mem hk)).2
    · walk_at "rd"
      have h3 : 0 ≤ (k + 3) * (k + 7) := Int.mul_nonneg (by omega) (by omega)
      have h4 : (k + 3) * (k + 7) ≤ 1003 * (k + 7) := Int.mul_le_mul_of_nonneg_right (by omega) (by omega)
      exact q _ (by show 0 ≤ (k + 3) * (k + 7) * 7919; omega) (by show (k + 3) * (k + 7) * 7919 < _; omega)
abbrev s_mixed : Stmt := topS 14
theorem sc_mixed : FnScope ["_law_script", "_law_found", "_law_more", "_law_cell"] ["_law_script"] (defScope s_mixed) := ⟨rfl, rfl, rfl, by decide +kernel, rfl, by decide +kernel, by decide +kernel⟩
theorem bd_mixed : ∀ (kV doc pm : Value) (an : Option Addr) (cdv ct : Value) (us : List Value), us.length = (["_law_script"] : List Str).length → bindArgs (PySem.W.fnOf "_law_mixed" "_law_mixed" (defArgs s_mixed) (defBody s_mixed) (defScope s_mixed) .none kV doc pm an cdv ct) ⟨us, []⟩ = pure ((["_law_script"] : List Str).zip us) := fun _ _ _ _ _ _ us hl => match us, hl with | [_], _ => rfl
def spMixed (K : PySem.W.Frag) : Sp := fun vs H Q _ => ∃ (a : Addr) (ns : List Int), vs = [.ref a] ∧ SqL K H a (ns.map V.int) ∧ ns.length ≤ 63 ∧ ∀ p H', Same H H' → CellsAt K H' p → Q (.ref p) H'
theorem ok_mixed {P : Program} {w : World} {K : PySem.W.Frag} {mg : Str → Option Value} {base : Heap} (D : DefAt K mg "_law_mixed" s_mixed) : Clb P w K mg base 1 "_law_mixed" ["_law_script"] (spMixed K) := by
  refine D.clb sc_mixed (fun vs H Q E h => ?_) bd_mixed (fun f cdv A outer s H vs Q E hr h => ?_)
  · obtain ⟨a, ns, rfl, _⟩ := h
    rfl
  · obtain ⟨a, ns, rfl, hS, hl, q⟩ := h
    refine ⟨_, (pss_cons (ps_set (i := 1) sc_mixed.nd rfl (.inl rfl) (pe_lst pa_nil))
    (pss_cons (ps_set (i := 2) sc_mixed.nd rfl (.inl rfl) pe_int)
    (pss_cons (ps_for PassesOwn.never rfl (kpi_list K (pv 0)) (pg_name (i := 3) sc_mixed.nd rfl (.inl rfl))
      (pss_cons (ps_set (i := 2) sc_mixed.nd rfl (.inl rfl) (pe_op op_mod (pe_op op_add (pe_op op_add (pe_op op_mul (pv 2) pe_int) (pv 3)) pe_int) pe_int))
    (pss_one (ps_expr (kpe_bm K PySem.F.plainAttrs_list PySem.F.slot_list_append PySem.F.type_list_append mt_append (pv 1) (pa_cons (pv 2) pa_nil))))))
    (pss_one (ps_ret (pv 1)))))), ?_⟩
    refine ⟨Nat.zero_le _, fun p hp => ?_⟩
    refine ⟨_, rfl, a, rfl, ⟨_, (same_upd hp).seq hS⟩, for_list (xs := ns.map V.int) (fun i σ H' => ∃ (cs : List Int) (m : Int) (y : Option V), σ = [some (.ref a), some (.ref p), some (.int m), y] ∧ Same H H' ∧ H' p = some (.lst (cs.map V.int)) ∧ cs.length = i ∧
      (0 ≤ m ∧ m < 1000000000000000003) ∧ ∀ c ∈ cs, 0 ≤ c ∧ c < 1000000000000000003) ⟨[], 1, none, rfl, same_upd hp, upd_same, rfl, by decide, fun _ h => nomatch h⟩ (fun i σ H' _ h => ?_) (fun i x σ H' hx h => ?_) (fun σ H' h => ?_)⟩
    · obtain ⟨cs, m, y, _, sm, _⟩ := h
      exact sm.seq hS
    · obtain ⟨cs, m, y, rfl, sm, hcs, hi, hm, hb⟩ := h
      obtain ⟨n, hn, rfl⟩ := map_ix hx
      have hlt : i < ns.length := (List.getElem?_eq_some_iff.mp hn).1
      walk_at "rd"
      refine ⟨.inl ⟨rfl, _, sqL hcs⟩, ?_⟩
      refine ⟨_, rfl, p, _, _, rfl, rfl, hcs, small' (by rw [List.length_map]; omega), ?_⟩
      have h1 : 0 ≤ (m * 6364136223846793005 + n + 1442695040888963407) % 1000000000000000003 := Int.emod_nonneg _ (by decide)
      have h2 : (m * 6364136223846793005 + n + 1442695040888963407) % 1000000000000000003 < 1000000000000000003 := Int.emod_lt_of_pos _ (by decide)
      refine ⟨cs ++ [(m * 6364136223846793005 + n + 1442695040888963407) % 1000000000000000003], _, _, rfl, sm.mut hp, ?_, ?_, ⟨h1, h2⟩, fun c hc => ?_⟩
      · rw [upd_same, List.map_append]; rfl
      · rw [List.length_append, hi]; rfl
      · rcases List.mem_append.mp hc with z | z
        · exact hb c z
        · rw [List.mem_singleton.mp z]
          exact ⟨h1, h2⟩
    · obtain ⟨cs, m, y, rfl, sm, hcs, hi, hm, hb⟩ := h
      rw [List.length_map] at hi
      exact ⟨_, rfl, q p H' sm ⟨cs, sqL hcs, by omega, hb⟩⟩
abbrev s_amount : Stmt := topS 17
theorem sc_amount : FnScope ["_law_cell", "_law_most", "_law_way"] ["_law_cell", "_law_most"] (defScope s_amount) := ⟨rfl, rfl, rfl, by decide +kernel, rfl, by decide +kernel, by decide +kernel⟩
theorem bd_amount : ∀ (kV doc pm : Value) (an : Option Addr) (cdv ct : Value) (us : List Value), us.length = (["_law_cell", "_law_most"] : List Str).length → bindArgs (PySem.W.fnOf "_law_amount" "_law_amount" (defArgs s_amount) (defBody s_amount) (defScope s_amount) .none kV doc pm an cdv ct) ⟨us, []⟩ = pure ((["_law_cell", "_law_most"] : List Str).zip us) := fun _ _ _ _ _ _ us hl => match us, hl with | [_, _], _ => rfl
def spAmount : Sp := fun vs H Q _ => ∃ c : Int, vs = [.int c, .int 200] ∧ ∀ z : Int, 1 ≤ z → z ≤ 200 → Q (.int z) H
theorem ok_amount {P : Program} {w : World} {K : PySem.W.Frag} {mg : Str → Option Value} {base : Heap} (D : DefAt K mg "_law_amount" s_amount) : Clb P w K mg base 1 "_law_amount" ["_law_cell", "_law_most"] spAmount := by
  refine D.clb sc_amount (fun vs H Q E h => ?_) bd_amount (fun f cdv A outer s H vs Q E hr h => ?_)
  · obtain ⟨c, rfl, _⟩ := h
    rfl
  · obtain ⟨c, rfl, q⟩ := h
    refine ⟨_, (pss_cons (ps_set (i := 2) sc_amount.nd rfl (.inl rfl) (pe_op op_mod (pv 0) pe_int))
    (pss_cons (ps_if (pt_cmpR op_eq (pv 2) pe_int (nomark _))
      (pss_one (ps_ret (pe_op op_add pe_int (pe_op op_mod (pe_op op_fdiv (pv 0) pe_int) (pv 1)))))
      pss_nil)
    (pss_cons (ps_if (pt_cmpR op_eq (pv 2) pe_int (nomark _))
      (pss_one (ps_ret (pe_op op_add pe_int (pe_op op_mod (pe_op op_fdiv (pv 0) pe_int) pe_int))))
      pss_nil)
    (pss_one (ps_ret (pe_op op_add pe_int (pe_op op_mod (pe_op op_fdiv (pv 0) pe_int) pe_int))))))), ?_⟩
    have e1 := Int.emod_nonneg (c / 8) (show (200 : Int) ≠ 0 by decide)
    have e2 := Int.emod_lt_of_pos (c / 8) (show (0 : Int) < 200 by decide)
    have e3 := Int.emod_nonneg (c / 8) (show (60 : Int) ≠ 0 by decide)
    have e4 := Int.emod_lt_of_pos (c / 8) (show (0 : Int) < 60 by decide)
    have e5 := Int.emod_nonneg (c / 8) (show (12 : Int) ≠ 0 by decide)
    have e6 := Int.emod_lt_of_pos (c / 8) (show (0 : Int) < 12 by decide)
    walk_at "rd"
    refine it_eqI (fun _ => ?_) (fun _ => ?_)
    · walk_at "rd"
      exact q _ (by show 1 ≤ 1 + _; omega) (by show 1 + _ ≤ (200 : Int); omega)
    · walk_at "rd"
      refine it_eqI (fun _ => ?_) (fun _ => ?_)
      · walk_at "rd"
        exact q _ (by show 1 ≤ 1 + _; omega) (by show 1 + _ ≤ (200 : Int); omega)
      · walk_at "rd"
        exact q _ (by show 1 ≤ 1 + _; omega) (by show 1 + _ ≤ (200 : Int); omega)
abbrev s_last : Stmt := topS 18
theorem sc_last : FnScope ["_law_cell"] ["_law_cell"] (defScope s_last) := ⟨rfl, rfl, rfl, by decide +kernel, rfl, by decide +kernel, by decide +kernel⟩
theorem bd_last : ∀ (kV doc pm : Value) (an : Option Addr) (cdv ct : Value) (us : List Value), us.length = (["_law_cell"] : List Str).length → bindArgs (PySem.W.fnOf "_law_last" "_law_last" (defArgs s_last) (defBody s_last) (defScope s_last) .none kV doc pm an cdv ct) ⟨us, []⟩ = pure ((["_law_cell"] : List Str).zip us) := fun _ _ _ _ _ _ us hl => match us, hl with | [_], _ => rfl
def spLast : Sp := fun vs H Q _ => ∃ c : Int, vs = [.int c] ∧ ∀ z : Int, 1 ≤ z → z ≤ 99 → Q (.int z) H
theorem ok_last {P : Program} {w : World} {K : PySem.W.Frag} {mg : Str → Option Value} {base : Heap} (D : DefAt K mg "_law_last" s_last) : Clb P w K mg base 1 "_law_last" ["_law_cell"] spLast := by
  refine D.clb sc_last (fun vs H Q E h => ?_) bd_last (fun f cdv A outer s H vs Q E hr h => ?_)
  · obtain ⟨c, rfl, _⟩ := h
    rfl
  · obtain ⟨c, rfl, q⟩ := h
    refine ⟨_, (pss_cons (ps_if (pt_cmpR op_eq (pe_op op_mod (pv 0) pe_int) pe_int (nomark _))
      (pss_one (ps_ret (pe_op op_add pe_int (pe_op op_mod (pe_op op_fdiv (pv 0) pe_int) pe_int))))
      pss_nil)
    (pss_cons (ps_if (pt_cmpR op_lt (pe_op op_mod (pv 0) pe_int) pe_int (nomark _))
      (pss_one (ps_ret (pe_op op_add pe_int (pe_op op_mod (pe_op op_fdiv (pv 0) pe_int) pe_int))))
      pss_nil)
    (pss_one (ps_ret (pe_op op_add pe_int (pe_op op_mod (pe_op op_fdiv (pv 0) pe_int) pe_int)))))), ?_⟩
    have e1 := Int.emod_nonneg (c / 6) (show (99 : Int) ≠ 0 by decide)
    have e2 := Int.emod_lt_of_pos (c / 6) (show (0 : Int) < 99 by decide)
    have e3 := Int.emod_nonneg (c / 6) (show (2 : Int) ≠ 0 by decide)
    have e4 := Int.emod_lt_of_pos (c / 6) (show (0 : Int) < 2 by decide)
    have e5 := Int.emod_nonneg (c / 6) (show (9 : Int) ≠ 0 by decide)
    have e6 := Int.emod_lt_of_pos (c / 6) (show (0 : Int) < 9 by decide)
    walk_at "rd"
    refine it_eqI (fun _ => ?_) (fun _ => ?_)
    · walk_at "rd"
      exact q _ (by show 1 ≤ 1 + _; omega) (by show 1 + _ ≤ (99 : Int); omega)
    · walk_at "rd"
      refine it_lt (fun _ => ?_) (fun _ => ?_)
      · walk_at "rd"
        exact q _ (by show 1 ≤ 7 + _; omega) (by show 7 + _ ≤ (99 : Int); omega)
      · walk_at "rd"
        exact q _ (by show 1 ≤ 1 + _; omega) (by show 1 + _ ≤ (99 : Int); omega)
abbrev s_size : Stmt := topS 19
theorem sc_size : FnScope ["_law_cell"] ["_law_cell"] (defScope s_size) := ⟨rfl, rfl, rfl, by decide +kernel, rfl, by decide +kernel, by decide +kernel⟩
theorem bd_size : ∀ (kV doc pm : Value) (an : Option Addr) (cdv ct : Value) (us : List Value), us.length = (["_law_cell"] : List Str).length → bindArgs (PySem.W.fnOf "_law_size" "_law_size" (defArgs s_size) (defBody s_size) (defScope s_size) .none kV doc pm an cdv ct) ⟨us, []⟩ = pure ((["_law_cell"] : List Str).zip us) := fun _ _ _ _ _ _ us hl => match us, hl with | [_], _ => rfl
def spSize : Sp := fun vs H Q _ => ∃ c : Int, vs = [.int c] ∧ ∀ z : Int, 0 ≤ z → z ≤ 60 → Q (.int z) H
theorem ok_size {P : Program} {w : World} {K : PySem.W.Frag} {mg : Str → Option Value} {base : Heap} (D : DefAt K mg "_law_size" s_size) : Clb P w K mg base 1 "_law_size" ["_law_cell"] spSize := by
  refine D.clb sc_size (fun vs H Q E h => ?_) bd_size (fun f cdv A outer s H vs Q E hr h => ?_)
  · obtain ⟨c, rfl, _⟩ := h
    rfl
  · obtain ⟨c, rfl, q⟩ := h
    refine ⟨_, (pss_cons (ps_if (pt_cmpR op_eq (pe_op op_mod (pe_op op_fdiv (pv 0) pe_int) pe_int) pe_int (nomark _))
      (pss_one (ps_ret (pe_op op_mod (pe_op op_fdiv (pv 0) pe_int) pe_int)))
      pss_nil)
    (pss_one (ps_ret (pe_op op_mod (pv 0) pe_int)))), ?_⟩
    have e1 := Int.emod_nonneg (c / 560) (show (61 : Int) ≠ 0 by decide)
    have e2 := Int.emod_lt_of_pos (c / 560) (show (0 : Int) < 61 by decide)
    have e3 := Int.emod_nonneg c (show (7 : Int) ≠ 0 by decide)
    have e4 := Int.emod_lt_of_pos c (show (0 : Int) < 7 by decide)
    walk_at "rd"
    refine it_eqI (fun _ => ?_) (fun _ => ?_)
    · walk_at "rd"
      exact q _ e1 (by omega)
    · walk_at "rd"
      exact q _ e3 (by omega)
abbrev s_offers : Stmt := topS 20
theorem sc_offers : FnScope ["_law_cells", "_law_many", "_law_offers_here", "_law_k", "_law_cell", "_law_some", "_law_price"] ["_law_cells", "_law_many"] (defScope s_offers) := ⟨rfl, rfl, rfl, by decide +kernel, rfl, by decide +kernel, by decide +kernel⟩
theorem bd_offers : ∀ (kV doc pm : Value) (an : Option Addr) (cdv ct : Value) (us : List Value), us.length = (["_law_cells", "_law_many"] : List Str).length → bindArgs (PySem.W.fnOf "_law_offers" "_law_offers" (defArgs s_offers) (defBody s_offers) (defScope s_offers) .none kV doc pm an cdv ct) ⟨us, []⟩ = pure ((["_law_cells", "_law_many"] : List Str).zip us) := fun _ _ _ _ _ _ us hl => match us, hl with | [_, _], _ => rfl
def spOffers (K : PySem.W.Frag) : Sp := fun vs H Q _ => ∃ (a : Addr) (m : Int), vs = [.ref a, .int m] ∧ CellsAt K H a ∧ 0 ≤ m ∧ m ≤ 60 ∧
  ∀ (v : V) (os : List Offer) (H' : Hp), Same H H' → OffersAt H' v os → os.length ≤ 60 → (∀ o ∈ os, GoodOffer o) → Q v H'
theorem ok_offers {P : Program} {w : World} {K : PySem.W.Frag} {mg : Str → Option Value} {base : Heap} (D : DefAt K mg "_law_offers" s_offers) (m_range : mg "range" = none) (m_tuple : mg "tuple" = none)
    (C_mix : Clb P w K mg base 1 "_law_mix" ["_law_cell", "_law_k"] spMix) (C_cell_at : Clb P w K mg base 1 "_law_cell_at" ["_law_cells", "_law_k"] (spCellAt K)) (C_amount : Clb P w K mg base 1 "_law_amount" ["_law_cell", "_law_most"] spAmount) (C_last : Clb P w K mg base 1 "_law_last" ["_law_cell"] spLast) :
    Clb P w K mg base 2 "_law_offers" ["_law_cells", "_law_many"] (spOffers K) := by
  refine D.clb sc_offers (fun vs H Q E h => ?_) bd_offers (fun f cdv A outer s H vs Q E hr h => ?_)
  · obtain ⟨a, m, rfl, _⟩ := h
    rfl
  · obtain ⟨a, m, rfl, hc, h0, h1, q⟩ := h
    refine ⟨_, (pss_cons (ps_set (i := 2) sc_offers.nd rfl (.inl rfl) (pe_lst pa_nil))
    (pss_cons (ps_for PassesOwn.never rfl (pi_range1 (by rfl) m_range (pa_cons (pv 1) pa_nil)) (pg_name (i := 3) sc_offers.nd rfl (.inl rfl))
      (pss_cons (ps_set (i := 4) sc_offers.nd rfl (.inl rfl) (pe_cal C_mix (hr.mono (by decide)) (pa_cons (pe_cal C_cell_at (hr.mono (by decide)) (pa_cons (pv 0) (pa_cons (pe_op op_add pe_int (pv 3)) pa_nil))) (pa_cons (pv 3) pa_nil))))
    (pss_cons (ps_set (i := 5) sc_offers.nd rfl (.inl rfl) (pe_cal C_mix (hr.mono (by decide)) (pa_cons (pv 4) (pa_cons (pe_op op_add (pv 3) pe_int) pa_nil))))
    (pss_cons (ps_set (i := 6) sc_offers.nd rfl (.inl rfl) (pe_op op_mod (pe_op op_fdiv (pv 4) pe_int) pe_int))
    (C8.pss_cut (ps_if (pt_cmpR op_eq (pe_op op_mod (pv 4) pe_int) pe_int (nomark _))
      (pss_one (ps_set (i := 6) sc_offers.nd rfl (.inl rfl) (pe_op op_mod (pe_op op_fdiv (pv 4) pe_int) pe_int)))
      pss_nil)
    (C8.pss_cut (ps_if (pt_cmpR op_eq (pe_op op_mod (pv 4) pe_int) pe_int (nomark _))
      (pss_one (ps_set (i := 6) sc_offers.nd rfl (.inl rfl) pe_int))
      pss_nil)
    (pss_cons (ps_expr (kpe_bm K PySem.F.plainAttrs_list PySem.F.slot_list_append PySem.F.type_list_append mt_append (pv 2) (pa_cons (pe_tup (pa_cons (pe_cal C_amount (hr.mono (by decide)) (pa_cons (pv 5) (pa_cons pe_int pa_nil))) (pa_cons (pv 6) (pa_cons (pe_cal C_last (hr.mono (by decide)) (pa_cons (pe_op op_fdiv (pv 5) pe_int) pa_nil)) pa_nil)))) pa_nil)))
    (pss_one (ps_if (PW.pt (pw_and (pt_cmpR op_gt (pv 3) pe_int (nomark _)) (pw_and1 (pt_cmpR op_eq (pe_op op_mod (pe_op op_fdiv (pv 4) pe_int) pe_int) pe_int (nomark _)))))
      (pss_one (ps_asg (pe_ix (kix_list K) (pv 2) (pe_op op_mod (pe_op op_fdiv (pv 4) pe_int) (pv 3)) (fun _ _ => rfl)) (pg_sub (pv 2) (pv 3) set_list)))
      pss_nil)))))))))
    (pss_one (ps_ret (pe_callTy (kcall_tuple_of K) (by rfl) m_tuple (by decide +kernel) (pa_cons (pv 2) pa_nil)))))), ?_⟩
    refine ⟨Nat.zero_le _, fun p hp => ?_⟩
    walk_at "rd"
    refine ⟨by omega, by omega, ?_⟩
    refine for_range (lo := 0) (fun i σ H' => ∃ (y3 y4 y5 y6 : Option V) (vs : List V) (os : List Offer), σ = [some (.ref a), some (.int m), some (.ref p), y3, y4, y5, y6] ∧ Same H H' ∧ H' p = some (.lst vs) ∧
        Held OfferAt H' vs os ∧ os.length = i ∧ ∀ o ∈ os, GoodOffer o)
      ⟨none, none, none, none, [], [], rfl, same_upd hp, upd_same, Held.nil, rfl, fun _ z => nomatch z⟩ (fun i σ H1 hi h => ?_) (fun σ H1 h => ?_)
    · obtain ⟨y3, y4, y5, y6, vs, os, rfl, sm, hpl, hd, hl, hg⟩ := h
      have hi' : (i : Int) < m := by omega
      walk_at "rd"
      refine ⟨hc.same sm, by omega, by omega, fun c c0 c1 => ?_⟩
      walk_at "rd"
      refine ⟨by omega, by omega, fun cell z0 z1 => ?_⟩
      walk_at "rd"
      refine ⟨by omega, by omega, fun som z2 z3 => ?_⟩
      walk_at "rd"
      have e1 := Int.emod_nonneg (cell / 100) (show (30 : Int) ≠ 0 by decide)
      have e2 := Int.emod_lt_of_pos (cell / 100) (show (0 : Int) < 30 by decide)
      have e3 := Int.emod_nonneg (cell / 9) (show (1000001 : Int) ≠ 0 by decide)
      have e4 := Int.emod_lt_of_pos (cell / 9) (show (0 : Int) < 1000001 by decide)
      refine ⟨fun σ' H' => ∃ z : Int, σ' = [some (.ref a), some (.int m), some (.ref p), some (.int (0 + (i : Nat))), some (.int cell), some (.int som), some (.int z)] ∧ H1 = H' ∧ 0 ≤ z ∧ z ≤ 1000000, ?_, fun σ' H' h => ?_⟩
      · walk_at "rd"
        refine it_eqI (fun _ => ?_) (fun _ => ?_)
        · walk_at "rd"
          exact ⟨e3, by omega⟩
        · exact ⟨_, rfl, rfl, e1, by omega⟩
      obtain ⟨z, rfl, rfl, p0, p1⟩ := h
      refine ⟨fun σ' H' => ∃ z : Int, σ' = [some (.ref a), some (.int m), some (.ref p), some (.int (0 + (i : Nat))), some (.int cell), some (.int som), some (.int z)] ∧ H1 = H' ∧ 0 ≤ z ∧ z ≤ 1000000, ?_, fun σ' H' h => ?_⟩
      · walk_at "rd"
        refine it_eqI (fun _ => ?_) (fun _ => ?_)
        · exact ⟨0, rfl, rfl, by decide, by decide⟩
        · exact ⟨z, rfl, rfl, p0, p1⟩
      obtain ⟨z, rfl, rfl, p0, p1⟩ := h
      refine ⟨_, rfl, .inl ⟨rfl, _, sqL hpl⟩, ?_⟩
      walk_at "rd"
      refine fun am a1 a2 => ?_
      walk_at "rd"
      refine fun la l1 l2 => ?_
      refine ⟨small (by show 3 ≤ 100000; decide), fun t ht => ?_⟩
      have hpl3 : (upd H1 t (.tup [V.int am, V.int z, V.int la])) p = some (.lst vs) := by
        rw [upd_ne (ne_of_none hpl ht)]
        exact hpl
      refine ⟨p, _, _, rfl, rfl, hpl3, small' (by rw [hd.len]; omega), ?_⟩
      have st : SameT H1 (upd (upd H1 t (.tup [V.int am, V.int z, V.int la])) p (.lst (vs ++ [V.ref t]))) := (SameT.new ht).trans (SameT.lst hpl3)
      have hg2 : ∀ o ∈ os ++ [(⟨am, z, la⟩ : Offer)], GoodOffer o := fun o ho => by
        rcases List.mem_append.mp ho with y | y
        · exact hg o y
        · rw [List.mem_singleton.mp y]
          exact ⟨a1, a2, p0, p1, l1, l2⟩
      have hd2 : Held OfferAt (upd (upd H1 t (.tup [V.int am, V.int z, V.int la])) p (.lst (vs ++ [V.ref t]))) (vs ++ [V.ref t]) (os ++ [(⟨am, z, la⟩ : Offer)]) := (hd.mono OfferAt.mono st).snoc ⟨t, rfl, by
        rw [upd_ne (ne_of upd_same hpl3 (by intro z; cases z))]
        exact upd_same⟩
      have sm2 := (sm.new (o := .tup [V.int am, V.int z, V.int la]) ht).mut (o := .lst (vs ++ [V.ref t])) hp
      walk_at "rd"
      refine it_lt (fun ek => ?_) (fun _ => ?_)
      · walk_at "rd"
        refine it_eqI (fun _ => ?_) (fun _ => ?_)
        · refine ⟨_, rfl, ?_⟩
          walk_at "rd"
          have e5 := Int.emod_nonneg (cell / 18000) (show (0 + (i : Int)) ≠ 0 by omega)
          have e6 := Int.emod_lt_of_pos (cell / 18000) (show 0 < (0 + (i : Int)) by omega)
          refine ⟨by show 0 < (0 + (i : Int)); omega, ?_⟩
          have hj : (cell / 18000 % (0 + (i : Int))).toNat < os.length := by omega
          have hjv : (cell / 18000 % (0 + (i : Int))).toNat < vs.length := by rw [hd.len]; exact hj
          have ev := List.getElem?_eq_getElem hjv
          have eo := List.getElem?_eq_getElem hj
          refine ⟨p, _, _, vs[(cell / 18000 % (0 + (i : Int))).toNat], rfl, rfl, sqL upd_same, at_of (j := (cell / 18000 % (0 + (i : Int))).toNat) (by omega) (by rw [List.getElem?_append_left hjv]; exact ev), ?_⟩
          refine ⟨_, rfl, _, rfl, p, _, _, i, rfl, rfl, upd_same, ixN_of (by omega) (by rw [List.length_append, hd.len, hl]; simp), ?_⟩
          have es : (vs ++ [V.ref t]).set i vs[(cell / 18000 % (0 + (i : Int))).toNat] = vs ++ [vs[(cell / 18000 % (0 + (i : Int))).toNat]] := by
            rw [List.set_append_right _ _ (by rw [hd.len, hl]; exact Nat.le_refl _), hd.len, hl]; simp
          rw [es]
          have st2 := SameT.lst (o := .lst (vs ++ [vs[(cell / 18000 % (0 + (i : Int))).toNat]])) (upd_same (H := upd H1 t (.tup [V.int am, V.int z, V.int la])) (a := p) (o := .lst (vs ++ [V.ref t])))
          refine ⟨_, _, _, _, vs ++ [vs[(cell / 18000 % (0 + (i : Int))).toNat]], os ++ [os[(cell / 18000 % (0 + (i : Int))).toNat]], rfl, sm2.mut hp, upd_same, (hd.mono OfferAt.mono (st.trans st2)).snoc (OfferAt.mono _ _ _ _ (st.trans st2) (hd.all _ _ _ ev eo)), by rw [List.length_append, hl]; rfl, fun o ho => ?_⟩
          rcases List.mem_append.mp ho with y | y
          · exact hg o y
          · rw [List.mem_singleton.mp y]
            exact hg _ (List.getElem_mem hj)
        · exact ⟨_, _, _, _, _, _, rfl, sm2, upd_same, hd2, by rw [List.length_append, hl]; rfl, hg2⟩
      · exact ⟨_, _, _, _, _, _, rfl, sm2, upd_same, hd2, by rw [List.length_append, hl]; rfl, hg2⟩
    · obtain ⟨y3, y4, y5, y6, vs, os, rfl, sm, hpl, hd, hl, hg⟩ := h
      walk_at "rd"
      refine ⟨p, _, rfl, .inl ⟨sqL hpl, fun u hu => ?_⟩⟩
      exact q _ os _ (sm.new hu) ⟨u, vs, rfl, upd_same, hd.mono OfferAt.mono (SameT.new hu)⟩ (by omega) hg
abbrev s_lacks_by : Stmt := topS 21
theorem sc_lacks_by : FnScope ["_law_cells", "_law_lacks", "_law_k", "_law_cell"] ["_law_cells"] (defScope s_lacks_by) := ⟨rfl, rfl, rfl, by decide +kernel, rfl, by decide +kernel, by decide +kernel⟩
theorem bd_lacks_by : ∀ (kV doc pm : Value) (an : Option Addr) (cdv ct : Value) (us : List Value), us.length = (["_law_cells"] : List Str).length → bindArgs (PySem.W.fnOf "_law_lacks_by" "_law_lacks_by" (defArgs s_lacks_by) (defBody s_lacks_by) (defScope s_lacks_by) .none kV doc pm an cdv ct) ⟨us, []⟩ = pure ((["_law_cells"] : List Str).zip us) := fun _ _ _ _ _ _ us hl => match us, hl with | [_], _ => rfl
def spLacksBy (K : PySem.W.Frag) : Sp := fun vs H Q _ => ∃ (a : Addr), vs = [.ref a] ∧ CellsAt K H a ∧ ∀ (p : Addr) (ls : List Int) (H' : Hp), Same H H' → H' p = some (.tup (ls.map V.int)) → GoodLs ls → Q (.ref p) H'
theorem ok_lacks_by {P : Program} {w : World} {K : PySem.W.Frag} {mg : Str → Option Value} {base : Heap} (D : DefAt K mg "_law_lacks_by" s_lacks_by) (m_range : mg "range" = none) (m_tuple : mg "tuple" = none)
    (C_cell_at : Clb P w K mg base 1 "_law_cell_at" ["_law_cells", "_law_k"] (spCellAt K)) :
    Clb P w K mg base 2 "_law_lacks_by" ["_law_cells"] (spLacksBy K) := by
  refine D.clb sc_lacks_by (fun vs H Q E h => ?_) bd_lacks_by (fun f cdv A outer s H vs Q E hr h => ?_)
  · obtain ⟨a, rfl, _⟩ := h
    rfl
  · obtain ⟨a, rfl, hc, q⟩ := h
    refine ⟨_, (pss_cons (ps_set (i := 1) sc_lacks_by.nd rfl (.inl rfl) (pe_lst pa_nil))
    (pss_cons (ps_for PassesOwn.never rfl (pi_range1 (by rfl) m_range (pa_cons pe_int pa_nil)) (pg_name (i := 2) sc_lacks_by.nd rfl (.inl rfl))
      (pss_cons (ps_set (i := 3) sc_lacks_by.nd rfl (.inl rfl) (pe_cal C_cell_at (hr.mono (by decide)) (pa_cons (pv 0) (pa_cons (pe_op op_add pe_int (pv 2)) pa_nil))))
    (pss_one (ps_if (pt_cmpR op_eq (pe_op op_mod (pv 3) pe_int) pe_int (nomark _))
      (pss_one (ps_expr (kpe_bm K PySem.F.plainAttrs_list PySem.F.slot_list_append PySem.F.type_list_append mt_append (pv 1) (pa_cons pe_int pa_nil))))
      (pss_one (ps_expr (kpe_bm K PySem.F.plainAttrs_list PySem.F.slot_list_append PySem.F.type_list_append mt_append (pv 1) (pa_cons (pe_op op_mod (pe_op op_fdiv (pv 3) pe_int) pe_int) pa_nil))))))))
    (pss_cons (ps_set (i := 3) sc_lacks_by.nd rfl (.inl rfl) (pe_cal C_cell_at (hr.mono (by decide)) (pa_cons (pv 0) (pa_cons pe_int pa_nil))))
    (C8.pss_cut (ps_if (pt_cmpR op_eq (pe_op op_mod (pv 3) pe_int) pe_int (nomark _))
      (pss_one (ps_asg (pe_ix (kix_list K) (pe_lst (pa_cons pe_int (pa_cons pe_int (pa_cons (pe_op op_mod (pe_op op_fdiv (pv 3) pe_int) pe_int) pa_nil)))) (pe_op op_mod (pe_op op_fdiv (pv 3) pe_int) pe_int) (fun _ _ => rfl)) (pg_sub (pv 1) (pe_op op_mod (pe_op op_fdiv (pv 3) pe_int) pe_int) set_list)))
      pss_nil)
    (pss_cons (ps_if (pt_cmpR op_eq (pe_op op_mod (pv 3) pe_int) pe_int (nomark _))
      (pss_one (ps_ret (pe_op (kop_repT K) (pe_tup (pa_cons pe_int pa_nil)) pe_int)))
      pss_nil)
    (pss_one (ps_ret (pe_callTy (kcall_tuple_of K) (by rfl) m_tuple (by decide +kernel) (pa_cons (pv 1) pa_nil))))))))), ?_⟩
    refine ⟨Nat.zero_le _, fun p hp => ?_⟩
    walk_at "rd"
    refine ⟨by decide, by decide, ?_⟩
    refine for_range (lo := 0) (n := 7) (fun i σ H' => ∃ (y2 y3 : Option V) (ls : List Int), σ = [some (.ref a), some (.ref p), y2, y3] ∧ Same H H' ∧ H' p = some (.lst (ls.map V.int)) ∧ ls.length = i ∧ i ≤ 7 ∧ ∀ x ∈ ls, 0 ≤ x ∧ x ≤ 200)
      ⟨none, none, [], rfl, same_upd hp, upd_same, rfl, by decide, fun _ z => nomatch z⟩ (fun i σ H1 hi h => ?_) (fun σ H1 h => ?_)
    · obtain ⟨y2, y3, ls, rfl, sm, hpl, hl, _, hg⟩ := h
      have add : ∀ z : Int, 0 ≤ z → z ≤ 200 → ∀ x ∈ ls ++ [z], 0 ≤ x ∧ x ≤ 200 := fun z h0 h1 x hx => by
        rcases List.mem_append.mp hx with y | y
        · exact hg x y
        · rw [List.mem_singleton.mp y]; exact ⟨h0, h1⟩
      walk_at "rd"
      refine ⟨hc.same sm, by omega, by omega, fun c c0 c1 => ?_⟩
      walk_at "rd"
      refine it_eqI (fun _ => ?_) (fun _ => ?_)
      · refine ⟨_, rfl, .inl ⟨rfl, _, sqL hpl⟩, ?_⟩
        refine ⟨p, _, _, rfl, rfl, hpl, small' (by rw [List.length_map]; omega), ?_⟩
        exact ⟨_, _, ls ++ [0], rfl, sm.mut hp, by rw [upd_same, List.map_append]; rfl, by rw [List.length_append, hl]; rfl, by omega, add 0 (by decide) (by decide)⟩
      · refine ⟨_, rfl, .inl ⟨rfl, _, sqL hpl⟩, ?_⟩
        walk_at "rd"
        have e1 := Int.emod_nonneg (c / 3) (show (25 : Int) ≠ 0 by decide)
        have e2 := Int.emod_lt_of_pos (c / 3) (show (0 : Int) < 25 by decide)
        refine ⟨p, _, _, rfl, rfl, hpl, small' (by rw [List.length_map]; omega), ?_⟩
        exact ⟨_, _, ls ++ [c / 3 % 25], rfl, sm.mut hp, by rw [upd_same, List.map_append]; rfl, by rw [List.length_append, hl]; rfl, by omega, add _ e1 (by omega)⟩
    · obtain ⟨y2, y3, ls, rfl, sm, hpl, hl, _, hg⟩ := h
      walk_at "rd"
      refine ⟨hc.same sm, by decide, by decide, fun c c0 c1 => ?_⟩
      refine ⟨fun σ' H' => ∃ (ls : List Int), σ' = [some (.ref a), some (.ref p), y2, some (.int c)] ∧ Same H H' ∧ H' p = some (.lst (ls.map V.int)) ∧ GoodLs ls, ?_, fun σ' H' h => ?_⟩
      · walk_at "rd"
        refine it_eqI (fun _ => ?_) (fun _ => ?_)
        · walk_at "rd"
          refine ⟨small (by show 3 ≤ 100000; decide), fun r hr1 => ?_⟩
          have e1 := Int.emod_nonneg (c / 210) (show (201 : Int) ≠ 0 by decide)
          have e2 := Int.emod_lt_of_pos (c / 210) (show (0 : Int) < 201 by decide)
          have m1 := Int.emod_nonneg (c / 3600) (show (3 : Int) ≠ 0 by decide)
          have m2 := Int.emod_lt_of_pos (c / 3600) (show (0 : Int) < 3 by decide)
          have n1 := Int.emod_nonneg (c / 30) (show (7 : Int) ≠ 0 by decide)
          have n2 := Int.emod_lt_of_pos (c / 30) (show (0 : Int) < 7 by decide)
          have hz : ∃ z : Int, atI [V.int 200, V.int 199, V.int (c / 210 % 201)] (c / 3600 % 3) = some (.int z) ∧ 0 ≤ z ∧ z ≤ 200 := by
            have : c / 3600 % 3 = 0 ∨ c / 3600 % 3 = 1 ∨ c / 3600 % 3 = 2 := by omega
            rcases this with e | e | e <;> rw [e]
            · exact ⟨200, rfl, by decide, by decide⟩
            · exact ⟨199, rfl, by decide, by decide⟩
            · exact ⟨_, rfl, e1, by omega⟩
          obtain ⟨z, ez, z0, z1⟩ := hz
          walk_at "rd"
          refine ⟨r, _, _, _, rfl, rfl, sqL upd_same, ez, ?_⟩
          walk_at "rd"
          have hp2 : (upd H1 r (.lst [V.int 200, V.int 199, V.int (c / 210 % 201)])) p = some (.lst (ls.map V.int)) := by
            rw [upd_ne (ne_of_none hpl hr1)]
            exact hpl
          refine ⟨p, _, _, (c / 30 % 7).toNat, rfl, rfl, hp2, by unfold ixN; rw [if_pos n1, if_pos (by rw [List.length_map, hl]; exact n2)], ?_⟩
          exact ⟨ls.set (c / 30 % 7).toNat z, rfl, (sm.new hr1).mut hp, by rw [upd_same, List.map_set], GoodLs.set ⟨hl, hg⟩ z0 z1⟩
        · exact ⟨ls, rfl, sm, hpl, hl, hg⟩
      obtain ⟨ls, rfl, sm, hpl, hg⟩ := h
      walk_at "rd"
      refine it_eqI (fun _ => ?_) (fun _ => ?_)
      · refine ⟨small (by show 1 ≤ 100000; decide), fun r hr1 => ?_⟩
        refine ⟨r, 7, [V.int 0], rfl, rfl, sqT upd_same, by decide, by decide, by decide, by decide, fun u hu => ?_⟩
        exact q u [0, 0, 0, 0, 0, 0, 0] _ ((sm.new hr1).new hu) upd_same ⟨rfl, by decide⟩
      · walk_at "rd"
        refine ⟨p, _, rfl, .inl ⟨sqL hpl, fun u hu => ?_⟩⟩
        exact q u ls _ (sm.new hu) upd_same hg
abbrev s_served : Stmt := topS 22
theorem sc_served : FnScope ["_law_offers_here", "_law_counts_here", "_law_lacks", "_law_day", "_law_held", "_law_k"] ["_law_offers_here", "_law_counts_here", "_law_lacks"] (defScope s_served) := ⟨rfl, rfl, rfl, by decide +kernel, rfl, by decide +kernel, by decide +kernel⟩
theorem bd_served : ∀ (kV doc pm : Value) (an : Option Addr) (cdv ct : Value) (us : List Value), us.length = (["_law_offers_here", "_law_counts_here", "_law_lacks"] : List Str).length → bindArgs (PySem.W.fnOf "_law_served" "_law_served" (defArgs s_served) (defBody s_served) (defScope s_served) .none kV doc pm an cdv ct) ⟨us, []⟩ = pure ((["_law_offers_here", "_law_counts_here", "_law_lacks"] : List Str).zip us) := fun _ _ _ _ _ _ us hl => match us, hl with | [_, _, _], _ => rfl
def spServed (K : PySem.W.Frag) : Sp := fun vs H Q _ => ∃ (v u y : V) (os : List Offer) (cs ls : List Int), vs = [v, u, y] ∧ OffersIn K H v os ∧ IntsIn K H u cs ∧ IntsIn K H y ls ∧ os.length = cs.length ∧ os.length ≤ 1000 ∧ ls.length = 7 ∧ (∀ o ∈ os, GoodOffer o) ∧ Q (.bl (servesB os cs ls)) H
theorem all_to {f : Nat → Bool} {n i : Nat} (hi : i < n) (h : f i = false) : (List.range n).all f = false := by
  rw [List.all_eq_false]
  exact ⟨i, List.mem_range.mpr hi, by rw [h]; decide⟩
theorem ok_served {P : Program} {w : World} {K : PySem.W.Frag} {mg : Str → Option Value} {base : Heap} (D : DefAt K mg "_law_served" s_served) (m_range : mg "range" = none) (m_len : mg "len" = none) : Clb P w K mg base 1 "_law_served" ["_law_offers_here", "_law_counts_here", "_law_lacks"] (spServed K) := by
  refine D.clb sc_served (fun vs H Q E h => ?_) bd_served (fun f cdv A outer s H vs Q E hr h => ?_)
  · obtain ⟨v, u, y, os, cs, ls, rfl, _⟩ := h
    rfl
  · obtain ⟨v, u, y, os, cs, ls, rfl, ⟨a, us, rfl, ha, hh⟩, ⟨b, rfl, hb⟩, ⟨c, rfl, hc⟩, hl, hz, h7, hg, q⟩ := h
    refine ⟨_, (pss_cons (ps_for PassesOwn.never rfl (pi_range2 (by rfl) m_range (pa_cons pe_int (pa_cons pe_int pa_nil))) (pg_name (i := 3) sc_served.nd rfl (.inl rfl))
      (pss_cons (ps_set (i := 4) sc_served.nd rfl (.inl rfl) pe_int)
    (pss_cons (ps_for PassesOwn.never rfl (pi_range1 (by rfl) m_range (pa_cons (pe_callB (kcall_len_seq K) (by rfl) m_len (by decide +kernel) (pa_cons (pv 0) pa_nil)) pa_nil)) (pg_name (i := 5) sc_served.nd rfl (.inl rfl))
      (pss_one (ps_if (pt_cmpR op_ge (pe_ix (kix_tup K) (pe_ix (kix_seq K) (pv 0) (pv 5) (fun _ _ => rfl)) pe_int (fun _ _ => rfl)) (pv 3) (nomark _))
      (pss_one (ps_set (i := 4) sc_served.nd rfl (.inl rfl) (pe_op op_add (pv 4) (pe_op op_mul (pe_ix (kix_tup K) (pe_ix (kix_seq K) (pv 0) (pv 5) (fun _ _ => rfl)) pe_int (fun _ _ => rfl)) (pe_ix (kix_seq K) (pv 1) (pv 5) (fun _ _ => rfl))))))
      pss_nil)))
    (pss_one (ps_if (pt_cmpR op_lt (pv 4) (pe_ix (kix_seq K) (pv 2) (pe_op op_sub (pv 3) pe_int) (fun _ _ => rfl)) (nomark _))
      (pss_one (ps_ret pe_bl))
      pss_nil)))))
    (pss_one (ps_ret pe_bl))), ?_⟩
    refine ⟨_, _, rfl, by decide, ?_⟩
    refine for_range (lo := 1) (n := 7) (fun i σ H' => ∃ y3 y4 y5 : Option V, σ = [some (.ref a), some (.ref b), some (.ref c), y3, y4, y5] ∧ H = H' ∧ ∀ j, j < i → ls.getD j 0 ≤ heldOn os cs (1 + (j : Nat)))
      ⟨none, none, none, rfl, rfl, fun j hj => absurd hj (Nat.not_lt_zero _)⟩ (fun i σ H' hi h => ?_) (fun σ H' h => ?_)
    · obtain ⟨y3, y4, y5, rfl, rfl, hs⟩ := h
      walk_at "rd"
      refine ⟨a, us, rfl, ha, ?_⟩
      refine ⟨_, rfl, by omega, by rw [hh.len]; omega, ?_⟩
      refine for_range (lo := 0) (fun k σ H' => ∃ y5 : Option V, σ = [some (.ref a), some (.ref b), some (.ref c), some (.int (1 + (i : Nat))), some (.int (heldZ ((os.zip cs).take k) (1 + (i : Nat)))), y5] ∧ H = H') ⟨y5, rfl, rfl⟩ (fun k σ H' hk h => ?_) (fun σ H' h => ?_)
      · obtain ⟨y5, rfl, rfl⟩ := h
        have hko : k < os.length := by rw [← hh.len]; omega
        have ho := List.getElem?_eq_getElem hko
        have hcs := List.getElem?_eq_getElem (show k < cs.length by omega)
        have hu := List.getElem?_eq_getElem (show k < us.length by rw [hh.len]; exact hko)
        obtain ⟨t, ht, hto⟩ := hh.all k _ _ hu ho
        rw [ht] at hu
        have ez := zip_ix ho hcs
        refine ⟨_, rfl, _, rfl, a, _, _, _, rfl, rfl, ha, at_of (j := k) (by omega) hu, ?_⟩
        refine ⟨t, _, _, _, rfl, rfl, sqT hto, rfl, ?_⟩
        walk_at "rd"
        refine it_le (fun e => ?_) (fun e => ?_)
        · refine ⟨_, rfl, _, rfl, _, rfl, a, _, _, _, rfl, rfl, ha, at_of (j := k) (by omega) hu, ?_⟩
          refine ⟨t, _, _, _, rfl, rfl, sqT hto, rfl, ?_⟩
          refine ⟨_, rfl, _, rfl, b, _, _, _, rfl, rfl, hb, at_of (j := k) (by omega) (ix_map hcs), ?_⟩
          have g := hg _ (List.getElem_mem hko)
          have g0 := g.size1
          have g1 := g.size2
          refine ⟨_, _, rfl, rfl, .inl ⟨by omega, by omega⟩, ?_⟩
          refine ⟨_, _, rfl, rfl, ?_⟩
          exact ⟨some (.int (0 + (k : Nat))), by rw [take_succ' ez, heldZ_snoc, if_pos e]; rfl, rfl⟩
        · exact ⟨some (.int (0 + (k : Nat))), by rw [take_succ' ez, heldZ_snoc, if_neg e, Int.add_zero]; rfl, rfl⟩
      · obtain ⟨y5, rfl, rfl⟩ := h
        have hf : (os.zip cs).take ((us.length : Int).toNat) = os.zip cs := List.take_of_length_le (by rw [zip_len hl, hh.len]; exact Nat.le_refl _)
        rw [hf]
        refine ⟨_, rfl, _, rfl, _, rfl, _, _, rfl, rfl, ?_⟩
        refine ⟨c, _, _, _, rfl, rfl, hc, at_of (j := i) (by omega) (ix_map (List.getElem?_eq_getElem (by omega))), ?_⟩
        have eg : ls.getD i 0 = ls[i]'(by omega) := by rw [List.getD_eq_getElem?_getD, List.getElem?_eq_getElem (by omega)]; rfl
        walk_at "rd"
        refine it_lt (fun e => ?_) (fun e => ?_)
        · have : servesB os cs ls = false := all_to hi (decide_eq_false (by rw [eg]; show ¬ _ ≤ heldZ _ _; omega))
          rw [← this]
          exact q
        · refine ⟨_, _, _, rfl, rfl, fun j hj => ?_⟩
          by_cases ej : j = i
          · subst ej
            rw [eg]
            show _ ≤ heldZ _ _
            omega
          · exact hs j (by omega)
    · obtain ⟨y3, y4, y5, rfl, rfl, hs⟩ := h
      have : servesB os cs ls = true := List.all_eq_true.mpr fun j hj => decide_eq_true (hs j (List.mem_range.mp hj))
      rw [← this]
      exact q
abbrev s_cost : Stmt := topS 23
theorem sc_cost : FnScope ["_law_offers_here", "_law_counts_here", "_law_k"] ["_law_offers_here", "_law_counts_here"] (defScope s_cost) := ⟨rfl, rfl, rfl, by decide +kernel, rfl, by decide +kernel, by decide +kernel⟩
theorem bd_cost : ∀ (kV doc pm : Value) (an : Option Addr) (cdv ct : Value) (us : List Value), us.length = (["_law_offers_here", "_law_counts_here"] : List Str).length → bindArgs (PySem.W.fnOf "_law_cost" "_law_cost" (defArgs s_cost) (defBody s_cost) (defScope s_cost) .none kV doc pm an cdv ct) ⟨us, []⟩ = pure ((["_law_offers_here", "_law_counts_here"] : List Str).zip us) := fun _ _ _ _ _ _ us hl => match us, hl with | [_, _], _ => rfl
def spCost (K : PySem.W.Frag) : Sp := fun vs H Q _ => ∃ (v u : V) (os : List Offer) (cs : List Int), vs = [v, u] ∧ OffersIn K H v os ∧ IntsIn K H u cs ∧ os.length = cs.length ∧ os.length ≤ 1000 ∧ (∀ o ∈ os, GoodOffer o) ∧ ∀ H', Same H H' → Q (.int (costOf os cs)) H'
theorem ok_cost {P : Program} {w : World} {K : PySem.W.Frag} {mg : Str → Option Value} {base : Heap} (D : DefAt K mg "_law_cost" s_cost) (m_range : mg "range" = none) (m_len : mg "len" = none) (m_sum : mg "sum" = none) : Clb P w K mg base 1 "_law_cost" ["_law_offers_here", "_law_counts_here"] (spCost K) := by
  refine D.clb sc_cost (fun vs H Q E h => ?_) bd_cost (fun f cdv A outer s H vs Q E hr h => ?_)
  · obtain ⟨v, u, os, cs, rfl, _⟩ := h
    rfl
  · obtain ⟨v, u, os, cs, rfl, ⟨a, us, rfl, ha, hh⟩, ⟨b, rfl, hb⟩, hl, hz, hg, q⟩ := h
    refine ⟨_, (pss_one (ps_ret (pe_callB (kcr_sum K rfl) (by rfl) m_sum (by decide +kernel) (pa_cons (pe_lc (own := [("_law_k", 2)]) rfl sc_cost.nd (pi_range1 (by rfl) m_range (pa_cons (pe_callB (kcall_len_seq K) (by rfl) m_len (by decide +kernel) (pa_cons (pv 0) pa_nil)) pa_nil)) (blkOk_by (own := [("_law_k", 2)]) (N := ["_law_offers_here", "_law_counts_here", "_law_k"]) (sc := defScope s_cost) (by decide +kernel)) (fun _ _ _ _ _ => (pg_name (i := 2) sc_cost.nd rfl (.inl rfl))) (fun _ _ _ _ _ => pts_nil) (fun _ _ _ _ _ => (pe_op op_mul (pe_ix (kix_tup K) (pe_ix (kix_seq K) (pv 0) (pv 2) (fun _ _ => rfl)) pe_int (fun _ _ => rfl)) (pe_ix (kix_seq K) (pv 1) (pv 2) (fun _ _ => rfl))))) pa_nil)))), ?_⟩
    refine ⟨_, rfl, a, us, rfl, ha, ?_⟩
    refine ⟨_, rfl, by omega, by rw [hh.len]; omega, fun D hD => lc_rel (walk_range (lo := 0) (n := us.length)) (xs := os.zip cs) (by rw [zip_len hl, hh.len]) (f := fun p => some (p.1.price * p.2)) (R := fun _ v x => v = V.int x) mono_eq hD (fun _ _ => trivial) (by rw [hh.len]; omega) (fun i v x H1 H2 Ky Kn hx sm hy h1 h2 => ?_) (fun H' ys sm hD' hd => ?_)⟩
    · obtain ⟨rfl, rfl⟩ := hy
      obtain ⟨ho, hc⟩ := ix_zip hx
      have hiu : i < us.length := by rw [hh.len]; exact (List.getElem?_eq_some_iff.mp ho).1
      have hu := List.getElem?_eq_getElem hiu
      obtain ⟨t, ht, hto⟩ := hh.all i _ _ hu ho
      rw [ht] at hu
      refine ⟨rfl, ?_⟩
      refine ⟨_, rfl, _, rfl, a, _, _, _, rfl, rfl, ha.same sm, at_of (j := i) (by omega) hu, ?_⟩
      refine ⟨t, _, _, _, rfl, rfl, sqT (sm _ _ hto), rfl, ?_⟩
      refine ⟨_, rfl, _, rfl, b, _, _, _, rfl, rfl, hb.same sm, at_of (j := i) (by omega) (ix_map hc), ?_⟩
      have g := hg _ (List.mem_of_getElem? ho)
      have g0 := g.price0
      have g1 := g.price2
      refine ⟨_, _, rfl, rfl, .inl ⟨by omega, by omega⟩, ?_⟩
      exact h1 _ _ _ rfl (Same.refl _) rfl
    · have e := held_eq (f := V.int) hd
      rw [fm_some] at e
      exact ⟨D, _, rfl, sqL (by rw [hD', e]), q H' sm⟩
abbrev s_counts : Stmt := topS 24
theorem sc_counts : FnScope ["_law_offers_here", "_law_cell", "_law_counts_here", "_law_k", "_law_some"] ["_law_offers_here", "_law_cell"] (defScope s_counts) := ⟨rfl, rfl, rfl, by decide +kernel, rfl, by decide +kernel, by decide +kernel⟩
theorem bd_counts : ∀ (kV doc pm : Value) (an : Option Addr) (cdv ct : Value) (us : List Value), us.length = (["_law_offers_here", "_law_cell"] : List Str).length → bindArgs (PySem.W.fnOf "_law_counts" "_law_counts" (defArgs s_counts) (defBody s_counts) (defScope s_counts) .none kV doc pm an cdv ct) ⟨us, []⟩ = pure ((["_law_offers_here", "_law_cell"] : List Str).zip us) := fun _ _ _ _ _ _ us hl => match us, hl with | [_, _], _ => rfl
def spCounts (K : PySem.W.Frag) : Sp := fun vs H Q _ => ∃ (a : Addr) (us : List V) (c : Int), vs = [.ref a, .int c] ∧ SqA K H a us ∧ us.length ≤ 1000 ∧
  ∀ (p : Addr) (cs : List Int) (H' : Hp), Same H H' → H p = none → H' p = some (.lst (cs.map V.int)) → cs.length = us.length → (∀ x ∈ cs, 0 ≤ x ∧ x ≤ 6) → Q (.ref p) H'
theorem ok_counts {P : Program} {w : World} {K : PySem.W.Frag} {mg : Str → Option Value} {base : Heap} (D : DefAt K mg "_law_counts" s_counts) (m_range : mg "range" = none) (m_len : mg "len" = none) (C_mix : Clb P w K mg base 1 "_law_mix" ["_law_cell", "_law_k"] spMix) : Clb P w K mg base 2 "_law_counts" ["_law_offers_here", "_law_cell"] (spCounts K) := by
  refine D.clb sc_counts (fun vs H Q E h => ?_) bd_counts (fun f cdv A outer s H vs Q E hr h => ?_)
  · obtain ⟨a, us, c, rfl, _⟩ := h
    rfl
  · obtain ⟨a, us, c, rfl, ha, hz, q⟩ := h
    refine ⟨_, (pss_cons (ps_set (i := 2) sc_counts.nd rfl (.inl rfl) (pe_lst pa_nil))
    (pss_cons (ps_for PassesOwn.never rfl (pi_range1 (by rfl) m_range (pa_cons (pe_callB (kcall_len_seq K) (by rfl) m_len (by decide +kernel) (pa_cons (pv 0) pa_nil)) pa_nil)) (pg_name (i := 3) sc_counts.nd rfl (.inl rfl))
      (pss_cons (ps_set (i := 4) sc_counts.nd rfl (.inl rfl) (pe_cal C_mix (hr.mono (by decide)) (pa_cons (pv 1) (pa_cons (pe_op op_add (pv 3) pe_int) pa_nil))))
    (pss_one (ps_expr (kpe_bm K PySem.F.plainAttrs_list PySem.F.slot_list_append PySem.F.type_list_append mt_append (pv 2) (pa_cons (pe_ix (kix_list K) (pe_lst (pa_cons pe_int (pa_cons (pe_op op_mod (pe_op op_fdiv (pv 4) pe_int) pe_int) (pa_cons (pe_op op_mod (pe_op op_fdiv (pv 4) pe_int) pe_int) (pa_cons (pe_op op_mod (pe_op op_fdiv (pv 4) pe_int) pe_int) (pa_cons pe_int pa_nil)))))) (pe_op op_mod (pv 4) pe_int) (fun _ _ => rfl)) pa_nil))))))
    (pss_one (ps_ret (pv 2))))), ?_⟩
    refine ⟨Nat.zero_le _, fun p hp => ?_⟩
    have s1 := same_upd (o := .lst []) hp
    refine ⟨_, rfl, a, us, rfl, ha.same s1, ?_⟩
    refine ⟨_, rfl, by omega, by omega, ?_⟩
    refine for_range (lo := 0) (fun i σ H' => ∃ (y3 y4 : Option V) (cs : List Int), σ = [some (.ref a), some (.int c), some (.ref p), y3, y4] ∧ Same H H' ∧ H' p = some (.lst (cs.map V.int)) ∧ cs.length = i ∧ ∀ x ∈ cs, 0 ≤ x ∧ x ≤ 6)
      ⟨none, none, [], rfl, s1, upd_same, rfl, fun _ z => nomatch z⟩ (fun i σ H1 hi h => ?_) (fun σ H1 h => ?_)
    · obtain ⟨y3, y4, cs, rfl, sm, hpl, hl, hn⟩ := h
      walk_at "rd"
      refine ⟨by omega, by omega, fun z z0 z1 => ?_⟩
      refine ⟨_, rfl, .inl ⟨rfl, _, sqL hpl⟩, ?_⟩
      walk_at "rd"
      refine ⟨small (by show 5 ≤ 100000; decide), fun r hr1 => ?_⟩
      have e1 := Int.emod_nonneg (z / 5) (show (3 : Int) ≠ 0 by decide)
      have e2 := Int.emod_lt_of_pos (z / 5) (show (0 : Int) < 3 by decide)
      have e3 := Int.emod_nonneg (z / 5) (show (7 : Int) ≠ 0 by decide)
      have e4 := Int.emod_lt_of_pos (z / 5) (show (0 : Int) < 7 by decide)
      have e5 := Int.emod_nonneg z (show (5 : Int) ≠ 0 by decide)
      have e6 := Int.emod_lt_of_pos z (show (0 : Int) < 5 by decide)
      have hn' : ∃ n : Int, atI [V.int 0, V.int (z / 5 % 3), V.int (z / 5 % 3), V.int (z / 5 % 7), V.int 0] (z % 5) = some (.int n) ∧ 0 ≤ n ∧ n ≤ 6 := by
        have : z % 5 = 0 ∨ z % 5 = 1 ∨ z % 5 = 2 ∨ z % 5 = 3 ∨ z % 5 = 4 := by omega
        rcases this with e | e | e | e | e <;> rw [e]
        · exact ⟨0, rfl, by decide, by decide⟩
        · exact ⟨_, rfl, by omega, by omega⟩
        · exact ⟨_, rfl, by omega, by omega⟩
        · exact ⟨_, rfl, by omega, by omega⟩
        · exact ⟨0, rfl, by decide, by decide⟩
      obtain ⟨n, en, n0, n1⟩ := hn'
      walk_at "rd"
      refine ⟨r, _, _, _, rfl, rfl, sqL upd_same, en, ?_⟩
      have hpl2 : (upd H1 r (.lst [V.int 0, V.int (z / 5 % 3), V.int (z / 5 % 3), V.int (z / 5 % 7), V.int 0])) p = some (.lst (cs.map V.int)) := by
        rw [upd_ne (ne_of_none hpl hr1)]
        exact hpl
      refine ⟨p, _, _, rfl, rfl, hpl2, small' (by rw [List.length_map, hl]; omega), ?_⟩
      exact ⟨_, _, cs ++ [n], rfl, (sm.new hr1).mut hp, by rw [upd_same, List.map_append]; rfl, by rw [List.length_append, hl]; rfl, fun x hx => by
        rcases List.mem_append.mp hx with y | y
        · exact hn x y
        · rw [List.mem_singleton.mp y]; exact ⟨n0, n1⟩⟩
    · obtain ⟨y3, y4, cs, rfl, sm, hpl, hl, hn⟩ := h
      exact ⟨_, rfl, q p cs _ sm hp hpl (by rw [hl]; rfl) hn⟩
abbrev s_filled : Stmt := topS 25
theorem sc_filled : FnScope ["_law_offers_here", "_law_counts_here", "_law_lacks", "_law_cell", "_law_day", "_law_fit", "_law_k", "_law_held", "_law_more"] ["_law_offers_here", "_law_counts_here", "_law_lacks", "_law_cell"] (defScope s_filled) := ⟨rfl, rfl, rfl, by decide +kernel, rfl, by decide +kernel, by decide +kernel⟩
theorem bd_filled : ∀ (kV doc pm : Value) (an : Option Addr) (cdv ct : Value) (us : List Value), us.length = (["_law_offers_here", "_law_counts_here", "_law_lacks", "_law_cell"] : List Str).length → bindArgs (PySem.W.fnOf "_law_filled" "_law_filled" (defArgs s_filled) (defBody s_filled) (defScope s_filled) .none kV doc pm an cdv ct) ⟨us, []⟩ = pure ((["_law_offers_here", "_law_counts_here", "_law_lacks", "_law_cell"] : List Str).zip us) := fun _ _ _ _ _ _ us hl => match us, hl with | [_, _, _, _], _ => rfl
def spFilled (K : PySem.W.Frag) : Sp := fun vs H Q _ => ∃ (a c y : Addr) (us : List V) (os : List Offer) (cs ls : List Int) (z : Int), vs = [.ref a, .ref c, .ref y, .int z] ∧ a ≠ c ∧ y ≠ c ∧ SqA K H a us ∧ Held OfferAt H us os ∧ H c = some (.lst (cs.map V.int)) ∧ SqA K H y (ls.map V.int) ∧
  os.length = cs.length ∧ os.length ≤ 1000 ∧ (∀ o ∈ os, GoodOffer o) ∧ (∀ x ∈ cs, 0 ≤ x) ∧ ls.length = 7 ∧ (∀ x ∈ ls, 0 ≤ x) ∧
  ∀ H', SameBut c H H' → (∀ e : Nat, 1 ≤ e → e ≤ 7 → 0 < lackAt ls e → (∀ o ∈ os, ¬ (e : Int) ≤ o.last) → Q .non H') ∧
    (∀ cs', H' c = some (.lst (cs'.map V.int)) → Filled os ls (mostL ls) 7 cs cs' → Q (.ref c) H')
theorem lack_at' {ls : List Int} (h7 : ls.length = 7) (hn : ∀ x ∈ ls, 0 ≤ x) {d : Nat} (h1 : 1 ≤ d) (hd : d ≤ 7) : ls[d - 1]? = some (lackAt ls d : Int) := by
  have hl : d - 1 < ls.length := by omega
  have e := List.getElem?_eq_getElem hl
  rw [e]
  congr 1
  unfold lackAt
  rw [List.getD_eq_getElem?_getD, e]
  have := hn _ (List.getElem_mem hl)
  show _ = ((ls[d - 1].toNat : Nat) : Int)
  omega
theorem lack_le' (ls : List Int) (d : Nat) : lackAt ls d ≤ mostL ls := by
  unfold lackAt
  rw [List.getD_eq_getElem?_getD]
  cases e : ls[d - 1]? with
  | none => exact Nat.zero_le _
  | some x => exact mostL_ge ls x (List.mem_of_getElem? e)
theorem ok_filled {P : Program} {w : World} {K : PySem.W.Frag} {mg : Str → Option Value} {base : Heap} (D : DefAt K mg "_law_filled" s_filled) (m_range : mg "range" = none) (m_len : mg "len" = none) (m_sum : mg "sum" = none) (C_mix : Clb P w K mg base 1 "_law_mix" ["_law_cell", "_law_k"] spMix) : Clb P w K mg base 2 "_law_filled" ["_law_offers_here", "_law_counts_here", "_law_lacks", "_law_cell"] (spFilled K) := by
  refine D.clb sc_filled (fun vs H Q E h => ?_) bd_filled (fun f cdv A outer s H vs Q E hr h => ?_)
  · obtain ⟨a, c, y, us, os, cs, ls, z, rfl, _⟩ := h
    rfl
  · obtain ⟨a, c, y, us, os, cs, ls, z, rfl, nac, nyc, ha, hh, hc, hy, hl, hz, hg, hn, h7, hls, q⟩ := h
    refine ⟨_, (pss_cons (ps_for PassesOwn.never rfl (pi_range3 (by rfl) m_range (pa_cons pe_int (pa_cons pe_int (pa_cons (pe_un un_neg pe_int) pa_nil)))) (pg_name (i := 4) sc_filled.nd rfl (.inr rfl))
      (pss_cons (ps_setLc (i := 5) (own := [("_law_k", 6)])   rfl sc_filled.nd rfl rfl (sw_true rfl rfl rfl (by decide +kernel)) (pi_range1 (by rfl) m_range (pa_cons (pe_callB (kcall_len_seq K) (by rfl) m_len (by decide +kernel) (pa_cons (pv 0) pa_nil)) pa_nil)) (blkOk_by (own := [("_law_k", 6)]) (N := ["_law_offers_here", "_law_counts_here", "_law_lacks", "_law_cell", "_law_day", "_law_fit", "_law_k", "_law_held", "_law_more"]) (sc := defScope s_filled) (by decide +kernel)) (fun _ _ _ _ _ => (pg_name (i := 6) sc_filled.nd rfl (.inl rfl))) (fun _ _ _ _ _ => (pts_one (pt_cmpR op_ge (pe_ix (kix_tup K) (pe_ix (kix_seq K) (pv 0) (pv 6) (fun _ _ => rfl)) pe_int (fun _ _ => rfl)) (pv 4) (nomark _)))) (fun _ _ _ _ _ => (pv 6)))
    (pss_cons (ps_set (i := 7) sc_filled.nd rfl (.inl rfl) (pe_callB (kcr_sum K rfl) (by rfl) m_sum (by decide +kernel) (pa_cons (pe_lc (own := [("_law_k", 6)]) rfl sc_filled.nd (kpi_list K (pv 5)) (blkOk_by (own := [("_law_k", 6)]) (N := ["_law_offers_here", "_law_counts_here", "_law_lacks", "_law_cell", "_law_day", "_law_fit", "_law_k", "_law_held", "_law_more"]) (sc := defScope s_filled) (by decide +kernel)) (fun _ _ _ _ _ => (pg_name (i := 6) sc_filled.nd rfl (.inl rfl))) (fun _ _ _ _ _ => pts_nil) (fun _ _ _ _ _ => (pe_op op_mul (pe_ix (kix_tup K) (pe_ix (kix_seq K) (pv 0) (pv 6) (fun _ _ => rfl)) pe_int (fun _ _ => rfl)) (pe_ix (kix_list K) (pv 1) (pv 6) (fun _ _ => rfl))))) pa_nil)))
    (C8.pss_cut (ps_if (PW.pt (pw_and (pt_cmpR op_lt (pv 7) (pe_ix (kix_seq K) (pv 2) (pe_op op_sub (pv 4) pe_int) (fun _ _ => rfl)) (nomark _)) (pw_and1 (pt_cmpR (kop_eqD K hr.units) (pv 5) (pe_lst pa_nil) (nomark _)))))
      (pss_one (ps_ret pe_non))
      pss_nil)
    (pss_one (ps_if (pt_cmpR op_lt (pv 7) (pe_ix (kix_seq K) (pv 2) (pe_op op_sub (pv 4) pe_int) (fun _ _ => rfl)) (nomark _))
      (pss_cons (ps_set (i := 6) sc_filled.nd rfl (.inl rfl) (pe_ix (kix_list K) (pv 5) (pe_op op_mod (pe_cal C_mix (hr.mono (by decide)) (pa_cons (pv 3) (pa_cons (pv 4) pa_nil))) (pe_callB (kcall_len_seq K) (by rfl) m_len (by decide +kernel) (pa_cons (pv 5) pa_nil))) (fun _ _ => rfl)))
    (pss_cons (ps_set (i := 8) sc_filled.nd rfl (.inl rfl) (pe_op op_sub (pe_op op_add (pe_op op_sub (pe_ix (kix_seq K) (pv 2) (pe_op op_sub (pv 4) pe_int) (fun _ _ => rfl)) (pv 7)) (pe_ix (kix_tup K) (pe_ix (kix_seq K) (pv 0) (pv 6) (fun _ _ => rfl)) pe_int (fun _ _ => rfl))) pe_int))
    (pss_one (ps_asg (pe_op op_add (pe_ix (kix_list K) (pv 1) (pv 6) (fun _ _ => rfl)) (pe_op op_fdiv (pv 8) (pe_ix (kix_tup K) (pe_ix (kix_seq K) (pv 0) (pv 6) (fun _ _ => rfl)) pe_int (fun _ _ => rfl)))) (pg_sub (pv 1) (pv 6) set_list)))))
      pss_nil))))))
    (pss_one (ps_ret (pv 1)))), ?_⟩
    walk_at "rd"
    refine ⟨7, 0, -1, 7, rfl, RgC.neg (by decide) (by decide) (by decide) (by decide), ?_⟩
    refine for_rangeC (fun i σ H' => ∃ (y4 y5 y6 y7 y8 : Option V) (cs' : List Int), σ = [some (.ref a), some (.ref c), some (.ref y), some (.int z), y4, y5, y6, y7, y8] ∧ SameBut c H H' ∧ H' c = some (.lst (cs'.map V.int)) ∧ Filled os ls (mostL ls) i cs cs' ∧ i ≤ 7)
      ⟨none, none, none, none, none, cs, rfl, SameBut.refl _ _, hc, ⟨rfl, hn, by omega, fun e h1 h2 => by omega⟩, by decide⟩ (fun i σ H1 hi h => ?_) (fun σ H1 h => ?_)
    · obtain ⟨y4, y5, y6, y7, y8, cs', rfl, sb, hc1, F, _⟩ := h
      have hday : (7 : Int) + (i : Nat) * (-1) = ((7 - i : Nat) : Int) := by omega
      rw [hday]
      have dL := lack_at' h7 hls (d := 7 - i) (by omega) (by omega)
      have hM := lack_le' ls (7 - i)
      have hlc : os.length = cs'.length := by rw [F.len]; exact hl
      have hh1 := hh.mono OfferAt.mono (sb.tup hc)
      have ha1 := sb.sq nac ha
      have hy1 := sb.sq nyc hy
      -- what reads an offer's part
      have rd : ∀ (k : Nat), k < os.length → ∃ t, us[k]? = some (.ref t) ∧ H1 t = some (.tup [.int (os.getD k oz).size, .int (os.getD k oz).price, .int (os.getD k oz).last]) := fun k hk => by
        have ho := List.getElem?_eq_getElem hk
        have hu := List.getElem?_eq_getElem (show k < us.length by rw [hh.len]; exact hk)
        obtain ⟨t, e1, e2⟩ := hh1.all k _ _ hu ho
        have eo : os.getD k oz = os[k] := by rw [List.getD_eq_getElem?_getD, ho]; rfl
        rw [eo]
        exact ⟨t, by rw [hu, e1], e2⟩
      walk_at "rd"
      refine ⟨a, us, rfl, ha1, ?_⟩
      refine ⟨_, rfl, by omega, by rw [hh.len]; omega, fun D1 hD1 => lc_rel (walk_range (lo := 0) (n := us.length)) (xs := List.range os.length) (by rw [List.length_range, hh.len]) (f := fun k => if ((7 - i : Nat) : Int) ≤ (os.getD k oz).last then some k else none) (R := fun _ v (k : Nat) => v = V.int k) (mono_eq (f := fun k : Nat => V.int k)) hD1 (fun _ _ => trivial) (by rw [hh.len]; omega) (fun j v x H2 H3 Ky Kn hx s2 hy2 h1 h2 => ?_) (fun H2 ys s2 hD1' hd => ?_)⟩
      · obtain ⟨rfl, rfl⟩ := hy2
        obtain ⟨rfl, hx7⟩ := range_ix hx
        obtain ⟨t, hu, ht⟩ := rd x hx7
        refine ⟨rfl, ?_⟩
        refine ⟨_, rfl, _, rfl, a, _, _, _, rfl, rfl, ha1.same s2, at_of (j := x) (by omega) hu, ?_⟩
        refine ⟨t, _, _, _, rfl, rfl, sqT (s2 _ _ ht), rfl, ?_⟩
        walk_at "rd"
        refine it_le (fun e => ?_) (fun e => ?_)
        · refine ⟨_, rfl, ?_⟩
          exact h1 _ _ _ (if_pos e) (Same.refl _) (by show V.int (0 + (x : Nat)) = V.int (x : Nat); rw [Int.zero_add])
        · exact h2 _ (if_neg e) (Same.refl _)
      · have ef := held_eq (f := fun k : Nat => V.int k) hd
        have hD1f : H2 D1 = some (.lst ((fitK os ((7 - i : Nat) : Int)).map fun k : Nat => V.int k)) := by rw [hD1', ef]; rfl
        have sb2 := sb.trans (SameBut.of s2)
        refine ⟨_, rfl, D1, rfl, ⟨_, sqL hD1f⟩, fun D2 hD2 => lc_rel (walk_list (xs := (fitK os ((7 - i : Nat) : Int)).map fun k : Nat => V.int k)) (xs := fitK os ((7 - i : Nat) : Int)) (by rw [List.length_map]) (f := fun k => some ((os.getD k oz).size * cs'.getD k 0)) (R := fun _ v x => v = V.int x) mono_eq hD2 (fun _ s => sqL (s _ _ hD1f)) (by rw [List.length_map]; have := List.length_filterMap_le (fun k => if ((7 - i : Nat) : Int) ≤ (os.getD k oz).last then some k else none) (List.range os.length); rw [List.length_range] at this; show (fitK os _).length ≤ _; unfold fitK; omega) (fun j v x H3 H4 Ky Kn hx s3 hy3 h1 h2 => ?_) (fun H3 zs s3 hD2' hd2 => ?_)⟩
        · obtain ⟨rfl, hv⟩ := hy3
          rw [List.getElem?_map, hx] at hv
          have hv' : V.int (x : Nat) = v := Option.some.inj hv
          subst hv'
          have hkm := fit_mem (ix_mem hx)
          obtain ⟨t, hu, ht⟩ := rd x hkm.1
          refine ⟨rfl, ?_⟩
          refine ⟨_, rfl, _, rfl, a, _, _, _, rfl, rfl, (ha1.same s2).same s3, at_of (j := x) rfl hu, ?_⟩
          refine ⟨t, _, _, _, rfl, rfl, sqT (s3 _ _ (s2 _ _ ht)), rfl, ?_⟩
          have hkc : x < cs'.length := by rw [← hlc]; exact hkm.1
          have ec : cs'[x]? = some (cs'.getD x 0) := by rw [List.getD_eq_getElem?_getD, List.getElem?_eq_getElem hkc]; rfl
          refine ⟨_, rfl, _, rfl, c, _, _, _, rfl, rfl, sqL (s3 _ _ (s2 _ _ hc1)), at_of (j := x) rfl (ix_map ec), ?_⟩
          have g := hg (os.getD x oz) (by rw [List.getD_eq_getElem?_getD, List.getElem?_eq_getElem hkm.1]; exact List.getElem_mem hkm.1)
          have g0 := g.size1
          have g1 := g.size2
          refine ⟨_, _, rfl, rfl, .inl ⟨by omega, by omega⟩, ?_⟩
          exact h1 _ _ _ rfl (Same.refl _) rfl
        · have e2 := held_eq (f := V.int) hd2
          rw [fm_some] at e2
          have hsum := held_fit os cs' hlc ((7 - i : Nat) : Int)
          refine ⟨D2, _, rfl, sqL (by rw [hD2', e2]), ?_⟩
          rw [hsum]
          have sb3 := sb2.trans (SameBut.of s3)
          have s23 := s2.trans s3
          have hc3 := s23 _ _ hc1
          have hD1g := s3 _ _ hD1f
          generalize hfit : fitK os ((7 - i : Nat) : Int) = fit at hD1g
          generalize hheld : heldOn os cs' ((7 - i : Nat) : Int) = held
          refine ⟨fun σ' H' => ∃ y6', σ' = [some (.ref a), some (.ref c), some (.ref y), some (.int z), some (.int ((7 - i : Nat) : Int)), some (.ref D1), y6', some (.int held), y8] ∧ Same H3 H' ∧ (held < (lackAt ls (7 - i) : Int) → fit ≠ []), ?_, fun σ' H' h => ?_⟩
          · refine ⟨_, rfl, _, rfl, _, rfl, _, _, rfl, rfl, ?_⟩
            refine ⟨y, _, _, _, rfl, rfl, hy1.same s23, at_of (j := 7 - i - 1) (by omega) (ix_map dL), ?_⟩
            walk_at "rd"
            refine it_lt (fun e => ?_) (fun e => ?_)
            · refine ⟨_, rfl, Nat.zero_le _, fun r hr1 => ?_⟩
              have s4 := same_upd (o := .lst []) hr1
              have hDf : (upd H3 r (.lst [])) D1 = some (.lst ((fit.map fun k : Nat => (k : Int)).map V.int)) := by rw [List.map_map]; exact s4 _ _ hD1g
              refine ⟨_, _, .lst (sqL hDf) (dp_ints _), .lst (sqL upd_same) .nil, int_shaped _, rfl, ?_⟩
              rw [nil_eqv]
              cases hf : fit with
              | nil =>
                refine ⟨_, rfl, iteT ?_⟩
                rw [hf] at hfit
                exact (q _ (sb3.trans (SameBut.of s4))).1 (7 - i) (by omega) (by omega) (by
                  have : 0 ≤ held := by rw [← hheld, heldOn_w]; exact wsum_nonneg _ _ _ (fun o ho => onto_nonneg (hg o ho) _) F.nn
                  omega) (fit_nil hfit)
              | cons k r' =>
                refine ⟨_, rfl, iteF ?_⟩
                exact ⟨_, rfl, s4, fun _ z => by cases z⟩
            · exact ⟨_, rfl, Same.refl _, fun z => absurd z e⟩
          obtain ⟨y6', rfl, s4, hne⟩ := h
          have s24 := s23.trans s4
          have sb4 := sb3.trans (SameBut.of s4)
          have hc4 := s4 _ _ hc3
          have hD1h := s4 _ _ hD1g
          refine ⟨_, rfl, _, rfl, _, rfl, _, _, rfl, rfl, ?_⟩
          refine ⟨y, _, _, _, rfl, rfl, hy1.same s24, at_of (j := 7 - i - 1) (by omega) (ix_map dL), ?_⟩
          walk_at "rd"
          refine it_lt (fun e => ?_) (fun e => ?_)
          · have fne := hne e
            have fl : 0 < fit.length := List.length_pos_iff.mpr fne
            refine ⟨_, rfl, _, rfl, _, rfl, z, _, rfl, by omega, by omega, fun mz mz0 mz1 => ?_⟩
            refine ⟨_, rfl, D1, _, rfl, .inl (sqL hD1h), ?_⟩
            refine ⟨_, _, rfl, rfl, (by rw [List.length_map]; omega), ?_⟩
            rw [List.length_map]
            have j0 := Int.emod_nonneg mz (show (fit.length : Int) ≠ 0 by omega)
            have j1 := Int.emod_lt_of_pos mz (show (0 : Int) < fit.length by omega)
            generalize hj : mz % (fit.length : Int) = j at j0 j1
            have hjn : j.toNat < fit.length := by omega
            have hkf := List.getElem?_eq_getElem hjn
            generalize hk : fit[j.toNat] = k at hkf
            have hkm : k ∈ fitK os ((7 - i : Nat) : Int) := by rw [hfit]; exact ix_mem hkf
            have hko := fit_mem hkm
            obtain ⟨t, hu, ht⟩ := rd k hko.1
            refine ⟨D1, _, _, _, rfl, rfl, sqL hD1h, at_of (j := j.toNat) (by omega) (by rw [List.getElem?_map, hkf]; rfl), ?_⟩
            refine ⟨_, rfl, _, rfl, _, _, rfl, rfl, ?_⟩
            refine ⟨y, _, _, _, rfl, rfl, hy1.same s24, at_of (j := 7 - i - 1) (by omega) (ix_map dL), ?_⟩
            walk_at "rd"
            refine ⟨a, _, _, _, rfl, rfl, ha1.same s24, at_of (j := k) rfl hu, ?_⟩
            refine ⟨t, _, _, _, rfl, rfl, sqT (s24 _ _ ht), rfl, ?_⟩
            walk_at "rd"
            have hkc : k < cs'.length := by rw [← hlc]; exact hko.1
            have ec : cs'[k]? = some (cs'.getD k 0) := by rw [List.getD_eq_getElem?_getD, List.getElem?_eq_getElem hkc]; rfl
            have g := hg (os.getD k oz) (by rw [List.getD_eq_getElem?_getD, List.getElem?_eq_getElem hko.1]; exact List.getElem_mem hko.1)
            have g0 := g.size1
            have g1 := g.size2
            refine ⟨c, _, _, _, rfl, rfl, sqL hc4, at_of (j := k) rfl (ix_map ec), ?_⟩
            refine ⟨_, rfl, _, rfl, _, rfl, a, _, _, _, rfl, rfl, ha1.same s24, at_of (j := k) rfl hu, ?_⟩
            refine ⟨t, _, _, _, rfl, rfl, sqT (s24 _ _ ht), rfl, ?_⟩
            refine ⟨_, _, rfl, rfl, ⟨by omega, by omega⟩, ?_⟩
            walk_at "rd"
            refine ⟨c, _, _, k, rfl, rfl, hc4, ixN_of rfl (by rw [List.length_map]; exact hkc), ?_⟩
            rw [← hheld] at e
            have F' := F.more hl hg hi hM hkm e
            rw [hheld] at F'
            exact ⟨_, _, _, _, _, cs'.set k _, rfl, sb4.put, by rw [upd_same, List.map_set], F', by omega⟩
          · rw [← hheld] at e
            exact ⟨_, _, _, _, _, cs', rfl, sb4, hc4, F.none hi (by omega), by omega⟩
    · obtain ⟨y4, y5, y6, y7, y8, cs', rfl, sb, hc1, F, _⟩ := h
      exact ⟨_, rfl, (q _ sb).2 cs' hc1 F⟩
abbrev s_price_of : Stmt := topS 2
theorem sc_price_of : FnScope ["offers", "counts", "size", "price", "last", "count"] ["offers", "counts"] (defScope s_price_of) := ⟨rfl, rfl, rfl, by decide +kernel, rfl, by decide +kernel, by decide +kernel⟩
theorem bd_price_of : ∀ (kV doc pm : Value) (an : Option Addr) (cdv ct : Value) (us : List Value), us.length = (["offers", "counts"] : List Str).length → bindArgs (PySem.W.fnOf "price_of" "price_of" (defArgs s_price_of) (defBody s_price_of) (defScope s_price_of) .none kV doc pm an cdv ct) ⟨us, []⟩ = pure ((["offers", "counts"] : List Str).zip us) := fun _ _ _ _ _ _ us hl => match us, hl with | [_, _], _ => rfl
theorem ok_price_of {P : Program} {w : World} {K : PySem.W.Frag} {mg : Str → Option Value} {base : Heap} (D : DefAt K mg "price_of" s_price_of) (m_sum : mg "sum" = none) (m_zip : mg "zip" = none) : Clb P w K mg base 1 "price_of" ["offers", "counts"] spPriceOf := by
  refine D.clb sc_price_of (fun vs H Q E h => ?_) bd_price_of (fun f cdv A outer s H vs Q E hr h => ?_)
  · obtain ⟨v, b, os, cs, rfl, _⟩ := h
    rfl
  · obtain ⟨v, b, os, cs, rfl, ⟨a, us, rfl, ha, hh⟩, hb, hl, hz, hg, hc, q⟩ := h
    refine ⟨_, (pss_one (ps_ret (pe_callB (kcr_sum K rfl) (by rfl) m_sum (by decide +kernel) (pa_cons (pe_lc (own := [("count", 5), ("size", 2), ("price", 3), ("last", 4)]) rfl sc_price_of.nd (kpi_zipA K (by rfl) m_zip (pa_cons (pv 0) (pa_cons (pv 1) pa_nil))) (blkOk_by (own := [("count", 5), ("size", 2), ("price", 3), ("last", 4)]) (N := ["offers", "counts", "size", "price", "last", "count"]) (sc := defScope s_price_of) (by decide +kernel)) (fun _ _ _ _ _ => (kpg_tup K (n := 2) rfl (pgs_cons (kpg_tup K (n := 3) rfl (pgs_cons (pg_name (i := 2) sc_price_of.nd rfl (.inl rfl)) (pgs_cons (pg_name (i := 3) sc_price_of.nd rfl (.inl rfl)) (pgs_cons (pg_name (i := 4) sc_price_of.nd rfl (.inl rfl)) pgs_nil)))) (pgs_cons (pg_name (i := 5) sc_price_of.nd rfl (.inl rfl)) pgs_nil)))) (fun _ _ _ _ _ => pts_nil) (fun _ _ _ _ _ => (pe_op op_mul (pv 3) (pv 5)))) pa_nil)))), ?_⟩
    have hlu := hh.len
    refine ⟨_, rfl, _, rfl, a, b, us, cs.map V.int, rfl, .inr ⟨sqT ha, sqT hb, ?_⟩⟩
    refine fun D hD => lc_rel (walk_zipT (n := us.length) (by rw [List.length_map]; omega)) (xs := os.zip cs) (by rw [zip_len hl]; omega) (f := fun p => some (p.1.price * p.2)) (R := fun _ v x => v = V.int x) mono_eq hD
      (fun H' s => ⟨s.seqT (sqT ha), s.seqT (sqT hb)⟩) (by omega) (fun i v x H1 H2 Ky Kn hx sm hy h1 h2 => ?_) (fun H' ys sm hD' hd => ?_)
    · obtain ⟨ho, hci⟩ := ix_zip hx
      obtain ⟨T, y, z, rfl, hT, rfl, ey, ez⟩ := hy
      obtain ⟨t, rfl, ht⟩ := hh.all i _ _ ey ho
      have e2 := Option.some.inj ((ix_map (f := V.int) hci).symm.trans ez)
      subst e2
      have st := same_upd (o := .tup [V.ref t, V.int x.2]) hT
      have g := hg _ (List.mem_of_getElem? ho)
      have g0 := g.price0
      have g1 := g.price2
      refine ⟨T, _, rfl, sqT upd_same, rfl, _, _, rfl, t, _, rfl, sqT (st _ _ (sm _ _ ht)), rfl, _, _, rfl, _, _, rfl, _, _, rfl, rfl, _, _, rfl, rfl, rfl, ?_⟩
      refine ⟨_, rfl, _, rfl, _, _, rfl, rfl, .inl ⟨by omega, by omega⟩, ?_⟩
      exact h1 _ _ _ rfl st rfl
    · have e := held_eq (f := V.int) hd
      rw [fm_some] at e
      exact ⟨D, _, rfl, sqL (by rw [hD', e]), q H' sm⟩
abbrev s_held : Stmt := topS 4
theorem sc_held : FnScope ["offers", "counts", "day", "size", "price", "last", "count"] ["offers", "counts", "day"] (defScope s_held) := ⟨rfl, rfl, rfl, by decide +kernel, rfl, by decide +kernel, by decide +kernel⟩
theorem bd_held : ∀ (kV doc pm : Value) (an : Option Addr) (cdv ct : Value) (us : List Value), us.length = (["offers", "counts", "day"] : List Str).length → bindArgs (PySem.W.fnOf "held" "held" (defArgs s_held) (defBody s_held) (defScope s_held) .none kV doc pm an cdv ct) ⟨us, []⟩ = pure ((["offers", "counts", "day"] : List Str).zip us) := fun _ _ _ _ _ _ us hl => match us, hl with | [_, _, _], _ => rfl
theorem ok_held {P : Program} {w : World} {K : PySem.W.Frag} {mg : Str → Option Value} {base : Heap} (D : DefAt K mg "held" s_held) (m_sum : mg "sum" = none) (m_zip : mg "zip" = none) : Clb P w K mg base 1 "held" ["offers", "counts", "day"] spHeld := by
  refine D.clb sc_held (fun vs H Q E h => ?_) bd_held (fun f cdv A outer s H vs Q E hr h => ?_)
  · obtain ⟨v, b, os, cs, day, rfl, _⟩ := h
    rfl
  · obtain ⟨v, b, os, cs, day, rfl, ⟨a, us, rfl, ha, hh⟩, hb, hl, hz, hg, q⟩ := h
    refine ⟨_, (pss_one (ps_ret (pe_callB (kcr_sum K rfl) (by rfl) m_sum (by decide +kernel) (pa_cons (pe_lc (own := [("count", 6), ("size", 3), ("price", 4), ("last", 5)]) rfl sc_held.nd (kpi_zipA K (by rfl) m_zip (pa_cons (pv 0) (pa_cons (pv 1) pa_nil))) (blkOk_by (own := [("count", 6), ("size", 3), ("price", 4), ("last", 5)]) (N := ["offers", "counts", "day", "size", "price", "last", "count"]) (sc := defScope s_held) (by decide +kernel)) (fun _ _ _ _ _ => (kpg_tup K (n := 2) rfl (pgs_cons (kpg_tup K (n := 3) rfl (pgs_cons (pg_name (i := 3) sc_held.nd rfl (.inl rfl)) (pgs_cons (pg_name (i := 4) sc_held.nd rfl (.inl rfl)) (pgs_cons (pg_name (i := 5) sc_held.nd rfl (.inl rfl)) pgs_nil)))) (pgs_cons (pg_name (i := 6) sc_held.nd rfl (.inl rfl)) pgs_nil)))) (fun _ _ _ _ _ => (pts_one (pt_cmpR op_ge (pv 5) (pv 2) (nomark _)))) (fun _ _ _ _ _ => (pe_op op_mul (pv 3) (pv 6)))) pa_nil)))), ?_⟩
    have hlu := hh.len
    refine ⟨_, rfl, _, rfl, a, b, us, cs.map V.int, rfl, .inr ⟨sqT ha, sqT hb, ?_⟩⟩
    refine fun D hD => lc_rel (walk_zipT (n := us.length) (by rw [List.length_map]; omega)) (xs := os.zip cs) (by rw [zip_len hl]; omega) (f := fun p => if day ≤ p.1.last then some (p.1.size * p.2) else none) (R := fun _ v x => v = V.int x) mono_eq hD
      (fun H' s => ⟨s.seqT (sqT ha), s.seqT (sqT hb)⟩) (by omega) (fun i v x H1 H2 Ky Kn hx sm hy h1 h2 => ?_) (fun H' ys sm hD' hd => ?_)
    · obtain ⟨ho, hci⟩ := ix_zip hx
      obtain ⟨T, y, z, rfl, hT, rfl, ey, ez⟩ := hy
      obtain ⟨t, rfl, ht⟩ := hh.all i _ _ ey ho
      have e2 := Option.some.inj ((ix_map (f := V.int) hci).symm.trans ez)
      subst e2
      have st := same_upd (o := .tup [V.ref t, V.int x.2]) hT
      have g := hg _ (List.mem_of_getElem? ho)
      have g0 := g.size1
      have g1 := g.size2
      refine ⟨T, _, rfl, sqT upd_same, rfl, _, _, rfl, t, _, rfl, sqT (st _ _ (sm _ _ ht)), rfl, _, _, rfl, _, _, rfl, _, _, rfl, rfl, _, _, rfl, rfl, rfl, ?_⟩
      refine ⟨_, rfl, _, rfl, _, _, rfl, rfl, _, rfl, ?_⟩
      refine it_le (fun e => ?_) (fun e => ?_)
      · refine ⟨_, rfl, _, rfl, _, _, rfl, rfl, .inl ⟨by omega, by omega⟩, ?_⟩
        exact h1 _ _ _ (if_pos e) st rfl
      · exact h2 _ (if_neg e) st
    · have e := held_eq (f := V.int) hd
      refine ⟨D, _, rfl, sqL (by rw [hD', e]), ?_⟩
      rw [heldZ_fm]
      exact q H' sm
abbrev s_serves : Stmt := topS 3
theorem sc_serves : FnScope ["offers", "counts", "lacks", "day", "lack"] ["offers", "counts", "lacks"] (defScope s_serves) := ⟨rfl, rfl, rfl, by decide +kernel, rfl, by decide +kernel, by decide +kernel⟩
theorem bd_serves : ∀ (kV doc pm : Value) (an : Option Addr) (cdv ct : Value) (us : List Value), us.length = (["offers", "counts", "lacks"] : List Str).length → bindArgs (PySem.W.fnOf "serves" "serves" (defArgs s_serves) (defBody s_serves) (defScope s_serves) .none kV doc pm an cdv ct) ⟨us, []⟩ = pure ((["offers", "counts", "lacks"] : List Str).zip us) := fun _ _ _ _ _ _ us hl => match us, hl with | [_, _, _], _ => rfl
theorem ok_serves {P : Program} {w : World} {K : PySem.W.Frag} {mg : Str → Option Value} {base : Heap} (D : DefAt K mg "serves" s_serves) (m_all : mg "all" = none) (m_enumerate : mg "enumerate" = none) (C_held : Clb P w K mg base 1 "held" ["offers", "counts", "day"] spHeld) : Clb P w K mg base 2 "serves" ["offers", "counts", "lacks"] spServes := by
  refine D.clb sc_serves (fun vs H Q E h => ?_) bd_serves (fun f cdv A outer s H vs Q E hr h => ?_)
  · obtain ⟨v, b, c, os, cs, ls, rfl, _⟩ := h
    rfl
  · obtain ⟨v, b, c, os, cs, ls, rfl, ho, hb, hc, hl, hz, hg, hp, hls, q⟩ := h
    refine ⟨_, (pss_one (ps_ret (pe_callB (kcr_all K rfl) (by rfl) m_all (by decide +kernel) (pa_cons (pe_lc (own := [("day", 3), ("lack", 4)]) rfl sc_serves.nd (kpi_enumS K (n := 1) (by rfl) m_enumerate (pa_cons (pv 2) pa_nil) (by decide) (by decide)) (blkOk_by (own := [("day", 3), ("lack", 4)]) (N := ["offers", "counts", "lacks", "day", "lack"]) (sc := defScope s_serves) (by decide +kernel)) (fun _ _ _ _ _ => (kpg_tup K (n := 2) rfl (pgs_cons (pg_name (i := 3) sc_serves.nd rfl (.inl rfl)) (pgs_cons (pg_name (i := 4) sc_serves.nd rfl (.inl rfl)) pgs_nil)))) (fun _ _ _ _ _ => pts_nil) (fun _ _ _ _ _ => (pe_cmpR op_ge (pe_cal C_held (hr.mono (by decide)) (pa_cons (pv 0) (pa_cons (pv 1) (pa_cons (pv 3) pa_nil)))) (pv 4) (nomark _)))) pa_nil)))), ?_⟩
    refine ⟨_, rfl, c, _, rfl, sqT hc, ?_⟩
    refine fun D hD => lc_rel walk_enumT (xs := List.range 7) (by rw [List.length_map, hls.1]; rfl) (f := fun i => some (decide (ls.getD i 0 ≤ heldOn os cs (1 + (i : Nat))))) (R := fun _ v x => v = V.bl x) mono_eq hD
      (fun H' s => s.seqT (sqT hc)) (by rw [List.length_map, hls.1]; decide) (fun i v x H1 H2 Ky Kn hx sm hy h1 h2 => ?_) (fun H' ys sm hD' hd => ?_)
    · obtain ⟨rfl, hi⟩ := range_ix hx
      obtain ⟨T, y, z, rfl, hT, rfl, ey, ez⟩ := hy
      cases ey
      obtain ⟨n, en, rfl⟩ := map_ix ez
      have st := same_upd (o := .tup [V.int (1 + (x : Nat)), V.int n]) hT
      refine ⟨T, _, rfl, sqT upd_same, rfl, _, _, rfl, _, _, rfl, rfl, rfl, ?_⟩
      refine ⟨_, rfl, _, rfl, _, rfl, v, b, os, cs, _, rfl, OffersAt.mono _ _ _ _ (SameT.of (sm.trans st)) ho, st _ _ (sm _ _ hb), hl, hz, hg, fun H3 s3 => ?_⟩
      refine ⟨_, rfl, _, _, rfl, rfl, ?_⟩
      have eg : ls.getD x 0 = n := by rw [List.getD_eq_getElem?_getD, en]; rfl
      exact h1 _ _ _ rfl (st.trans s3) (by rw [eg])
    · have e := held_eq (f := V.bl) hd
      rw [fm_some] at e
      refine ⟨D, _, rfl, sqL (by rw [hD', e]), ?_⟩
      have e2 : ((List.range 7).map fun i => decide (ls.getD i 0 ≤ heldOn os cs (1 + (i : Nat)))).all id = servesB os cs ls := by
        unfold servesB
        rw [List.all_map]
        rfl
      rw [e2]
      exact q H' sm
abbrev s_least : Stmt := topS 10
theorem sc_least : FnScope ["prices", "price"] ["prices"] (defScope s_least) := ⟨rfl, rfl, rfl, by decide +kernel, rfl, by decide +kernel, by decide +kernel⟩
theorem bd_least : ∀ (kV doc pm : Value) (an : Option Addr) (cdv ct : Value) (us : List Value), us.length = (["prices"] : List Str).length → bindArgs (PySem.W.fnOf "least" "least" (defArgs s_least) (defBody s_least) (defScope s_least) .none kV doc pm an cdv ct) ⟨us, []⟩ = pure ((["prices"] : List Str).zip us) := fun _ _ _ _ _ _ us hl => match us, hl with | [_], _ => rfl
theorem ok_least {P : Program} {w : World} {K : PySem.W.Frag} {mg : Str → Option Value} {base : Heap} (D : DefAt K mg "least" s_least) (m_min : mg "min" = none) : Clb P w K mg base 1 "least" ["prices"] (spLeast K) := by
  refine D.clb sc_least (fun vs H Q E h => ?_) bd_least (fun f cdv A outer s H vs Q E hr h => ?_)
  · obtain ⟨p, xs, rfl, _⟩ := h
    rfl
  · obtain ⟨p, xs, rfl, hp, hl, q⟩ := h
    refine ⟨_, (pss_one (ps_ret (kpe_minD K rfl (by rfl) m_min (pa_cons (pe_lc (own := [("price", 1)]) rfl sc_least.nd (kpi_list K (pv 0)) (blkOk_by (own := [("price", 1)]) (N := ["prices", "price"]) (sc := defScope s_least) (by decide +kernel)) (fun _ _ _ _ _ => (pg_name (i := 1) sc_least.nd rfl (.inl rfl))) (fun _ _ _ _ _ => (pts_one (pt_cmpR op_notN (pv 1) pe_non (nomark _)))) (fun _ _ _ _ _ => (pv 1))) pa_nil)))), ?_⟩
    refine ⟨_, rfl, p, rfl, ⟨_, hp⟩, ?_⟩
    refine fun D hD => lc_rel (walk_list (xs := xs.map cellV)) (xs := xs) (by rw [List.length_map]) (f := fun x => x) (R := fun _ v x => v = V.int x) mono_eq hD (fun H' s => s.seq hp) (by rw [List.length_map]; omega) (fun i v x H1 H2 Ky Kn hx sm hy h1 h2 => ?_) (fun H' ys sm hD' hd => ?_)
    · obtain ⟨rfl, hv⟩ := hy
      obtain ⟨x', hx', rfl⟩ := map_ix hv
      rw [hx] at hx'
      cases hx'
      refine ⟨rfl, ?_⟩
      refine ⟨_, rfl, rfl, _, rfl, it_some (fun z ez => ?_) (fun ez => ?_)⟩
      · rw [ez]
        exact ⟨_, rfl, h1 _ _ _ ez (Same.refl _) rfl⟩
      · exact h2 _ ez (Same.refl _)
    · have e := held_eq (f := V.int) hd
      refine ⟨D, _, rfl, sqL (by rw [hD', e]), fun ez => ?_, fun m hm hmin => ?_⟩
      · exact q none _ sm (least_none ez)
      · exact q (some m) _ sm (least_some hm hmin)
abbrev s_with_offer : Stmt := topS 9
theorem sc_with_offer : FnScope ["row", "amount", "size", "price", "rest"] ["row", "amount", "size", "price"] (defScope s_with_offer) := ⟨rfl, rfl, rfl, by decide +kernel, rfl, by decide +kernel, by decide +kernel⟩
theorem bd_with_offer : ∀ (kV doc pm : Value) (an : Option Addr) (cdv ct : Value) (us : List Value), us.length = (["row", "amount", "size", "price"] : List Str).length → bindArgs (PySem.W.fnOf "with_offer" "with_offer" (defArgs s_with_offer) (defBody s_with_offer) (defScope s_with_offer) .none kV doc pm an cdv ct) ⟨us, []⟩ = pure ((["row", "amount", "size", "price"] : List Str).zip us) := fun _ _ _ _ _ _ us hl => match us, hl with | [_, _, _, _], _ => rfl
theorem ok_with_offer {P : Program} {w : World} {K : PySem.W.Frag} {mg : Str → Option Value} {base : Heap} (D : DefAt K mg "with_offer" s_with_offer) (m_max : mg "max" = none) : Clb P w K mg base 1 "with_offer" ["row", "amount", "size", "price"] (spWithOffer K) := by
  refine D.clb sc_with_offer (fun vs H Q E h => ?_) bd_with_offer (fun f cdv A outer s H vs Q E hr h => ?_)
  · obtain ⟨p, r, a, z, c, rfl, _⟩ := h
    rfl
  · obtain ⟨p, r, a, z, c, rfl, hp, hz, hlt, q⟩ := h
    refine ⟨_, (pss_cons (ps_set (i := 4) sc_with_offer.nd rfl (.inl rfl) (pe_ix (kix_seq K) (pv 0) (pe_callB (call_max2 rfl) (by rfl) m_max (by decide +kernel) (pa_cons pe_int (pa_cons (pe_op op_sub (pv 1) (pv 2)) pa_nil))) (fun _ _ => rfl)))
    (pss_one (ps_ret (pe_ifExp (pt_cmpR op_isN (pv 4) pe_non (nomark _)) pe_non (pe_op op_add (pv 3) (pv 4)))))), ?_⟩
    refine ⟨_, rfl, ?_⟩
    walk_at "rd"
    have hc : r[a - z.toNat]? = some (r.getD (a - z.toNat) none) := by
      rw [List.getD_eq_getElem?_getD, List.getElem?_eq_getElem hlt]; rfl
    refine ⟨p, _, _, _, rfl, rfl, hp, at_of (j := a - z.toNat) ?_ (ix_map hc), ?_⟩
    · split <;> omega
    unfold withO at q
    refine ⟨_, rfl, rfl, _, rfl, it_none (fun ex => ?_) (fun x ex => ?_)⟩
    · rw [ex] at q
      exact q
    · rw [ex] at q
      refine ⟨_, rfl, _, rfl, _, _, rfl, by rw [ex]; rfl, ?_⟩
      exact q
abbrev s_going_on : Stmt := topS 8
theorem sc_going_on : FnScope ["lacks", "rows", "day", "amount"] ["lacks", "rows", "day", "amount"] (defScope s_going_on) := ⟨rfl, rfl, rfl, by decide +kernel, rfl, by decide +kernel, by decide +kernel⟩
theorem bd_going_on : ∀ (kV doc pm : Value) (an : Option Addr) (cdv ct : Value) (us : List Value), us.length = (["lacks", "rows", "day", "amount"] : List Str).length → bindArgs (PySem.W.fnOf "going_on" "going_on" (defArgs s_going_on) (defBody s_going_on) (defScope s_going_on) .none kV doc pm an cdv ct) ⟨us, []⟩ = pure ((["lacks", "rows", "day", "amount"] : List Str).zip us) := fun _ _ _ _ _ _ us hl => match us, hl with | [_, _, _, _], _ => rfl
theorem ok_going_on {P : Program} {w : World} {K : PySem.W.Frag} {mg : Str → Option Value} {base : Heap} {tk : Tok} (D : DefAt K mg "going_on" s_going_on) (m_DAYS : mg "DAYS" = some (.int 7 tk)) (m_max : mg "max" = none) : Clb P w K mg base 1 "going_on" ["lacks", "rows", "day", "amount"] (spGoingOn K) := by
  refine D.clb sc_going_on (fun vs H Q E h => ?_) bd_going_on (fun f cdv A outer s H vs Q E hr h => ?_)
  · obtain ⟨b, p, ls, us, nxt, M, d, a, rfl, _⟩ := h
    rfl
  · obtain ⟨b, p, ls, us, nxt, M, d, a, rfl, hb, hls, hp, d1, d7, ha, hm, hn, q⟩ := h
    refine ⟨_, (pss_cons (ps_if (pt_cmpR op_eq (pv 2) (pe_glob (v := .int 7) (by rfl) m_DAYS ⟨_, rfl⟩) (nomark _))
      (pss_one (ps_ret (pe_ifExp (pt_cmpR op_eq (pv 3) pe_int (nomark _)) pe_int pe_non)))
      pss_nil)
    (pss_one (ps_ret (pe_ix (kix_tup K) (pe_ix (kix_seq K) (pv 1) (pv 2) (fun _ _ => rfl)) (pe_callB (call_max2 rfl) (by rfl) m_max (by decide +kernel) (pa_cons (pv 3) (pa_cons (pe_ix (kix_tup K) (pv 0) (pv 2) (fun _ _ => rfl)) pa_nil))) (fun _ _ => rfl))))), ?_⟩
    walk_at "rd"
    refine it_eqI (fun e => ?_) (fun e => ?_)
    · have hd : d = 7 := by omega
      subst hd
      walk_at "rd"
      unfold goG at q
      rw [if_neg (by decide)] at q
      refine it_eqI (fun e2 => ?_) (fun e2 => ?_)
      · rw [if_pos (by omega)] at q
        exact q
      · rw [if_neg (by omega)] at q
        exact q
    · have hd : d < 7 := by omega
      obtain ⟨t, hu, ht, hl⟩ := hn hd
      have hL := hls.at (d := d + 1) (by omega) (by omega)
      rw [Nat.add_sub_cancel] at hL
      have hlk := hm (d + 1)
      refine ⟨_, rfl, _, rfl, p, _, _, _, rfl, rfl, hp, at_of (j := d) rfl hu, ?_⟩
      refine ⟨_, rfl, _, rfl, _, rfl, b, _, _, _, rfl, rfl, sqT hb, at_of (j := d) rfl (ix_map hL), ?_⟩
      walk_at "rd"
      have hx : max a (lackAt ls (d + 1)) < nxt.length := by omega
      have hc : nxt[max a (lackAt ls (d + 1))]? = some (nxt.getD (max a (lackAt ls (d + 1))) none) := by
        rw [List.getD_eq_getElem?_getD, List.getElem?_eq_getElem hx]; rfl
      refine ⟨t, _, _, _, rfl, rfl, sqT ht, at_of (j := max a (lackAt ls (d + 1))) ?_ (ix_map hc), ?_⟩
      · split <;> omega
      · unfold goG at q
        rw [if_pos hd] at q
        exact q
abbrev s_sold_on : Stmt := topS 7
theorem sc_sold_on : FnScope ["offers", "day", "at", "size", "price", "last"] ["offers", "day"] (defScope s_sold_on) := ⟨rfl, rfl, rfl, by decide +kernel, rfl, by decide +kernel, by decide +kernel⟩
theorem bd_sold_on : ∀ (kV doc pm : Value) (an : Option Addr) (cdv ct : Value) (us : List Value), us.length = (["offers", "day"] : List Str).length → bindArgs (PySem.W.fnOf "sold_on" "sold_on" (defArgs s_sold_on) (defBody s_sold_on) (defScope s_sold_on) .none kV doc pm an cdv ct) ⟨us, []⟩ = pure ((["offers", "day"] : List Str).zip us) := fun _ _ _ _ _ _ us hl => match us, hl with | [_, _], _ => rfl
theorem ok_sold_on {P : Program} {w : World} {K : PySem.W.Frag} {mg : Str → Option Value} {base : Heap} {tk : Tok} (D : DefAt K mg "sold_on" s_sold_on) (m_DAYS : mg "DAYS" = some (.int 7 tk)) (m_enumerate : mg "enumerate" = none) (m_min : mg "min" = none) : Clb P w K mg base 1 "sold_on" ["offers", "day"] spSoldOn := by
  refine D.clb sc_sold_on (fun vs H Q E h => ?_) bd_sold_on (fun f cdv A outer s H vs Q E hr h => ?_)
  · obtain ⟨v, os, d, rfl, _⟩ := h
    rfl
  · obtain ⟨v, os, d, rfl, ⟨a, us, rfl, ha, hh⟩, hz, hg, q⟩ := h
    refine ⟨_, (pss_one (ps_ret (pe_lc (own := [("at", 2), ("size", 3), ("price", 4), ("last", 5)]) rfl sc_sold_on.nd (kpi_enumT K (by rfl) m_enumerate (pa_cons (pv 0) pa_nil)) (blkOk_by (own := [("at", 2), ("size", 3), ("price", 4), ("last", 5)]) (N := ["offers", "day", "at", "size", "price", "last"]) (sc := defScope s_sold_on) (by decide +kernel)) (fun _ _ _ _ _ => (kpg_tup K (n := 2) rfl (pgs_cons (pg_name (i := 2) sc_sold_on.nd rfl (.inl rfl)) (pgs_cons (kpg_tup K (n := 3) rfl (pgs_cons (pg_name (i := 3) sc_sold_on.nd rfl (.inl rfl)) (pgs_cons (pg_name (i := 4) sc_sold_on.nd rfl (.inl rfl)) (pgs_cons (pg_name (i := 5) sc_sold_on.nd rfl (.inl rfl)) pgs_nil)))) pgs_nil)))) (fun _ _ _ _ _ => (pts_one (PW.pt (pw_and (pt_cmpR op_eq (pe_callB (call_min2 rfl) (by rfl) m_min (by decide +kernel) (pa_cons (pv 5) (pa_cons (pe_glob (v := .int 7) (by rfl) m_DAYS ⟨_, rfl⟩) pa_nil))) (pv 1) (nomark _)) (pw_and1 (pt_cmpR op_gt (pv 3) pe_int (nomark _))))))) (fun _ _ _ _ _ => (pe_tup (pa_cons (pv 2) (pa_cons (pv 3) (pa_cons (pv 4) pa_nil)))))))), ?_⟩
    have hlu := hh.len
    refine ⟨_, rfl, a, _, rfl, sqT ha, ?_⟩
    refine fun D hD => lc_rel walk_enumT (xs := List.range os.length) (by rw [List.length_range]; omega) (f := fun k => if dayOf (os.getD k ⟨0, 0, 0⟩) = d then some (k, os.getD k ⟨0, 0, 0⟩) else none) (R := SoldAt) SoldAt.mono hD
      (fun H' s => s.seqT (sqT ha)) (by omega) (fun i v x H1 H2 Ky Kn hx sm hy h1 h2 => ?_) (fun H' ys sm hD' hd => ?_)
    · obtain ⟨rfl, hi⟩ := range_ix hx
      obtain ⟨T, y, z, rfl, hT, rfl, ey, ez⟩ := hy
      cases ey
      have ho := List.getElem?_eq_getElem hi
      have eo : os.getD x ⟨0, 0, 0⟩ = os[x] := by rw [List.getD_eq_getElem?_getD, ho]; rfl
      rw [eo] at h1 h2
      obtain ⟨t, rfl, ht⟩ := hh.all x _ _ ez ho
      have g := hg _ (List.getElem_mem hi)
      have g1 := g.size1
      have st := same_upd (o := .tup [V.int (0 + (x : Nat)), V.ref t]) hT
      refine ⟨T, _, rfl, sqT upd_same, rfl, _, _, rfl, _, _, rfl, t, _, rfl, sqT (st _ _ (sm _ _ ht)), rfl, _, _, rfl, _, _, rfl, _, _, rfl, rfl, rfl, rfl, ?_⟩
      walk_at "rd"
      rw [show (if (7 : Int) < os[x].last then (7 : Int) else os[x].last) = dayOf os[x] from min7 _]
      refine it_eqI (fun e => ?_) (fun e => ?_)
      · walk_at "rd"
        refine it_lt (fun _ => ?_) (fun e2 => absurd g1 (by omega))
        walk_at "rd"
        refine ⟨small (by show 3 ≤ 100000; decide), fun u hu => ?_⟩
        refine h1 _ _ _ (if_pos e) (st.new hu) ⟨u, rfl, ?_⟩
        rw [upd_same]
        have e0 : (0 : Int) + (x : Nat) = (x : Nat) := by omega
        rw [e0]
      · exact h2 _ (if_neg e) st
    · exact q D ys _ sm hD hD' hd
abbrev s_row_of : Stmt := topS 6
theorem sc_row_of : FnScope ["offers", "lacks", "rows", "day", "sold", "row", "amount", "prices", "at", "size", "price"] ["offers", "lacks", "rows", "day"] (defScope s_row_of) := ⟨rfl, rfl, rfl, by decide +kernel, rfl, by decide +kernel, by decide +kernel⟩
theorem bd_row_of : ∀ (kV doc pm : Value) (an : Option Addr) (cdv ct : Value) (us : List Value), us.length = (["offers", "lacks", "rows", "day"] : List Str).length → bindArgs (PySem.W.fnOf "row_of" "row_of" (defArgs s_row_of) (defBody s_row_of) (defScope s_row_of) .none kV doc pm an cdv ct) ⟨us, []⟩ = pure ((["offers", "lacks", "rows", "day"] : List Str).zip us) := fun _ _ _ _ _ _ us hl => match us, hl with | [_, _, _, _], _ => rfl
theorem ok_row_of {P : Program} {w : World} {K : PySem.W.Frag} {mg : Str → Option Value} {base : Heap} (D : DefAt K mg "row_of" s_row_of) (m_max : mg "max" = none) (m_range : mg "range" = none) (m_tuple : mg "tuple" = none) (C_sold_on : Clb P w K mg base 1 "sold_on" ["offers", "day"] spSoldOn) (C_going_on : Clb P w K mg base 1 "going_on" ["lacks", "rows", "day", "amount"] (spGoingOn K)) (C_with_offer : Clb P w K mg base 1 "with_offer" ["row", "amount", "size", "price"] (spWithOffer K)) (C_least : Clb P w K mg base 1 "least" ["prices"] (spLeast K)) : Clb P w K mg base 2 "row_of" ["offers", "lacks", "rows", "day"] (spRowOf K) := by
  refine D.clb sc_row_of (fun vs H Q E h => ?_) bd_row_of (fun f cdv A outer s H vs Q E hr h => ?_)
  · obtain ⟨v, b, p, os, ls, us, nxt, d, rfl, _⟩ := h
    rfl
  · obtain ⟨v, b, p, os, ls, us, nxt, d, rfl, ho, hz, hg, hb, hls, hp, d1, d7, hn, q⟩ := h
    refine ⟨_, (pss_cons (ps_set (i := 4) sc_row_of.nd rfl (.inl rfl) (pe_cal C_sold_on (hr.mono (by decide)) (pa_cons (pv 0) (pa_cons (pv 3) pa_nil))))
    (pss_cons (ps_set (i := 5) sc_row_of.nd rfl (.inr rfl) (pe_lst (pa_cons (pe_cal C_going_on (hr.mono (by decide)) (pa_cons (pv 1) (pa_cons (pv 2) (pa_cons (pv 3) (pa_cons pe_int pa_nil))))) pa_nil)))
    (pss_cons (ps_for PassesOwn.never rfl (pi_range2 (by rfl) m_range (pa_cons pe_int (pa_cons (pe_op op_add (pe_callB (kcr_maxA K rfl) (by rfl) m_max (by decide +kernel) (pa_cons (pv 1) pa_nil)) pe_int) pa_nil))) (pg_name (i := 6) sc_row_of.nd rfl (.inr rfl))
      (pss_cons (ps_setLc (i := 7) (own := [("at", 8), ("size", 9), ("price", 10)])   rfl sc_row_of.nd rfl rfl (sw_true rfl rfl rfl (by decide +kernel)) (kpi_list K (pv 4)) (blkOk_by (own := [("at", 8), ("size", 9), ("price", 10)]) (N := ["offers", "lacks", "rows", "day", "sold", "row", "amount", "prices", "at", "size", "price"]) (sc := defScope s_row_of) (by decide +kernel)) (fun _ _ _ _ _ => (kpg_tup K (n := 3) rfl (pgs_cons (pg_name (i := 8) sc_row_of.nd rfl (.inl rfl)) (pgs_cons (pg_name (i := 9) sc_row_of.nd rfl (.inl rfl)) (pgs_cons (pg_name (i := 10) sc_row_of.nd rfl (.inl rfl)) pgs_nil))))) (fun _ _ _ _ _ => pts_nil) (fun _ _ _ _ _ => (pe_cal C_with_offer (hr.mono (by decide)) (pa_cons (pv 5) (pa_cons (pv 6) (pa_cons (pv 9) (pa_cons (pv 10) pa_nil)))))))
    (pss_one (ps_expr (kpe_bm K PySem.F.plainAttrs_list PySem.F.slot_list_append PySem.F.type_list_append mt_append (pv 5) (pa_cons (pe_cal C_least (hr.mono (by decide)) (pa_cons (pe_op op_cat (pe_lst (pa_cons (pe_cal C_going_on (hr.mono (by decide)) (pa_cons (pv 1) (pa_cons (pv 2) (pa_cons (pv 3) (pa_cons (pv 6) pa_nil))))) pa_nil)) (pv 7)) pa_nil)) pa_nil))))))
    (pss_one (ps_ret (pe_callTy (kcall_tuple_of K) (by rfl) m_tuple (by decide +kernel) (pa_cons (pv 5) pa_nil))))))), ?_⟩
    refine ⟨_, rfl, _, rfl, v, os, d, rfl, ho, hz, hg, fun sp sus H1 s1 hsn hsp hsh => ?_⟩
    have hsl := hsh.len
    have hso := sold_len os d
    have hlk : ∀ d : Nat, lackAt ls d ≤ mostL ls := fun d => hls.lack d
    have hm2 := hls.most
    have hn1 : ∀ {Hx}, Same H Hx → d < 7 → ∃ t, us[d]? = some (.ref t) ∧ Hx t = some (.tup (nxt.map cellV)) ∧ nxt.length = mostL ls + 1 := fun s h => by
      obtain ⟨t, h1, h2, h3⟩ := hn h
      exact ⟨t, h1, s _ _ h2, h3⟩
    refine ⟨_, rfl, _, rfl, _, rfl, b, p, ls, us, nxt, mostL ls, d, 0, rfl, s1 _ _ hb, hls, hp.same s1, d1, d7, Nat.zero_le _, hlk, hn1 s1, ?_⟩
    refine ⟨small (by show 1 ≤ 100000; decide), fun rp hrp => ?_⟩
    have s2 := s1.new (o := .lst [cellV (goG ls nxt d 0)]) hrp
    have hspr : sp ≠ rp := ne_of_none hsp hrp
    have hrpH := same_none s1 hrp
    refine ⟨_, rfl, b, ls, rfl, .inr (sqT (s2 _ _ hb)), by rw [hls.1]; decide, fun m hm hmx => ?_⟩
    have em := mostL_eq hls hm hmx
    refine ⟨_, _, rfl, rfl, ?_⟩
    refine ⟨_, _, rfl, ⟨by decide, by decide, by omega, by omega⟩, ?_⟩
    refine for_range (lo := 1) (n := (m + 1 - 1).toNat) (fun i σ H' => ∃ (y6 y7 : Option V) (r : List (Option Int)), σ = [some v, some (.ref b), some (.ref p), some (.int d), some (.ref sp), some (.ref rp), y6, y7, none, none, none] ∧ Same H H' ∧ H' sp = some (.lst sus) ∧ Held SoldAt H' sus (soldL os d) ∧ H' rp = some (.lst (r.map cellV)) ∧ r.length = i + 1 ∧ RowTo os ls d nxt r)
      ⟨none, none, [goG ls nxt d 0], rfl, s2, by rw [upd_ne hspr]; exact hsp, hsh.mono SoldAt.mono (SameT.new hrp), upd_same, rfl, ⟨Nat.succ_pos 0, rfl, fun a h0 ha => absurd ha (by simp; omega)⟩⟩ (fun i σ H2 hi h => ?_) (fun σ H2 h => ?_)
    · obtain ⟨y6, y7, r, rfl, sm, hsp2, hsh2, hrp2, hrl, hrt⟩ := h
      have hia : (1 : Int) + (i : Nat) = ((i + 1 : Nat) : Int) := by omega
      refine ⟨_, rfl, sp, rfl, ⟨_, sqL hsp2⟩, ?_⟩
      refine fun D hD => lc_rel (walk_list (xs := sus)) (xs := soldL os d) hsl.symm (f := fun x => some (withO r (i + 1) x.2.size x.2.price)) (R := fun _ v x => v = cellV x) mono_eq hD (fun H' s => s.seq (sqL hsp2)) (by omega) (fun j v x H3 H4 Ky Kn hx s3 hy h1 h2 => ?_) (fun H3 ys s3 hD' hd => ?_)
      · obtain ⟨rfl, hv⟩ := hy
        obtain ⟨t, rfl, ht⟩ := hsh2.all j v x hv hx
        obtain ⟨k, o⟩ := x
        have go := hg o (List.mem_of_getElem? (sold_mem.mp (List.mem_of_getElem? hx)).1)
        have g1 := go.size1
        refine ⟨t, _, rfl, sqT (s3 _ _ ht), rfl, _, _, rfl, _, _, rfl, _, _, rfl, rfl, rfl, ?_⟩
        refine ⟨_, rfl, _, rfl, _, rfl, _, rfl, rp, r, i + 1, o.size, o.price, ?_, SqA.l (s3 _ _ hrp2), by omega, by omega, ?_⟩
        · rw [← hia]; rfl
        exact h1 _ _ _ rfl (Same.refl _) rfl
      · have e := held_eq (f := cellV) hd
        rw [fm_some] at e
        rw [e] at hD'
        have hrp3 := s3 _ _ hrp2
        refine ⟨_, rfl, .inl ⟨rfl, _, sqL hrp3⟩, ?_⟩
        have sm3 := sm.trans s3
        refine ⟨_, rfl, _, rfl, _, rfl, _, rfl, b, p, ls, us, nxt, mostL ls, d, i + 1, ?_, sm3 _ _ hb, hls, hp.same sm3, d1, d7, by omega, hlk, hn1 sm3, ?_⟩
        · rw [← hia]; rfl
        refine ⟨small (by show 1 ≤ 100000; decide), fun l1 hl1 => ?_⟩
        have s4 := same_upd (o := .lst [cellV (goG ls nxt d (i + 1))]) hl1
        refine ⟨_, rfl, l1, D, _, _, rfl, rfl, upd_same, s4 _ _ hD', small (by rw [List.length_map, List.length_map]; show 1 + _ ≤ 100000; omega), fun l2 hl2 => ?_⟩
        have s5 := s4.new (o := .lst ([cellV (goG ls nxt d (i + 1))] ++ ((soldL os d).map fun x => withO r (i + 1) x.2.size x.2.price).map cellV)) hl2
        refine ⟨l2, dues os ls nxt r d (i + 1), rfl, sqL upd_same, by unfold dues; rw [List.length_cons, List.length_map]; omega, fun c H5 s6 hc => ?_⟩
        have s7 := s5.trans s6
        have hrp5 := s7 _ _ hrp3
        refine ⟨rp, _, _, rfl, rfl, hrp5, small' (by rw [List.length_map]; omega), ?_⟩
        refine ⟨_, _, r ++ [c], rfl, (sm3.trans s7).mut hrpH, ?_, ?_, by rw [upd_same, List.map_append]; rfl, by rw [List.length_append, hrl]; rfl, hrt.next hg (by rw [hrl]; exact hc)⟩
        · rw [upd_ne hspr]
          exact s7 _ _ (s3 _ _ hsp2)
        · exact (hsh2.mono SoldAt.mono ((SameT.of (s3.trans s7)).trans (SameT.lst hrp5)))
    · obtain ⟨y6, y7, r, rfl, sm, hsp2, hsh2, hrp2, hrl, hrt⟩ := h
      refine ⟨_, rfl, rp, _, rfl, .inl ⟨sqL hrp2, fun u hu => ?_⟩⟩
      exact q _ r _ (sm.new hu) ⟨u, rfl, upd_same⟩ (hrt.is (by omega))
abbrev s_table : Stmt := topS 5
theorem sc_table : FnScope ["offers", "lacks", "rows", "day"] ["offers", "lacks"] (defScope s_table) := ⟨rfl, rfl, rfl, by decide +kernel, rfl, by decide +kernel, by decide +kernel⟩
theorem bd_table : ∀ (kV doc pm : Value) (an : Option Addr) (cdv ct : Value) (us : List Value), us.length = (["offers", "lacks"] : List Str).length → bindArgs (PySem.W.fnOf "table" "table" (defArgs s_table) (defBody s_table) (defScope s_table) .none kV doc pm an cdv ct) ⟨us, []⟩ = pure ((["offers", "lacks"] : List Str).zip us) := fun _ _ _ _ _ _ us hl => match us, hl with | [_, _], _ => rfl
theorem ok_table {P : Program} {w : World} {K : PySem.W.Frag} {mg : Str → Option Value} {base : Heap} {tk : Tok} (D : DefAt K mg "table" s_table) (m_DAYS : mg "DAYS" = some (.int 7 tk)) (m_range : mg "range" = none) (m_tuple : mg "tuple" = none) (C_row_of : Clb P w K mg base 2 "row_of" ["offers", "lacks", "rows", "day"] (spRowOf K)) : Clb P w K mg base 3 "table" ["offers", "lacks"] spTable := by
  refine D.clb sc_table (fun vs H Q E h => ?_) bd_table (fun f cdv A outer s H vs Q E hr h => ?_)
  · obtain ⟨v, c, os, ls, rfl, _⟩ := h
    rfl
  · obtain ⟨v, c, os, ls, rfl, ho, hc, hz, hg, hls, q⟩ := h
    refine ⟨_, (pss_cons (ps_set (i := 2) sc_table.nd rfl (.inl rfl) (pe_op op_rep (pe_lst (pa_cons (pe_tup pa_nil) pa_nil)) (pe_glob (v := .int 7) (by rfl) m_DAYS ⟨_, rfl⟩)))
    (pss_cons (ps_for PassesOwn.never rfl (pi_range3 (by rfl) m_range (pa_cons (pe_glob (v := .int 7) (by rfl) m_DAYS ⟨_, rfl⟩) (pa_cons pe_int (pa_cons (pe_un un_neg pe_int) pa_nil)))) (pg_name (i := 3) sc_table.nd rfl (.inl rfl))
      (pss_one (ps_asg (pe_cal C_row_of (hr.mono (by decide)) (pa_cons (pv 0) (pa_cons (pv 1) (pa_cons (pv 2) (pa_cons (pv 3) pa_nil))))) (pg_sub (pv 2) (pe_op op_sub (pv 3) pe_int) set_list))))
    (pss_one (ps_ret (pe_callTy (kcall_tuple_of K) (by rfl) m_tuple (by decide +kernel) (pa_cons (pv 2) pa_nil)))))), ?_⟩
    refine ⟨Nat.zero_le _, fun e he => ?_⟩
    have s1 := same_upd (o := .tup []) he
    refine ⟨small (by show 1 ≤ 100000; decide), fun l hl => ?_⟩
    have s2 := s1.new (o := .lst [V.ref e]) hl
    refine ⟨l, 7, _, rfl, rfl, upd_same, by decide, by decide, small (by show 1 * 7 ≤ 100000; decide), fun p hp => ?_⟩
    have s3 := s2.new (o := .lst (List.replicate (7 : Int).toNat [V.ref e]).flatten) hp
    have hpH := same_none s2 hp
    refine ⟨_, rfl, 7, 0, -1, 7, rfl, RgC.neg (by decide) (by decide) (by decide) (by decide), ?_⟩
    refine for_rangeC (lo := 7) (c := -1) (n := 7) (fun i σ H' => ∃ (y3 : Option V) (us : List V) (rs : List (List (Option Int))), σ = [some v, some (.ref c), some (.ref p), y3] ∧ Same H H' ∧ H' p = some (.lst (List.replicate (7 - i) (V.ref e) ++ us)) ∧ Held RowAt H' us rs ∧ rs.length = i ∧ Chain os ls (mostL ls) rs)
      ⟨none, [], [], rfl, s3, by rw [upd_same]; rfl, Held.nil, rfl, fun j hj => absurd hj (Nat.not_lt_zero _)⟩ (fun i σ H2 hi h => ?_) (fun σ H2 h => ?_)
    · obtain ⟨y3, us, rs, rfl, sm, hp2, hh, hrl, hch⟩ := h
      have hul := hh.len
      have hday : (7 : Int) + (i : Nat) * -1 = ((7 - i : Nat) : Int) := by omega
      refine ⟨_, rfl, _, rfl, _, rfl, _, rfl, v, c, p, os, ls, _, rs.getD 0 [], 7 - i, ?_, OffersAt.mono _ _ _ _ (SameT.of sm) ho, hz, hg, sm _ _ hc, hls, SqA.l hp2, by omega, by omega, fun hlt => ?_, fun v' r H3 s4 hr' hri => ?_⟩
      · rw [hday]; rfl
      · have hi0 : 0 < i := by omega
        have e1 : (List.replicate (7 - i) (V.ref e) ++ us)[7 - i]? = us[0]? := by
          rw [List.getElem?_append_right (by rw [List.length_replicate]; exact Nat.le_refl _), List.length_replicate, Nat.sub_self]
        have hu0 := List.getElem?_eq_getElem (show 0 < us.length by omega)
        have hr0 := List.getElem?_eq_getElem (show 0 < rs.length by omega)
        obtain ⟨t, et, ht⟩ := hh.all 0 _ _ hu0 hr0
        rw [et] at hu0
        have eg : rs.getD 0 [] = rs[0] := by rw [List.getD_eq_getElem?_getD, hr0]; rfl
        refine ⟨t, by rw [e1, hu0], by rw [eg]; exact ht, ?_⟩
        have := (hch 0 (by omega)).len
        exact this
      · have hp3 := s4 _ _ hp2
        walk_at "rd"
        have hlen : (List.replicate (7 - i) (V.ref e) ++ us).length = 7 := by rw [List.length_append, List.length_replicate]; omega
        refine ⟨p, _, _, 6 - i, rfl, rfl, hp3, ixN_of (by rw [hday]; omega) (by rw [hlen]; omega), ?_⟩
        have eset : (List.replicate (7 - i) (V.ref e) ++ us).set (6 - i) v' = List.replicate (7 - (i + 1)) (V.ref e) ++ v' :: us := by
          rw [show 7 - i = (6 - i) + 1 by omega, List.replicate_succ', List.append_assoc, show 7 - (i + 1) = 6 - i by omega]
          rw [List.set_append_right _ _ (by rw [List.length_replicate]; exact Nat.le_refl _), List.length_replicate, Nat.sub_self]
          rfl
        rw [eset]
        refine ⟨_, v' :: us, r :: rs, rfl, (sm.trans s4).mut hpH, upd_same, ?_, by rw [List.length_cons, hrl], ?_⟩
        · have m1 : SameT H2 (upd H3 p (.lst (List.replicate (7 - (i + 1)) (V.ref e) ++ v' :: us))) := (SameT.of s4).trans (SameT.lst hp3)
          have hh' := hh.mono RowAt.mono m1
          refine ⟨by rw [List.length_cons, List.length_cons, hul], fun j w x hw hx => ?_⟩
          cases j with
          | zero =>
            cases hw
            cases hx
            exact RowAt.mono _ _ _ _ (SameT.lst hp3) hr'
          | succ j => exact hh'.all j w x hw hx
        · intro j hj
          rw [List.length_cons] at hj ⊢
          cases j with
          | zero =>
            have e8 : 8 - (rs.length + 1) + 0 = 7 - i := by omega
            rw [e8]
            exact hri
          | succ j =>
            have := hch j (by omega)
            have e8 : 8 - (rs.length + 1) + (j + 1) = 8 - rs.length + j := by omega
            rw [e8]
            exact this
    · obtain ⟨y3, us, rs, rfl, sm, hp2, hh, hrl, hch⟩ := h
      refine ⟨_, rfl, p, _, rfl, .inl ⟨sqL hp2, fun u hu => ?_⟩⟩
      exact q _ rs _ (sm.new hu) ⟨u, us, rfl, upd_same, hh.mono RowAt.mono (SameT.new hu)⟩ (table_of hg hrl hls.lack hch)
abbrev s_first_fitting : Stmt := topS 12
theorem sc_first_fitting : FnScope ["sold", "row", "amount", "fitting", "at", "size", "price"] ["sold", "row", "amount"] (defScope s_first_fitting) := ⟨rfl, rfl, rfl, by decide +kernel, rfl, by decide +kernel, by decide +kernel⟩
theorem bd_first_fitting : ∀ (kV doc pm : Value) (an : Option Addr) (cdv ct : Value) (us : List Value), us.length = (["sold", "row", "amount"] : List Str).length → bindArgs (PySem.W.fnOf "first_fitting" "first_fitting" (defArgs s_first_fitting) (defBody s_first_fitting) (defScope s_first_fitting) .none kV doc pm an cdv ct) ⟨us, []⟩ = pure ((["sold", "row", "amount"] : List Str).zip us) := fun _ _ _ _ _ _ us hl => match us, hl with | [_, _, _], _ => rfl
theorem ok_first_fitting {P : Program} {w : World} {K : PySem.W.Frag} {mg : Str → Option Value} {base : Heap} (D : DefAt K mg "first_fitting" s_first_fitting) (C_with_offer : Clb P w K mg base 1 "with_offer" ["row", "amount", "size", "price"] (spWithOffer K)) : Clb P w K mg base 2 "first_fitting" ["sold", "row", "amount"] (spFirstFit K) := by
  refine D.clb sc_first_fitting (fun vs H Q E h => ?_) bd_first_fitting (fun f cdv A outer s H vs Q E hr h => ?_)
  · obtain ⟨sp, p, sus, os, rows, r, d, a, k, c, rfl, _⟩ := h
    rfl
  · obtain ⟨sp, p, sus, os, rows, r, d, a, k, c, rfl, hsp, hsh, hp, hz, hg, hr1, ha, hc, hf, q⟩ := h
    refine ⟨_, (pss_cons (ps_setLc (i := 3) (own := [("at", 4), ("size", 5), ("price", 6)])   rfl sc_first_fitting.nd rfl rfl (sw_true rfl rfl rfl (by decide +kernel)) (kpi_list K (pv 0)) (blkOk_by (own := [("at", 4), ("size", 5), ("price", 6)]) (N := ["sold", "row", "amount", "fitting", "at", "size", "price"]) (sc := defScope s_first_fitting) (by decide +kernel)) (fun _ _ _ _ _ => (kpg_tup K (n := 3) rfl (pgs_cons (pg_name (i := 4) sc_first_fitting.nd rfl (.inl rfl)) (pgs_cons (pg_name (i := 5) sc_first_fitting.nd rfl (.inl rfl)) (pgs_cons (pg_name (i := 6) sc_first_fitting.nd rfl (.inl rfl)) pgs_nil))))) (fun _ _ _ _ _ => (pts_one (pt_cmpR op_eq (pe_cal C_with_offer (hr.mono (by decide)) (pa_cons (pv 1) (pa_cons (pv 2) (pa_cons (pv 5) (pa_cons (pv 6) pa_nil))))) (pe_ix (kix_seq K) (pv 1) (pv 2) (fun _ _ => rfl)) (nomark _)))) (fun _ _ _ _ _ => (pv 4)))
    (pss_one (ps_ret (pe_ix (kix_list K) (pv 3) pe_int (fun _ _ => rfl))))), ?_⟩
    have hsl := hsh.len
    have hso := sold_len os d
    obtain ⟨rest, er⟩ := first_of hr1 hc hf
    refine ⟨_, rfl, sp, rfl, ⟨_, hsp⟩, ?_⟩
    refine fun D hD => lc_rel (walk_list (xs := sus)) (xs := soldL os d) hsl.symm (f := fun x => if withO r a x.2.size x.2.price = some c then some x.1 else none) (R := fun _ v x => v = V.int (x : Nat)) mono_eq hD (fun H' s => s.seq hsp) (by omega) (fun j v x H3 H4 Ky Kn hx s3 hy h1 h2 => ?_) (fun H3 ys s3 hD' hd => ?_)
    · obtain ⟨rfl, hv⟩ := hy
      obtain ⟨t, rfl, ht⟩ := hsh.all j v x hv hx
      obtain ⟨k', o⟩ := x
      have go := hg o (List.mem_of_getElem? (sold_mem.mp (List.mem_of_getElem? hx)).1)
      have g1 := go.size1
      refine ⟨t, _, rfl, sqT (s3 _ _ ht), rfl, _, _, rfl, _, _, rfl, _, _, rfl, rfl, rfl, ?_⟩
      refine ⟨_, rfl, _, rfl, _, rfl, _, rfl, p, r, a, o.size, o.price, rfl, hp.same s3, by omega, by omega, ?_⟩
      have hca : r[a]? = some (some c) := by rw [← hc, List.getD_eq_getElem?_getD, List.getElem?_eq_getElem ha]; rfl
      refine ⟨_, rfl, _, rfl, p, _, _, _, rfl, rfl, hp.same s3, at_of (j := a) rfl (ix_map hca), ?_⟩
      refine ⟨cellV_scal _ (some c), ?_⟩
      refine ⟨_, rfl, it_eqC (y := some c) (fun e => ?_) (fun e => ?_)⟩
      · refine ⟨_, rfl, h1 _ _ _ (if_pos e) (Same.refl _) rfl⟩
      · exact h2 _ (if_neg e) (Same.refl _)
    · have e := held_eq (f := fun x : Nat => V.int (x : Nat)) hd
      rw [er] at e
      refine ⟨_, rfl, D, _, _, _, rfl, rfl, sqL (by rw [hD', e]), at_of (j := 0) rfl rfl, ?_⟩
      exact q _ s3
abbrev s_bought : Stmt := topS 11
theorem sc_bought : FnScope ["offers", "lacks", "rows", "counts", "amount", "day", "row", "at"] ["offers", "lacks"] (defScope s_bought) := ⟨rfl, rfl, rfl, by decide +kernel, rfl, by decide +kernel, by decide +kernel⟩
theorem bd_bought : ∀ (kV doc pm : Value) (an : Option Addr) (cdv ct : Value) (us : List Value), us.length = (["offers", "lacks"] : List Str).length → bindArgs (PySem.W.fnOf "bought" "bought" (defArgs s_bought) (defBody s_bought) (defScope s_bought) .none kV doc pm an cdv ct) ⟨us, []⟩ = pure ((["offers", "lacks"] : List Str).zip us) := fun _ _ _ _ _ _ us hl => match us, hl with | [_, _], _ => rfl
theorem ok_bought {P : Program} {w : World} {K : PySem.W.Frag} {mg : Str → Option Value} {base : Heap} {tk : Tok} (D : DefAt K mg "bought" s_bought) (m_DAYS : mg "DAYS" = some (.int 7 tk)) (m_len : mg "len" = none) (m_max : mg "max" = none) (m_range : mg "range" = none) (m_tuple : mg "tuple" = none) (C_table : Clb P w K mg base 3 "table" ["offers", "lacks"] spTable) (C_going_on : Clb P w K mg base 1 "going_on" ["lacks", "rows", "day", "amount"] (spGoingOn K)) (C_sold_on : Clb P w K mg base 1 "sold_on" ["offers", "day"] spSoldOn) (C_first_fitting : Clb P w K mg base 2 "first_fitting" ["sold", "row", "amount"] (spFirstFit K)) : Clb P w K mg base 4 "bought" ["offers", "lacks"] spBought := by
  refine D.clb sc_bought (fun vs H Q E h => ?_) bd_bought (fun f cdv A outer s H vs Q E hr h => ?_)
  · obtain ⟨v, c, os, ls, rfl, _⟩ := h
    rfl
  · obtain ⟨v, c, os, ls, rfl, ho, hc, hz, hg, hls, q⟩ := h
    refine ⟨_, (pss_cons (ps_set (i := 2) sc_bought.nd rfl (.inl rfl) (pe_cal C_table (hr.mono (by decide)) (pa_cons (pv 0) (pa_cons (pv 1) pa_nil))))
    (pss_cons (ps_set (i := 3) sc_bought.nd rfl (.inl rfl) (pe_op op_rep (pe_lst (pa_cons pe_int pa_nil)) (pe_callB (kcall_len_seq K) (by rfl) m_len (by decide +kernel) (pa_cons (pv 0) pa_nil))))
    (pss_cons (ps_set (i := 4) sc_bought.nd rfl (.inl rfl) pe_int)
    (pss_cons (ps_for PassesOwn.never rfl (pi_range2 (by rfl) m_range (pa_cons pe_int (pa_cons (pe_op op_add (pe_glob (v := .int 7) (by rfl) m_DAYS ⟨_, rfl⟩) pe_int) pa_nil))) (pg_name (i := 5) sc_bought.nd rfl (.inl rfl))
      (pss_cons (ps_set (i := 4) sc_bought.nd rfl (.inl rfl) (pe_callB (call_max2 rfl) (by rfl) m_max (by decide +kernel) (pa_cons (pv 4) (pa_cons (pe_ix (kix_tup K) (pv 1) (pe_op op_sub (pv 5) pe_int) (fun _ _ => rfl)) pa_nil))))
    (pss_cons (ps_set (i := 6) sc_bought.nd rfl (.inl rfl) (pe_ix (kix_tup K) (pv 2) (pe_op op_sub (pv 5) pe_int) (fun _ _ => rfl)))
    (pss_cons (ps_if (pt_cmpR op_isN (pe_ix (kix_tup K) (pv 6) (pv 4) (fun _ _ => rfl)) pe_non (nomark _))
      (pss_one (ps_ret pe_non))
      pss_nil)
    (pss_one (ps_while PassesOwn.never (pt_cmpR op_ne (pe_ix (kix_tup K) (pv 6) (pv 4) (fun _ _ => rfl)) (pe_cal C_going_on (hr.mono (by decide)) (pa_cons (pv 1) (pa_cons (pv 2) (pa_cons (pv 5) (pa_cons (pv 4) pa_nil))))) (nomark _))
      (pss_cons (ps_set (i := 7) sc_bought.nd rfl (.inl rfl) (pe_cal C_first_fitting (hr.mono (by decide)) (pa_cons (pe_cal C_sold_on (hr.mono (by decide)) (pa_cons (pv 0) (pa_cons (pv 5) pa_nil))) (pa_cons (pv 6) (pa_cons (pv 4) pa_nil)))))
    (pss_cons (ps_augS (pv 3) (pv 7) (kget_list K) pe_int ip_add set_list)
    (pss_one (ps_set (i := 4) sc_bought.nd rfl (.inl rfl) (pe_callB (call_max2 rfl) (by rfl) m_max (by decide +kernel) (pa_cons pe_int (pa_cons (pe_op op_sub (pv 4) (pe_ix (kix_tup K) (pe_ix (kix_tup K) (pv 0) (pv 7) (fun _ _ => rfl)) pe_int (fun _ _ => rfl))) pa_nil)))))))))))))
    (pss_one (ps_ret (pe_callTy (kcall_tuple_of K) (by rfl) m_tuple (by decide +kernel) (pa_cons (pv 3) pa_nil)))))))), ?_⟩
    refine ⟨_, rfl, _, rfl, v, c, os, ls, rfl, ho, hc, hz, hg, hls, fun rv rows H1 s1 hrv T => ?_⟩
    obtain ⟨oa, ous, rfl, hoa, hoh⟩ := ho
    obtain ⟨rt, rus, rfl, hrt, hrh⟩ := hrv
    have hrl : rus.length = 7 := by rw [hrh.len, T.len]
    have hol := hoh.len
    have rowAt : ∀ d : Nat, 1 ≤ d → d ≤ 7 → ∃ t : Addr, rus[d - 1]? = some (.ref t) ∧ H1 t = some (.tup ((rows.getD (d - 1) []).map cellV)) ∧ (rows.getD (d - 1) []).length = mostL ls + 1 := fun d h1 h2 => by
      have hlt : d - 1 < rows.length := by rw [T.len]; omega
      have e := List.getElem?_eq_getElem hlt
      have eu := List.getElem?_eq_getElem (show d - 1 < rus.length by omega)
      obtain ⟨t, e1, e2⟩ := hrh.all (d - 1) _ _ eu e
      rw [e1] at eu
      have eg : rows.getD (d - 1) [] = rows[d - 1] := by rw [List.getD_eq_getElem?_getD, e]; rfl
      exact ⟨t, eu, by rw [eg]; exact e2, by rw [eg]; exact T.each _ (List.getElem_mem hlt)⟩
    have hlk : ∀ d : Nat, lackAt ls d ≤ mostL ls := fun d => hls.lack d
    have goEq : ∀ d a : Nat, goG ls (rows.getD d []) d a = goT ls rows d a := fun d a => rfl
    refine ⟨small (by show 1 ≤ 100000; decide), fun r1 hr1 => ?_⟩
    have s2 := s1.new (o := .lst [V.int 0]) hr1
    refine ⟨_, rfl, oa, ous, rfl, .inr (sqT (s2 _ _ hoa)), ?_⟩
    refine ⟨r1, ous.length, _, rfl, rfl, upd_same, by omega, by omega, small (by show 1 * ((ous.length : Int)).toNat ≤ 100000; omega), fun p hp => ?_⟩
    rw [rep0, hol]
    have s3 := s2.new (o := .lst ((List.replicate os.length (0 : Int)).map V.int)) hp
    have hpH1 : H1 p = none := same_none (same_upd hr1) hp
    have hpH := same_none s2 hp
    have s13 : Same H1 (upd (upd H1 r1 (.lst [V.int 0])) p (.lst ((List.replicate os.length (0 : Int)).map V.int))) := (same_upd hr1).new hp
    refine ⟨_, _, rfl, rfl, ?_⟩
    refine ⟨_, _, rfl, ⟨by decide, by decide, by decide, by decide⟩, ?_⟩
    generalize hW0 : boughtT os ls rows = W0 at q
    -- W0 is bought of every table
    have q' : ∀ H', Same H1 H' → (W0 = none → Q .non H') ∧ (∀ cs p, W0 = some cs → H' p = some (.tup (cs.map V.int)) → Q (.ref p) H') := fun H' sm => by
      have := q rows H' (s1.trans sm) T
      rw [hW0] at this
      exact this
    refine for_range (lo := 1) (n := ((7 : Int) + 1 - 1).toNat) (fun i σ H' => ∃ (a : Nat) (y5 y6 y7 : Option V) (cs : List Int), σ = [some (.ref oa), some (.ref c), some (.ref rt), some (.ref p), some (.int a), y5, y6, y7] ∧ Same H1 H' ∧ H' p = some (.lst (cs.map V.int)) ∧ cs.length = os.length ∧
        (i = 0 → a = 0 ∧ cs = List.replicate os.length 0) ∧ (0 < i → i < 7 → Walking os ls rows W0 (i + 1) (max a (lackAt ls (i + 1))) cs) ∧ (i = 7 → W0 = some cs))
      ⟨0, none, none, none, _, rfl, s13, upd_same, List.length_replicate, fun _ => ⟨rfl, rfl⟩, fun z => absurd z (Nat.lt_irrefl 0), fun z => by cases z⟩ (fun i σ H2 hi h => ?_) (fun σ H2 h => ?_)
    · obtain ⟨a, y5, y6, y7, cs, rfl, sm, hp2, hcl, h0, hw, _⟩ := h
      have hi7 : i < 7 := hi
      have hday : (1 : Int) + (i : Nat) = ((i + 1 : Nat) : Int) := by omega
      have hL := hls.at (d := i + 1) (by omega) (by omega)
      rw [Nat.add_sub_cancel] at hL
      obtain ⟨t, hu, ht, hrlen⟩ := rowAt (i + 1) (by omega) (by omega)
      rw [Nat.add_sub_cancel] at hu ht hrlen
      refine ⟨_, rfl, _, rfl, _, rfl, _, _, rfl, rfl, ?_⟩
      refine ⟨c, _, _, _, rfl, rfl, sqT ((s1.trans sm) _ _ hc), at_of (j := i) (by omega) (ix_map hL), ?_⟩
      refine ⟨_, _, rfl, ?_⟩
      have em : (if (lackAt ls (i + 1) : Int) > (a : Int) then (lackAt ls (i + 1) : Int) else (a : Int)) = ((max a (lackAt ls (i + 1)) : Nat) : Int) := by split <;> omega
      rw [em]
      have ham : max a (lackAt ls (i + 1)) ≤ mostL ls := by
        by_cases z : i = 0
        · rw [(h0 z).1]; have := hlk (i + 1); omega
        · exact (hw (by omega) hi7).am
      refine ⟨_, rfl, _, rfl, _, _, rfl, rfl, ?_⟩
      refine ⟨rt, _, _, _, rfl, rfl, sqT (sm _ _ hrt), at_of (j := i) (by omega) hu, ?_⟩
      have hci : (rows.getD i [])[max a (lackAt ls (i + 1))]? = some (cellT rows (i + 1) (max a (lackAt ls (i + 1)))) := by
        unfold cellT
        rw [Nat.add_sub_cancel, List.getD_eq_getElem?_getD (l := rows.getD i []), List.getElem?_eq_getElem (by omega)]; rfl
      refine ⟨_, rfl, _, rfl, t, _, _, _, rfl, rfl, sqT (sm _ _ ht), at_of (j := max a (lackAt ls (i + 1))) rfl (ix_map hci), ?_⟩
      refine ⟨rfl, _, rfl, it_none (fun en => ?_) (fun z ez => ?_)⟩
      · have hz0 : i = 0 := by
          by_cases z : i = 0
          · exact z
          · obtain ⟨c', hc'⟩ := (hw (by omega) hi7).cell
            rw [hc'] at en; cases en
        subst hz0
        rw [(h0 rfl).1, Nat.max_eq_right (Nat.zero_le _)] at en
        exact (q' H2 sm).1 (by rw [← hW0]; exact bought_none en)
      · have hW : Walking os ls rows W0 (i + 1) (max a (lackAt ls (i + 1))) cs := by
          by_cases z0 : i = 0
          · subst z0
            obtain ⟨ea, ec⟩ := h0 rfl
            subst ec
            rw [ea, Nat.max_eq_right (Nat.zero_le _)] at ez ⊢
            rw [← hW0]
            exact walking_start T hls ez
          · exact hw (by omega) hi7
        clear hw h0 hcl em hci ez z
        generalize max a (lackAt ls (i + 1)) = a1 at *
        refine ⟨fun m σ H' => ∃ (a : Nat) (y7 : Option V) (cs : List Int), σ = [some (.ref oa), some (.ref c), some (.ref rt), some (.ref p), some (.int a), some (.int (1 + (i : Nat))), some (.ref t), y7] ∧ Same H1 H' ∧ H' p = some (.lst (cs.map V.int)) ∧ Walking os ls rows W0 (i + 1) a cs ∧ m = a, ⟨a1, a1, y7, cs, rfl, sm, hp2, hW, rfl⟩, fun m σ H3 h => ?_⟩
        obtain ⟨a2, y7', cs2, rfl, sm3, hp3, hW2, hma⟩ := h
        obtain ⟨c2, hc2⟩ := hW2.cell
        have ham2 := hW2.am
        have hci2 : (rows.getD i [])[a2]? = some (cellT rows (i + 1) a2) := by
          unfold cellT
          rw [Nat.add_sub_cancel, List.getD_eq_getElem?_getD (l := rows.getD i []), List.getElem?_eq_getElem (by omega)]; rfl
        refine ⟨_, rfl, _, rfl, t, _, _, _, rfl, rfl, sqT (sm3 _ _ ht), at_of (j := a2) rfl (ix_map hci2), ?_⟩
        refine ⟨_, rfl, _, rfl, _, rfl, _, rfl, c, rt, ls, rus, rows.getD (i + 1) [], mostL ls, i + 1, a2, ?_, (s1.trans sm3) _ _ hc, hls, SqA.t (sm3 _ _ hrt), by omega, by omega, ham2, hlk, fun hlt => ?_, ?_⟩
        · rw [hday]; rfl
        · obtain ⟨t2, h1, h2, h3⟩ := rowAt (i + 2) (by omega) (by omega)
          exact ⟨t2, h1, sm3 _ _ h2, h3⟩
        rw [goEq]
        refine ⟨cellV_scal _ _, ?_⟩
        refine ⟨_, rfl, it_neC (fun en => ?_) (fun ee => ?_)⟩
        · obtain ⟨k, hk, hf, g1, a0, hW3⟩ := hW2.take T hg (by omega) (by omega) en
          refine ⟨fun σ H' => ∃ m', m' < m ∧ ∃ (a : Nat) (y7 : Option V) (cs : List Int), σ = [some (.ref oa), some (.ref c), some (.ref rt), some (.ref p), some (.int a), some (.int (1 + (i : Nat))), some (.ref t), y7] ∧ Same H1 H' ∧ H' p = some (.lst (cs.map V.int)) ∧ Walking os ls rows W0 (i + 1) a cs ∧ m' = a, fun _ _ h => h, ?_⟩
          refine ⟨_, rfl, _, rfl, .ref oa, os, i + 1, ?_, OffersAt.mono _ _ _ _ (SameT.of (s1.trans sm3)) ⟨oa, ous, rfl, hoa, hoh⟩, hz, hg, fun sp sus H4 s4 hsn hsp hsh => ?_⟩
          · rw [hday]; rfl
          have hgd : (rows.getD i []).getD a2 none = some c2 := hc2
          refine ⟨_, rfl, _, rfl, sp, t, sus, os, rows, rows.getD i [], i + 1, a2, k, c2, rfl, sqL hsp, hsh, SqA.t (s4 _ _ (sm3 _ _ ht)), hz, hg, by rw [Nat.add_sub_cancel], by omega, hgd, hf, fun H5 s5 => ?_⟩
          have sm5 := (sm3.trans s4).trans s5
          have hp5 := s5 _ _ (s4 _ _ hp3)
          have hkc : k < cs2.length := by rw [hW2.len]; exact hk
          have ec : cs2[k]? = some (cs2.getD k 0) := by rw [List.getD_eq_getElem?_getD, List.getElem?_eq_getElem hkc]; rfl
          refine ⟨_, rfl, _, rfl, p, _, _, _, rfl, rfl, sqL hp5, at_of (j := k) rfl (ix_map ec), ?_⟩
          refine ⟨_, _, rfl, rfl, ?_⟩
          refine ⟨p, _, _, k, rfl, rfl, hp5, ixN_of rfl (by rw [List.length_map]; exact hkc), ?_⟩
          have sm6 := sm5.mut (o := .lst ((cs2.map V.int).set k (V.int (cs2.getD k 0 + 1)))) hpH1
          have hou := List.getElem?_eq_getElem (show k < ous.length by omega)
          obtain ⟨w, hwe, hwt⟩ := hoh.all k _ _ hou (List.getElem?_eq_getElem hk)
          rw [hwe] at hou
          refine ⟨_, rfl, _, rfl, _, rfl, oa, _, _, _, rfl, rfl, sqT ((s1.trans sm6) _ _ hoa), at_of (j := k) rfl hou, ?_⟩
          refine ⟨w, _, _, _, rfl, rfl, sqT ((s1.trans sm6) _ _ hwt), rfl, ?_⟩
          walk_at "rd"
          refine ⟨a2 - os[k].size.toNat, by omega, a2 - os[k].size.toNat, some (.int (k : Nat)), cs2.set k (cs2.getD k 0 + 1), ?_, sm6, by rw [upd_same, List.map_set], hW3, rfl⟩
          have em : (if (a2 : Int) - os[k].size > 0 then (a2 : Int) - os[k].size else 0) = ((a2 - os[k].size.toNat : Nat) : Int) := by split <;> omega
          show [_, _, _, _, some (V.int (if (a2 : Int) - os[k].size > 0 then (a2 : Int) - os[k].size else 0)), _, _, _] = _
          rw [em]
        · refine ⟨a2, _, _, _, cs2, rfl, sm3, hp3, hW2.len, fun z => by omega, fun z z7 => hW2.next T z7 ee, fun z => ?_⟩
          have : i = 6 := by omega
          subst this
          exact hW2.last ee
    · obtain ⟨a, y5, y6, y7, cs, rfl, sm, hp2, hcl, _, _, hw⟩ := h
      refine ⟨_, rfl, p, _, rfl, .inl ⟨sqL hp2, fun u hu => ?_⟩⟩
      exact (q' _ (sm.new hu)).2 cs u (hw rfl) upd_same
abbrev s_law : Stmt := topS 26
theorem sc_law : FnScope ["_law_script", "_law_cells", "_law_offers_here", "_law_lacks", "_law_found", "_law_turn", "_law_cell", "_law_counts_here"] ["_law_script"] (defScope s_law) := ⟨rfl, rfl, rfl, by decide +kernel, rfl, by decide +kernel, by decide +kernel⟩
theorem bd_law : ∀ (kV doc pm : Value) (an : Option Addr) (cdv ct : Value) (us : List Value), us.length = (["_law_script"] : List Str).length → bindArgs (PySem.W.fnOf "law" "law" (defArgs s_law) (defBody s_law) (defScope s_law) .none kV doc pm an cdv ct) ⟨us, []⟩ = pure ((["_law_script"] : List Str).zip us) := fun _ _ _ _ _ _ us hl => match us, hl with | [_], _ => rfl
def spLaw (K : PySem.W.Frag) : Sp := fun vs H Q _ => ∃ (a : Addr) (ns : List Int), vs = [.ref a] ∧ SqL K H a (ns.map V.int) ∧ ns.length ≤ 63 ∧ ∀ H', Q (.bl true) H'
theorem ok_law {P : Program} {w : World} {K : PySem.W.Frag} {mg : Str → Option Value} {base : Heap} {f : Addr} {fd : FuncData} (F : Fun K "law" "law" s_law f fd) (m_range : mg "range" = none)
    (C_mixed : Clb P w K mg base 1 "_law_mixed" ["_law_script"] (spMixed K)) (C_offers : Clb P w K mg base 2 "_law_offers" ["_law_cells", "_law_many"] (spOffers K)) (C_size : Clb P w K mg base 1 "_law_size" ["_law_cell"] spSize) (C_cell_at : Clb P w K mg base 1 "_law_cell_at" ["_law_cells", "_law_k"] (spCellAt K)) (C_mix : Clb P w K mg base 1 "_law_mix" ["_law_cell", "_law_k"] spMix)
    (C_lacks_by : Clb P w K mg base 2 "_law_lacks_by" ["_law_cells"] (spLacksBy K)) (C_bought : Clb P w K mg base 4 "bought" ["offers", "lacks"] spBought) (C_filled : Clb P w K mg base 2 "_law_filled" ["_law_offers_here", "_law_counts_here", "_law_lacks", "_law_cell"] (spFilled K)) (C_counts : Clb P w K mg base 2 "_law_counts" ["_law_offers_here", "_law_cell"] (spCounts K)) (C_served : Clb P w K mg base 1 "_law_served" ["_law_offers_here", "_law_counts_here", "_law_lacks"] (spServed K)) (C_cost : Clb P w K mg base 1 "_law_cost" ["_law_offers_here", "_law_counts_here"] (spCost K))
    (C_serves : Clb P w K mg base 2 "serves" ["offers", "counts", "lacks"] spServes) (C_price_of : Clb P w K mg base 1 "price_of" ["offers", "counts"] spPriceOf) :
    FnOk P w K mg base CX0 5 f fd ["_law_script"] (spLaw K) := by
  refine F.ok sc_law (fun vs H Q E h => ?_) (fun cdv A outer s H vs Q E hr h => ?_)
  · obtain ⟨a, ns, rfl, _⟩ := h
    rfl
  · obtain ⟨a, ns, rfl, hS, hl, q⟩ := h
    refine ⟨_, (pss_cons (ps_set (i := 1) sc_law.nd rfl (.inl rfl) (pe_cal C_mixed (hr.mono (by decide)) (pa_cons (pv 0) pa_nil)))
    (pss_cons (ps_set (i := 2) sc_law.nd rfl (.inl rfl) (pe_cal C_offers (hr.mono (by decide)) (pa_cons (pv 1) (pa_cons (pe_cal C_size (hr.mono (by decide)) (pa_cons (pe_cal C_cell_at (hr.mono (by decide)) (pa_cons (pv 1) (pa_cons pe_int pa_nil))) pa_nil)) pa_nil))))
    (pss_cons (ps_set (i := 3) sc_law.nd rfl (.inl rfl) (pe_cal C_lacks_by (hr.mono (by decide)) (pa_cons (pv 1) pa_nil)))
    (pss_cons (ps_set (i := 4) sc_law.nd rfl (.inl rfl) (pe_cal C_bought (hr.mono (by decide)) (pa_cons (pv 2) (pa_cons (pv 3) pa_nil))))
    (pss_cons (ps_for PassesOwn.never rfl (pi_range1 (by rfl) m_range (pa_cons pe_int pa_nil)) (pg_name (i := 5) sc_law.nd rfl (.inl rfl))
      (pss_cons (ps_set (i := 6) sc_law.nd rfl (.inl rfl) (pe_cal C_mix (hr.mono (by decide)) (pa_cons (pe_cal C_cell_at (hr.mono (by decide)) (pa_cons (pv 1) (pa_cons pe_int pa_nil))) (pa_cons (pv 5) pa_nil))))
    (pss_cons (ps_set (i := 7) sc_law.nd rfl (.inl rfl) (pe_cal C_filled (hr.mono (by decide)) (pa_cons (pv 2) (pa_cons (pe_cal C_counts (hr.mono (by decide)) (pa_cons (pv 2) (pa_cons (pe_op op_fdiv (pv 6) pe_int) pa_nil))) (pa_cons (pv 3) (pa_cons (pe_op op_fdiv (pv 6) pe_int) pa_nil))))))
    (pss_cons (ps_if (pt_cmpR op_isN (pv 7) pe_non (nomark _))
      (pss_one (ps_ret (pe_cmpR op_isN (pv 4) pe_non (nomark _))))
      pss_nil)
    (C8.pss_cut (ps_if (PW.pt (pw_or (pt_cmpR op_isN (pv 4) pe_non (nomark _)) (pw_or1 (pt_not (pt_val (pe_cal C_served (hr.mono (by decide)) (pa_cons (pv 2) (pa_cons (pv 7) (pa_cons (pv 3) pa_nil)))))))))
      (pss_one (ps_ret pe_bl))
      pss_nil)
    (C8.pss_cut (ps_if (PW.pt (pw_or (pt_not (pt_val (pe_cal C_served (hr.mono (by decide)) (pa_cons (pv 2) (pa_cons (pv 4) (pa_cons (pv 3) pa_nil)))))) (pw_or1 (pt_cmpR op_notBl (pe_cal C_serves (hr.mono (by decide)) (pa_cons (pv 2) (pa_cons (pv 4) (pa_cons (pv 3) pa_nil)))) pe_bl (nomark _)))))
      (pss_one (ps_ret pe_bl))
      pss_nil)
    (pss_one (ps_if (PW.pt (pw_or (pt_cmpR op_gt (pe_cal C_price_of (hr.mono (by decide)) (pa_cons (pv 2) (pa_cons (pv 4) pa_nil))) (pe_cal C_cost (hr.mono (by decide)) (pa_cons (pv 2) (pa_cons (pv 7) pa_nil))) (nomark _)) (pw_or1 (pt_cmpR op_ne (pe_cal C_price_of (hr.mono (by decide)) (pa_cons (pv 2) (pa_cons (pv 4) pa_nil))) (pe_cal C_cost (hr.mono (by decide)) (pa_cons (pv 2) (pa_cons (pv 4) pa_nil))) (nomark _)))))
      (pss_one (ps_ret pe_bl))
      pss_nil))))))))
    (pss_one (ps_ret pe_bl))))))), ?_⟩
    refine ⟨_, rfl, a, ns, rfl, hS, hl, fun ca H1 s1 hc => ?_⟩
    refine ⟨_, rfl, _, rfl, ca, 0, rfl, hc, by decide, by decide, fun c0 _ _ => ?_⟩
    refine ⟨c0, rfl, fun m m0 m1 => ?_⟩
    refine ⟨ca, m, rfl, hc, m0, m1, fun v os H2 s2 ho hol hg => ?_⟩
    have hc2 := hc.same s2
    refine ⟨_, rfl, ca, rfl, hc2, fun lp ls H3 s3 hlp hls => ?_⟩
    have hc3 := hc2.same s3
    have ho3 := OffersAt.mono _ _ _ _ (SameT.of s3) ho
    refine ⟨_, rfl, _, rfl, v, lp, os, ls, rfl, ho3, hlp, hol, hg, hls, fun rows H4 s4 T => ?_⟩
    have hc4 := hc3.same s4
    obtain ⟨oa, ous, rfl, hoa, hoh⟩ := OffersAt.mono _ _ _ _ (SameT.of s4) ho3
    have hlp4 := s4 _ _ hlp
    have lsn : ∀ x ∈ ls, 0 ≤ x := fun x hx => (hls.2 x hx).1
    -- where a lack has no offer, nothing serves
    have nos : ∀ e : Nat, 1 ≤ e → e ≤ 7 → 0 < lackAt ls e → (∀ o ∈ os, ¬ (e : Int) ≤ o.last) → ∀ cs, servesB os cs ls = true → False := fun e e1 e7 el en cs h => by
      have := (serves_iff hls os cs).mp h e e1 e7
      rw [heldOn_w, wsum_zero _ _ _ fun k o c ho _ _ => by unfold onto; rw [if_neg (en o (ix_mem ho))]] at this
      omega
    cases hc1 : cellT rows 1 (lackAt ls 1) with
    | none =>
      have bn := bought_none (os := os) hc1
      refine ⟨fun _ => ?_, fun cs p z => (by rw [bn] at z; cases z)⟩
      walk_at "rd"
      refine ⟨by decide, by decide, ?_⟩
      refine for_range (lo := 0) (n := 3) (fun i σ H' => ∃ y5 y6 y7 : Option V, σ = [some (.ref a), some (.ref ca), some (.ref oa), some (.ref lp), some .non, y5, y6, y7] ∧ Same H4 H')
        ⟨none, none, none, rfl, Same.refl _⟩ (fun i σ H5 hi h => ?_) (fun σ H5 h => q _)
      obtain ⟨y5, y6, y7, rfl, s5⟩ := h
      refine ⟨_, rfl, ca, 1, rfl, hc4.same s5, by decide, by decide, fun c1 _ _ => ?_⟩
      walk_at "rd"
      refine ⟨by omega, by omega, fun cell z0 z1 => ?_⟩
      refine ⟨_, rfl, _, rfl, ?_⟩
      walk_at "rd"
      refine ⟨oa, ous, _, rfl, SqA.t (s5 _ _ hoa), by rw [hoh.len]; omega, fun cp cs H8 s13 hcn hcp hcl hcb => ?_⟩
      walk_at "rd"
      have hoa13 := s13 _ _ (s5 _ _ hoa)
      have hlp13 := s13 _ _ (s5 _ _ hlp4)
      refine ⟨oa, cp, lp, ous, os, cs, ls, _, rfl, fun z => ?_, fun z => ?_, SqA.t hoa13, hoh.mono OfferAt.mono (SameT.of (s5.trans s13)), hcp, SqA.t hlp13, by rw [hcl, hoh.len], by omega, hg, fun x hx => (hcb x hx).1, hls.1, lsn, fun H9 sb => ⟨fun e e1 e7 el en => ?_, fun cs' hc9 FF => ?_⟩⟩
      · rw [z, hcp] at hoa13; cases hoa13
      · rw [z, hcp] at hlp13; cases hlp13
      · refine ⟨_, rfl, rfl, _, rfl, iteT ?_⟩
        exact ⟨_, rfl, rfl, q _⟩
      · exfalso
        have hs := (serves_iff hls os cs').mpr fun e h1 h2 => FF.serve e (by omega) h2
        obtain ⟨c, ec, _⟩ := serve_cell T hg hls FF.nn hs
        rw [hc1] at ec
        cases ec
    | some c =>
      obtain ⟨fc, hb, hcl0, hcn0, hcost, hserve⟩ := bought_ok T hg hls hc1
      refine ⟨fun z => (by rw [hb] at z; cases z), fun fc' p z hp => ?_⟩
      obtain rfl : fc = fc' := Option.some.inj (hb.symm.trans z)
      walk_at "rd"
      refine ⟨by decide, by decide, ?_⟩
      refine for_range (lo := 0) (n := 3) (fun i σ H' => ∃ y5 y6 y7 : Option V, σ = [some (.ref a), some (.ref ca), some (.ref oa), some (.ref lp), some (.ref p), y5, y6, y7] ∧ Same H4 H')
        ⟨none, none, none, rfl, Same.refl _⟩ (fun i σ H5 hi h => ?_) (fun σ H5 h => q _)
      obtain ⟨y5, y6, y7, rfl, s5⟩ := h
      refine ⟨_, rfl, ca, 1, rfl, hc4.same s5, by decide, by decide, fun c1 _ _ => ?_⟩
      walk_at "rd"
      refine ⟨by omega, by omega, fun cell z0 z1 => ?_⟩
      refine ⟨_, rfl, _, rfl, ?_⟩
      walk_at "rd"
      refine ⟨oa, ous, _, rfl, SqA.t (s5 _ _ hoa), by rw [hoh.len]; omega, fun cp cs H8 s13 hcn hcp hcl hcb => ?_⟩
      walk_at "rd"
      have hoa13 := s13 _ _ (s5 _ _ hoa)
      have hlp13 := s13 _ _ (s5 _ _ hlp4)
      refine ⟨oa, cp, lp, ous, os, cs, ls, _, rfl, fun z => ?_, fun z => ?_, SqA.t hoa13, hoh.mono OfferAt.mono (SameT.of (s5.trans s13)), hcp, SqA.t hlp13, by rw [hcl, hoh.len], by omega, hg, fun x hx => (hcb x hx).1, hls.1, lsn, fun H9 sb => ⟨fun e e1 e7 el en => ?_, fun cs' hc9 FF => ?_⟩⟩
      · rw [z, hcp] at hoa13; cases hoa13
      · rw [z, hcp] at hlp13; cases hlp13
      · exfalso
        exact nos e e1 e7 el en fc hserve
      · have s9 := SameBut.over s13 hcn sb
        have s49 := s5.trans s9
        have hfl2 : os.length = cs'.length := by rw [FF.len, hcl, hoh.len]
        have hs := (serves_iff hls os cs').mpr fun e h1 h2 => FF.serve e (by omega) h2
        obtain ⟨c2, ec, lc⟩ := serve_cell T hg hls FF.nn hs
        rw [hc1] at ec
        obtain rfl : c = c2 := Option.some.inj ec
        have ofs : ∀ {Hx : Hp}, Same H4 Hx → OffersAt Hx (.ref oa) os := fun s => ⟨oa, ous, rfl, s _ _ hoa, hoh.mono OfferAt.mono (SameT.of s)⟩
        have c9 : ∀ {Hx : Hp}, Same H9 Hx → IntsIn K Hx (.ref cp) cs' := fun s => ⟨cp, rfl, SqA.l (s _ _ hc9)⟩
        refine ⟨_, rfl, rfl, _, rfl, iteF ?_⟩
        refine ⟨fun σ' H' => σ' = [some (.ref a), some (.ref ca), some (.ref oa), some (.ref lp), some (.ref p), some (.int (0 + (i : Nat))), some (.int cell), some (.ref cp)] ∧ H9 = H', ?_, fun σ' H' h => ?_⟩
        · refine ⟨_, rfl, rfl, _, rfl, iteF ?_⟩
          refine ⟨_, rfl, _, rfl, _, rfl, .ref oa, .ref cp, .ref lp, os, cs', ls, rfl, (ofs s49).in, c9 (Same.refl _), ⟨lp, rfl, SqA.t (s49 _ _ hlp4)⟩, hfl2, by omega, hls.1, hg, ?_⟩
          rw [hs]
          refine ⟨_, rfl, iteF ?_⟩
          exact ⟨rfl, rfl⟩
        obtain ⟨rfl, rfl⟩ := h
        refine ⟨fun σ' H' => σ' = [some (.ref a), some (.ref ca), some (.ref oa), some (.ref lp), some (.ref p), some (.int (0 + (i : Nat))), some (.int cell), some (.ref cp)] ∧ Same H9 H', ?_, fun σ' H10 h => ?_⟩
        · refine ⟨_, rfl, _, rfl, _, rfl, .ref oa, .ref p, .ref lp, os, fc, ls, rfl, (ofs s49).in, ⟨p, rfl, SqA.t (s49 _ _ hp)⟩, ⟨lp, rfl, SqA.t (s49 _ _ hlp4)⟩, hcl0.symm, by omega, hls.1, hg, ?_⟩
          rw [hserve]
          refine ⟨_, rfl, iteF ?_⟩
          refine ⟨_, rfl, _, rfl, _, rfl, .ref oa, p, lp, os, fc, ls, rfl, ofs s49, s49 _ _ hp, s49 _ _ hlp4, hcl0.symm, by omega, hg, hcn0, hls, fun H10 s10 => ?_⟩
          rw [hserve]
          refine ⟨true, true, rfl, rfl, ?_⟩
          refine ⟨_, rfl, iteF ?_⟩
          exact ⟨rfl, s10⟩
        obtain ⟨rfl, s10⟩ := h
        have s410 := s49.trans s10
        refine ⟨_, rfl, _, rfl, .ref oa, p, os, fc, rfl, ofs s410, s410 _ _ hp, hcl0.symm, by omega, hg, hcn0, fun H11 s11 => ?_⟩
        refine ⟨_, rfl, _, rfl, .ref oa, .ref cp, os, cs', rfl, (ofs (s410.trans s11)).in, c9 (s10.trans s11), hfl2, by omega, hg, fun H12 s12 => ?_⟩
        walk_at "rd"
        rw [hcost]
        refine it_lt (fun e => ?_) (fun e => ?_)
        · omega
        have s412 := (s410.trans s11).trans s12
        refine ⟨_, rfl, _, rfl, .ref oa, p, os, fc, rfl, ofs s412, s412 _ _ hp, hcl0.symm, by omega, hg, hcn0, fun H13 s13' => ?_⟩
        refine ⟨_, rfl, _, rfl, .ref oa, .ref p, os, fc, rfl, (ofs (s412.trans s13')).in, ⟨p, rfl, SqA.t ((s412.trans s13') _ _ hp)⟩, hcl0.symm, by omega, hg, fun H14 s14 => ?_⟩
        walk_at "rd"
        refine it_neI (fun z => absurd rfl z) (fun _ => ?_)
        exact ⟨_, _, _, rfl, (s412.trans s13').trans s14⟩
/-! ### what the top has written -/
theorem all_mk {l : PySem.W.OpenLaw} {w : World} {K : PySem.W.Frag} {h : Heap} {mg : Str → Option Value} {fa : Addr} (X : K.In h) (G : h.Ns mainGlobals mg) (hfa : mg "law" = some (.ref fa))
    {f0 : Addr} {od0 an0 : Option Addr} {sl0 : Array (Option Value)} {oc0 kV0 dc0 pm0 cd0 ct0 : Value} (a0 : PySem.W.nsIn K mainGlobals "_law_cell_at" = some (some (.ref f0))) (l0 : K.lookup f0 = some ⟨oc0, od0, .func (PySem.W.fnOf "_law_cell_at" "_law_cell_at" (defArgs s_cell_at) (defBody s_cell_at) (defScope s_cell_at) .none kV0 dc0 pm0 an0 cd0 ct0), sl0⟩) (c0 : PySem.W.codeIn K cd0 "_law_cell_at" = true) (k0 : PySem.W.keepIn K (.ref f0) = true)
    {f1 : Addr} {od1 an1 : Option Addr} {sl1 : Array (Option Value)} {oc1 kV1 dc1 pm1 cd1 ct1 : Value} (a1 : PySem.W.nsIn K mainGlobals "_law_cost" = some (some (.ref f1))) (l1 : K.lookup f1 = some ⟨oc1, od1, .func (PySem.W.fnOf "_law_cost" "_law_cost" (defArgs s_cost) (defBody s_cost) (defScope s_cost) .none kV1 dc1 pm1 an1 cd1 ct1), sl1⟩) (c1 : PySem.W.codeIn K cd1 "_law_cost" = true) (k1 : PySem.W.keepIn K (.ref f1) = true)
    {f2 : Addr} {od2 an2 : Option Addr} {sl2 : Array (Option Value)} {oc2 kV2 dc2 pm2 cd2 ct2 : Value} (a2 : PySem.W.nsIn K mainGlobals "_law_mix" = some (some (.ref f2))) (l2 : K.lookup f2 = some ⟨oc2, od2, .func (PySem.W.fnOf "_law_mix" "_law_mix" (defArgs s_mix) (defBody s_mix) (defScope s_mix) .none kV2 dc2 pm2 an2 cd2 ct2), sl2⟩) (c2 : PySem.W.codeIn K cd2 "_law_mix" = true) (k2 : PySem.W.keepIn K (.ref f2) = true)
    {f3 : Addr} {od3 an3 : Option Addr} {sl3 : Array (Option Value)} {oc3 kV3 dc3 pm3 cd3 ct3 : Value} (a3 : PySem.W.nsIn K mainGlobals "_law_counts" = some (some (.ref f3))) (l3 : K.lookup f3 = some ⟨oc3, od3, .func (PySem.W.fnOf "_law_counts" "_law_counts" (defArgs s_counts) (defBody s_counts) (defScope s_counts) .none kV3 dc3 pm3 an3 cd3 ct3), sl3⟩) (c3 : PySem.W.codeIn K cd3 "_law_counts" = true) (k3 : PySem.W.keepIn K (.ref f3) = true)
    {f4 : Addr} {od4 an4 : Option Addr} {sl4 : Array (Option Value)} {oc4 kV4 dc4 pm4 cd4 ct4 : Value} (a4 : PySem.W.nsIn K mainGlobals "_law_filled" = some (some (.ref f4))) (l4 : K.lookup f4 = some ⟨oc4, od4, .func (PySem.W.fnOf "_law_filled" "_law_filled" (defArgs s_filled) (defBody s_filled) (defScope s_filled) .none kV4 dc4 pm4 an4 cd4 ct4), sl4⟩) (c4 : PySem.W.codeIn K cd4 "_law_filled" = true) (k4 : PySem.W.keepIn K (.ref f4) = true)
    {f5 : Addr} {od5 an5 : Option Addr} {sl5 : Array (Option Value)} {oc5 kV5 dc5 pm5 cd5 ct5 : Value} (a5 : PySem.W.nsIn K mainGlobals "_law_lacks_by" = some (some (.ref f5))) (l5 : K.lookup f5 = some ⟨oc5, od5, .func (PySem.W.fnOf "_law_lacks_by" "_law_lacks_by" (defArgs s_lacks_by) (defBody s_lacks_by) (defScope s_lacks_by) .none kV5 dc5 pm5 an5 cd5 ct5), sl5⟩) (c5 : PySem.W.codeIn K cd5 "_law_lacks_by" = true) (k5 : PySem.W.keepIn K (.ref f5) = true)
    {f6 : Addr} {od6 an6 : Option Addr} {sl6 : Array (Option Value)} {oc6 kV6 dc6 pm6 cd6 ct6 : Value} (a6 : PySem.W.nsIn K mainGlobals "_law_mixed" = some (some (.ref f6))) (l6 : K.lookup f6 = some ⟨oc6, od6, .func (PySem.W.fnOf "_law_mixed" "_law_mixed" (defArgs s_mixed) (defBody s_mixed) (defScope s_mixed) .none kV6 dc6 pm6 an6 cd6 ct6), sl6⟩) (c6 : PySem.W.codeIn K cd6 "_law_mixed" = true) (k6 : PySem.W.keepIn K (.ref f6) = true)
    {f7 : Addr} {od7 an7 : Option Addr} {sl7 : Array (Option Value)} {oc7 kV7 dc7 pm7 cd7 ct7 : Value} (a7 : PySem.W.nsIn K mainGlobals "_law_amount" = some (some (.ref f7))) (l7 : K.lookup f7 = some ⟨oc7, od7, .func (PySem.W.fnOf "_law_amount" "_law_amount" (defArgs s_amount) (defBody s_amount) (defScope s_amount) .none kV7 dc7 pm7 an7 cd7 ct7), sl7⟩) (c7 : PySem.W.codeIn K cd7 "_law_amount" = true) (k7 : PySem.W.keepIn K (.ref f7) = true)
    {f8 : Addr} {od8 an8 : Option Addr} {sl8 : Array (Option Value)} {oc8 kV8 dc8 pm8 cd8 ct8 : Value} (a8 : PySem.W.nsIn K mainGlobals "_law_last" = some (some (.ref f8))) (l8 : K.lookup f8 = some ⟨oc8, od8, .func (PySem.W.fnOf "_law_last" "_law_last" (defArgs s_last) (defBody s_last) (defScope s_last) .none kV8 dc8 pm8 an8 cd8 ct8), sl8⟩) (c8 : PySem.W.codeIn K cd8 "_law_last" = true) (k8 : PySem.W.keepIn K (.ref f8) = true)
    {f9 : Addr} {od9 an9 : Option Addr} {sl9 : Array (Option Value)} {oc9 kV9 dc9 pm9 cd9 ct9 : Value} (a9 : PySem.W.nsIn K mainGlobals "_law_offers" = some (some (.ref f9))) (l9 : K.lookup f9 = some ⟨oc9, od9, .func (PySem.W.fnOf "_law_offers" "_law_offers" (defArgs s_offers) (defBody s_offers) (defScope s_offers) .none kV9 dc9 pm9 an9 cd9 ct9), sl9⟩) (c9 : PySem.W.codeIn K cd9 "_law_offers" = true) (k9 : PySem.W.keepIn K (.ref f9) = true)
    {f10 : Addr} {od10 an10 : Option Addr} {sl10 : Array (Option Value)} {oc10 kV10 dc10 pm10 cd10 ct10 : Value} (a10 : PySem.W.nsIn K mainGlobals "_law_served" = some (some (.ref f10))) (l10 : K.lookup f10 = some ⟨oc10, od10, .func (PySem.W.fnOf "_law_served" "_law_served" (defArgs s_served) (defBody s_served) (defScope s_served) .none kV10 dc10 pm10 an10 cd10 ct10), sl10⟩) (c10 : PySem.W.codeIn K cd10 "_law_served" = true) (k10 : PySem.W.keepIn K (.ref f10) = true)
    {f11 : Addr} {od11 an11 : Option Addr} {sl11 : Array (Option Value)} {oc11 kV11 dc11 pm11 cd11 ct11 : Value} (a11 : PySem.W.nsIn K mainGlobals "_law_size" = some (some (.ref f11))) (l11 : K.lookup f11 = some ⟨oc11, od11, .func (PySem.W.fnOf "_law_size" "_law_size" (defArgs s_size) (defBody s_size) (defScope s_size) .none kV11 dc11 pm11 an11 cd11 ct11), sl11⟩) (c11 : PySem.W.codeIn K cd11 "_law_size" = true) (k11 : PySem.W.keepIn K (.ref f11) = true)
    {f12 : Addr} {od12 an12 : Option Addr} {sl12 : Array (Option Value)} {oc12 kV12 dc12 pm12 cd12 ct12 : Value} (a12 : PySem.W.nsIn K mainGlobals "with_offer" = some (some (.ref f12))) (l12 : K.lookup f12 = some ⟨oc12, od12, .func (PySem.W.fnOf "with_offer" "with_offer" (defArgs s_with_offer) (defBody s_with_offer) (defScope s_with_offer) .none kV12 dc12 pm12 an12 cd12 ct12), sl12⟩) (c12 : PySem.W.codeIn K cd12 "with_offer" = true) (k12 : PySem.W.keepIn K (.ref f12) = true)
    {f13 : Addr} {od13 an13 : Option Addr} {sl13 : Array (Option Value)} {oc13 kV13 dc13 pm13 cd13 ct13 : Value} (a13 : PySem.W.nsIn K mainGlobals "first_fitting" = some (some (.ref f13))) (l13 : K.lookup f13 = some ⟨oc13, od13, .func (PySem.W.fnOf "first_fitting" "first_fitting" (defArgs s_first_fitting) (defBody s_first_fitting) (defScope s_first_fitting) .none kV13 dc13 pm13 an13 cd13 ct13), sl13⟩) (c13 : PySem.W.codeIn K cd13 "first_fitting" = true) (k13 : PySem.W.keepIn K (.ref f13) = true)
    {f14 : Addr} {od14 an14 : Option Addr} {sl14 : Array (Option Value)} {oc14 kV14 dc14 pm14 cd14 ct14 : Value} (a14 : PySem.W.nsIn K mainGlobals "going_on" = some (some (.ref f14))) (l14 : K.lookup f14 = some ⟨oc14, od14, .func (PySem.W.fnOf "going_on" "going_on" (defArgs s_going_on) (defBody s_going_on) (defScope s_going_on) .none kV14 dc14 pm14 an14 cd14 ct14), sl14⟩) (c14 : PySem.W.codeIn K cd14 "going_on" = true) (k14 : PySem.W.keepIn K (.ref f14) = true)
    {f15 : Addr} {od15 an15 : Option Addr} {sl15 : Array (Option Value)} {oc15 kV15 dc15 pm15 cd15 ct15 : Value} (a15 : PySem.W.nsIn K mainGlobals "sold_on" = some (some (.ref f15))) (l15 : K.lookup f15 = some ⟨oc15, od15, .func (PySem.W.fnOf "sold_on" "sold_on" (defArgs s_sold_on) (defBody s_sold_on) (defScope s_sold_on) .none kV15 dc15 pm15 an15 cd15 ct15), sl15⟩) (c15 : PySem.W.codeIn K cd15 "sold_on" = true) (k15 : PySem.W.keepIn K (.ref f15) = true)
    {f16 : Addr} {od16 an16 : Option Addr} {sl16 : Array (Option Value)} {oc16 kV16 dc16 pm16 cd16 ct16 : Value} (a16 : PySem.W.nsIn K mainGlobals "least" = some (some (.ref f16))) (l16 : K.lookup f16 = some ⟨oc16, od16, .func (PySem.W.fnOf "least" "least" (defArgs s_least) (defBody s_least) (defScope s_least) .none kV16 dc16 pm16 an16 cd16 ct16), sl16⟩) (c16 : PySem.W.codeIn K cd16 "least" = true) (k16 : PySem.W.keepIn K (.ref f16) = true)
    {f17 : Addr} {od17 an17 : Option Addr} {sl17 : Array (Option Value)} {oc17 kV17 dc17 pm17 cd17 ct17 : Value} (a17 : PySem.W.nsIn K mainGlobals "row_of" = some (some (.ref f17))) (l17 : K.lookup f17 = some ⟨oc17, od17, .func (PySem.W.fnOf "row_of" "row_of" (defArgs s_row_of) (defBody s_row_of) (defScope s_row_of) .none kV17 dc17 pm17 an17 cd17 ct17), sl17⟩) (c17 : PySem.W.codeIn K cd17 "row_of" = true) (k17 : PySem.W.keepIn K (.ref f17) = true)
    {f18 : Addr} {od18 an18 : Option Addr} {sl18 : Array (Option Value)} {oc18 kV18 dc18 pm18 cd18 ct18 : Value} (a18 : PySem.W.nsIn K mainGlobals "table" = some (some (.ref f18))) (l18 : K.lookup f18 = some ⟨oc18, od18, .func (PySem.W.fnOf "table" "table" (defArgs s_table) (defBody s_table) (defScope s_table) .none kV18 dc18 pm18 an18 cd18 ct18), sl18⟩) (c18 : PySem.W.codeIn K cd18 "table" = true) (k18 : PySem.W.keepIn K (.ref f18) = true)
    {f19 : Addr} {od19 an19 : Option Addr} {sl19 : Array (Option Value)} {oc19 kV19 dc19 pm19 cd19 ct19 : Value} (a19 : PySem.W.nsIn K mainGlobals "bought" = some (some (.ref f19))) (l19 : K.lookup f19 = some ⟨oc19, od19, .func (PySem.W.fnOf "bought" "bought" (defArgs s_bought) (defBody s_bought) (defScope s_bought) .none kV19 dc19 pm19 an19 cd19 ct19), sl19⟩) (c19 : PySem.W.codeIn K cd19 "bought" = true) (k19 : PySem.W.keepIn K (.ref f19) = true)
    {f20 : Addr} {od20 an20 : Option Addr} {sl20 : Array (Option Value)} {oc20 kV20 dc20 pm20 cd20 ct20 : Value} (a20 : PySem.W.nsIn K mainGlobals "price_of" = some (some (.ref f20))) (l20 : K.lookup f20 = some ⟨oc20, od20, .func (PySem.W.fnOf "price_of" "price_of" (defArgs s_price_of) (defBody s_price_of) (defScope s_price_of) .none kV20 dc20 pm20 an20 cd20 ct20), sl20⟩) (c20 : PySem.W.codeIn K cd20 "price_of" = true) (k20 : PySem.W.keepIn K (.ref f20) = true)
    {f21 : Addr} {od21 an21 : Option Addr} {sl21 : Array (Option Value)} {oc21 kV21 dc21 pm21 cd21 ct21 : Value} (a21 : PySem.W.nsIn K mainGlobals "held" = some (some (.ref f21))) (l21 : K.lookup f21 = some ⟨oc21, od21, .func (PySem.W.fnOf "held" "held" (defArgs s_held) (defBody s_held) (defScope s_held) .none kV21 dc21 pm21 an21 cd21 ct21), sl21⟩) (c21 : PySem.W.codeIn K cd21 "held" = true) (k21 : PySem.W.keepIn K (.ref f21) = true)
    {f22 : Addr} {od22 an22 : Option Addr} {sl22 : Array (Option Value)} {oc22 kV22 dc22 pm22 cd22 ct22 : Value} (a22 : PySem.W.nsIn K mainGlobals "serves" = some (some (.ref f22))) (l22 : K.lookup f22 = some ⟨oc22, od22, .func (PySem.W.fnOf "serves" "serves" (defArgs s_serves) (defBody s_serves) (defScope s_serves) .none kV22 dc22 pm22 an22 cd22 ct22), sl22⟩) (c22 : PySem.W.codeIn K cd22 "serves" = true) (k22 : PySem.W.keepIn K (.ref f22) = true)
    {f23 : Addr} {od23 an23 : Option Addr} {sl23 : Array (Option Value)} {oc23 kV23 dc23 pm23 cd23 ct23 : Value} (a23 : PySem.W.nsIn K mainGlobals "law" = some (some (.ref f23))) (l23 : K.lookup f23 = some ⟨oc23, od23, .func (PySem.W.fnOf "law" "law" (defArgs s_law) (defBody s_law) (defScope s_law) .none kV23 dc23 pm23 an23 cd23 ct23), sl23⟩) (c23 : PySem.W.codeIn K cd23 "law" = true) (k23 : PySem.W.keepIn K (.ref f23) = true)
    {t0 : Tok} (z0 : PySem.W.nsIn K mainGlobals "DAYS" = some (some (.int 7 t0)))
    (z1 : PySem.W.nsIn K mainGlobals "all" = some none)
    (z2 : PySem.W.nsIn K mainGlobals "enumerate" = some none)
    (z3 : PySem.W.nsIn K mainGlobals "len" = some none)
    (z4 : PySem.W.nsIn K mainGlobals "max" = some none)
    (z5 : PySem.W.nsIn K mainGlobals "min" = some none)
    (z6 : PySem.W.nsIn K mainGlobals "range" = some none)
    (z7 : PySem.W.nsIn K mainGlobals "sum" = some none)
    (z8 : PySem.W.nsIn K mainGlobals "tuple" = some none)
    (z9 : PySem.W.nsIn K mainGlobals "zip" = some none) :
    ∃ fd : FuncData, (∀ (s : Shared) (v : Value), BindsTo s fd ⟨[v], []⟩ [("_law_script", v)]) ∧ ∀ base : Heap, K.In base → base.Ns mainGlobals mg → FnOk l.prog w K mg base CX0 5 fa fd ["_law_script"] (spLaw K) := by
  have e := hfa.symm.trans (PySem.W.mg_of X G a23)
  cases e
  have F_cell_at := fun_mk (st := s_cell_at) l0 c0 k0
  have D_cell_at : DefAt K mg "_law_cell_at" s_cell_at := ⟨f0, _, F_cell_at, PySem.W.mg_of X G a0⟩
  have F_cost := fun_mk (st := s_cost) l1 c1 k1
  have D_cost : DefAt K mg "_law_cost" s_cost := ⟨f1, _, F_cost, PySem.W.mg_of X G a1⟩
  have F_mix := fun_mk (st := s_mix) l2 c2 k2
  have D_mix : DefAt K mg "_law_mix" s_mix := ⟨f2, _, F_mix, PySem.W.mg_of X G a2⟩
  have F_counts := fun_mk (st := s_counts) l3 c3 k3
  have D_counts : DefAt K mg "_law_counts" s_counts := ⟨f3, _, F_counts, PySem.W.mg_of X G a3⟩
  have F_filled := fun_mk (st := s_filled) l4 c4 k4
  have D_filled : DefAt K mg "_law_filled" s_filled := ⟨f4, _, F_filled, PySem.W.mg_of X G a4⟩
  have F_lacks_by := fun_mk (st := s_lacks_by) l5 c5 k5
  have D_lacks_by : DefAt K mg "_law_lacks_by" s_lacks_by := ⟨f5, _, F_lacks_by, PySem.W.mg_of X G a5⟩
  have F_mixed := fun_mk (st := s_mixed) l6 c6 k6
  have D_mixed : DefAt K mg "_law_mixed" s_mixed := ⟨f6, _, F_mixed, PySem.W.mg_of X G a6⟩
  have F_amount := fun_mk (st := s_amount) l7 c7 k7
  have D_amount : DefAt K mg "_law_amount" s_amount := ⟨f7, _, F_amount, PySem.W.mg_of X G a7⟩
  have F_last := fun_mk (st := s_last) l8 c8 k8
  have D_last : DefAt K mg "_law_last" s_last := ⟨f8, _, F_last, PySem.W.mg_of X G a8⟩
  have F_offers := fun_mk (st := s_offers) l9 c9 k9
  have D_offers : DefAt K mg "_law_offers" s_offers := ⟨f9, _, F_offers, PySem.W.mg_of X G a9⟩
  have F_served := fun_mk (st := s_served) l10 c10 k10
  have D_served : DefAt K mg "_law_served" s_served := ⟨f10, _, F_served, PySem.W.mg_of X G a10⟩
  have F_size := fun_mk (st := s_size) l11 c11 k11
  have D_size : DefAt K mg "_law_size" s_size := ⟨f11, _, F_size, PySem.W.mg_of X G a11⟩
  have F_with_offer := fun_mk (st := s_with_offer) l12 c12 k12
  have D_with_offer : DefAt K mg "with_offer" s_with_offer := ⟨f12, _, F_with_offer, PySem.W.mg_of X G a12⟩
  have F_first_fitting := fun_mk (st := s_first_fitting) l13 c13 k13
  have D_first_fitting : DefAt K mg "first_fitting" s_first_fitting := ⟨f13, _, F_first_fitting, PySem.W.mg_of X G a13⟩
  have F_going_on := fun_mk (st := s_going_on) l14 c14 k14
  have D_going_on : DefAt K mg "going_on" s_going_on := ⟨f14, _, F_going_on, PySem.W.mg_of X G a14⟩
  have F_sold_on := fun_mk (st := s_sold_on) l15 c15 k15
  have D_sold_on : DefAt K mg "sold_on" s_sold_on := ⟨f15, _, F_sold_on, PySem.W.mg_of X G a15⟩
  have F_least := fun_mk (st := s_least) l16 c16 k16
  have D_least : DefAt K mg "least" s_least := ⟨f16, _, F_least, PySem.W.mg_of X G a16⟩
  have F_row_of := fun_mk (st := s_row_of) l17 c17 k17
  have D_row_of : DefAt K mg "row_of" s_row_of := ⟨f17, _, F_row_of, PySem.W.mg_of X G a17⟩
  have F_table := fun_mk (st := s_table) l18 c18 k18
  have D_table : DefAt K mg "table" s_table := ⟨f18, _, F_table, PySem.W.mg_of X G a18⟩
  have F_bought := fun_mk (st := s_bought) l19 c19 k19
  have D_bought : DefAt K mg "bought" s_bought := ⟨f19, _, F_bought, PySem.W.mg_of X G a19⟩
  have F_price_of := fun_mk (st := s_price_of) l20 c20 k20
  have D_price_of : DefAt K mg "price_of" s_price_of := ⟨f20, _, F_price_of, PySem.W.mg_of X G a20⟩
  have F_held := fun_mk (st := s_held) l21 c21 k21
  have D_held : DefAt K mg "held" s_held := ⟨f21, _, F_held, PySem.W.mg_of X G a21⟩
  have F_serves := fun_mk (st := s_serves) l22 c22 k22
  have D_serves : DefAt K mg "serves" s_serves := ⟨f22, _, F_serves, PySem.W.mg_of X G a22⟩
  have F_law := fun_mk (st := s_law) l23 c23 k23
  have m_DAYS := PySem.W.mg_of X G z0
  have m_all := PySem.W.mg_none_of X G z1
  have m_enumerate := PySem.W.mg_none_of X G z2
  have m_len := PySem.W.mg_none_of X G z3
  have m_max := PySem.W.mg_none_of X G z4
  have m_min := PySem.W.mg_none_of X G z5
  have m_range := PySem.W.mg_none_of X G z6
  have m_sum := PySem.W.mg_none_of X G z7
  have m_tuple := PySem.W.mg_none_of X G z8
  have m_zip := PySem.W.mg_none_of X G z9
  refine ⟨PySem.W.fnOf "law" "law" (defArgs s_law) (defBody s_law) (defScope s_law) .none kV23 dc23 pm23 an23 cd23 ct23, fun s v => .of_eq rfl, fun base _ _ => ?_⟩
  have C_cell_at := ok_cell_at (P := l.prog) (w := w) (base := base) D_cell_at m_len
  have C_cost := ok_cost (P := l.prog) (w := w) (base := base) D_cost m_range m_len m_sum
  have C_mix := ok_mix (P := l.prog) (w := w) (base := base) D_mix
  have C_counts := ok_counts (P := l.prog) (w := w) (base := base) D_counts m_range m_len C_mix
  have C_filled := ok_filled (P := l.prog) (w := w) (base := base) D_filled m_range m_len m_sum C_mix
  have C_lacks_by := ok_lacks_by (P := l.prog) (w := w) (base := base) D_lacks_by m_range m_tuple C_cell_at
  have C_mixed := ok_mixed (P := l.prog) (w := w) (base := base) D_mixed
  have C_amount := ok_amount (P := l.prog) (w := w) (base := base) D_amount
  have C_last := ok_last (P := l.prog) (w := w) (base := base) D_last
  have C_offers := ok_offers (P := l.prog) (w := w) (base := base) D_offers m_range m_tuple C_mix C_cell_at C_amount C_last
  have C_served := ok_served (P := l.prog) (w := w) (base := base) D_served m_range m_len
  have C_size := ok_size (P := l.prog) (w := w) (base := base) D_size
  have C_with_offer := ok_with_offer (P := l.prog) (w := w) (base := base) D_with_offer m_max
  have C_first_fitting := ok_first_fitting (P := l.prog) (w := w) (base := base) D_first_fitting C_with_offer
  have C_going_on := ok_going_on (P := l.prog) (w := w) (base := base) D_going_on m_DAYS m_max
  have C_sold_on := ok_sold_on (P := l.prog) (w := w) (base := base) D_sold_on m_DAYS m_enumerate m_min
  have C_least := ok_least (P := l.prog) (w := w) (base := base) D_least m_min
  have C_row_of := ok_row_of (P := l.prog) (w := w) (base := base) D_row_of m_max m_range m_tuple C_sold_on C_going_on C_with_offer C_least
  have C_table := ok_table (P := l.prog) (w := w) (base := base) D_table m_DAYS m_range m_tuple C_row_of
  have C_bought := ok_bought (P := l.prog) (w := w) (base := base) D_bought m_DAYS m_len m_max m_range m_tuple C_table C_going_on C_sold_on C_first_fitting
  have C_price_of := ok_price_of (P := l.prog) (w := w) (base := base) D_price_of m_sum m_zip
  have C_held := ok_held (P := l.prog) (w := w) (base := base) D_held m_sum m_zip
  have C_serves := ok_serves (P := l.prog) (w := w) (base := base) D_serves m_all m_enumerate C_held
  exact ok_law F_law m_range C_mixed C_offers C_size C_cell_at C_mix C_lacks_by C_bought C_filled C_counts C_served C_cost C_serves C_price_of
end Lar
open PySem PySem.W PyProof.Rows
set_option maxHeartbeats 0 in
theorem PySem.Challenge.cw_larderlist_k07_none_undercuts_holds : PySem.Challenge.rw_larderlist_k07_none_undercuts.Holds := by
  w_on; o_law; k_head; (case hw => w_witness2)
  k_fill
  refine L2.walk_of (l := PySem.Challenge.rw_larderlist_k07_none_undercuts) (n := 63) (k := 5) (x := "_law_script") (CX := fun _ => L2.CX0) (sp := fun w => Lar.spLaw _) rfl (by decide) rfl ⟨rfl, by decide, by decide⟩ (fun w h Y => PySem.W.kIn_of Y) ?F (fun _ _ a ns hl _ hS => ⟨a, ns, rfl, hS, hl, fun _ => rfl⟩) (fun _ _ _ _ _ h => h)
  case F =>
    intro w mg fa h KX G hmg
    refine' Lar.all_mk KX G hmg ?a0 ?l0 ?c0 ?k0 ?a1 ?l1 ?c1 ?k1 ?a2 ?l2 ?c2 ?k2 ?a3 ?l3 ?c3 ?k3 ?a4 ?l4 ?c4 ?k4 ?a5 ?l5 ?c5 ?k5 ?a6 ?l6 ?c6 ?k6 ?a7 ?l7 ?c7 ?k7 ?a8 ?l8 ?c8 ?k8 ?a9 ?l9 ?c9 ?k9 ?a10 ?l10 ?c10 ?k10 ?a11 ?l11 ?c11 ?k11 ?a12 ?l12 ?c12 ?k12 ?a13 ?l13 ?c13 ?k13 ?a14 ?l14 ?c14 ?k14 ?a15 ?l15 ?c15 ?k15 ?a16 ?l16 ?c16 ?k16 ?a17 ?l17 ?c17 ?k17 ?a18 ?l18 ?c18 ?k18 ?a19 ?l19 ?c19 ?k19 ?a20 ?l20 ?c20 ?k20 ?a21 ?l21 ?c21 ?k21 ?a22 ?l22 ?c22 ?k22 ?a23 ?l23 ?c23 ?k23 ?z0 ?z1 ?z2 ?z3 ?z4 ?z5 ?z6 ?z7 ?z8 ?z9
    (case a0 => k_is); (case l0 => k_is); (case c0 => k_is); (case k0 => k_is); (case a1 => k_is); (case l1 => k_is); (case c1 => k_is); (case k1 => k_is); (case a2 => k_is); (case l2 => k_is); (case c2 => k_is); (case k2 => k_is); (case a3 => k_is); (case l3 => k_is); (case c3 => k_is); (case k3 => k_is); (case a4 => k_is); (case l4 => k_is); (case c4 => k_is); (case k4 => k_is); (case a5 => k_is); (case l5 => k_is); (case c5 => k_is); (case k5 => k_is); (case a6 => k_is); (case l6 => k_is); (case c6 => k_is); (case k6 => k_is); (case a7 => k_is); (case l7 => k_is); (case c7 => k_is); (case k7 => k_is); (case a8 => k_is); (case l8 => k_is); (case c8 => k_is); (case k8 => k_is); (case a9 => k_is); (case l9 => k_is); (case c9 => k_is); (case k9 => k_is); (case a10 => k_is); (case l10 => k_is); (case c10 => k_is); (case k10 => k_is); (case a11 => k_is); (case l11 => k_is); (case c11 => k_is); (case k11 => k_is); (case a12 => k_is); (case l12 => k_is); (case c12 => k_is); (case k12 => k_is); (case a13 => k_is); (case l13 => k_is); (case c13 => k_is); (case k13 => k_is); (case a14 => k_is); (case l14 => k_is); (case c14 => k_is); (case k14 => k_is); (case a15 => k_is); (case l15 => k_is); (case c15 => k_is); (case k15 => k_is); (case a16 => k_is); (case l16 => k_is); (case c16 => k_is); (case k16 => k_is); (case a17 => k_is); (case l17 => k_is); (case c17 => k_is); (case k17 => k_is); (case a18 => k_is); (case l18 => k_is); (case c18 => k_is); (case k18 => k_is); (case a19 => k_is); (case l19 => k_is); (case c19 => k_is); (case k19 => k_is); (case a20 => k_is); (case l20 => k_is); (case c20 => k_is); (case k20 => k_is); (case a21 => k_is); (case l21 => k_is); (case c21 => k_is); (case k21 => k_is); (case a22 => k_is); (case l22 => k_is); (case c22 => k_is); (case k22 => k_is); (case a23 => k_is); (case l23 => k_is); (case c23 => k_is); (case k23 => k_is); (case z0 => k_is); (case z1 => k_is); (case z2 => k_is); (case z3 => k_is); (case z4 => k_is); (case z5 => k_is); (case z6 => k_is); (case z7 => k_is); (case z8 => k_is); (case z9 => k_is)
