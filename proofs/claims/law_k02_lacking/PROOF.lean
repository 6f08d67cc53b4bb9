import PyProof.Rows.All
import Wide.All
import OpenK.AllK
import Wide.FinOn
import HandS.ForMost
import HandS.IsInst
import HandS.Zip
import HandS.TupAny
import HandS.Walk
import HandS.More
import HandS.Codes
import KE.KTupSum
import HandS.TupMul
import HandS.Style
import PySem.Challenge.RW_larderlist_k02_lacking
set_option Elab.async false
set_option linter.all false
set_option maxRecDepth 100000
set_option maxHeartbeats 4000000
namespace Lar
open PySem PySem.Spec PyProof.Rows L2

/-! ### defs of the text, as they are called -/
structure DefAt (K : PySem.W.Frag) (mg : Str → Option Value) (x : Str) (st : Stmt) : Prop where
  ex : ∃ f fd, Fun K x x st f fd ∧ mg x = some (.ref f)
structure Clb (P : Program) (w : World) (K : PySem.W.Frag) (mg : Str → Option Value) (base : Heap) (k : Nat) (x : Str) (ps : List Str) (sp : Sp) : Prop where
  ex : ∃ f fd, FnOk P w K mg base CX0 k f fd ps sp ∧ mg x = some (.ref f) ∧ PySem.W.keepIn K (.ref f) = true ∧ Binds K fd ps []
theorem DefAt.clb {P : Program} {w : World} {K : PySem.W.Frag} {mg : Str → Option Value} {base : Heap} {x : Str} {st : Stmt} {N ps : List Str} {k : Nat} {sp : Sp} (D : DefAt K mg x st)
    (S : FnScope N ps (defScope st)) (len : ∀ vs H Q E, sp vs H Q E → vs.length = ps.length)
    (hb : ∀ (kV doc pm : Value) (an : Option Addr) (cdv ct : Value) (us : List Value), us.length = ps.length → bindArgs (PySem.W.fnOf x x (defArgs st) (defBody st) (defScope st) .none kV doc pm an cdv ct) ⟨us, []⟩ = pure (ps.zip us))
    (hbody : ∀ (f : Addr) (cdv : Value) (A : Around) (outer : List Env) (s : Shared) (H : Hp) (vs : List V) (Q : VK) (E : XK), Room k (A.deeper (envOfC x (defScope st) s.heap.objs.size f cdv)) → sp vs H Q E →
      ∃ t, PSs (cxOf CX0 P w K mg base N x (defScope st) f cdv A outer s H E).nox (defBody st) t ∧ t { nx := fun _ H' => Q .non H', rt := Q } (start N vs) H) : Clb P w K mg base (k + 1) x ps sp := by
  obtain ⟨f, fd, F, hm⟩ := D.ex
  exact ⟨f, fd, F.ok S len (fun cdv A outer s H vs Q E hr h => hbody f cdv A outer s H vs Q E hr h), hm, F.kp, F.binds hb⟩
theorem pe_cal {X : Cx} {k : Nat} {x : Str} {ps : List Str} {sp : Sp} {e : Expr} {es : List Expr} {t : TA} {p pos : Pos} (C : Clb X.prog X.w X.K X.mg X.base k x ps sp) (hr : Room k X.A) (ha : PA X (e :: es) t) (hg : Gl X x := by rfl)
    (hdb : (x == ("__debug__" : Str)) = false := by decide) (he : starEach (e :: es) X.env = (false, eval e X.env) :: starEach es X.env := by rfl) (hpl : (backTo pos (starEach es X.env)).any (·.1) = false := by rfl) :
    PE X (.Call (.Name x p) (e :: es) [] pos) (tCall sp [] E0 t) := by
  obtain ⟨f, fd, F, hm, hk, hb⟩ := C.ex
  exact pe_call F hr hg hm hk hb .nil pass0 ha hdb he hpl

/-! ### heaps -/
theorem same_upd {H : Hp} {p : Addr} {o : HO} (h : H p = none) : Same H (upd H p o) := fun b x e => by
  rw [upd_ne (ne_of_none e h)]
  exact e
theorem _root_.L2.Same.new {H H' : Hp} {p : Addr} {o : HO} (e : Same H H') (h : H' p = none) : Same H (upd H' p o) := e.trans (same_upd h)
/-- what H did not know may change -/
theorem _root_.L2.Same.mut {H H' : Hp} {p : Addr} {o : HO} (e : Same H H') (h : H p = none) : Same H (upd H' p o) := fun a u ha => by
  rw [upd_ne (ne_of_none ha h)]
  exact e a u ha
theorem _root_.L2.Same.seqT {K : PySem.W.Frag} {H H' : Hp} {a : Addr} {xs : List V} (e : Same H H') (h : SqT K H a xs) : SqT K H' a xs := by
  rcases h with (h | ⟨o, h⟩) | h
  · exact .inl (.inl (e _ _ h))
  · exact .inl (.inr ⟨o, e _ _ h⟩)
  · exact .inr h
theorem sqL {K : PySem.W.Frag} {H : Hp} {a : Addr} {xs : List V} (h : H a = some (.lst xs)) : SqL K H a xs := .inl (.inl h)
theorem sqT {K : PySem.W.Frag} {H : Hp} {a : Addr} {xs : List V} (h : H a = some (.tup xs)) : SqT K H a xs := .inl (.inl h)
theorem small {n : Nat} (h : n ≤ 100000) : n ≤ sizeLine := Nat.le_trans h (by decide)
theorem small' {n : Nat} (h : n < 100000) : n < sizeLine := Nat.lt_of_lt_of_le h (by decide)
theorem map_ix {α : Type} {f : α → V} {xs : List α} {i : Nat} {v : V} (h : (xs.map f)[i]? = some v) : ∃ x, xs[i]? = some x ∧ v = f x := by
  rw [List.getElem?_map] at h
  cases e : xs[i]? with
  | none => rw [e] at h; cases h
  | some x => rw [e] at h; exact ⟨x, rfl, (Option.some.inj h).symm⟩
theorem ix_map {α : Type} {f : α → V} {xs : List α} {i : Nat} {x : α} (h : xs[i]? = some x) : (xs.map f)[i]? = some (f x) := by
  rw [List.getElem?_map, h]; rfl
theorem take_succ' {α : Type} {xs : List α} {i : Nat} {x : α} (h : xs[i]? = some x) : xs.take (i + 1) = xs.take i ++ [x] := by
  rw [List.take_add_one, h]; rfl

/-! ### tests -/
section
variable {A B : Prop} {i j : Int} {x y : Str}
theorem it_lt (h1 : i < j → A) (h2 : ¬ i < j → B) : if decide (i < j) = true then A else B := ite2 (fun h => h1 (of_decide_eq_true h)) (fun h => h2 fun z => h (decide_eq_true z))
theorem it_le (h1 : i ≤ j → A) (h2 : ¬ i ≤ j → B) : if decide (i ≤ j) = true then A else B := ite2 (fun h => h1 (of_decide_eq_true h)) (fun h => h2 fun z => h (decide_eq_true z))
theorem it_eqI (h1 : i = j → A) (h2 : ¬ i = j → B) : if decide (V.int i = V.int j) = true then A else B := ite2 (fun h => h1 (V.int.inj (of_decide_eq_true h))) (fun h => h2 fun z => h (decide_eq_true (congrArg V.int z)))
theorem it_eqS (h1 : x = y → A) (h2 : ¬ x = y → B) : if decide (V.str x = V.str y) = true then A else B := ite2 (fun h => h1 (V.str.inj (of_decide_eq_true h))) (fun h => h2 fun z => h (decide_eq_true (congrArg V.str z)))
theorem it_neI (h1 : ¬ i = j → A) (h2 : i = j → B) : if (!decide (V.int i = V.int j)) = true then A else B := by
  by_cases e : i = j
  · subst e
    rw [decide_eq_true rfl]
    exact iteF (h2 rfl)
  · rw [decide_eq_false (fun z => e (V.int.inj z))]
    exact iteT (h1 e)
end
/-! ### the rules that speak of the written part, with it said -/
section
variable {X : Cx} {K : PySem.W.Frag}
theorem kpg_tup (K : PySem.W.Frag) {es : List Expr} {k : Nat} {t : TGs} {n : Nat} {pos : Pos} (hc : X.calm = true) (h : PGs X es t) (hK : X.K = K := by rfl) (hn : (assignEach es X.env).length = n := by rfl) (hst : (assignEach es X.env).findIdx? (·.1) = none := by rfl) :
    PG X (.Tuple es k pos) (gTup K n t) := by subst hK; exact pg_tup hc h hn hst
theorem kpi_list (K : PySem.W.Frag) {tg l : Expr} {tl : TE} (h : PE X l tl) (hK : X.K = K := by rfl) : PI X tg l (iList K tl) := by subst hK; exact pi_list h
theorem kpi_tup (K : PySem.W.Frag) {tg l : Expr} {tl : TE} (h : PE X l tl) (hK : X.K = K := by rfl) : PI X tg l (iTup K tl) := by subst hK; exact pi_tup h
theorem kix_list (K : PySem.W.Frag) (hK : X.K = K := by rfl) : IxR X (rIxL K) := by subst hK; exact ix_list
theorem kix_tup (K : PySem.W.Frag) (hK : X.K = K := by rfl) : IxR X (rIxT K) := by subst hK; exact ix_tup
theorem ksl_list (K : PySem.W.Frag) (hK : X.K = K := by rfl) : SlR X (rSlL K) := by subst hK; exact sl_list
theorem ksl_tupA (K : PySem.W.Frag) (hK : X.K = K := by rfl) : SlR X (rSlA K) := by subst hK; exact sl_tupA
theorem kcall_len_seq (K : PySem.W.Frag) (hK : X.K = K := by rfl) : CallR X (.builtin "len") (fun xs H Q => ∃ p ys, xs = [.ref p] ∧ (SqL K H p ys ∨ SqT K H p ys) ∧ Q (.int ys.length) H) := by subst hK; exact call_len_seq
theorem kcr_sum (K : PySem.W.Frag) (hc : X.calm = true) (hK : X.K = K := by rfl) : CallR X (.builtin "sum") (rSum K) := by subst hK; exact cr_sum hc
theorem kcr_max (K : PySem.W.Frag) (hc : X.calm = true) (hK : X.K = K := by rfl) : CallR X (.builtin "max") (rMax K) := by subst hK; exact cr_max hc
theorem kcr_min (K : PySem.W.Frag) (hc : X.calm = true) (hK : X.K = K := by rfl) : CallR X (.builtin "min") (rMin K) := by subst hK; exact cr_min hc
theorem kcall_tuple_of (K : PySem.W.Frag) (hK : X.K = K := by rfl) : CallR X (.type "tuple") (fun xs H Q => ∃ p ys, xs = [.ref p] ∧ ((SqL K H p ys ∧ ∀ l, H l = none → Q (.ref l) (upd H l (.tup ys))) ∨ (SqT K H p ys ∧ Q (.ref p) H))) := by subst hK; exact call_tuple_of
theorem kcall_list_of (K : PySem.W.Frag) (hK : X.K = K := by rfl) : CallR X (.type "list") (fun xs H Q => ∃ p ys, xs = [.ref p] ∧ (SqL K H p ys ∨ SqT K H p ys) ∧ ∀ l, H l = none → Q (.ref l) (upd H l (.lst ys))) := by subst hK; exact call_list_of
theorem kcall_isi (K : PySem.W.Frag) (hK : X.K = K := by rfl) : CallR X (.builtin "isinstance") (rIsi K) := by subst hK; exact call_isi
theorem kop_eqD (K : PySem.W.Frag) (hu : X.A.units + 64 < cLine) (hK : X.K = K := by rfl) : OpR X (compareOp .Eq) (rEqD K) := by subst hK; exact op_eqD hu
theorem kop_neD (K : PySem.W.Frag) (hu : X.A.units + 64 < cLine) (hK : X.K = K := by rfl) : OpR X (compareOp .NotEq) (rNeD K) := by subst hK; exact op_neD hu
theorem kop_catA (K : PySem.W.Frag) (hK : X.K = K := by rfl) : OpR X (binaryOp .Add) (rCatA K) := by subst hK; exact op_catA
theorem kpi_zipA (K : PySem.W.Frag) {e e2 : Expr} {ta : TA} {p pos tpos : Pos} {elts : List Expr} {kk : Nat} (hg : Gl X "zip") (hm : X.mg "zip" = none) (ha : PA X [e, e2] ta) (hK : X.K = K := by rfl)
    (hs : starEach [e, e2] X.env = (false, eval e X.env) :: starEach [e2] X.env := by rfl) (hpl : (backTo pos (starEach [e2] X.env)).any (·.1) = false := by rfl) :
    PI X (.Tuple elts kk tpos) (.Call (.Name "zip" p) [e, e2] [] pos) (RZ.iZipA K ta) := by subst hK; exact RZ.pi_zipA hg hm ha hs hpl
theorem kpi_enum (K : PySem.W.Frag) {e : Expr} {ta : TA} {p pos tpos : Pos} {elts : List Expr} {kk : Nat} (hg : Gl X "enumerate") (hm : X.mg "enumerate" = none) (ha : PA X [e] ta) (hK : X.K = K := by rfl)
    (hs : starEach [e] X.env = [(false, eval e X.env)] := by rfl) :
    PI X (.Tuple elts kk tpos) (.Call (.Name "enumerate" p) [e] [] pos) (iEnum K ta) := by subst hK; exact pi_enum hg hm ha hs
theorem kpe_bm (K : PySem.W.Frag) {T name id : String} {r : V → List V → Hp → VK → Prop} {o e : Expr} {es : List Expr} {to : TE} {t : TA} {apos cpos : Pos} (pa : PlainAttrs T) (slot : Slot T name id) (hty : typeOf (.builtin id) = pure (.type "method_descriptor")) (hm : MtR X id r) (ho : PE X o to) (ha : PA X (e :: es) t) (hK : X.K = K := by rfl)
    (hbase : attributeBase o name X.env (eval o X.env) = eval o X.env := by rfl)
    (hfew : ((backTo cpos (starEach (e :: es) X.env)).all (fun x => !x.1) && (backToKw cpos (keywordEach [] X.env)).all (fun x => x.1.isSome)
      && decide ((e :: es).length + ([] : List Keyword).length + (if ([] : List Keyword).isEmpty then 0 else 1) < 30)) = true := by rfl)
    (hline : (apos.endLine == cpos.line) = true := by rfl) (hs : starEach (e :: es) X.env = (false, eval e X.env) :: starEach es X.env := by rfl) (hplain : (backTo cpos (starEach es X.env)).any (·.1) = false := by rfl) :
    PE X (.Call (.Attribute o name apos) (e :: es) [] cpos) (tBM K T r to t) := by subst hK; exact pe_bm pa slot hty hm ho ha hbase hfew hline hs hplain
end
/-! ### sum of a tuple of ints -/
section
variable {X : Cx} {K : PySem.W.Frag}
def rSumT (K : PySem.W.Frag) : List V → Hp → VK → Prop := fun vs H Q => ∃ (a : Addr) (ns : List Int), vs = [V.ref a] ∧ SqT K H a (ns.map V.int) ∧ Q (.int ns.sum) H
theorem kcr_sumT (K : PySem.W.Frag) (hc : X.calm = true) (hK : X.K = K := by rfl) : CallR X (.builtin "sum") (rSumT K) := by
  subst hK
  intro pins s σ H vs us Q I r h
  obtain ⟨a, ns, rfl, hs, q⟩ := h
  obtain ⟨its, rv, hl, _⟩ := I.tuple hs
  rw [Vals.ref1 r]
  have hi : IntsAre its ns := rv.ints
  obtain ⟨xs, e⟩ := hi.allInts.items
  have hn : numsOf (intItems xs).toList = ns := by rw [← e]; exact hi.numsOf
  rw [nums_intItems] at hn
  rw [e] at hl
  refine PySem.W.ktm_sumG (I.ok.hd hc) hl fun h' tk t' hk => ?_
  rw [preSum_eq, List.take_of_length_le (by simp), hn]
  exact ⟨.int _, H, I.kept hk, ⟨_, rfl⟩, q⟩
end
end Lar
namespace Lar
open PySem PySem.Spec PyProof.Rows L2
/-! ### the names -/
abbrev sgn : Str := "abcdefghijklmnopqrstuvwxyz"
def sg (i : Int) : Str := ⟨#[sgn.cps.toList.getD (i % 26).toNat 0]⟩
theorem sgn_len : sgn.cps.toList.length = 26 := by decide +kernel
theorem sgn_len' : sgn.length = 26 := by decide +kernel
theorem sg_at (i : Int) : atI sgn.cps.toList (i % 26) = some (sgn.cps.toList.getD (i % 26).toNat 0) := by
  have h1 := Int.emod_nonneg i (show (26 : Int) ≠ 0 by decide)
  have h2 := Int.emod_lt_of_pos i (show (0 : Int) < 26 by decide)
  have hl : (i % 26).toNat < sgn.cps.toList.length := by rw [sgn_len]; omega
  have e : sgn.cps.toList[(i % 26).toNat]? = some (sgn.cps.toList.getD (i % 26).toNat 0) := by
    rw [List.getD_eq_getElem?_getD, List.getElem?_eq_getElem hl]; rfl
  have q := atI_nat e
  rw [Int.toNat_of_nonneg h1] at q
  exact q
theorem sg_len (i : Int) : (sg i).length = 1 := rfl
def nmAt (more : Int) : Nat → Int
  | 0 => more / 7
  | t + 1 => nmAt more t + 1 + more / 182 % 25
def nmNm (more : Int) : Nat → Str
  | 0 => ""
  | t + 1 => nmNm more t ++ sg (nmAt more (t + 1))
theorem app_len (x y : Str) : (x ++ y).length = x.length + y.length := by
  show (x.cps ++ y.cps).size = x.cps.size + y.cps.size
  exact Array.size_append
theorem nmNm_len (more : Int) : ∀ t, (nmNm more t).length = t
  | 0 => rfl
  | t + 1 => by
    show (nmNm more t ++ sg _).length = t + 1
    rw [app_len, nmNm_len more t]; rfl
def words : List Str := ["total", "day", "flour", "salt", "left", "used", "short", "salts", "a", "z", "oil"]
def min6 (i : Int) : Int := if 6 < i then 6 else i
def nameBy (seed k : Int) : Str :=
  if seed % 6 = 0 ∧ k < 4 then words.getD ((seed / 6 + k) % 11).toNat ""
  else
    let more := seed / 6
    let n := (1 + more % 7).toNat
    let nm := nmNm more n
    let at' := nmAt more n
    let spot := more / 4550 % (n : Int)
    if 3 < k then cutS nm none (some (min6 spot)) ++ (sg (at' + k / 26) ++ sg k) ++ cutS nm (some (min6 spot)) (some 6)
    else if 3 < seed % 6 then sg (more / 7 + k) ++ nm
    else if k = 1 then cutS nm none (some spot) ++ sg (Txt.find sgn ⟨#[nm.cps.toList.getD spot.toNat 0]⟩ + 1) ++ cutS nm (some (spot + 1)) none
    else nm ++ [("" : Str), "", sg at', sg (at' + 1)].getD k.toNat ""
/-! ### data of tuples in the heap -/
/-- the tuples stand as they stood -/
def SameT (H H' : Hp) : Prop := ∀ b xs, H b = some (.tup xs) → H' b = some (.tup xs)
theorem SameT.refl (H : Hp) : SameT H H := fun _ _ h => h
theorem SameT.trans {H H1 H2 : Hp} (a : SameT H H1) (b : SameT H1 H2) : SameT H H2 := fun c o h => b c o (a c o h)
theorem SameT.of {H H' : Hp} (e : Same H H') : SameT H H' := fun b xs h => e b _ h
theorem SameT.lst {H : Hp} {p : Addr} {xs : List V} {o : HO} (h : H p = some (.lst xs)) : SameT H (upd H p o) := fun b ys hb => by
  rw [upd_ne (fun z => by subst z; rw [h] at hb; cases hb)]
  exact hb
theorem SameT.dict {H : Hp} {p : Addr} {kvs : List (Key × V)} {o : HO} (h : H p = some (.dK kvs)) : SameT H (upd H p o) := fun b ys hb => by
  rw [upd_ne (fun z => by subst z; rw [h] at hb; cases hb)]
  exact hb
theorem SameT.new {H : Hp} {p : Addr} {o : HO} (h : H p = none) : SameT H (upd H p o) := SameT.of (same_upd h)
section
variable {α : Type}
/-- vs tell xs, one by one -/
structure Held (R : Hp → V → α → Prop) (H : Hp) (vs : List V) (xs : List α) : Prop where
  len : vs.length = xs.length
  all : ∀ (i : Nat) (v : V) (x : α), vs[i]? = some v → xs[i]? = some x → R H v x
def MonoT (R : Hp → V → α → Prop) : Prop := ∀ H H' v x, SameT H H' → R H v x → R H' v x
theorem Held.nil {R : Hp → V → α → Prop} {H : Hp} : Held R H [] [] := ⟨rfl, fun i v x h => by simp at h⟩
theorem Held.mono {R : Hp → V → α → Prop} (m : MonoT R) {H H' : Hp} {vs : List V} {xs : List α} (e : SameT H H') (h : Held R H vs xs) : Held R H' vs xs := ⟨h.len, fun i v x a b => m _ _ _ _ e (h.all i v x a b)⟩
theorem Held.snoc {R : Hp → V → α → Prop} {H : Hp} {vs : List V} {xs : List α} {v : V} {x : α} (h : Held R H vs xs) (r : R H v x) : Held R H (vs ++ [v]) (xs ++ [x]) := by
  refine ⟨by rw [List.length_append, List.length_append, h.len]; rfl, fun i v' x' hv hx => ?_⟩
  by_cases hi : i < vs.length
  · rw [List.getElem?_append_left hi] at hv
    rw [List.getElem?_append_left (by rw [← h.len]; exact hi)] at hx
    exact h.all i _ _ hv hx
  · rw [List.getElem?_append_right (by omega)] at hv
    rw [List.getElem?_append_right (by have := h.len; omega)] at hx
    have e : i - vs.length = 0 := by
      have := (List.getElem?_eq_some_iff.mp hv).1
      simp at this
      omega
    rw [e] at hv
    rw [← h.len, e] at hx
    have e1 : v = v' := Option.some.inj hv
    have e2 : x = x' := Option.some.inj hx
    rw [← e1, ← e2]
    exact r
theorem Held.get {R : Hp → V → α → Prop} {H : Hp} {vs : List V} {xs : List α} {i : Nat} {v : V} (h : Held R H vs xs) (hv : vs[i]? = some v) : ∃ x, xs[i]? = some x ∧ R H v x := by
  have hi : i < xs.length := by rw [← h.len]; exact (List.getElem?_eq_some_iff.mp hv).1
  exact ⟨xs[i], List.getElem?_eq_getElem hi, h.all i v _ hv (List.getElem?_eq_getElem hi)⟩
/-- a tuple of things -/
def TupAll (R : Hp → V → α → Prop) (H : Hp) (v : V) (xs : List α) : Prop := ∃ t vs, v = .ref t ∧ H t = some (.tup vs) ∧ Held R H vs xs
theorem TupAll.mono {R : Hp → V → α → Prop} (m : MonoT R) : MonoT (TupAll R) := fun H H' v xs e ⟨t, vs, h1, h2, h3⟩ => ⟨t, vs, h1, e _ _ h2, h3.mono m e⟩
end
abbrev Need := Str × Int
abbrev Dish := Int × List Need
structure Batch where
  name : Str
  amount : Int
  last : Int
def NeedAt (H : Hp) (v : V) (x : Need) : Prop := ∃ t, v = .ref t ∧ H t = some (.tup [.str x.1, .int x.2])
theorem NeedAt.mono : MonoT NeedAt := fun _ _ _ _ e ⟨t, h1, h2⟩ => ⟨t, h1, e _ _ h2⟩
def DishAt (H : Hp) (v : V) (d : Dish) : Prop := ∃ t u, v = .ref t ∧ H t = some (.tup [.int d.1, u]) ∧ TupAll NeedAt H u d.2
theorem DishAt.mono : MonoT DishAt := fun _ _ _ _ e ⟨t, u, h1, h2, h3⟩ => ⟨t, u, h1, e _ _ h2, TupAll.mono NeedAt.mono _ _ _ _ e h3⟩
abbrev DishesAt : Hp → V → List Dish → Prop := TupAll DishAt
theorem DishesAt.mono : MonoT DishesAt := TupAll.mono DishAt.mono
def BatchAt (H : Hp) (v : V) (b : Batch) : Prop := ∃ t, v = .ref t ∧ H t = some (.tup [.str b.name, .int b.amount, .int b.last])
theorem BatchAt.mono : MonoT BatchAt := fun _ _ _ _ e ⟨t, h1, h2⟩ => ⟨t, h1, e _ _ h2⟩
abbrev LarderAt : Hp → V → List Batch → Prop := TupAll BatchAt
theorem LarderAt.mono : MonoT LarderAt := TupAll.mono BatchAt.mono
def NameOf (seed : Int) (x : Str) : Prop := ∃ k : Nat, k < 12 ∧ x = nameBy seed k
structure GoodDish (seed : Int) (d : Dish) : Prop where
  day1 : 1 ≤ d.1
  day7 : d.1 ≤ 7
  many : d.2.length ≤ 20
  need : ∀ x ∈ d.2, (1 ≤ x.2 ∧ x.2 ≤ 200) ∧ NameOf seed x.1
structure GoodBatch (seed : Int) (b : Batch) : Prop where
  am1 : 1 ≤ b.amount
  am2 : b.amount ≤ 200
  la1 : 1 ≤ b.last
  la2 : b.last ≤ 99
  name : NameOf seed b.name
/-! ### comprehensions, by filterMap -/
section
variable {α β γ : Type} {J : It} {n : Nat} {G : Hp → Prop} {Y : Nat → Hp → V → Hp → Prop}
theorem held_eq {f : α → V} {H : Hp} {vs : List V} {xs : List α} (h : Held (fun _ v x => v = f x) H vs xs) : vs = xs.map f := by
  apply List.ext_getElem?
  intro i
  rw [List.getElem?_map]
  cases e : vs[i]? with
  | none =>
    have : xs[i]? = none := by
      rw [List.getElem?_eq_none_iff, ← h.len]
      exact List.getElem?_eq_none_iff.mp e
    rw [this]; rfl
  | some v =>
    obtain ⟨x, hx, rx⟩ := h.get e
    rw [hx, rx]; rfl
theorem mono_eq {f : α → V} : MonoT (fun (_ : Hp) (v : V) (x : α) => v = f x) := fun _ _ _ _ _ h => h
/-- a comprehension over what walks: the new list tells (xs.filterMap f) -/
theorem lc_rel (w : Walk J n G Y) {xs : List α} (hn : xs.length = n) {f : α → Option β} {R : Hp → V → β → Prop} (mR : MonoT R) {g : TG} {tt : TT} {te : TE} {ws : List Nat} {σ : L2.St} {H1 : Hp} {D : Addr} {Qd : Hp → Prop}
    (hD : H1 D = none) (hG : ∀ H, Same H1 H → G H) (hz : n ≤ 100000)
    (hs : ∀ (i : Nat) (v : V) (x : α) (H H' : Hp) (Ky : V → Hp → Prop) (Kn : Hp → Prop), xs[i]? = some x → Same H1 H → Y i H v H' → (∀ y b H4, f x = some b → Same H H4 → R H4 y b → Ky y H4) → (∀ H3, f x = none → Same H H3 → Kn H3) →
      g v (wipe σ ws) H' fun σ2 H2 => wipe σ2 ws = wipe σ ws ∧ tt σ2 H2 fun b H3 => if b = true then te σ2 H3 Ky else Kn H3)
    (hd : ∀ H' ys, Same H1 H' → H' D = some (.lst ys) → Held R H' ys (xs.filterMap f) → Qd H') :
    ∃ W : Nat → Nat → Hp → Prop, (∃ m, W 0 m (upd H1 D (.lst []))) ∧ ∀ i m H, W i m H →
      (J.stop i H ∧ Qd H) ∨ (J.go i H ∧ ∃ Nx : Hp → Prop, (∀ H', Nx H' → ∃ m', m' < m ∧ W (i + 1) m' H') ∧ ∀ x H', J.yld i H x H' → g x (wipe σ ws) H' fun σ2 H2 => wipe σ2 ws = wipe σ ws ∧ tt σ2 H2 fun b H3 =>
        if b = true then te σ2 H3 fun y H4 => ∃ acc, H4 D = some (.lst acc) ∧ acc.length < sizeLine ∧ Nx (upd H4 D (.lst (acc ++ [y]))) else Nx H3) := by
  refine lc_it w (fun i H => Same H1 H ∧ ∃ ys, H D = some (.lst ys) ∧ Held R H ys ((xs.take i).filterMap f)) ⟨same_upd hD, [], upd_same, Held.nil⟩ (fun i H _ p => hG H p.1) (fun i v H H' hi p y => ?_) (fun H p => ?_)
  · obtain ⟨sm, ys, hDl, hh⟩ := p
    have hx : xs[i]? = some (xs[i]'(by omega)) := List.getElem?_eq_getElem (by omega)
    refine hs i v _ H H' _ _ hx sm y (fun y b H4 e s4 r => ?_) (fun H3 e s3 => ?_)
    · refine ⟨_, s4 _ _ hDl, ?_, (sm.trans s4).mut hD, ys ++ [y], upd_same, ?_⟩
      · have h1 := List.length_filterMap_le f (xs.take i)
        rw [List.length_take] at h1
        exact small' (by rw [hh.len]; omega)
      · have st := SameT.lst (o := .lst (ys ++ [y])) (s4 _ _ hDl)
        rw [take_succ' hx, List.filterMap_append]
        have e2 : List.filterMap f [xs[i]'(by omega)] = [b] := by rw [List.filterMap_cons_some e]; rfl
        rw [e2]
        exact (hh.mono mR ((SameT.of s4).trans st)).snoc (mR _ _ _ _ st r)
    · refine ⟨sm.trans s3, ys, s3 _ _ hDl, ?_⟩
      rw [take_succ' hx, List.filterMap_append]
      have e2 : List.filterMap f [xs[i]'(by omega)] = [] := by rw [List.filterMap_cons_none e]; rfl
      rw [e2, List.append_nil]
      exact hh.mono mR (SameT.of s3)
  · obtain ⟨sm, ys, hDl, hh⟩ := p
    rw [← hn, List.take_length] at hh
    exact hd H ys sm hDl hh
/-- .. of two clauses: the outer one -/
theorem lc2_out (w : Walk J n G Y) {xs : List α} (hn : xs.length = n) {F : α → List γ} {R : Hp → V → γ → Prop} {g : TG} {te : L2.St → Hp → (Hp → Prop) → Prop} {ws : List Nat} {σ : L2.St} {H1 : Hp} {D : Addr} {Qd : Hp → Prop}
    (hD : H1 D = none) (hG : ∀ H, Same H1 H → G H)
    (hs : ∀ (i : Nat) (v : V) (x : α) (H H' : Hp) (ys : List V) (Nx : Hp → Prop), xs[i]? = some x → Same H1 H → Y i H v H' → H D = some (.lst ys) → Held R H ys ((xs.take i).flatMap F) →
      (∀ H3 ys, Same H1 H3 → H3 D = some (.lst ys) → Held R H3 ys ((xs.take i).flatMap F ++ F x) → Nx H3) →
      g v (wipe σ ws) H' fun σ2 H2 => wipe σ2 ws = wipe σ ws ∧ te σ2 H2 Nx)
    (hd : ∀ H' ys, Same H1 H' → H' D = some (.lst ys) → Held R H' ys (xs.flatMap F) → Qd H') :
    ∃ W : Nat → Nat → Hp → Prop, (∃ m, W 0 m (upd H1 D (.lst []))) ∧ ∀ i m H, W i m H →
      (J.stop i H ∧ Qd H) ∨ (J.go i H ∧ ∃ Nx : Hp → Prop, (∀ H', Nx H' → ∃ m', m' < m ∧ W (i + 1) m' H') ∧ ∀ x H', J.yld i H x H' → g x (wipe σ ws) H' fun σ2 H2 => wipe σ2 ws = wipe σ ws ∧ te σ2 H2 Nx) := by
  refine ⟨fun i m H => m = n - i ∧ i ≤ n ∧ Same H1 H ∧ ∃ ys, H D = some (.lst ys) ∧ Held R H ys ((xs.take i).flatMap F), ⟨n, by simp, Nat.zero_le _, same_upd hD, [], upd_same, Held.nil⟩, ?_⟩
  rintro i m H ⟨rfl, hi, sm, ys, hDl, hh⟩
  by_cases hlt : i < n
  · refine .inr ⟨w.goes i H hlt (hG H sm), fun H' => Same H1 H' ∧ ∃ ys, H' D = some (.lst ys) ∧ Held R H' ys ((xs.take (i + 1)).flatMap F), fun H' p' => ⟨n - (i + 1), by omega, rfl, hlt, p'⟩, fun v H' y => ?_⟩
    have hx : xs[i]? = some (xs[i]'(by omega)) := List.getElem?_eq_getElem (by omega)
    refine hs i v _ H H' ys _ hx sm (w.yields i H v H' hlt (hG H sm) y) hDl hh (fun H3 ys' s3 hD3 h3 => ⟨s3, ys', hD3, ?_⟩)
    rw [take_succ' hx, List.flatMap_append]
    have e2 : List.flatMap F [xs[i]'(by omega)] = F (xs[i]'(by omega)) := by simp
    rw [e2]
    exact h3
  · have e : i = n := by omega
    subst e
    rw [← hn, List.take_length] at hh
    exact .inl ⟨w.stops H (hG H sm), hd H ys sm hDl hh⟩
/-- .. the inner one -/
theorem lc2_in (w : Walk J n G Y) {xs : List α} (hn : xs.length = n) {f : α → Option γ} {R : Hp → V → γ → Prop} (mR : MonoT R) {g : TG} {tt : TT} {te : TE} {ws : List Nat} {σ : L2.St} {H0 H1 : Hp} {D : Addr} {ys0 : List V} {zs : List γ} {Qd : Hp → Prop}
    (hD : H0 D = none) (s1 : Same H0 H1) (hD1 : H1 D = some (.lst ys0)) (h1 : Held R H1 ys0 zs) (hG : ∀ H, Same H0 H → SameT H1 H → G H) (hz : zs.length + n ≤ 100000)
    (hs : ∀ (i : Nat) (v : V) (x : α) (H H' : Hp) (Ky : V → Hp → Prop) (Kn : Hp → Prop), xs[i]? = some x → Same H0 H → SameT H1 H → Y i H v H' → (∀ y b H4, f x = some b → Same H H4 → R H4 y b → Ky y H4) → (∀ H3, f x = none → Same H H3 → Kn H3) →
      g v (wipe σ ws) H' fun σ2 H2 => wipe σ2 ws = wipe σ ws ∧ tt σ2 H2 fun b H3 => if b = true then te σ2 H3 Ky else Kn H3)
    (hd : ∀ H' ys, Same H0 H' → H' D = some (.lst ys) → Held R H' ys (zs ++ xs.filterMap f) → Qd H') :
    ∃ W : Nat → Nat → Hp → Prop, (∃ m, W 0 m H1) ∧ ∀ i m H, W i m H →
      (J.stop i H ∧ Qd H) ∨ (J.go i H ∧ ∃ Nx : Hp → Prop, (∀ H', Nx H' → ∃ m', m' < m ∧ W (i + 1) m' H') ∧ ∀ x H', J.yld i H x H' → g x (wipe σ ws) H' fun σ2 H2 => wipe σ2 ws = wipe σ ws ∧ tt σ2 H2 fun b H3 =>
        if b = true then te σ2 H3 fun y H4 => ∃ acc, H4 D = some (.lst acc) ∧ acc.length < sizeLine ∧ Nx (upd H4 D (.lst (acc ++ [y]))) else Nx H3) := by
  refine ⟨fun i m H => m = n - i ∧ i ≤ n ∧ Same H0 H ∧ SameT H1 H ∧ ∃ ys, H D = some (.lst ys) ∧ Held R H ys (zs ++ (xs.take i).filterMap f), ⟨n, by simp, Nat.zero_le _, s1, SameT.refl _, ys0, hD1, by simpa using h1⟩, ?_⟩
  rintro i m H ⟨rfl, hi, sm, st, ys, hDl, hh⟩
  by_cases hlt : i < n
  · refine .inr ⟨w.goes i H hlt (hG H sm st), fun H' => Same H0 H' ∧ SameT H1 H' ∧ ∃ ys, H' D = some (.lst ys) ∧ Held R H' ys (zs ++ (xs.take (i + 1)).filterMap f), fun H' p' => ⟨n - (i + 1), by omega, rfl, hlt, p'⟩, fun v H' y => ?_⟩
    have hx : xs[i]? = some (xs[i]'(by omega)) := List.getElem?_eq_getElem (by omega)
    refine hs i v _ H H' _ _ hx sm st (w.yields i H v H' hlt (hG H sm st) y) (fun y b H4 e s4 r => ?_) (fun H3 e s3 => ?_)
    · have su := SameT.lst (o := .lst (ys ++ [y])) (s4 _ _ hDl)
      refine ⟨_, s4 _ _ hDl, ?_, (sm.trans s4).mut hD, (st.trans (SameT.of s4)).trans su, ys ++ [y], upd_same, ?_⟩
      · have h2 := List.length_filterMap_le f (xs.take i)
        rw [List.length_take] at h2
        exact small' (by rw [hh.len, List.length_append]; omega)
      · rw [take_succ' hx, List.filterMap_append]
        have e2 : List.filterMap f [xs[i]'(by omega)] = [b] := by rw [List.filterMap_cons_some e]; rfl
        rw [e2, ← List.append_assoc]
        exact (hh.mono mR ((SameT.of s4).trans su)).snoc (mR _ _ _ _ su r)
    · refine ⟨sm.trans s3, st.trans (SameT.of s3), ys, s3 _ _ hDl, ?_⟩
      rw [take_succ' hx, List.filterMap_append]
      have e2 : List.filterMap f [xs[i]'(by omega)] = [] := by rw [List.filterMap_cons_none e]; rfl
      rw [e2, List.append_nil]
      exact hh.mono mR (SameT.of s3)
  · have e : i = n := by omega
    subst e
    rw [← hn, List.take_length] at hh
    exact .inl ⟨w.stops H (hG H sm st), hd H ys sm hDl hh⟩
end
/-- the walk over two tuples -/
theorem walk_zipT {K : PySem.W.Frag} {a b : Addr} {xs ys : List V} {n : Nat} (hn : n = min xs.length ys.length) : Walk (RZ.ItzT K a b) n (fun H => SqT K H a xs ∧ SqT K H b ys) (YPair (fun i => xs[i]?) (fun i => ys[i]?)) := by
  subst hn
  refine ⟨fun i _ hi q => ?_, fun _ q => ⟨xs, ys, q.1, q.2, by omega⟩, fun i H v H' _ q y => ?_⟩
  · have h1 : i < xs.length := by omega
    have h2 : i < ys.length := by omega
    exact ⟨xs, ys, xs[i], ys[i], q.1, q.2, by simp [h1], by simp [h2]⟩
  · obtain ⟨T, x, z, h1, h2, h3, h4, h5⟩ := y
    exact ⟨T, x, z, h1, h2, h3, h4 xs q.1, h5 ys q.2⟩
/-- the turns of a range -/
theorem range_ix {n i k : Nat} (h : (List.range n)[i]? = some k) : k = i ∧ i < n := by
  obtain ⟨h1, h2⟩ := List.getElem?_eq_some_iff.mp h
  rw [List.getElem_range] at h2
  exact ⟨h2.symm, by simpa using h1⟩
/-! ### what is needed, kept, lacking -/
def PairAt (H : Hp) (v : V) (x : Int × Int) : Prop := ∃ t, v = .ref t ∧ H t = some (.tup [.int x.1, .int x.2])
theorem PairAt.mono : MonoT PairAt := fun _ _ _ _ e ⟨t, h1, h2⟩ => ⟨t, h1, e _ _ h2⟩
def onDay (ps : List (Int × Int)) (day : Int) : Int := (ps.filterMap fun x => if x.1 = day then some x.2 else none).sum
def toDay (ps : List (Int × Int)) (day : Int) : Int := (ps.filterMap fun x => if day ≤ x.2 then some x.1 else none).sum
def pairsOf (ds : List Dish) (nm : Str) : List (Int × Int) := ds.flatMap fun d => d.2.filterMap fun x => if x.1 = nm then some (d.1, x.2) else none
def neededL (ds : List Dish) (nm : Str) : List Int := (List.range 7).map fun i => onDay (pairsOf ds nm) (1 + (i : Nat))
def fromL (xs : List Int) : List Int := (List.range 7).map fun i => (xs.drop i).sum
def keptPairs (lar : List Batch) (nm : Str) : List (Int × Int) := lar.filterMap fun b => if b.name = nm then some (b.amount, b.last) else none
def keptL (lar : List Batch) (nm : Str) : List Int := (List.range 7).map fun i => toDay (keptPairs lar nm) (1 + (i : Nat))
def mx0 (x : Int) : Int := if x > 0 then x else 0
def lackL (ds : List Dish) (lar : List Batch) (nm : Str) : List Int := (List.range 7).map fun i => mx0 ((fromL (neededL ds nm)).getD i 0 - (keptL lar nm).getD i 0)
theorem neededL_len (ds : List Dish) (nm : Str) : (neededL ds nm).length = 7 := by unfold neededL; simp
theorem fromL_len (xs : List Int) : (fromL xs).length = 7 := by unfold fromL; simp
theorem keptL_len (lar : List Batch) (nm : Str) : (keptL lar nm).length = 7 := by unfold keptL; simp
theorem lackL_len (ds : List Dish) (lar : List Batch) (nm : Str) : (lackL ds lar nm).length = 7 := by unfold lackL; simp
theorem fm_some {α β : Type} (f : α → β) (xs : List α) : xs.filterMap (fun x => some (f x)) = xs.map f := by
  induction xs with
  | nil => rfl
  | cons x r ih =>
    show f x :: List.filterMap (fun x => some (f x)) r = _
    rw [ih]; rfl
theorem pairsOf_len {n : Nat} : ∀ (ds : List Dish) (nm : Str), (∀ d ∈ ds, d.2.length ≤ n) → (pairsOf ds nm).length ≤ ds.length * n
  | [], _, _ => by simp [pairsOf]
  | d :: r, nm, h => by
    have ih := pairsOf_len r nm fun d hd => h d (List.mem_cons_of_mem _ hd)
    have h1 := List.length_filterMap_le (fun x : Need => if x.1 = nm then some (d.1, x.2) else none) d.2
    have h2 := h d List.mem_cons_self
    unfold pairsOf at ih ⊢
    rw [List.flatMap_cons, List.length_append, List.length_cons, Nat.succ_mul]
    omega
/-! ### the law's own reckoning of what lacks -/
def needOf (d : Dish) (nm : Str) : Int := (d.2.filterMap fun x => if x.1 = nm then some x.2 else none).sum
def needFrom (ds : List Dish) (nm : Str) (day : Int) : Int := (ds.map fun d => if day ≤ d.1 then needOf d nm else 0).sum
def keptTo (lar : List Batch) (nm : Str) (day : Int) : Int := (lar.map fun b => if b.name = nm ∧ day ≤ b.last then b.amount else 0).sum
def lackDay (ds : List Dish) (lar : List Batch) (nm : Str) (day : Int) : Int := mx0 (needFrom ds nm day - keptTo lar nm day)
def lackW (ds : List Dish) (lar : List Batch) (nm : Str) : List Int := (List.range 7).map fun i => lackDay ds lar nm (1 + (i : Nat))
theorem toDay_kept (nm : Str) (day : Int) : ∀ lar : List Batch, toDay (keptPairs lar nm) day = keptTo lar nm day
  | [] => rfl
  | b :: r => by
    have ih := toDay_kept nm day r
    unfold toDay keptPairs keptTo at ih ⊢
    rw [List.map_cons, List.sum_cons, ← ih]
    by_cases e : b.name = nm
    · by_cases l : day ≤ b.last
      · simp only [List.filterMap_cons, if_pos e, if_pos l, if_pos (And.intro e l), List.sum_cons]
      · simp only [List.filterMap_cons, if_pos e, if_neg l, if_neg (fun z : b.name = nm ∧ day ≤ b.last => l z.2)]
        omega
    · simp only [List.filterMap_cons, if_neg e, if_neg (fun z : b.name = nm ∧ day ≤ b.last => e z.1)]
      omega
theorem onDay_app (xs ys : List (Int × Int)) (day : Int) : onDay (xs ++ ys) day = onDay xs day + onDay ys day := by
  unfold onDay
  rw [List.filterMap_append, List.sum_append]
theorem onDay_one (k day : Int) (nm : Str) : ∀ ns : List Need, onDay (ns.filterMap fun x => if x.1 = nm then some (k, x.2) else none) day = if k = day then (ns.filterMap fun x => if x.1 = nm then some x.2 else none).sum else 0
  | [] => by unfold onDay; simp
  | x :: r => by
    have ih := onDay_one k day nm r
    unfold onDay at ih ⊢
    by_cases e : x.1 = nm
    · by_cases d : k = day
      · simp only [List.filterMap_cons, if_pos e, if_pos d, List.sum_cons] at ih ⊢
        rw [ih]
      · simp only [List.filterMap_cons, if_pos e, if_neg d] at ih ⊢
        exact ih
    · simp only [List.filterMap_cons, if_neg e]
      exact ih
theorem onDay_cons (d : Dish) (r : List Dish) (nm : Str) (day : Int) : onDay (pairsOf (d :: r) nm) day = (if d.1 = day then needOf d nm else 0) + onDay (pairsOf r nm) day := by
  unfold pairsOf
  rw [List.flatMap_cons, onDay_app, onDay_one]; rfl
theorem seven (f : Nat → Int) : (List.range 7).map f = [f 0, f 1, f 2, f 3, f 4, f 5, f 6] := rfl
theorem from_needed (nm : Str) : ∀ (ds : List Dish), (∀ d ∈ ds, 1 ≤ d.1 ∧ d.1 ≤ 7) → ∀ i : Nat, i < 7 → ((neededL ds nm).drop i).sum = needFrom ds nm (1 + (i : Nat))
  | [], _, i, hi => by
    have h : i = 0 ∨ i = 1 ∨ i = 2 ∨ i = 3 ∨ i = 4 ∨ i = 5 ∨ i = 6 := by omega
    rcases h with e | e | e | e | e | e | e <;> subst e <;> rfl
  | d :: r, hd, i, hi => by
    have ih := from_needed nm r (fun x hx => hd x (List.mem_cons_of_mem _ hx)) i hi
    have hd1 := hd d List.mem_cons_self
    unfold neededL at ih ⊢
    unfold needFrom at ih ⊢
    rw [List.map_cons, List.sum_cons, ← ih, seven, seven]
    simp only [onDay_cons]
    generalize needOf d nm = z
    have h : i = 0 ∨ i = 1 ∨ i = 2 ∨ i = 3 ∨ i = 4 ∨ i = 5 ∨ i = 6 := by omega
    have h2 : d.1 = 1 ∨ d.1 = 2 ∨ d.1 = 3 ∨ d.1 = 4 ∨ d.1 = 5 ∨ d.1 = 6 ∨ d.1 = 7 := by omega
    rcases h2 with e2 | e2 | e2 | e2 | e2 | e2 | e2 <;> rw [e2] <;> rcases h with e | e | e | e | e | e | e <;> subst e <;> simp <;> omega
theorem lack_eq (ds : List Dish) (lar : List Batch) (nm : Str) (hd : ∀ d ∈ ds, 1 ≤ d.1 ∧ d.1 ≤ 7) : lackL ds lar nm = lackW ds lar nm := by
  unfold lackL lackW
  apply List.map_congr_left
  intro i hi
  have hi7 : i < 7 := List.mem_range.mp hi
  unfold lackDay
  have e1 : (fromL (neededL ds nm)).getD i 0 = needFrom ds nm (1 + (i : Nat)) := by
    unfold fromL
    rw [List.getD_eq_getElem?_getD, List.getElem?_map, List.getElem?_eq_getElem (by simpa using hi7), List.getElem_range]
    exact from_needed nm ds hd i hi7
  have e2 : (keptL lar nm).getD i 0 = keptTo lar nm (1 + (i : Nat)) := by
    unfold keptL
    rw [List.getD_eq_getElem?_getD, List.getElem?_map, List.getElem?_eq_getElem (by simpa using hi7), List.getElem_range]
    exact toDay_kept nm _ lar
  rw [e1, e2]
theorem needFrom_snoc (ds : List Dish) (d : Dish) (nm : Str) (day : Int) : needFrom (ds ++ [d]) nm day = needFrom ds nm day + if day ≤ d.1 then needOf d nm else 0 := by
  unfold needFrom
  rw [List.map_append, List.sum_append]; simp
theorem keptTo_snoc (lar : List Batch) (b : Batch) (nm : Str) (day : Int) : keptTo (lar ++ [b]) nm day = keptTo lar nm day + if b.name = nm ∧ day ≤ b.last then b.amount else 0 := by
  unfold keptTo
  rw [List.map_append, List.sum_append]; simp
/-- what is kept, as the law reckons it -/
def dueK (lar : List Batch) (nm : Str) (i : Int) : Int := (lar.filterMap fun b => if b.name = nm ∧ i < b.last then some b.amount else none).sum
theorem dueK_eq (nm : Str) (i : Int) : ∀ lar : List Batch, dueK lar nm i = keptTo lar nm (1 + i)
  | [] => rfl
  | b :: r => by
    have ih := dueK_eq nm i r
    unfold dueK keptTo at ih ⊢
    rw [List.map_cons, List.sum_cons, ← ih]
    by_cases e : b.name = nm ∧ i < b.last
    · have e2 : b.name = nm ∧ 1 + i ≤ b.last := ⟨e.1, by omega⟩
      simp only [List.filterMap_cons, if_pos e, if_pos e2, List.sum_cons]
    · have e2 : ¬ (b.name = nm ∧ 1 + i ≤ b.last) := fun z => e ⟨z.1, by omega⟩
      simp only [List.filterMap_cons, if_neg e, if_neg e2]
      omega
theorem keptL_eq (lar : List Batch) (nm : Str) : keptL lar nm = (List.range 7).map fun i => dueK lar nm (i : Nat) := by
  unfold keptL
  apply List.map_congr_left
  intro i _
  rw [toDay_kept, dueK_eq]
end Lar
namespace Lar
open PySem PySem.Spec PyProof.Rows L2
/-! ### the greatest of a tuple of ints -/
section
variable {prog : Program} {w : World} {A : Around} {E : Value → Shared → Prop} {s : Shared} {t : Addr}
theorem max_tupI {xs : Array (Int × Tok)} {Q : Value → Shared → Prop} (hh : A.handled = none) (ht : s.heap.IsTuple t (intItems xs)) (h0 : 0 < xs.size)
    (h : ∀ v h' tk, (intItems xs)[argBest (fun i j => decide (numAt xs i > numAt xs j)) (xs.size - 1)]? = some v → (∀ b o, s.heap.get? b = some o → h'.get? b = some o) → Q v { s with heap := h', toks := tk }) :
    wpAny (model prog w) A (call (.builtin "max") [.ref t]) Q E s := by
  obtain ⟨o, ho, hc, n, hd⟩ := id ht
  have hne : t ≠ s.heap.objs.size := Nat.ne_of_lt (Heap.lt_size ho)
  have hsz : (intItems xs).size = xs.size := by simp [intItems]
  have W := (Walks.tuple (prog := prog) (w := w) (A := A.in1) hh s.heap.objs.size t hne (intItems xs)).toS
  rw [hsz] at W
  refine call_max_walkS (wpAny_pyIter_tuple ht ?_)
  refine ⟨s.heap.objs.size, _, _, _, _, _, _, _, rfl, W, ⟨⟨_, Heap.get?_push_size _ rfl, rfl, rfl⟩, ht.at fun o e => Heap.get?_push_of_some _ e⟩, fun b hb => ?_, h0, CmpOf.ints_gt (numAt xs) (fun i v hP => intItems_at hP), fun v s' hP hm => ?_⟩
  · rcases List.mem_cons.mp hb with rfl | hb
    · exact Heap.lt_size (Heap.get?_push_size _ rfl)
    · obtain rfl := List.mem_singleton.mp hb
      exact Heap.lt_size (Heap.get?_push_of_some _ ho)
  · obtain ⟨h', g', d', tk', os'⟩ := s'
    have e1 : g' = s.gens := hm.gens
    have e2 : d' = s.drawn := hm.drawn
    have e3 : os' = s.os := hm.os
    subst e1 e2 e3
    exact h v h' tk' hP fun b o e => hm.heap b o (fun hb => absurd (Heap.lt_size e) ((List.mem_singleton.mp hb) ▸ Nat.lt_irrefl _)) (Heap.get?_push_of_some _ e)
end
section
variable {X : Cx}
/-- max(xs), xs a list or a tuple of ints -/
def rMaxA (K : PySem.W.Frag) : List V → Hp → VK → Prop := fun vs H Q => ∃ (a : Addr) (ns : List Int), vs = [V.ref a] ∧ (SqL K H a (ns.map V.int) ∨ SqT K H a (ns.map V.int)) ∧ 0 < ns.length ∧ ∀ m, m ∈ ns → (∀ y, y ∈ ns → y ≤ m) → Q (.int m) H
theorem kcr_maxA (K : PySem.W.Frag) (hc : X.calm = true) (hK : X.K = K := by rfl) : CallR X (.builtin "max") (rMaxA K) := by
  subst hK
  intro pins s σ H vs us Q I r h
  obtain ⟨a, ns, rfl, hs, hne, q⟩ := h
  rw [Vals.ref1 r]
  rcases hs with hs | hs
  · obtain ⟨its, rv, hl, _⟩ := I.list hs
    exact max_raw (I.ok.hd hc) hl.isList rv.ints hne fun h' tk m t' hk h1 h2 => ⟨.int _, H, I.kept hk, ⟨_, rfl⟩, q m h1 h2⟩
  · obtain ⟨its, rv, hl, _⟩ := I.tuple hs
    have hi : IntsAre its ns := rv.ints
    obtain ⟨xs, e⟩ := hi.allInts.items
    have hn : numsOf (intItems xs).toList = ns := by rw [← e]; exact hi.numsOf
    rw [nums_intItems] at hn
    rw [e] at hl
    have hsz : 0 < xs.size := by rw [← hn] at hne; simpa using hne
    refine max_tupI (I.ok.hd hc) hl hsz fun v h' tk hv hk => ?_
    obtain ⟨t', rfl⟩ := intItems_at hv
    obtain ⟨h1, h2⟩ := argBest_gt (numAt xs) (xs.size - 1)
    refine ⟨.int _, H, I.kept hk, ⟨_, rfl⟩, q _ ?_ fun y hy => ?_⟩
    · rw [numAt_eq, hn]; exact PySem.getD_mem (by rw [← hn, List.length_map, Array.length_toList]; omega)
    · rw [← hn] at hy
      obtain ⟨j, hj, rfl⟩ := mem_getD hy
      rw [List.length_map, Array.length_toList] at hj
      rw [← numAt_eq]; exact h2 j (by omega)
/-- a list's or a tuple's item -/
def rIxA (K : PySem.W.Frag) : R2 := fun x y H Q => ∃ p xs i v, x = .ref p ∧ y = .int i ∧ (SqL K H p xs ∨ SqT K H p xs) ∧ atI xs i = some v ∧ Q v H
theorem kix_seq (K : PySem.W.Frag) (hK : X.K = K := by rfl) : IxR X (rIxA K) := by
  subst hK
  intro value slice pins s σ H x y v u Q I rx ry h hs
  obtain ⟨p, xs, i, z, hx, hy, hq, he, q⟩ := h
  refine (IxR.or ix_list ix_tup) value slice pins s σ H x y v u Q I rx ry ?_ hs
  rcases hq with hq | hq
  · exact .inl ⟨p, xs, i, z, hx, hy, hq, he, q⟩
  · exact .inr ⟨p, xs, i, z, hx, hy, hq, he, q⟩
theorem kop_repT (K : PySem.W.Frag) (hK : X.K = K := by rfl) : OpR X (binaryOp .Mult) (rRepT K) := by subst hK; exact op_repT
end
theorem ixN_of {n j : Nat} {k : Int} (h : k = j) (hj : j < n) : ixN n k = some j := by
  subst h
  unfold ixN
  rw [if_pos (by omega), if_pos (by omega)]; simp
theorem same_none {H H' : Hp} {a : Addr} (s : Same H H') (h : H' a = none) : H a = none := by
  cases e : H a with
  | none => rfl
  | some x => rw [s _ _ e] at h; cases h
/-! ### offers -/
structure Offer where
  size : Int
  price : Int
  last : Int
def OfferAt (H : Hp) (v : V) (o : Offer) : Prop := ∃ t, v = .ref t ∧ H t = some (.tup [.int o.size, .int o.price, .int o.last])
theorem OfferAt.mono : MonoT OfferAt := fun _ _ _ _ e ⟨t, h1, h2⟩ => ⟨t, h1, e _ _ h2⟩
structure GoodOffer (o : Offer) : Prop where
  size1 : 1 ≤ o.size
  size2 : o.size ≤ 200
  price0 : 0 ≤ o.price
  price2 : o.price ≤ 1000000
  last1 : 1 ≤ o.last
  last2 : o.last ≤ 99
/-- a list or a tuple -/
def SqA (K : PySem.W.Frag) (H : Hp) (a : Addr) (xs : List V) : Prop := SqL K H a xs ∨ SqT K H a xs
theorem SqA.l {K : PySem.W.Frag} {H : Hp} {a : Addr} {xs : List V} (h : H a = some (.lst xs)) : SqA K H a xs := .inl (sqL h)
theorem SqA.t {K : PySem.W.Frag} {H : Hp} {a : Addr} {xs : List V} (h : H a = some (.tup xs)) : SqA K H a xs := .inr (sqT h)
theorem SqA.same {K : PySem.W.Frag} {H H' : Hp} {a : Addr} {xs : List V} (h : SqA K H a xs) (e : Same H H') : SqA K H' a xs := by
  rcases h with h | h
  · exact .inl (e.seq h)
  · exact .inr (e.seqT h)
def OffersIn (K : PySem.W.Frag) (H : Hp) (v : V) (os : List Offer) : Prop := ∃ a us, v = .ref a ∧ SqA K H a us ∧ Held OfferAt H us os
theorem OffersIn.same {K : PySem.W.Frag} {H H' : Hp} {v : V} {os : List Offer} (h : OffersIn K H v os) (e : Same H H') : OffersIn K H' v os := by
  obtain ⟨a, us, h1, h2, h3⟩ := h
  exact ⟨a, us, h1, h2.same e, h3.mono OfferAt.mono (SameT.of e)⟩
def IntsIn (K : PySem.W.Frag) (H : Hp) (v : V) (ns : List Int) : Prop := ∃ a, v = .ref a ∧ SqA K H a (ns.map V.int)
theorem IntsIn.same {K : PySem.W.Frag} {H H' : Hp} {v : V} {ns : List Int} (h : IntsIn K H v ns) (e : Same H H') : IntsIn K H' v ns := by
  obtain ⟨a, h1, h2⟩ := h
  exact ⟨a, h1, h2.same e⟩
/-- a tuple of offers -/
abbrev OffersAt : Hp → V → List Offer → Prop := TupAll OfferAt
theorem OffersAt.mono : MonoT OffersAt := TupAll.mono OfferAt.mono
theorem OffersAt.in {K : PySem.W.Frag} {H : Hp} {v : V} {os : List Offer} (h : OffersAt H v os) : OffersIn K H v os := by
  obtain ⟨a, us, h1, h2, h3⟩ := h
  exact ⟨a, us, h1, SqA.t h2, h3⟩
/-! ### plain sums over what is bought -/
def costOf (os : List Offer) (cs : List Int) : Int := ((os.zip cs).map fun p => p.1.price * p.2).sum
def heldZ (zs : List (Offer × Int)) (day : Int) : Int := (zs.map fun p => if day ≤ p.1.last then p.1.size * p.2 else 0).sum
def heldOn (os : List Offer) (cs : List Int) (day : Int) : Int := heldZ (os.zip cs) day
def servesB (os : List Offer) (cs : List Int) (ls : List Int) : Bool := (List.range 7).all fun i => decide (ls.getD i 0 ≤ heldOn os cs (1 + (i : Nat)))
theorem heldZ_snoc (zs : List (Offer × Int)) (p : Offer × Int) (day : Int) : heldZ (zs ++ [p]) day = heldZ zs day + if day ≤ p.1.last then p.1.size * p.2 else 0 := by
  unfold heldZ
  rw [List.map_append, List.sum_append]; simp
theorem heldZ_fm (zs : List (Offer × Int)) (day : Int) : (zs.filterMap fun p => if day ≤ p.1.last then some (p.1.size * p.2) else none).sum = heldZ zs day := by
  unfold heldZ
  induction zs with
  | nil => rfl
  | cons p r ih =>
    rw [List.map_cons, List.sum_cons, ← ih]
    by_cases e : day ≤ p.1.last
    · simp only [List.filterMap_cons, if_pos e, List.sum_cons]
    · simp only [List.filterMap_cons, if_neg e]; omega
theorem zip_ix {α β : Type} {xs : List α} {ys : List β} {i : Nat} {x : α} {y : β} (h1 : xs[i]? = some x) (h2 : ys[i]? = some y) : (xs.zip ys)[i]? = some (x, y) := by
  rw [List.getElem?_zip_eq_some]; exact ⟨h1, h2⟩
theorem ix_zip {α β : Type} {xs : List α} {ys : List β} {i : Nat} {p : α × β} (h : (xs.zip ys)[i]? = some p) : xs[i]? = some p.1 ∧ ys[i]? = some p.2 := by
  rwa [List.getElem?_zip_eq_some] at h
theorem zip_len {α β : Type} {xs : List α} {ys : List β} (h : xs.length = ys.length) : (xs.zip ys).length = xs.length := by
  rw [List.length_zip]; omega
def GoodLs (ls : List Int) : Prop := ls.length = 7 ∧ ∀ x ∈ ls, 0 ≤ x ∧ x ≤ 200
theorem GoodLs.set {ls : List Int} {i : Nat} {z : Int} (h : GoodLs ls) (h0 : 0 ≤ z) (h1 : z ≤ 200) : GoodLs (ls.set i z) := ⟨by rw [List.length_set]; exact h.1, fun x hx => by
  rcases List.mem_or_eq_of_mem_set hx with y | y
  · exact h.2 x y
  · subst y; exact ⟨h0, h1⟩⟩
/-! ### what the program's functions promise -/
def spPriceOf : Sp := fun vs H Q _ => ∃ (v : V) (b : Addr) (os : List Offer) (cs : List Int), vs = [v, .ref b] ∧ OffersAt H v os ∧ H b = some (.tup (cs.map V.int)) ∧ os.length = cs.length ∧ os.length ≤ 1000 ∧ (∀ o ∈ os, GoodOffer o) ∧ (∀ c ∈ cs, 0 ≤ c) ∧
  ∀ H', Same H H' → Q (.int (costOf os cs)) H'
def spServes : Sp := fun vs H Q _ => ∃ (v : V) (b c : Addr) (os : List Offer) (cs ls : List Int), vs = [v, .ref b, .ref c] ∧ OffersAt H v os ∧ H b = some (.tup (cs.map V.int)) ∧ H c = some (.tup (ls.map V.int)) ∧ os.length = cs.length ∧ os.length ≤ 1000 ∧ (∀ o ∈ os, GoodOffer o) ∧ (∀ c ∈ cs, 0 ≤ c) ∧ GoodLs ls ∧
  ∀ H', Same H H' → Q (.bl (servesB os cs ls)) H'
end Lar
namespace Lar
open PySem PySem.Spec PyProof.Rows L2
local macro_rules | `(tactic| walk_at "rd") => `(tactic| repeat' first
  | refine ⟨_, rfl, ?_⟩
  | refine ⟨_, _, rfl, rfl, ?_⟩
  | refine ⟨_, _, rfl, ?_⟩
  | refine ⟨rfl, ?_⟩
  | refine ⟨⟨_, rfl⟩, ?_⟩
  | refine ⟨(by show (0 : Int) < _; decide), ?_⟩
  | refine ⟨⟨by decide, by decide⟩, ?_⟩
  | refine ⟨.inr ⟨by decide, by decide⟩, ?_⟩
  | refine ⟨.inl ⟨by decide, by decide⟩, ?_⟩
  | refine ⟨.inl ⟨by omega, by omega⟩, ?_⟩
  | refine ⟨.inr ⟨by omega, by omega⟩, ?_⟩
  | fail "rd")
def topS (i : Nat) : Stmt := PySem.Challenge.pw_larderlist_k02_lacking.main.body.getD i (.Pass ⟨0, 0, 0, 0⟩)
abbrev s_mix : Stmt := topS 12
theorem sc_mix : FnScope ["_law_cell", "_law_k", "_law_x"] ["_law_cell", "_law_k"] (defScope s_mix) := ⟨rfl, rfl, rfl, by decide +kernel, rfl, by decide +kernel, by decide +kernel⟩
theorem bd_mix : ∀ (kV doc pm : Value) (an : Option Addr) (cdv ct : Value) (us : List Value), us.length = (["_law_cell", "_law_k"] : List Str).length → bindArgs (PySem.W.fnOf "_law_mix" "_law_mix" (defArgs s_mix) (defBody s_mix) (defScope s_mix) .none kV doc pm an cdv ct) ⟨us, []⟩ = pure ((["_law_cell", "_law_k"] : List Str).zip us) := fun _ _ _ _ _ _ us hl => match us, hl with | [_, _], _ => rfl
/-- a cell mixed: between 0 and a bound -/
def spMix : Sp := fun vs H Q _ => ∃ c k : Int, vs = [.int c, .int k] ∧ 0 ≤ k ∧ k ≤ 1000000 ∧ ∀ z : Int, 0 ≤ z → z < 998244353 → Q (.int z) H
theorem ok_mix {P : Program} {w : World} {K : PySem.W.Frag} {mg : Str → Option Value} {base : Heap} (D : DefAt K mg "_law_mix" s_mix) : Clb P w K mg base 1 "_law_mix" ["_law_cell", "_law_k"] spMix := by
  refine D.clb sc_mix (fun vs H Q E h => ?_) bd_mix (fun f cdv A outer s H vs Q E hr h => ?_)
  · obtain ⟨c, k, rfl, _⟩ := h
    rfl
  · obtain ⟨c, k, rfl, h0, h1, q⟩ := h
    refine ⟨_, (pss_cons (ps_set (i := 2) sc_mix.nd rfl (.inl rfl) (pe_op op_mod (pe_op op_add (pe_op op_add (pv 0) (pe_op op_mul pe_int (pv 1))) (pe_op op_mul (pe_op op_mul pe_int (pv 1)) (pv 1))) pe_int))
    (pss_one (ps_ret (pe_op op_mod (pe_op op_mul (pe_op op_mod (pe_op op_mul (pv 2) (pv 2)) pe_int) pe_int) pe_int)))), ?_⟩
    walk_at "rd"
    exact q _ (Int.emod_nonneg _ (by decide)) (Int.emod_lt_of_pos _ (by decide))
/-- the cells: a list of numbers from 0 up -/
def CellsAt (K : PySem.W.Frag) (H : Hp) (a : Addr) : Prop := ∃ cs : List Int, SqL K H a (cs.map V.int) ∧ cs.length ≤ 63 ∧ ∀ c ∈ cs, 0 ≤ c ∧ c < 1000000000000000003
theorem CellsAt.same {K : PySem.W.Frag} {H H' : Hp} {a : Addr} (h : CellsAt K H a) (e : Same H H') : CellsAt K H' a := by
  obtain ⟨cs, h1, h2⟩ := h
  exact ⟨cs, e.seq h1, h2⟩
abbrev s_cell_at : Stmt := topS 11
theorem sc_cell_at : FnScope ["_law_cells", "_law_k"] ["_law_cells", "_law_k"] (defScope s_cell_at) := ⟨rfl, rfl, rfl, by decide +kernel, rfl, by decide +kernel, by decide +kernel⟩
theorem bd_cell_at : ∀ (kV doc pm : Value) (an : Option Addr) (cdv ct : Value) (us : List Value), us.length = (["_law_cells", "_law_k"] : List Str).length → bindArgs (PySem.W.fnOf "_law_cell_at" "_law_cell_at" (defArgs s_cell_at) (defBody s_cell_at) (defScope s_cell_at) .none kV doc pm an cdv ct) ⟨us, []⟩ = pure ((["_law_cells", "_law_k"] : List Str).zip us) := fun _ _ _ _ _ _ us hl => match us, hl with | [_, _], _ => rfl
def spCellAt (K : PySem.W.Frag) : Sp := fun vs H Q _ => ∃ (a : Addr) (k : Int), vs = [.ref a, .int k] ∧ CellsAt K H a ∧ 0 ≤ k ∧ k ≤ 1000 ∧ ∀ z : Int, 0 ≤ z → z < 1000000000000000003 → Q (.int z) H
theorem ok_cell_at {P : Program} {w : World} {K : PySem.W.Frag} {mg : Str → Option Value} {base : Heap} (D : DefAt K mg "_law_cell_at" s_cell_at) (m_len : mg "len" = none) : Clb P w K mg base 1 "_law_cell_at" ["_law_cells", "_law_k"] (spCellAt K) := by
  refine D.clb sc_cell_at (fun vs H Q E h => ?_) bd_cell_at (fun f cdv A outer s H vs Q E hr h => ?_)
  · obtain ⟨a, k, rfl, _⟩ := h
    rfl
  · obtain ⟨a, k, rfl, ⟨cs, hc, hl, hb⟩, h0, h1, q⟩ := h
    refine ⟨_, (pss_cons (ps_if (pt_cmpR op_lt (pv 1) (pe_callB (kcall_len_seq K) (by rfl) m_len (by decide +kernel) (pa_cons (pv 0) pa_nil)) (nomark _))
      (pss_one (ps_ret (pe_ix (kix_list K) (pv 0) (pv 1) (fun _ _ => rfl))))
      pss_nil)
    (pss_one (ps_ret (pe_op op_mul (pe_op op_mul (pe_op op_add (pv 1) pe_int) (pe_op op_add (pv 1) pe_int)) pe_int)))), ?_⟩
    refine ⟨_, rfl, _, rfl, a, _, rfl, .inl hc, ?_⟩
    walk_at "rd"
    refine it_lt (fun hlt => ?_) (fun _ => ?_)
    · rw [List.length_map] at hlt
      have hk : k.toNat < cs.length := by omega
      refine ⟨_, rfl, _, rfl, a, _, _, .int cs[k.toNat], rfl, rfl, hc, at_of (j := k.toNat) (by omega) (ix_map (List.getElem?_eq_getElem hk)), ?_⟩
      exact q _ (hb _ (List.getElem_mem hk)).1 (hb _ (List.getElem_mem hk)).2
    · walk_at "rd"
      have h3 : 0 ≤ (k + 3) * (k + 7) := Int.mul_nonneg (by omega) (by omega)
      have h4 : (k + 3) * (k + 7) ≤ 1003 * (k + 7) := Int.mul_le_mul_of_nonneg_right (by omega) (by omega)
      exact q _ (by show 0 ≤ (k + 3) * (k + 7) * 7919; omega) (by show (k + 3) * (k + 7) * 7919 < _; omega)
abbrev s_mixed : Stmt := topS 10
theorem sc_mixed : FnScope ["_law_script", "_law_found", "_law_more", "_law_cell"] ["_law_script"] (defScope s_mixed) := ⟨rfl, rfl, rfl, by decide +kernel, rfl, by decide +kernel, by decide +kernel⟩
theorem bd_mixed : ∀ (kV doc pm : Value) (an : Option Addr) (cdv ct : Value) (us : List Value), us.length = (["_law_script"] : List Str).length → bindArgs (PySem.W.fnOf "_law_mixed" "_law_mixed" (defArgs s_mixed) (defBody s_mixed) (defScope s_mixed) .none kV doc pm an cdv ct) ⟨us, []⟩ = pure ((["_law_script"] : List Str).zip us) := fun _ _ _ _ _ _ us hl => match us, hl with | [_], _ => rfl
def spMixed (K : PySem.W.Frag) : Sp := fun vs H Q _ => ∃ (a : Addr) (ns : List Int), vs = [.ref a] ∧ SqL K H a (ns.map V.int) ∧ ns.length ≤ 63 ∧ ∀ p H', Same H H' → CellsAt K H' p → Q (.ref p) H'
theorem ok_mixed {P : Program} {w : World} {K : PySem.W.Frag} {mg : Str → Option Value} {base : Heap} (D : DefAt K mg "_law_mixed" s_mixed) : Clb P w K mg base 1 "_law_mixed" ["_law_script"] (spMixed K) := by
  refine D.clb sc_mixed (fun vs H Q E h => ?_) bd_mixed (fun f cdv A outer s H vs Q E hr h => ?_)
  · obtain ⟨a, ns, rfl, _⟩ := h
    rfl
  · obtain ⟨a, ns, rfl, hS, hl, q⟩ := h
    refine ⟨_, (pss_cons (ps_set (i := 1) sc_mixed.nd rfl (.inl rfl) (pe_lst pa_nil))
    (pss_cons (ps_set (i := 2) sc_mixed.nd rfl (.inl rfl) pe_int)
    (pss_cons (ps_for PassesOwn.never rfl (kpi_list K (pv 0)) (pg_name (i := 3) sc_mixed.nd rfl (.inl rfl))
      (pss_cons (ps_set (i := 2) sc_mixed.nd rfl (.inl rfl) (pe_op op_mod (pe_op op_add (pe_op op_add (pe_op op_mul (pv 2) pe_int) (pv 3)) pe_int) pe_int))
    (pss_one (ps_expr (kpe_bm K PySem.F.plainAttrs_list PySem.F.slot_list_append PySem.F.type_list_append mt_append (pv 1) (pa_cons (pv 2) pa_nil))))))
    (pss_one (ps_ret (pv 1)))))), ?_⟩
    refine ⟨Nat.zero_le _, fun p hp => ?_⟩
    refine ⟨_, rfl, a, rfl, ⟨_, (same_upd hp).seq hS⟩, for_list (xs := ns.map V.int) (fun i σ H' => ∃ (cs : List Int) (m : Int) (y : Option V), σ = [some (.ref a), some (.ref p), some (.int m), y] ∧ Same H H' ∧ H' p = some (.lst (cs.map V.int)) ∧ cs.length = i ∧
      (0 ≤ m ∧ m < 1000000000000000003) ∧ ∀ c ∈ cs, 0 ≤ c ∧ c < 1000000000000000003) ⟨[], 1, none, rfl, same_upd hp, upd_same, rfl, by decide, fun _ h => nomatch h⟩ (fun i σ H' _ h => ?_) (fun i x σ H' hx h => ?_) (fun σ H' h => ?_)⟩
    · obtain ⟨cs, m, y, _, sm, _⟩ := h
      exact sm.seq hS
    · obtain ⟨cs, m, y, rfl, sm, hcs, hi, hm, hb⟩ := h
      obtain ⟨n, hn, rfl⟩ := map_ix hx
      have hlt : i < ns.length := (List.getElem?_eq_some_iff.mp hn).1
      walk_at "rd"
      refine ⟨.inl ⟨rfl, _, sqL hcs⟩, ?_⟩
      refine ⟨_, rfl, p, _, _, rfl, rfl, hcs, small' (by rw [List.length_map]; omega), ?_⟩
      have h1 : 0 ≤ (m * 6364136223846793005 + n + 1442695040888963407) % 1000000000000000003 := Int.emod_nonneg _ (by decide)
      have h2 : (m * 6364136223846793005 + n + 1442695040888963407) % 1000000000000000003 < 1000000000000000003 := Int.emod_lt_of_pos _ (by decide)
      refine ⟨cs ++ [(m * 6364136223846793005 + n + 1442695040888963407) % 1000000000000000003], _, _, rfl, sm.mut hp, ?_, ?_, ⟨h1, h2⟩, fun c hc => ?_⟩
      · rw [upd_same, List.map_append]; rfl
      · rw [List.length_append, hi]; rfl
      · rcases List.mem_append.mp hc with z | z
        · exact hb c z
        · rw [List.mem_singleton.mp z]
          exact ⟨h1, h2⟩
    · obtain ⟨cs, m, y, rfl, sm, hcs, hi, hm, hb⟩ := h
      rw [List.length_map] at hi
      exact ⟨_, rfl, q p H' sm ⟨cs, sqL hcs, by omega, hb⟩⟩
abbrev s_whole : Stmt := topS 13
theorem sc_whole : FnScope ["_law_found"] ["_law_found"] (defScope s_whole) := ⟨rfl, rfl, rfl, by decide +kernel, rfl, by decide +kernel, by decide +kernel⟩
theorem bd_whole : ∀ (kV doc pm : Value) (an : Option Addr) (cdv ct : Value) (us : List Value), us.length = (["_law_found"] : List Str).length → bindArgs (PySem.W.fnOf "_law_whole" "_law_whole" (defArgs s_whole) (defBody s_whole) (defScope s_whole) .none kV doc pm an cdv ct) ⟨us, []⟩ = pure ((["_law_found"] : List Str).zip us) := fun _ _ _ _ _ _ us hl => match us, hl with | [_], _ => rfl
def spWhole : Sp := fun vs H Q _ => ∃ n : Int, vs = [.int n] ∧ Q (.bl true) H
theorem ok_whole {P : Program} {w : World} {K : PySem.W.Frag} {mg : Str → Option Value} {base : Heap} (D : DefAt K mg "_law_whole" s_whole) (m_isinstance : mg "isinstance" = none) (m_int : mg "int" = none) (m_bool : mg "bool" = none) :
    Clb P w K mg base 1 "_law_whole" ["_law_found"] spWhole := by
  refine D.clb sc_whole (fun vs H Q E h => ?_) bd_whole (fun f cdv A outer s H vs Q E hr h => ?_)
  · obtain ⟨n, rfl, _⟩ := h
    rfl
  · obtain ⟨n, rfl, q⟩ := h
    refine ⟨_, (pss_one (ps_ret (pe_and (pe_callB (kcall_isi K) (by rfl) m_isinstance (by decide +kernel) (pa_cons (pv 0) (pa_cons (pe_bltn (v := .ty "int") (u := .type "int") (by rfl) m_int (by decide +kernel) rfl) pa_nil))) (pe_one (pe_not (pe_callB (kcall_isi K) (by rfl) m_isinstance (by decide +kernel) (pa_cons (pv 0) (pa_cons (pe_bltn (v := .ty "bool") (u := .type "bool") (by rfl) m_bool (by decide +kernel) rfl) pa_nil)))))))), ?_⟩
    refine ⟨_, rfl, ?_⟩
    refine ⟨_, _, _, _, true, rfl, .ty _, .base (.int n), kit_ty (by decide +kernel), ?_⟩
    refine ⟨_, rfl, iteT ?_⟩
    refine ⟨_, rfl, ?_⟩
    refine ⟨_, _, _, _, false, rfl, .ty _, .base (.int n), kit_ty (by decide +kernel), ?_⟩
    exact ⟨_, rfl, q⟩
abbrev s_numbers : Stmt := topS 14
theorem sc_numbers : FnScope ["_law_found", "_law_due", "_law_k"] ["_law_found", "_law_due"] (defScope s_numbers) := ⟨rfl, rfl, rfl, by decide +kernel, rfl, by decide +kernel, by decide +kernel⟩
theorem bd_numbers : ∀ (kV doc pm : Value) (an : Option Addr) (cdv ct : Value) (us : List Value), us.length = (["_law_found", "_law_due"] : List Str).length → bindArgs (PySem.W.fnOf "_law_numbers" "_law_numbers" (defArgs s_numbers) (defBody s_numbers) (defScope s_numbers) .none kV doc pm an cdv ct) ⟨us, []⟩ = pure ((["_law_found", "_law_due"] : List Str).zip us) := fun _ _ _ _ _ _ us hl => match us, hl with | [_, _], _ => rfl
def spNumbers (K : PySem.W.Frag) : Sp := fun vs H Q _ => ∃ (a b : Addr) (ns : List Int), vs = [.ref a, .ref b] ∧ H a = some (.tup (ns.map V.int)) ∧ (SqL K H b (ns.map V.int) ∨ SqT K H b (ns.map V.int)) ∧ ns.length ≤ 1000 ∧ Q (.bl true) H
theorem ok_numbers {P : Program} {w : World} {K : PySem.W.Frag} {mg : Str → Option Value} {base : Heap} (D : DefAt K mg "_law_numbers" s_numbers) (m_isinstance : mg "isinstance" = none) (m_tuple : mg "tuple" = none) (m_len : mg "len" = none) (m_range : mg "range" = none)
    (C_whole : Clb P w K mg base 1 "_law_whole" ["_law_found"] spWhole) :
    Clb P w K mg base 2 "_law_numbers" ["_law_found", "_law_due"] (spNumbers K) := by
  refine D.clb sc_numbers (fun vs H Q E h => ?_) bd_numbers (fun f cdv A outer s H vs Q E hr h => ?_)
  · obtain ⟨a, b, ns, rfl, _⟩ := h
    rfl
  · obtain ⟨a, b, ns, rfl, ha, hb, hz, q⟩ := h
    have hT : SqT K H a (ns.map V.int) := sqT ha
    refine ⟨_, (C8.pss_cut (ps_if (PW.pt (pw_or (pt_not (pt_val (pe_callB (kcall_isi K) (by rfl) m_isinstance (by decide +kernel) (pa_cons (pv 0) (pa_cons (pe_bltn (v := .ty "tuple") (u := .type "tuple") (by rfl) m_tuple (by decide +kernel) rfl) pa_nil))))) (pw_or1 (pt_cmpR op_ne (pe_callB (kcall_len_seq K) (by rfl) m_len (by decide +kernel) (pa_cons (pv 0) pa_nil)) (pe_callB (kcall_len_seq K) (by rfl) m_len (by decide +kernel) (pa_cons (pv 1) pa_nil)) (nomark _)))))
      (pss_one (ps_ret pe_bl))
      pss_nil)
    (pss_cons (ps_for PassesOwn.never rfl (pi_range1 (by rfl) m_range (pa_cons (pe_callB (kcall_len_seq K) (by rfl) m_len (by decide +kernel) (pa_cons (pv 1) pa_nil)) pa_nil)) (pg_name (i := 2) sc_numbers.nd rfl (.inl rfl))
      (pss_one (ps_if (PW.pt (pw_or (pt_not (pt_val (pe_cal C_whole (hr.mono (by decide)) (pa_cons (pe_ix (kix_tup K) (pv 0) (pv 2) (fun _ _ => rfl)) pa_nil)))) (pw_or1 (pt_cmpR op_ne (pe_ix (kix_tup K) (pv 0) (pv 2) (fun _ _ => rfl)) (pe_ix (kix_seq K) (pv 1) (pv 2) (fun _ _ => rfl)) (nomark _)))))
      (pss_one (ps_ret pe_bl))
      pss_nil)))
    (pss_one (ps_ret pe_bl)))), ?_⟩
    refine ⟨fun σ' H' => σ' = [some (.ref a), some (.ref b), none] ∧ H = H', ?_, fun σ' H' h => ?_⟩
    · refine ⟨_, rfl, ?_⟩
      refine ⟨_, _, _, _, true, rfl, .ty _, .base (.tup ha), kit_ty (by decide +kernel), ?_⟩
      refine ⟨_, rfl, iteF ?_⟩
      refine ⟨_, rfl, a, _, rfl, .inr hT, ?_⟩
      refine ⟨_, rfl, b, _, rfl, hb, ?_⟩
      walk_at "rd"
      refine it_neI (fun z => absurd rfl z) (fun _ => ?_)
      exact ⟨rfl, rfl⟩
    obtain ⟨rfl, rfl⟩ := h
    refine ⟨_, rfl, b, _, rfl, hb, ?_⟩
    refine ⟨_, rfl, by omega, by rw [List.length_map]; omega, ?_⟩
    refine for_range (lo := 0) (fun i σ H' => ∃ y : Option V, σ = [some (.ref a), some (.ref b), y] ∧ H' = H) ⟨none, rfl, rfl⟩ (fun i σ H' hi h => ?_) (fun σ H' h => ?_)
    · obtain ⟨y, rfl, rfl⟩ := h
      have hi' : i < ns.length := by rw [List.length_map] at hi; omega
      have e1 : (ns.map V.int)[i]? = some (.int ns[i]) := ix_map (List.getElem?_eq_getElem hi')
      refine ⟨_, rfl, _, rfl, a, _, _, _, rfl, rfl, hT, at_of (j := i) (by omega) e1, ?_⟩
      refine ⟨_, rfl, _, rfl, iteF ?_⟩
      refine ⟨_, rfl, _, rfl, a, _, _, _, rfl, rfl, hT, at_of (j := i) (by omega) e1, ?_⟩
      refine ⟨_, rfl, _, rfl, b, _, _, _, rfl, rfl, hb, at_of (j := i) (by omega) e1, ?_⟩
      walk_at "rd"
      refine it_neI (fun z => absurd rfl z) (fun _ => ?_)
      exact ⟨_, rfl, rfl⟩
    · obtain ⟨y, rfl, rfl⟩ := h
      exact q
abbrev s_amount : Stmt := topS 16
theorem sc_amount : FnScope ["_law_cell", "_law_most", "_law_way"] ["_law_cell", "_law_most"] (defScope s_amount) := ⟨rfl, rfl, rfl, by decide +kernel, rfl, by decide +kernel, by decide +kernel⟩
theorem bd_amount : ∀ (kV doc pm : Value) (an : Option Addr) (cdv ct : Value) (us : List Value), us.length = (["_law_cell", "_law_most"] : List Str).length → bindArgs (PySem.W.fnOf "_law_amount" "_law_amount" (defArgs s_amount) (defBody s_amount) (defScope s_amount) .none kV doc pm an cdv ct) ⟨us, []⟩ = pure ((["_law_cell", "_law_most"] : List Str).zip us) := fun _ _ _ _ _ _ us hl => match us, hl with | [_, _], _ => rfl
def spAmount : Sp := fun vs H Q _ => ∃ c : Int, vs = [.int c, .int 200] ∧ ∀ z : Int, 1 ≤ z → z ≤ 200 → Q (.int z) H
theorem ok_amount {P : Program} {w : World} {K : PySem.W.Frag} {mg : Str → Option Value} {base : Heap} (D : DefAt K mg "_law_amount" s_amount) : Clb P w K mg base 1 "_law_amount" ["_law_cell", "_law_most"] spAmount := by
  refine D.clb sc_amount (fun vs H Q E h => ?_) bd_amount (fun f cdv A outer s H vs Q E hr h => ?_)
  · obtain ⟨c, rfl, _⟩ := h
    rfl
  · obtain ⟨c, rfl, q⟩ := h
    refine ⟨_, (pss_cons (ps_set (i := 2) sc_amount.nd rfl (.inl rfl) (pe_op op_mod (pv 0) pe_int))
    (pss_cons (ps_if (pt_cmpR op_eq (pv 2) pe_int (nomark _))
      (pss_one (ps_ret (pe_op op_add pe_int (pe_op op_mod (pe_op op_fdiv (pv 0) pe_int) (pv 1)))))
      pss_nil)
    (pss_cons (ps_if (pt_cmpR op_eq (pv 2) pe_int (nomark _))
      (pss_one (ps_ret (pe_op op_add pe_int (pe_op op_mod (pe_op op_fdiv (pv 0) pe_int) pe_int))))
      pss_nil)
    (pss_one (ps_ret (pe_op op_add pe_int (pe_op op_mod (pe_op op_fdiv (pv 0) pe_int) pe_int))))))), ?_⟩
    have e1 := Int.emod_nonneg (c / 8) (show (200 : Int) ≠ 0 by decide)
    have e2 := Int.emod_lt_of_pos (c / 8) (show (0 : Int) < 200 by decide)
    have e3 := Int.emod_nonneg (c / 8) (show (60 : Int) ≠ 0 by decide)
    have e4 := Int.emod_lt_of_pos (c / 8) (show (0 : Int) < 60 by decide)
    have e5 := Int.emod_nonneg (c / 8) (show (12 : Int) ≠ 0 by decide)
    have e6 := Int.emod_lt_of_pos (c / 8) (show (0 : Int) < 12 by decide)
    walk_at "rd"
    refine it_eqI (fun _ => ?_) (fun _ => ?_)
    · walk_at "rd"
      exact q _ (by show 1 ≤ 1 + _; omega) (by show 1 + _ ≤ (200 : Int); omega)
    · walk_at "rd"
      refine it_eqI (fun _ => ?_) (fun _ => ?_)
      · walk_at "rd"
        exact q _ (by show 1 ≤ 1 + _; omega) (by show 1 + _ ≤ (200 : Int); omega)
      · walk_at "rd"
        exact q _ (by show 1 ≤ 1 + _; omega) (by show 1 + _ ≤ (200 : Int); omega)
abbrev s_last : Stmt := topS 17
theorem sc_last : FnScope ["_law_cell"] ["_law_cell"] (defScope s_last) := ⟨rfl, rfl, rfl, by decide +kernel, rfl, by decide +kernel, by decide +kernel⟩
theorem bd_last : ∀ (kV doc pm : Value) (an : Option Addr) (cdv ct : Value) (us : List Value), us.length = (["_law_cell"] : List Str).length → bindArgs (PySem.W.fnOf "_law_last" "_law_last" (defArgs s_last) (defBody s_last) (defScope s_last) .none kV doc pm an cdv ct) ⟨us, []⟩ = pure ((["_law_cell"] : List Str).zip us) := fun _ _ _ _ _ _ us hl => match us, hl with | [_], _ => rfl
def spLast : Sp := fun vs H Q _ => ∃ c : Int, vs = [.int c] ∧ ∀ z : Int, 1 ≤ z → z ≤ 99 → Q (.int z) H
theorem ok_last {P : Program} {w : World} {K : PySem.W.Frag} {mg : Str → Option Value} {base : Heap} (D : DefAt K mg "_law_last" s_last) : Clb P w K mg base 1 "_law_last" ["_law_cell"] spLast := by
  refine D.clb sc_last (fun vs H Q E h => ?_) bd_last (fun f cdv A outer s H vs Q E hr h => ?_)
  · obtain ⟨c, rfl, _⟩ := h
    rfl
  · obtain ⟨c, rfl, q⟩ := h
    refine ⟨_, (pss_cons (ps_if (pt_cmpR op_eq (pe_op op_mod (pv 0) pe_int) pe_int (nomark _))
      (pss_one (ps_ret (pe_op op_add pe_int (pe_op op_mod (pe_op op_fdiv (pv 0) pe_int) pe_int))))
      pss_nil)
    (pss_cons (ps_if (pt_cmpR op_lt (pe_op op_mod (pv 0) pe_int) pe_int (nomark _))
      (pss_one (ps_ret (pe_op op_add pe_int (pe_op op_mod (pe_op op_fdiv (pv 0) pe_int) pe_int))))
      pss_nil)
    (pss_one (ps_ret (pe_op op_add pe_int (pe_op op_mod (pe_op op_fdiv (pv 0) pe_int) pe_int)))))), ?_⟩
    have e1 := Int.emod_nonneg (c / 6) (show (99 : Int) ≠ 0 by decide)
    have e2 := Int.emod_lt_of_pos (c / 6) (show (0 : Int) < 99 by decide)
    have e3 := Int.emod_nonneg (c / 6) (show (2 : Int) ≠ 0 by decide)
    have e4 := Int.emod_lt_of_pos (c / 6) (show (0 : Int) < 2 by decide)
    have e5 := Int.emod_nonneg (c / 6) (show (9 : Int) ≠ 0 by decide)
    have e6 := Int.emod_lt_of_pos (c / 6) (show (0 : Int) < 9 by decide)
    walk_at "rd"
    refine it_eqI (fun _ => ?_) (fun _ => ?_)
    · walk_at "rd"
      exact q _ (by show 1 ≤ 1 + _; omega) (by show 1 + _ ≤ (99 : Int); omega)
    · walk_at "rd"
      refine it_lt (fun _ => ?_) (fun _ => ?_)
      · walk_at "rd"
        exact q _ (by show 1 ≤ 7 + _; omega) (by show 7 + _ ≤ (99 : Int); omega)
      · walk_at "rd"
        exact q _ (by show 1 ≤ 1 + _; omega) (by show 1 + _ ≤ (99 : Int); omega)
abbrev s_many : Stmt := topS 21
theorem sc_many : FnScope ["_law_cell", "_law_few", "_law_room"] ["_law_cell", "_law_few", "_law_room"] (defScope s_many) := ⟨rfl, rfl, rfl, by decide +kernel, rfl, by decide +kernel, by decide +kernel⟩
theorem bd_many : ∀ (kV doc pm : Value) (an : Option Addr) (cdv ct : Value) (us : List Value), us.length = (["_law_cell", "_law_few", "_law_room"] : List Str).length → bindArgs (PySem.W.fnOf "_law_many" "_law_many" (defArgs s_many) (defBody s_many) (defScope s_many) .none kV doc pm an cdv ct) ⟨us, []⟩ = pure ((["_law_cell", "_law_few", "_law_room"] : List Str).zip us) := fun _ _ _ _ _ _ us hl => match us, hl with | [_, _, _], _ => rfl
def spMany : Sp := fun vs H Q _ => ∃ c few room : Int, vs = [.int c, .int few, .int room] ∧ 0 ≤ few ∧ few ≤ room ∧ ∀ z : Int, 0 ≤ z → z ≤ room → Q (.int z) H
theorem ok_many {P : Program} {w : World} {K : PySem.W.Frag} {mg : Str → Option Value} {base : Heap} (D : DefAt K mg "_law_many" s_many) : Clb P w K mg base 1 "_law_many" ["_law_cell", "_law_few", "_law_room"] spMany := by
  refine D.clb sc_many (fun vs H Q E h => ?_) bd_many (fun f cdv A outer s H vs Q E hr h => ?_)
  · obtain ⟨c, few, room, rfl, _⟩ := h
    rfl
  · obtain ⟨c, few, room, rfl, h0, h1, q⟩ := h
    refine ⟨_, (pss_cons (ps_if (pt_cmpR op_eq (pe_op op_mod (pv 0) pe_int) pe_int (nomark _))
      (pss_one (ps_ret (pe_op op_mod (pe_op op_fdiv (pv 0) pe_int) (pe_op op_add (pv 2) pe_int))))
      pss_nil)
    (pss_one (ps_ret (pe_op op_mod (pe_op op_fdiv (pv 0) pe_int) (pe_op op_add (pv 1) pe_int))))), ?_⟩
    have e1 := Int.emod_nonneg (c / 24) (show room + 1 ≠ 0 by omega)
    have e2 := Int.emod_lt_of_pos (c / 24) (show 0 < room + 1 by omega)
    have e3 := Int.emod_nonneg (c / 24) (show few + 1 ≠ 0 by omega)
    have e4 := Int.emod_lt_of_pos (c / 24) (show 0 < few + 1 by omega)
    walk_at "rd"
    refine it_eqI (fun _ => ?_) (fun _ => ?_)
    · walk_at "rd"
      refine ⟨(by show 0 < room + 1; omega), q _ e1 (by show c / 24 % (room + 1) ≤ room; omega)⟩
    · walk_at "rd"
      refine ⟨(by show 0 < few + 1; omega), q _ e3 (by show c / 24 % (few + 1) ≤ room; omega)⟩
abbrev s_names : Stmt := topS 20
theorem sc_names : FnScope ["_law_cells", "_law_seed", "_law_many_here"] ["_law_cells"] (defScope s_names) := ⟨rfl, rfl, rfl, by decide +kernel, rfl, by decide +kernel, by decide +kernel⟩
theorem bd_names : ∀ (kV doc pm : Value) (an : Option Addr) (cdv ct : Value) (us : List Value), us.length = (["_law_cells"] : List Str).length → bindArgs (PySem.W.fnOf "_law_names" "_law_names" (defArgs s_names) (defBody s_names) (defScope s_names) .none kV doc pm an cdv ct) ⟨us, []⟩ = pure ((["_law_cells"] : List Str).zip us) := fun _ _ _ _ _ _ us hl => match us, hl with | [_], _ => rfl
/-- the seed of the names, how many there are -/
def NamesAt (K : PySem.W.Frag) (H : Hp) (a : Addr) (seed many : Int) : Prop := H a = some (.lst [.int seed, .int many]) ∧ 1 ≤ many ∧ many ≤ 12
theorem NamesAt.same {K : PySem.W.Frag} {H H' : Hp} {a : Addr} {s m : Int} (h : NamesAt K H a s m) (e : Same H H') : NamesAt K H' a s m := ⟨e _ _ h.1, h.2⟩
def spNames (K : PySem.W.Frag) : Sp := fun vs H Q _ => ∃ a : Addr, vs = [.ref a] ∧ CellsAt K H a ∧ ∀ p H' seed many, Same H H' → NamesAt K H' p seed many → Q (.ref p) H'
theorem ok_names {P : Program} {w : World} {K : PySem.W.Frag} {mg : Str → Option Value} {base : Heap} (D : DefAt K mg "_law_names" s_names) (C_cell_at : Clb P w K mg base 1 "_law_cell_at" ["_law_cells", "_law_k"] (spCellAt K)) :
    Clb P w K mg base 2 "_law_names" ["_law_cells"] (spNames K) := by
  refine D.clb sc_names (fun vs H Q E h => ?_) bd_names (fun f cdv A outer s H vs Q E hr h => ?_)
  · obtain ⟨a, rfl, _⟩ := h
    rfl
  · obtain ⟨a, rfl, hc, q⟩ := h
    refine ⟨_, (pss_cons (ps_set (i := 1) sc_names.nd rfl (.inl rfl) (pe_cal C_cell_at (hr.mono (by decide)) (pa_cons (pv 0) (pa_cons pe_int pa_nil))))
    (pss_cons (ps_set (i := 2) sc_names.nd rfl (.inl rfl) (pe_ix (kix_list K) (pe_lst (pa_cons pe_int (pa_cons pe_int (pa_cons pe_int (pa_cons pe_int pa_nil))))) (pe_op op_mod (pe_cal C_cell_at (hr.mono (by decide)) (pa_cons (pv 0) (pa_cons pe_int pa_nil))) pe_int) (fun _ _ => rfl)))
    (C8.pss_cut (ps_if (pt_cmpR op_eq (pe_op op_mod (pe_op op_fdiv (pe_cal C_cell_at (hr.mono (by decide)) (pa_cons (pv 0) (pa_cons pe_int pa_nil))) pe_int) pe_int) pe_int (nomark _))
      (pss_one (ps_set (i := 2) sc_names.nd rfl (.inl rfl) pe_int))
      pss_nil)
    (pss_one (ps_ret (pe_lst (pa_cons (pv 1) (pa_cons (pv 2) pa_nil)))))))), ?_⟩
    refine ⟨_, rfl, a, 0, rfl, hc, by decide, by decide, fun seed s0 s1 => ?_⟩
    refine ⟨small (by show 4 ≤ 100000; decide), fun p hp => ?_⟩
    have sp := same_upd (o := .lst [V.int 1, V.int 2, V.int 3, V.int 4]) hp
    refine ⟨_, rfl, a, 1, rfl, hc.same sp, by decide, by decide, fun c1 _ _ => ?_⟩
    have m1 := Int.emod_nonneg c1 (show (4 : Int) ≠ 0 by decide)
    have m2 := Int.emod_lt_of_pos c1 (show (0 : Int) < 4 by decide)
    have hm : ∃ m : Int, atI [V.int 1, V.int 2, V.int 3, V.int 4] (c1 % 4) = some (.int m) ∧ 1 ≤ m ∧ m ≤ 12 := by
      have : c1 % 4 = 0 ∨ c1 % 4 = 1 ∨ c1 % 4 = 2 ∨ c1 % 4 = 3 := by omega
      rcases this with e | e | e | e <;> rw [e]
      · exact ⟨1, rfl, by decide, by decide⟩
      · exact ⟨2, rfl, by decide, by decide⟩
      · exact ⟨3, rfl, by decide, by decide⟩
      · exact ⟨4, rfl, by decide, by decide⟩
    obtain ⟨m, em, h1, h2⟩ := hm
    walk_at "rd"
    refine ⟨p, _, _, _, rfl, rfl, sqL upd_same, em, ?_⟩
    walk_at "rd"
    refine ⟨fun σ' H' => ∃ m : Int, σ' = [some (.ref a), some (.int seed), some (.int m)] ∧ H' = upd H p (.lst [V.int 1, V.int 2, V.int 3, V.int 4]) ∧ 1 ≤ m ∧ m ≤ 12, ?_, fun σ' H' h => ?_⟩
    · refine ⟨_, rfl, a, 1, rfl, hc.same sp, by decide, by decide, fun c2 _ _ => ?_⟩
      walk_at "rd"
      refine it_eqI (fun _ => ?_) (fun _ => ?_)
      · exact ⟨12, rfl, rfl, by decide, by decide⟩
      · exact ⟨m, rfl, rfl, h1, h2⟩
    · obtain ⟨m, rfl, rfl, h1, h2⟩ := h
      refine ⟨_, rfl, _, rfl, small (by show 2 ≤ 100000; decide), fun r hr => ?_⟩
      exact q r _ seed m (sp.new hr) ⟨upd_same, h1, h2⟩
abbrev s_name_by : Stmt := topS 15
theorem sc_name_by : FnScope ["_law_seed", "_law_k", "_law_signs", "_law_words", "_law_more", "_law_name", "_law_at", "_law_turn", "_law_spot", "_law_two", "_law_sign"] ["_law_seed", "_law_k"] (defScope s_name_by) := ⟨rfl, rfl, rfl, by decide +kernel, rfl, by decide +kernel, by decide +kernel⟩
theorem bd_name_by : ∀ (kV doc pm : Value) (an : Option Addr) (cdv ct : Value) (us : List Value), us.length = (["_law_seed", "_law_k"] : List Str).length → bindArgs (PySem.W.fnOf "_law_name_by" "_law_name_by" (defArgs s_name_by) (defBody s_name_by) (defScope s_name_by) .none kV doc pm an cdv ct) ⟨us, []⟩ = pure ((["_law_seed", "_law_k"] : List Str).zip us) := fun _ _ _ _ _ _ us hl => match us, hl with | [_, _], _ => rfl
def spNameBy : Sp := fun vs H Q _ => ∃ seed k : Int, vs = [.int seed, .int k] ∧ 0 ≤ k ∧ k ≤ 100 ∧ ∀ H', Same H H' → Q (.str (nameBy seed k)) H'
theorem ok_name_by {P : Program} {w : World} {K : PySem.W.Frag} {mg : Str → Option Value} {base : Heap} (D : DefAt K mg "_law_name_by" s_name_by) (m_len : mg "len" = none) (m_min : mg "min" = none) (m_range : mg "range" = none) :
    Clb P w K mg base 1 "_law_name_by" ["_law_seed", "_law_k"] spNameBy := by
  refine D.clb sc_name_by (fun vs H Q E h => ?_) bd_name_by (fun f cdv A outer s H vs Q E hr h => ?_)
  · obtain ⟨seed, k, rfl, _⟩ := h
    rfl
  · obtain ⟨seed, k, rfl, h0, h1, q⟩ := h
    refine ⟨_, (pss_cons (ps_set (i := 2) sc_name_by.nd rfl (.inl rfl) pe_str)
    (pss_cons (ps_set (i := 3) sc_name_by.nd rfl (.inl rfl) (pe_lst (pa_cons pe_str (pa_cons pe_str (pa_cons pe_str (pa_cons pe_str (pa_cons pe_str (pa_cons pe_str (pa_cons pe_str (pa_cons pe_str (pa_cons pe_str (pa_cons pe_str (pa_cons pe_str pa_nil)))))))))))))
    (pss_cons (ps_set (i := 4) sc_name_by.nd rfl (.inl rfl) (pe_op op_fdiv (pv 0) pe_int))
    (C8.pss_cut (ps_if (PW.pt (pw_and (pt_cmpR op_eq (pe_op op_mod (pv 0) pe_int) pe_int (nomark _)) (pw_and1 (pt_cmpR op_lt (pv 1) pe_int (nomark _)))))
      (pss_one (ps_ret (pe_ix (kix_list K) (pv 3) (pe_op op_mod (pe_op op_add (pv 4) (pv 1)) pe_int) (fun _ _ => rfl))))
      pss_nil)
    (pss_cons (ps_set (i := 5) sc_name_by.nd rfl (.inl rfl) pe_str)
    (pss_cons (ps_set (i := 6) sc_name_by.nd rfl (.inl rfl) (pe_op op_fdiv (pv 4) pe_int))
    (pss_cons (ps_for PassesOwn.never rfl (pi_range1 (by rfl) m_range (pa_cons (pe_op op_add pe_int (pe_op op_mod (pv 4) pe_int)) pa_nil)) (pg_name (i := 7) sc_name_by.nd rfl (.inl rfl))
      (pss_cons (ps_set (i := 6) sc_name_by.nd rfl (.inl rfl) (pe_op op_add (pe_op op_add (pv 6) pe_int) (pe_op op_mod (pe_op op_fdiv (pv 4) pe_int) pe_int)))
    (pss_one (ps_set (i := 5) sc_name_by.nd rfl (.inl rfl) (pe_op op_add_str (pv 5) (pe_ix ix_str (pv 2) (pe_op op_mod (pv 6) pe_int) (fun _ _ => rfl)))))))
    (pss_cons (ps_set (i := 8) sc_name_by.nd rfl (.inl rfl) (pe_op op_mod (pe_op op_fdiv (pv 4) pe_int) (pe_callB call_len_str (by rfl) m_len (by decide +kernel) (pa_cons (pv 5) pa_nil))))
    (pss_cons (ps_if (pt_cmpR op_gt (pv 1) pe_int (nomark _))
      (pss_cons (ps_set (i := 9) sc_name_by.nd rfl (.inl rfl) (pe_op op_add_str (pe_ix ix_str (pv 2) (pe_op op_mod (pe_op op_add (pv 6) (pe_op op_fdiv (pv 1) pe_int)) pe_int) (fun _ _ => rfl)) (pe_ix ix_str (pv 2) (pe_op op_mod (pv 1) pe_int) (fun _ _ => rfl))))
    (pss_one (ps_ret (pe_op op_add_str (pe_op op_add_str (pe_slice sl_str (pv 5) po_none (po_some (pe_callB (call_min2 rfl) (by rfl) m_min (by decide +kernel) (pa_cons (pv 8) (pa_cons pe_int pa_nil))))) (pv 9)) (pe_slice sl_str (pv 5) (po_some (pe_callB (call_min2 rfl) (by rfl) m_min (by decide +kernel) (pa_cons (pv 8) (pa_cons pe_int pa_nil)))) (po_some pe_int))))))
      pss_nil)
    (pss_cons (ps_if (pt_cmpR op_gt (pe_op op_mod (pv 0) pe_int) pe_int (nomark _))
      (pss_one (ps_ret (pe_op op_add_str (pe_ix ix_str (pv 2) (pe_op op_mod (pe_op op_add (pe_op op_fdiv (pv 4) pe_int) (pv 1)) pe_int) (fun _ _ => rfl)) (pv 5))))
      pss_nil)
    (pss_cons (ps_if (pt_cmpR op_eq (pv 1) pe_int (nomark _))
      (pss_cons (ps_set (i := 10) sc_name_by.nd rfl (.inl rfl) (pe_ix ix_str (pv 2) (pe_op op_mod (pe_op op_add (pe_m1 PySem.F.slot_str_find PySem.F.type_str_find mt_find (pv 2) (pe_ix ix_str (pv 5) (pv 8) (fun _ _ => rfl))) pe_int) pe_int) (fun _ _ => rfl)))
    (pss_one (ps_ret (pe_op op_add_str (pe_op op_add_str (pe_slice sl_str (pv 5) po_none (po_some (pv 8))) (pv 10)) (pe_slice sl_str (pv 5) (po_some (pe_op op_add (pv 8) pe_int)) po_none)))))
      pss_nil)
    (pss_one (ps_ret (pe_op op_add_str (pv 5) (pe_ix (kix_list K) (pe_lst (pa_cons pe_str (pa_cons pe_str (pa_cons (pe_ix ix_str (pv 2) (pe_op op_mod (pv 6) pe_int) (fun _ _ => rfl)) (pa_cons (pe_ix ix_str (pv 2) (pe_op op_mod (pe_op op_add (pv 6) pe_int) pe_int) (fun _ _ => rfl)) pa_nil))))) (pv 1) (fun _ _ => rfl)))))))))))))))), ?_⟩
    refine ⟨small (by show 11 ≤ 100000; decide), fun p hp => ?_⟩
    have sp := same_upd (o := .lst (words.map V.str)) hp
    walk_at "rd"
    refine ⟨fun σ' H' => σ' = [some (.int seed), some (.int k), some (.str sgn), some (.ref p), some (.int (seed / 6)), none, none, none, none, none, none] ∧ H' = upd H p (.lst (words.map V.str)) ∧ ¬ (seed % 6 = 0 ∧ k < 4), ?_, fun σ' H' h => ?_⟩
    · walk_at "rd"
      refine it_eqI (fun e6 => ?_) (fun e6 => ?_)
      · walk_at "rd"
        refine it_lt (fun ek => ?_) (fun ek => ?_)
        · walk_at "rd"
          have m1 := Int.emod_nonneg (seed / 6 + k) (show (11 : Int) ≠ 0 by decide)
          have m2 := Int.emod_lt_of_pos (seed / 6 + k) (show (0 : Int) < 11 by decide)
          have hl : ((seed / 6 + k) % 11).toNat < words.length := by show _ < 11; omega
          refine ⟨p, words.map V.str, _, _, rfl, rfl, sqL upd_same, at_of (j := ((seed / 6 + k) % 11).toNat) (by omega) (ix_map (List.getElem?_eq_getElem hl)), ?_⟩
          have e : nameBy seed k = words[((seed / 6 + k) % 11).toNat] := by
            unfold nameBy
            rw [if_pos ⟨e6, ek⟩, List.getD_eq_getElem?_getD, List.getElem?_eq_getElem hl]; rfl
          rw [← e]
          exact q _ sp
        · exact ⟨rfl, rfl, fun z => ek z.2⟩
      · exact iteF ⟨rfl, rfl, fun z => e6 z.1⟩
    · obtain ⟨rfl, rfl, hno⟩ := h
      have m1 := Int.emod_nonneg (seed / 6) (show (7 : Int) ≠ 0 by decide)
      have m2 := Int.emod_lt_of_pos (seed / 6) (show (0 : Int) < 7 by decide)
      walk_at "rd"
      refine ⟨by omega, by omega, ?_⟩
      generalize hn : (1 + seed / 6 % 7).toNat = n
      have hn1 : 1 ≤ n := by omega
      have hn7 : n ≤ 7 := by omega
      refine for_range (lo := 0) (fun i σ H' => i ≤ n ∧ (∃ y : Option V, σ = [some (.int seed), some (.int k), some (.str sgn), some (.ref p), some (.int (seed / 6)), some (.str (nmNm (seed / 6) i)), some (.int (nmAt (seed / 6) i)), y, none, none, none]) ∧ H' = upd H p (.lst (words.map V.str)))
        ⟨Nat.zero_le _, ⟨none, rfl⟩, rfl⟩ (fun i σ H' hi h => ?_) (fun σ H' h => ?_)
      · obtain ⟨_, ⟨y, rfl⟩, rfl⟩ := h
        walk_at "rd"
        refine ⟨sgn, _, _, rfl, rfl, small (by rw [sgn_len']; decide), sg_at _, ?_⟩
        refine ⟨_, _, rfl, rfl, small (by rw [nmNm_len]; show i + 1 ≤ 100000; omega), ?_⟩
        exact ⟨hi, ⟨_, rfl⟩, rfl⟩
      · obtain ⟨_, ⟨y, rfl⟩, rfl⟩ := h
        generalize hnm : nmNm (seed / 6) n = nm
        generalize hat : nmAt (seed / 6) n = at'
        have ln : nm.length = n := by rw [← hnm]; exact nmNm_len _ _
        walk_at "rd"
        refine ⟨small (by omega), ?_⟩
        rw [ln]
        have s1 := Int.emod_nonneg (seed / 6 / 4550) (show (n : Int) ≠ 0 by omega)
        have s2 := Int.emod_lt_of_pos (seed / 6 / 4550) (show (0 : Int) < n by omega)
        refine ⟨_, _, rfl, rfl, by show (0 : Int) < n; omega, ?_⟩
        show gName 8 (V.int (seed / 6 / 4550 % (n : Int))) _ _ _
        generalize hsp : seed / 6 / 4550 % (n : Int) = spot at s1 s2
        have key : nameBy seed k = (if 3 < k then cutS nm none (some (min6 spot)) ++ (sg (at' + k / 26) ++ sg k) ++ cutS nm (some (min6 spot)) (some 6)
            else if 3 < seed % 6 then sg (seed / 6 / 7 + k) ++ nm
            else if k = 1 then cutS nm none (some spot) ++ sg (Txt.find sgn ⟨#[nm.cps.toList.getD spot.toNat 0]⟩ + 1) ++ cutS nm (some (spot + 1)) none
            else nm ++ [("" : Str), "", sg at', sg (at' + 1)].getD k.toNat "") := by
          unfold nameBy
          rw [if_neg hno]
          dsimp only
          rw [hn, hnm, hat, hsp]
        have c1 := fun lo hi => cutS_length nm lo hi
        walk_at "rd"
        refine it_lt (fun e3 => ?_) (fun e3 => ?_)
        · -- k > 3
          rw [if_pos e3] at key
          walk_at "rd"
          refine ⟨sgn, _, _, rfl, rfl, small (by rw [sgn_len']; decide), sg_at _, ?_⟩
          walk_at "rd"
          refine ⟨sgn, _, _, rfl, rfl, small (by rw [sgn_len']; decide), sg_at _, ?_⟩
          refine ⟨_, _, rfl, rfl, small (by show 1 + 1 ≤ 100000; decide), ?_⟩
          walk_at "rd"
          refine ⟨small (by omega), ?_⟩
          have q1 := c1 none (some (min6 spot))
          have q2 := c1 (some (min6 spot)) (some 6)
          walk_at "rd"
          refine ⟨small (by show (cutS nm none (some (min6 spot))).length + 2 ≤ 100000; omega), ?_⟩
          walk_at "rd"
          refine ⟨small (by omega), ?_⟩
          refine ⟨_, _, rfl, rfl, small (by
            show (cutS nm none (some (min6 spot)) ++ (sg (at' + k / 26) ++ sg k)).length + (cutS nm (some (min6 spot)) (some 6)).length ≤ 100000
            rw [app_len, app_len, sg_len, sg_len]; omega), ?_⟩
          have z := q _ sp
          rw [key] at z
          exact z
        · rw [if_neg e3] at key
          walk_at "rd"
          refine it_lt (fun e4 => ?_) (fun e4 => ?_)
          · rw [if_pos e4] at key
            walk_at "rd"
            refine ⟨sgn, _, _, rfl, rfl, small (by rw [sgn_len']; decide), sg_at _, ?_⟩
            walk_at "rd"
            refine ⟨small (by show 1 + nm.length ≤ 100000; omega), ?_⟩
            have z := q _ sp
            rw [key] at z
            exact z
          · rw [if_neg e4] at key
            walk_at "rd"
            refine it_eqI (fun e5 => ?_) (fun e5 => ?_)
            · rw [if_pos e5] at key
              have hsl : spot.toNat < nm.cps.toList.length := by
                rw [Array.length_toList]
                show spot.toNat < nm.length
                omega
              have ec : nm.cps.toList[spot.toNat]? = some (nm.cps.toList.getD spot.toNat 0) := by
                rw [List.getD_eq_getElem?_getD, List.getElem?_eq_getElem hsl]; rfl
              walk_at "rd"
              refine ⟨nm, _, _, rfl, rfl, small (by omega), (by have q0 := atI_nat ec; rw [Int.toNat_of_nonneg s1] at q0; exact q0), ?_⟩
              walk_at "rd"
              refine ⟨sgn, _, _, rfl, rfl, small (by rw [sgn_len']; decide), sg_at _, ?_⟩
              have q1 := c1 none (some spot)
              have q2 := c1 (some (spot + 1)) none
              walk_at "rd"
              refine ⟨small (by omega), ?_⟩
              walk_at "rd"
              refine ⟨small (by show (cutS nm none (some spot)).length + 1 ≤ 100000; omega), ?_⟩
              walk_at "rd"
              refine ⟨small (by omega), ?_⟩
              refine ⟨_, _, rfl, rfl, small (by
                show (cutS nm none (some spot) ++ sg (Txt.find sgn ⟨#[nm.cps.toList.getD spot.toNat 0]⟩ + 1)).length + (cutS nm (some (spot + 1)) none).length ≤ 100000
                rw [app_len, sg_len]; omega), ?_⟩
              have z := q _ sp
              rw [key] at z
              exact z
            · rw [if_neg e5] at key
              walk_at "rd"
              refine ⟨sgn, _, _, rfl, rfl, small (by rw [sgn_len']; decide), sg_at _, ?_⟩
              walk_at "rd"
              refine ⟨sgn, _, _, rfl, rfl, small (by rw [sgn_len']; decide), sg_at _, ?_⟩
              refine ⟨small (by show 4 ≤ 100000; decide), fun r hr2 => ?_⟩
              have hk : k = 0 ∨ k = 2 ∨ k = 3 := by omega
              have z := q _ (sp.new (o := .lst [V.str "", V.str "", V.str (sg at'), V.str (sg (at' + 1))]) hr2)
              rw [key] at z
              rcases hk with e | e | e <;> subst e
              · exact ⟨_, rfl, r, _, _, _, rfl, rfl, sqL upd_same, rfl, _, _, rfl, rfl, small (by show nm.length + 0 ≤ 100000; omega), z⟩
              · exact ⟨_, rfl, r, _, _, _, rfl, rfl, sqL upd_same, rfl, _, _, rfl, rfl, small (by show nm.length + 1 ≤ 100000; omega), z⟩
              · exact ⟨_, rfl, r, _, _, _, rfl, rfl, sqL upd_same, rfl, _, _, rfl, rfl, small (by show nm.length + 1 ≤ 100000; omega), z⟩
abbrev s_dishes : Stmt := topS 18
theorem sc_dishes : FnScope ["_law_cells", "_law_names_here", "_law_many_here", "_law_dishes_here", "_law_k", "_law_cell", "_law_needs", "_law_count", "_law_j", "_law_some", "_law_amount_here"] ["_law_cells", "_law_names_here", "_law_many_here"] (defScope s_dishes) := ⟨rfl, rfl, rfl, by decide +kernel, rfl, by decide +kernel, by decide +kernel⟩
theorem bd_dishes : ∀ (kV doc pm : Value) (an : Option Addr) (cdv ct : Value) (us : List Value), us.length = (["_law_cells", "_law_names_here", "_law_many_here"] : List Str).length → bindArgs (PySem.W.fnOf "_law_dishes" "_law_dishes" (defArgs s_dishes) (defBody s_dishes) (defScope s_dishes) .none kV doc pm an cdv ct) ⟨us, []⟩ = pure ((["_law_cells", "_law_names_here", "_law_many_here"] : List Str).zip us) := fun _ _ _ _ _ _ us hl => match us, hl with | [_, _, _], _ => rfl
def spDishes (K : PySem.W.Frag) : Sp := fun vs H Q _ => ∃ (a b : Addr) (m seed many : Int), vs = [.ref a, .ref b, .int m] ∧ CellsAt K H a ∧ NamesAt K H b seed many ∧ 0 ≤ m ∧ m ≤ 60 ∧
  ∀ (v : V) (ds : List Dish) (H' : Hp), Same H H' → DishesAt H' v ds → ds.length ≤ 60 → (∀ d ∈ ds, GoodDish seed d) → Q v H'
theorem ok_dishes {P : Program} {w : World} {K : PySem.W.Frag} {mg : Str → Option Value} {base : Heap} (D : DefAt K mg "_law_dishes" s_dishes) (m_range : mg "range" = none) (m_int : mg "int" = none) (m_tuple : mg "tuple" = none)
    (C_mix : Clb P w K mg base 1 "_law_mix" ["_law_cell", "_law_k"] spMix) (C_cell_at : Clb P w K mg base 1 "_law_cell_at" ["_law_cells", "_law_k"] (spCellAt K))
    (C_amount : Clb P w K mg base 1 "_law_amount" ["_law_cell", "_law_most"] spAmount) (C_name_by : Clb P w K mg base 1 "_law_name_by" ["_law_seed", "_law_k"] spNameBy) :
    Clb P w K mg base 2 "_law_dishes" ["_law_cells", "_law_names_here", "_law_many_here"] (spDishes K) := by
  refine D.clb sc_dishes (fun vs H Q E h => ?_) bd_dishes (fun f cdv A outer s H vs Q E hr h => ?_)
  · obtain ⟨a, b, m, seed, many, rfl, _⟩ := h
    rfl
  · obtain ⟨a, b, m, seed, many, rfl, hc, hn, h0, h1, q⟩ := h
    refine ⟨_, (pss_cons (ps_set (i := 3) sc_dishes.nd rfl (.inl rfl) (pe_lst pa_nil))
    (pss_cons (ps_for PassesOwn.never rfl (pi_range1 (by rfl) m_range (pa_cons (pv 2) pa_nil)) (pg_name (i := 4) sc_dishes.nd rfl (.inl rfl))
      (pss_cons (ps_set (i := 5) sc_dishes.nd rfl (.inl rfl) (pe_cal C_mix (hr.mono (by decide)) (pa_cons (pe_cal C_cell_at (hr.mono (by decide)) (pa_cons (pv 0) (pa_cons (pe_op op_add pe_int (pe_op op_mod (pv 4) pe_int)) pa_nil))) (pa_cons (pv 4) pa_nil))))
    (pss_cons (ps_set (i := 6) sc_dishes.nd rfl (.inl rfl) (pe_lst pa_nil))
    (pss_cons (ps_set (i := 7) sc_dishes.nd rfl (.inl rfl) (pe_ix (kix_list K) (pe_lst (pa_cons (pe_op op_mod (pe_op op_fdiv (pv 5) pe_int) pe_int) (pa_cons (pe_op op_mod (pe_op op_fdiv (pv 5) pe_int) pe_int) pa_nil))) (pe_callTy call_int1 (by rfl) m_int (by decide +kernel) (pa_cons (pe_cmpR op_eq (pe_op op_mod (pe_op op_fdiv (pv 5) pe_int) pe_int) pe_int (nomark _)) pa_nil)) (fun _ _ => rfl)))
    (pss_cons (ps_for PassesOwn.never rfl (pi_range1 (by rfl) m_range (pa_cons (pv 7) pa_nil)) (pg_name (i := 8) sc_dishes.nd rfl (.inl rfl))
      (pss_cons (ps_set (i := 9) sc_dishes.nd rfl (.inl rfl) (pe_cal C_mix (hr.mono (by decide)) (pa_cons (pe_op op_fdiv (pv 5) pe_int) (pa_cons (pe_op op_add (pv 8) pe_int) pa_nil))))
    (pss_cons (ps_set (i := 10) sc_dishes.nd rfl (.inl rfl) (pe_op op_add pe_int (pe_op op_mod (pe_op op_fdiv (pv 9) pe_int) pe_int)))
    (C8.pss_cut (ps_if (pt_cmpR op_eq (pe_op op_mod (pe_op op_fdiv (pv 9) pe_int) pe_int) pe_int (nomark _))
      (pss_one (ps_set (i := 10) sc_dishes.nd rfl (.inl rfl) (pe_cal C_amount (hr.mono (by decide)) (pa_cons (pe_op op_fdiv (pv 9) pe_int) (pa_cons pe_int pa_nil)))))
      pss_nil)
    (pss_one (ps_expr (kpe_bm K PySem.F.plainAttrs_list PySem.F.slot_list_append PySem.F.type_list_append mt_append (pv 6) (pa_cons (pe_tup (pa_cons (pe_cal C_name_by (hr.mono (by decide)) (pa_cons (pe_ix (kix_list K) (pv 1) pe_int (fun _ _ => rfl)) (pa_cons (pe_op op_mod (pe_op op_mod (pv 9) pe_int) (pe_ix (kix_list K) (pv 1) pe_int (fun _ _ => rfl))) pa_nil))) (pa_cons (pv 10) pa_nil))) pa_nil))))))))
    (pss_one (ps_expr (kpe_bm K PySem.F.plainAttrs_list PySem.F.slot_list_append PySem.F.type_list_append mt_append (pv 3) (pa_cons (pe_tup (pa_cons (pe_op op_add pe_int (pe_op op_mod (pv 5) pe_int)) (pa_cons (pe_callTy (kcall_tuple_of K) (by rfl) m_tuple (by decide +kernel) (pa_cons (pv 6) pa_nil)) pa_nil))) pa_nil)))))))))
    (pss_one (ps_ret (pe_callTy (kcall_tuple_of K) (by rfl) m_tuple (by decide +kernel) (pa_cons (pv 3) pa_nil)))))), ?_⟩
    refine ⟨Nat.zero_le _, fun p hp => ?_⟩
    walk_at "rd"
    refine ⟨by omega, by omega, ?_⟩
    refine for_range (lo := 0) (fun i σ H' => ∃ (y4 y5 y6 y7 y8 y9 y10 : Option V) (vs : List V) (ds : List Dish), σ = [some (.ref a), some (.ref b), some (.int m), some (.ref p), y4, y5, y6, y7, y8, y9, y10] ∧ Same H H' ∧ H' p = some (.lst vs) ∧
        Held DishAt H' vs ds ∧ ds.length = i ∧ ∀ d ∈ ds, GoodDish seed d)
      ⟨none, none, none, none, none, none, none, [], [], rfl, same_upd hp, upd_same, Held.nil, rfl, fun _ z => nomatch z⟩ (fun i σ H1 hi h => ?_) (fun σ H1 h => ?_)
    · obtain ⟨y4, y5, y6, y7, y8, y9, y10, vs, ds, rfl, sm, hpl, hd, hl, hg⟩ := h
      have hi' : (i : Int) < m := by omega
      walk_at "rd"
      refine ⟨hc.same sm, by omega, by omega, fun c c0 c1 => ?_⟩
      walk_at "rd"
      refine ⟨by omega, by omega, fun cell z0 z1 => ?_⟩
      refine ⟨Nat.zero_le _, fun r hr1 => ?_⟩
      walk_at "rd"
      refine ⟨small (by show 2 ≤ 100000; decide), fun r2 hr2 => ?_⟩
      walk_at "rd"
      refine .inr ⟨_, rfl, ?_⟩
      have hcount : ∃ n : Int, atI [V.int (cell / 7 % 4), V.int (cell / 7 % 21)] (if decide (V.int (cell / 147 % 40) = V.int 0) = true then 1 else 0) = some (.int n) ∧ 0 ≤ n ∧ n ≤ 20 := by
        split
        · exact ⟨_, rfl, by omega, by omega⟩
        · exact ⟨_, rfl, by omega, by omega⟩
      obtain ⟨n, en, n0, n1⟩ := hcount
      refine ⟨r2, _, _, _, rfl, rfl, sqL upd_same, en, ?_⟩
      walk_at "rd"
      refine ⟨by omega, by omega, ?_⟩
      -- the heap ahead of the inner loop
      have s2 : Same (upd H1 r (.lst [])) (upd (upd H1 r (.lst [])) r2 (.lst [V.int (cell / 7 % 4), V.int (cell / 7 % 21)])) := same_upd hr2
      have rne : r ≠ r2 := fun z => by subst z; rw [upd_same] at hr2; cases hr2
      refine for_range (lo := 0) (fun j σ H' => ∃ (y8 y9 y10 : Option V) (us : List V) (ns : List Need), σ = [some (.ref a), some (.ref b), some (.int m), some (.ref p), some (.int (0 + (i : Int))), some (.int cell), some (.ref r), some (.int n), y8, y9, y10] ∧ Same H1 H' ∧ H' r = some (.lst us) ∧
          Held NeedAt H' us ns ∧ ns.length = j ∧ ∀ x ∈ ns, (1 ≤ x.2 ∧ x.2 ≤ 200) ∧ NameOf seed x.1)
        ⟨y8, y9, y10, [], [], rfl, (same_upd hr1).trans s2, (by rw [upd_ne rne]; exact upd_same), Held.nil, rfl, fun _ z => nomatch z⟩ (fun j σ H2 hj h => ?_) (fun σ H2 h => ?_)
      · obtain ⟨y8, y9, y10, us, ns, rfl, sm2, hrl, hh, hnl, hng⟩ := h
        have hj' : (j : Int) < n := by omega
        walk_at "rd"
        refine ⟨by omega, by omega, fun som z2 z3 => ?_⟩
        walk_at "rd"
        refine ⟨fun σ' H' => ∃ am : Int, σ' = [some (.ref a), some (.ref b), some (.int m), some (.ref p), some (.int (0 + (i : Int))), some (.int cell), some (.ref r), some (.int n), some (.int (0 + (j : Int))), some (.int som), some (.int am)] ∧ H2 = H' ∧ 1 ≤ am ∧ am ≤ 200, ?_, fun σ' H' h => ?_⟩
        · walk_at "rd"
          refine it_eqI (fun _ => ?_) (fun _ => ?_)
          · walk_at "rd"
            refine fun am a1 a2 => ?_
            exact ⟨am, rfl, rfl, a1, a2⟩
          · exact ⟨_, rfl, rfl, by omega, by omega⟩
        · obtain ⟨am, rfl, rfl, a1, a2⟩ := h
          have hn2 := (hn.same sm).same sm2
          walk_at "rd"
          refine ⟨.inl ⟨rfl, _, sqL hrl⟩, ?_⟩
          walk_at "rd"
          refine ⟨b, _, _, _, rfl, rfl, sqL hn2.1, rfl, ?_⟩
          walk_at "rd"
          refine ⟨b, _, _, _, rfl, rfl, sqL hn2.1, rfl, ?_⟩
          have hmany := hn2.2
          refine ⟨_, _, rfl, rfl, (by show 0 < many; omega), ?_⟩
          have k1 := Int.emod_nonneg (som % 60) (show many ≠ 0 by omega)
          have k2 := Int.emod_lt_of_pos (som % 60) (show 0 < many by omega)
          refine ⟨_, _, rfl, k1, (by show som % 60 % many ≤ 100; omega), fun H3 sm3 => ?_⟩
          walk_at "rd"
          refine ⟨small (by show 2 ≤ 100000; decide), fun t ht => ?_⟩
          have hrl3 : (upd H3 t (.tup [V.str (nameBy seed (som % 60 % many)), V.int am])) r = some (.lst us) := by
            have e := sm3 _ _ hrl
            rw [upd_ne (ne_of_none e ht)]
            exact e
          refine ⟨r, _, _, rfl, rfl, hrl3, small' (by rw [hh.len]; omega), ?_⟩
          have st : SameT H2 (upd (upd H3 t (.tup [V.str (nameBy seed (som % 60 % many)), V.int am])) r (.lst (us ++ [V.ref t]))) := ((SameT.of sm3).trans (SameT.new ht)).trans (SameT.lst hrl3)
          refine ⟨_, _, _, us ++ [V.ref t], ns ++ [(nameBy seed (som % 60 % many), am)], rfl, ((sm2.trans sm3).new ht).mut hr1, upd_same, (hh.mono NeedAt.mono st).snoc ⟨t, rfl, ?_⟩, by rw [List.length_append, hnl]; rfl, fun x hx => ?_⟩
          · rw [upd_ne (ne_of upd_same hrl3 (by intro z; cases z))]
            exact upd_same
          · rcases List.mem_append.mp hx with z | z
            · exact hng x z
            · rw [List.mem_singleton.mp z]
              exact ⟨⟨a1, a2⟩, (som % 60 % many).toNat, by omega, by show nameBy seed (som % 60 % many) = nameBy seed _; rw [Int.toNat_of_nonneg k1]⟩
      · obtain ⟨y8, y9, y10, us, ns, rfl, sm2, hrl, hh, hnl, hng⟩ := h
        walk_at "rd"
        refine ⟨.inl ⟨rfl, _, sqL (sm2 _ _ hpl)⟩, ?_⟩
        walk_at "rd"
        refine ⟨r, _, rfl, .inl ⟨sqL hrl, fun u hu => ?_⟩⟩
        refine ⟨small (by show 2 ≤ 100000; decide), fun t ht => ?_⟩
        have s3 : Same H2 (upd H2 u (.tup us)) := same_upd hu
        have s4 : Same (upd H2 u (.tup us)) (upd (upd H2 u (.tup us)) t (.tup [V.int (1 + cell % 7), V.ref u])) := same_upd ht
        have hpl4 := s4 _ _ (s3 _ _ (sm2 _ _ hpl))
        refine ⟨p, _, _, rfl, rfl, hpl4, small' (by rw [hd.len]; omega), ?_⟩
        have st := SameT.lst (o := .lst (vs ++ [V.ref t])) hpl4
        have stt : SameT H2 _ := ((SameT.of s3).trans (SameT.of s4)).trans st
        refine ⟨_, _, _, _, _, _, _, vs ++ [V.ref t], ds ++ [(1 + cell % 7, ns)], rfl, ((((sm.trans sm2).trans s3).trans s4)).mut hp, upd_same, (hd.mono DishAt.mono ((SameT.of sm2).trans stt)).snoc ⟨t, .ref u, rfl, st _ _ upd_same, u, us, rfl, st _ _ (s4 _ _ upd_same), hh.mono NeedAt.mono stt⟩,
          by rw [List.length_append, hl]; rfl, fun d hd' => ?_⟩
        rcases List.mem_append.mp hd' with z | z
        · exact hg d z
        · rw [List.mem_singleton.mp z]
          exact ⟨by show 1 ≤ 1 + cell % 7; omega, by show 1 + cell % 7 ≤ 7; omega, by show ns.length ≤ 20; omega, hng⟩
    · obtain ⟨y4, y5, y6, y7, y8, y9, y10, vs, ds, rfl, sm, hpl, hd, hl, hg⟩ := h
      walk_at "rd"
      refine ⟨p, _, rfl, .inl ⟨sqL hpl, fun u hu => ?_⟩⟩
      exact q _ ds _ (sm.new hu) ⟨u, vs, rfl, upd_same, hd.mono DishAt.mono (SameT.new hu)⟩ (by omega) hg
abbrev s_larder : Stmt := topS 19
theorem sc_larder : FnScope ["_law_cells", "_law_names_here", "_law_many_here", "_law_larder_here", "_law_k", "_law_cell", "_law_some"] ["_law_cells", "_law_names_here", "_law_many_here"] (defScope s_larder) := ⟨rfl, rfl, rfl, by decide +kernel, rfl, by decide +kernel, by decide +kernel⟩
theorem bd_larder : ∀ (kV doc pm : Value) (an : Option Addr) (cdv ct : Value) (us : List Value), us.length = (["_law_cells", "_law_names_here", "_law_many_here"] : List Str).length → bindArgs (PySem.W.fnOf "_law_larder" "_law_larder" (defArgs s_larder) (defBody s_larder) (defScope s_larder) .none kV doc pm an cdv ct) ⟨us, []⟩ = pure ((["_law_cells", "_law_names_here", "_law_many_here"] : List Str).zip us) := fun _ _ _ _ _ _ us hl => match us, hl with | [_, _, _], _ => rfl
def spLarder (K : PySem.W.Frag) : Sp := fun vs H Q _ => ∃ (a b : Addr) (m seed many : Int), vs = [.ref a, .ref b, .int m] ∧ CellsAt K H a ∧ NamesAt K H b seed many ∧ 0 ≤ m ∧ m ≤ 200 ∧
  ∀ (v : V) (lar : List Batch) (H' : Hp), Same H H' → LarderAt H' v lar → (lar.length : Int) ≤ m → (∀ b ∈ lar, GoodBatch seed b) → Q v H'
theorem ok_larder {P : Program} {w : World} {K : PySem.W.Frag} {mg : Str → Option Value} {base : Heap} (D : DefAt K mg "_law_larder" s_larder) (m_range : mg "range" = none) (m_tuple : mg "tuple" = none)
    (C_mix : Clb P w K mg base 1 "_law_mix" ["_law_cell", "_law_k"] spMix) (C_cell_at : Clb P w K mg base 1 "_law_cell_at" ["_law_cells", "_law_k"] (spCellAt K))
    (C_amount : Clb P w K mg base 1 "_law_amount" ["_law_cell", "_law_most"] spAmount) (C_last : Clb P w K mg base 1 "_law_last" ["_law_cell"] spLast) (C_name_by : Clb P w K mg base 1 "_law_name_by" ["_law_seed", "_law_k"] spNameBy) :
    Clb P w K mg base 2 "_law_larder" ["_law_cells", "_law_names_here", "_law_many_here"] (spLarder K) := by
  refine D.clb sc_larder (fun vs H Q E h => ?_) bd_larder (fun f cdv A outer s H vs Q E hr h => ?_)
  · obtain ⟨a, b, m, seed, many, rfl, _⟩ := h
    rfl
  · obtain ⟨a, b, m, seed, many, rfl, hc, hn, h0, h1, q⟩ := h
    refine ⟨_, (pss_cons (ps_set (i := 3) sc_larder.nd rfl (.inl rfl) (pe_lst pa_nil))
    (pss_cons (ps_for PassesOwn.never rfl (pi_range1 (by rfl) m_range (pa_cons (pv 2) pa_nil)) (pg_name (i := 4) sc_larder.nd rfl (.inl rfl))
      (pss_cons (ps_set (i := 5) sc_larder.nd rfl (.inl rfl) (pe_cal C_mix (hr.mono (by decide)) (pa_cons (pe_cal C_cell_at (hr.mono (by decide)) (pa_cons (pv 0) (pa_cons (pe_op op_add pe_int (pe_op op_mod (pv 4) pe_int)) pa_nil))) (pa_cons (pe_op op_add pe_int (pv 4)) pa_nil))))
    (pss_cons (ps_set (i := 6) sc_larder.nd rfl (.inl rfl) (pe_cal C_mix (hr.mono (by decide)) (pa_cons (pv 5) (pa_cons (pv 4) pa_nil))))
    (pss_one (ps_expr (kpe_bm K PySem.F.plainAttrs_list PySem.F.slot_list_append PySem.F.type_list_append mt_append (pv 3) (pa_cons (pe_tup (pa_cons (pe_cal C_name_by (hr.mono (by decide)) (pa_cons (pe_ix (kix_list K) (pv 1) pe_int (fun _ _ => rfl)) (pa_cons (pe_op op_mod (pe_op op_mod (pv 5) pe_int) (pe_ix (kix_list K) (pv 1) pe_int (fun _ _ => rfl))) pa_nil))) (pa_cons (pe_cal C_amount (hr.mono (by decide)) (pa_cons (pe_op op_fdiv (pv 5) pe_int) (pa_cons pe_int pa_nil))) (pa_cons (pe_cal C_last (hr.mono (by decide)) (pa_cons (pv 6) pa_nil)) pa_nil)))) pa_nil)))))))
    (pss_one (ps_ret (pe_callTy (kcall_tuple_of K) (by rfl) m_tuple (by decide +kernel) (pa_cons (pv 3) pa_nil)))))), ?_⟩
    refine ⟨Nat.zero_le _, fun p hp => ?_⟩
    walk_at "rd"
    refine ⟨by omega, by omega, ?_⟩
    refine for_range (lo := 0) (fun i σ H' => ∃ (y4 y5 y6 : Option V) (vs : List V) (lar : List Batch), σ = [some (.ref a), some (.ref b), some (.int m), some (.ref p), y4, y5, y6] ∧ Same H H' ∧ H' p = some (.lst vs) ∧
        Held BatchAt H' vs lar ∧ lar.length = i ∧ ∀ b ∈ lar, GoodBatch seed b)
      ⟨none, none, none, [], [], rfl, same_upd hp, upd_same, Held.nil, rfl, fun _ z => nomatch z⟩ (fun i σ H1 hi h => ?_) (fun σ H1 h => ?_)
    · obtain ⟨y4, y5, y6, vs, lar, rfl, sm, hpl, hd, hl, hg⟩ := h
      have hi' : (i : Int) < m := by omega
      walk_at "rd"
      refine ⟨hc.same sm, by omega, by omega, fun c c0 c1 => ?_⟩
      walk_at "rd"
      refine ⟨by omega, by omega, fun cell z0 z1 => ?_⟩
      walk_at "rd"
      refine ⟨by omega, by omega, fun som z2 z3 => ?_⟩
      have hn2 := hn.same sm
      have hmany := hn2.2
      walk_at "rd"
      refine ⟨.inl ⟨rfl, _, sqL hpl⟩, ?_⟩
      walk_at "rd"
      refine ⟨b, _, _, _, rfl, rfl, sqL hn2.1, rfl, ?_⟩
      walk_at "rd"
      refine ⟨b, _, _, _, rfl, rfl, sqL hn2.1, rfl, ?_⟩
      refine ⟨_, _, rfl, rfl, (by show 0 < many; omega), ?_⟩
      have k1 := Int.emod_nonneg (cell % 60) (show many ≠ 0 by omega)
      have k2 := Int.emod_lt_of_pos (cell % 60) (show 0 < many by omega)
      refine ⟨_, _, rfl, k1, (by show cell % 60 % many ≤ 100; omega), fun H3 sm3 => ?_⟩
      walk_at "rd"
      refine fun am a1 a2 => ?_
      walk_at "rd"
      refine fun la l1 l2 => ?_
      refine ⟨small (by show 3 ≤ 100000; decide), fun t ht => ?_⟩
      have hpl3 : (upd H3 t (.tup [V.str (nameBy seed (cell % 60 % many)), V.int am, V.int la])) p = some (.lst vs) := by
        have e := sm3 _ _ hpl
        rw [upd_ne (ne_of_none e ht)]
        exact e
      refine ⟨p, _, _, rfl, rfl, hpl3, small' (by rw [hd.len]; omega), ?_⟩
      have st : SameT H1 (upd (upd H3 t (.tup [V.str (nameBy seed (cell % 60 % many)), V.int am, V.int la])) p (.lst (vs ++ [V.ref t]))) := ((SameT.of sm3).trans (SameT.new ht)).trans (SameT.lst hpl3)
      refine ⟨_, _, _, vs ++ [V.ref t], lar ++ [⟨nameBy seed (cell % 60 % many), am, la⟩], rfl, ((sm.trans sm3).new ht).mut hp, upd_same, (hd.mono BatchAt.mono st).snoc ⟨t, rfl, ?_⟩, by rw [List.length_append, hl]; rfl, fun x hx => ?_⟩
      · rw [upd_ne (ne_of upd_same hpl3 (by intro z; cases z))]
        exact upd_same
      · rcases List.mem_append.mp hx with z | z
        · exact hg x z
        · rw [List.mem_singleton.mp z]
          exact ⟨a1, a2, l1, l2, (cell % 60 % many).toNat, by omega, by show nameBy seed (cell % 60 % many) = nameBy seed _; rw [Int.toNat_of_nonneg k1]⟩
    · obtain ⟨y4, y5, y6, vs, lar, rfl, sm, hpl, hd, hl, hg⟩ := h
      walk_at "rd"
      refine ⟨p, _, rfl, .inl ⟨sqL hpl, fun u hu => ?_⟩⟩
      exact q _ lar _ (sm.new hu) ⟨u, vs, rfl, upd_same, hd.mono BatchAt.mono (SameT.new hu)⟩ (by omega) hg
abbrev s_needed_on : Stmt := topS 3
theorem sc_needed_on : FnScope ["pairs", "day", "on", "amount"] ["pairs", "day"] (defScope s_needed_on) := ⟨rfl, rfl, rfl, by decide +kernel, rfl, by decide +kernel, by decide +kernel⟩
theorem bd_needed_on : ∀ (kV doc pm : Value) (an : Option Addr) (cdv ct : Value) (us : List Value), us.length = (["pairs", "day"] : List Str).length → bindArgs (PySem.W.fnOf "needed_on" "needed_on" (defArgs s_needed_on) (defBody s_needed_on) (defScope s_needed_on) .none kV doc pm an cdv ct) ⟨us, []⟩ = pure ((["pairs", "day"] : List Str).zip us) := fun _ _ _ _ _ _ us hl => match us, hl with | [_, _], _ => rfl
def spNeededOn (K : PySem.W.Frag) : Sp := fun vs H Q _ => ∃ (a : Addr) (us : List V) (ps : List (Int × Int)) (day : Int), vs = [.ref a, .int day] ∧ SqL K H a us ∧ Held PairAt H us ps ∧ ps.length ≤ 10000 ∧ ∀ H', Same H H' → Q (.int (onDay ps day)) H'
theorem ok_needed_on {P : Program} {w : World} {K : PySem.W.Frag} {mg : Str → Option Value} {base : Heap} (D : DefAt K mg "needed_on" s_needed_on) (m_sum : mg "sum" = none) :
    Clb P w K mg base 1 "needed_on" ["pairs", "day"] (spNeededOn K) := by
  refine D.clb sc_needed_on (fun vs H Q E h => ?_) bd_needed_on (fun f cdv A outer s H vs Q E hr h => ?_)
  · obtain ⟨a, us, ps, day, rfl, _⟩ := h
    rfl
  · obtain ⟨a, us, ps, day, rfl, hS, hh, hz, q⟩ := h
    refine ⟨_, (pss_one (ps_ret (pe_callB (kcr_sum K rfl) (by rfl) m_sum (by decide +kernel) (pa_cons (pe_lc (own := [("on", 2), ("amount", 3)]) rfl sc_needed_on.nd (kpi_list K (pv 0)) (blkOk_by (own := [("on", 2), ("amount", 3)]) (N := ["pairs", "day", "on", "amount"]) (sc := defScope s_needed_on) (by decide +kernel)) (fun _ _ _ _ _ => (kpg_tup K (n := 2) rfl (pgs_cons (pg_name (i := 2) sc_needed_on.nd rfl (.inl rfl)) (pgs_cons (pg_name (i := 3) sc_needed_on.nd rfl (.inl rfl)) pgs_nil)))) (fun _ _ _ _ _ => (pts_one (pt_cmpR op_eq (pv 2) (pv 1) (nomark _)))) (fun _ _ _ _ _ => (pv 3))) pa_nil)))), ?_⟩
    refine ⟨_, rfl, a, rfl, ⟨_, hS⟩, fun D hD => lc_rel (walk_list (xs := us)) (xs := ps) hh.len.symm (f := fun x => if x.1 = day then some x.2 else none) (R := fun _ v x => v = V.int x) mono_eq hD (fun H' s => s.seq hS) (by rw [hh.len]; omega) (fun i v x H1 H2 Ky Kn hx sm hy h1 h2 => ?_) (fun H' ys sm hD' hd => ?_)⟩
    · obtain ⟨rfl, hv⟩ := hy
      obtain ⟨t, rfl, ht⟩ := hh.all i v x hv hx
      have ht' := sm _ _ ht
      refine ⟨t, _, rfl, sqT ht', rfl, _, _, rfl, _, _, rfl, rfl, rfl, ?_⟩
      walk_at "rd"
      refine it_eqI (fun e => ?_) (fun e => ?_)
      · exact ⟨_, rfl, h1 _ _ _ (if_pos e) (Same.refl _) rfl⟩
      · exact h2 _ (if_neg e) (Same.refl _)
    · have e := held_eq (f := V.int) hd
      exact ⟨D, _, rfl, sqL (by rw [hD', e]), q H' sm⟩
abbrev s_needed : Stmt := topS 2
theorem sc_needed : FnScope ["dishes", "name", "pairs", "day", "needs", "word", "amount"] ["dishes", "name"] (defScope s_needed) := ⟨rfl, rfl, rfl, by decide +kernel, rfl, by decide +kernel, by decide +kernel⟩
theorem bd_needed : ∀ (kV doc pm : Value) (an : Option Addr) (cdv ct : Value) (us : List Value), us.length = (["dishes", "name"] : List Str).length → bindArgs (PySem.W.fnOf "needed" "needed" (defArgs s_needed) (defBody s_needed) (defScope s_needed) .none kV doc pm an cdv ct) ⟨us, []⟩ = pure ((["dishes", "name"] : List Str).zip us) := fun _ _ _ _ _ _ us hl => match us, hl with | [_, _], _ => rfl
def spNeeded (K : PySem.W.Frag) : Sp := fun vs H Q _ => ∃ (v : V) (ds : List Dish) (nm : Str), vs = [v, .str nm] ∧ DishesAt H v ds ∧ ds.length ≤ 100 ∧ (∀ d ∈ ds, d.2.length ≤ 20) ∧
  ∀ p H', Same H H' → H' p = some (.tup ((neededL ds nm).map V.int)) → Q (.ref p) H'
theorem ok_needed {P : Program} {w : World} {K : PySem.W.Frag} {mg : Str → Option Value} {base : Heap} {tk : Tok} (D : DefAt K mg "needed" s_needed) (m_tuple : mg "tuple" = none) (m_range : mg "range" = none) (m_DAYS : mg "DAYS" = some (.int 7 tk))
    (C_needed_on : Clb P w K mg base 1 "needed_on" ["pairs", "day"] (spNeededOn K)) :
    Clb P w K mg base 2 "needed" ["dishes", "name"] (spNeeded K) := by
  refine D.clb sc_needed (fun vs H Q E h => ?_) bd_needed (fun f cdv A outer s H vs Q E hr h => ?_)
  · obtain ⟨v, ds, nm, rfl, _⟩ := h
    rfl
  · obtain ⟨v, ds, nm, rfl, ⟨a, us, rfl, ha, hh⟩, hl, hn, q⟩ := h
    refine ⟨_, (pss_cons (ps_set (i := 2) sc_needed.nd rfl (.inr rfl) (pe_lc2 (own := [("day", 3), ("needs", 4), ("word", 5), ("amount", 6)]) (vs1 := [5, 6]) rfl sc_needed.nd (kpi_tup K (pv 0)) (blkOk_by (own := [("day", 3), ("needs", 4), ("word", 5), ("amount", 6)]) (N := ["dishes", "name", "pairs", "day", "needs", "word", "amount"]) (sc := defScope s_needed) (by decide +kernel)) (by decide) (fun _ _ _ _ _ => (kpg_tup K (n := 2) rfl (pgs_cons (pg_name (i := 3) sc_needed.nd rfl (.inl rfl)) (pgs_cons (pg_name (i := 4) sc_needed.nd rfl (.inl rfl)) pgs_nil)))) (fun _ _ _ _ _ => pts_nil) (fun _ _ _ _ _ => (kpi_tup K (pv 4))) (fun _ _ _ _ _ => (kpg_tup K (n := 2) rfl (pgs_cons (pg_name (i := 5) sc_needed.nd rfl (.inl rfl)) (pgs_cons (pg_name (i := 6) sc_needed.nd rfl (.inl rfl)) pgs_nil)))) (fun _ _ _ _ _ => (pts_one (pt_cmpR op_eq (pv 5) (pv 1) (nomark _)))) (fun _ _ _ _ _ => (pe_tup (pa_cons (pv 3) (pa_cons (pv 6) pa_nil))))))
    (pss_one (ps_ret (pe_callTy (kcall_tuple_of K) (by rfl) m_tuple (by decide +kernel) (pa_cons (pe_lc (own := [("day", 3)]) rfl sc_needed.nd (pi_range2 (by rfl) m_range (pa_cons pe_int (pa_cons (pe_op op_add (pe_glob (v := .int 7) (by rfl) m_DAYS ⟨_, rfl⟩) pe_int) pa_nil))) (blkOk_by (own := [("day", 3)]) (N := ["dishes", "name", "pairs", "day", "needs", "word", "amount"]) (sc := defScope s_needed) (by decide +kernel)) (fun _ _ _ _ _ => (pg_name (i := 3) sc_needed.nd rfl (.inl rfl))) (fun _ _ _ _ _ => pts_nil) (fun _ _ _ _ _ => (pe_cal C_needed_on (hr.mono (by decide)) (pa_cons (pv 2) (pa_cons (pv 3) pa_nil))))) pa_nil))))), ?_⟩
    have lp := pairsOf_len ds nm hn
    refine ⟨_, rfl, a, rfl, ⟨_, sqT ha⟩, fun D hD => lc2_out (walk_tup (xs := us)) (xs := ds) hh.len.symm (F := fun d => d.2.filterMap fun x => if x.1 = nm then some (d.1, x.2) else none) (R := PairAt) hD (fun H' s => s.seqT (sqT ha)) (fun i v d H1 H2 ys Nx hx sm hy hDl hd hN => ?_) (fun H' ys sm hD' hd => ?_)⟩
    · obtain ⟨rfl, hv⟩ := hy
      obtain ⟨t, u, rfl, ht, hu⟩ := hh.all i v d hv hx
      obtain ⟨u, ws, rfl, hu, hw⟩ := hu
      have hd20 := hn d (List.mem_of_getElem? hx)
      have lz : (List.flatMap (fun d : Dish => d.2.filterMap fun x => if x.1 = nm then some (d.1, x.2) else none) (ds.take i)).length ≤ 2000 := by
        have z := pairsOf_len (n := 20) (ds.take i) nm fun d hd => hn d (List.mem_of_mem_take hd)
        unfold pairsOf at z
        rw [List.length_take] at z
        omega
      refine ⟨t, _, rfl, sqT (sm _ _ ht), rfl, _, _, rfl, _, _, rfl, rfl, rfl, ?_⟩
      refine ⟨_, rfl, u, rfl, ⟨_, sqT (sm _ _ hu)⟩, lc2_in (walk_tup (xs := ws)) (xs := d.2) hw.len.symm (f := fun x => if x.1 = nm then some (d.1, x.2) else none) (R := PairAt) PairAt.mono hD sm hDl hd (fun H' s _ => s.seqT (sqT hu)) (by have e := hw.len; omega) (fun j v x H3 H4 Ky Kn hx sm hst hy h1 h2 => ?_) (fun H' ys sm hD' hd => hN H' ys sm hD' hd)⟩
      obtain ⟨rfl, hv⟩ := hy
      obtain ⟨t2, rfl, ht2⟩ := hw.all j v x hv hx
      refine ⟨t2, _, rfl, sqT (sm _ _ ht2), rfl, _, _, rfl, _, _, rfl, rfl, rfl, ?_⟩
      walk_at "rd"
      refine it_eqS (fun e => ?_) (fun e => ?_)
      · walk_at "rd"
        refine ⟨small (by show 2 ≤ 100000; decide), fun p hp => ?_⟩
        exact h1 _ _ _ (if_pos e) (same_upd hp) ⟨p, rfl, upd_same⟩
      · exact h2 _ (if_neg e) (Same.refl _)
    · walk_at "rd"
      refine fun D2 hD2 => lc_rel (walk_range (lo := 1) (n := 7)) (xs := List.range 7) rfl (f := fun k => some (onDay (pairsOf ds nm) (1 + (k : Nat)))) (R := fun _ v x => v = V.int x) mono_eq hD2 (fun _ _ => trivial) (by decide) (fun i v x H1 H2 Ky Kn hx sm2 hy h1 h2 => ?_) (fun H2 zs sm2 hD2' hd2 => ?_)
      · obtain ⟨rfl, rfl⟩ := hy
        obtain ⟨rfl, hi⟩ := range_ix hx
        refine ⟨rfl, ?_⟩
        refine ⟨_, rfl, _, rfl, D, ys, pairsOf ds nm, _, rfl, sm2.seq (sqL hD'), hd.mono PairAt.mono (SameT.of sm2), by omega, fun H3 sm3 => ?_⟩
        exact h1 _ _ _ rfl sm3 rfl
      · have e := held_eq (f := V.int) hd2
        rw [fm_some] at e
        refine ⟨D2, _, rfl, .inl ⟨sqL hD2', fun p hp => ?_⟩⟩
        rw [e]
        exact q p _ ((sm.trans sm2).new hp) upd_same
abbrev s_from_day : Stmt := topS 4
theorem sc_from_day : FnScope ["amounts", "at"] ["amounts"] (defScope s_from_day) := ⟨rfl, rfl, rfl, by decide +kernel, rfl, by decide +kernel, by decide +kernel⟩
theorem bd_from_day : ∀ (kV doc pm : Value) (an : Option Addr) (cdv ct : Value) (us : List Value), us.length = (["amounts"] : List Str).length → bindArgs (PySem.W.fnOf "from_day" "from_day" (defArgs s_from_day) (defBody s_from_day) (defScope s_from_day) .none kV doc pm an cdv ct) ⟨us, []⟩ = pure ((["amounts"] : List Str).zip us) := fun _ _ _ _ _ _ us hl => match us, hl with | [_], _ => rfl
theorem cutV_drop (xs : List V) (i : Nat) : cutV xs (some (i : Int)) none = xs.drop i := by
  unfold cutV
  rw [HT.sIx_nat, HT.sIx_none]
  by_cases h : i ≤ xs.length
  · rw [Nat.min_eq_left h, List.take_of_length_le (by rw [List.length_drop]; omega)]
  · rw [Nat.min_eq_right (by omega), List.drop_of_length_le (Nat.le_refl _), List.drop_of_length_le (by omega)]; simp
def spFromDay (K : PySem.W.Frag) : Sp := fun vs H Q _ => ∃ (a : Addr) (xs : List Int), vs = [.ref a] ∧ H a = some (.tup (xs.map V.int)) ∧ xs.length = 7 ∧ ∀ p H', Same H H' → H' p = some (.tup ((fromL xs).map V.int)) → Q (.ref p) H'
theorem ok_from_day {P : Program} {w : World} {K : PySem.W.Frag} {mg : Str → Option Value} {base : Heap} {tk : Tok} (D : DefAt K mg "from_day" s_from_day) (m_tuple : mg "tuple" = none) (m_range : mg "range" = none) (m_sum : mg "sum" = none) (m_DAYS : mg "DAYS" = some (.int 7 tk)) :
    Clb P w K mg base 1 "from_day" ["amounts"] (spFromDay K) := by
  refine D.clb sc_from_day (fun vs H Q E h => ?_) bd_from_day (fun f cdv A outer s H vs Q E hr h => ?_)
  · obtain ⟨a, xs, rfl, _⟩ := h
    rfl
  · obtain ⟨a, xs, rfl, ha, hl, q⟩ := h
    refine ⟨_, (pss_one (ps_ret (pe_callTy (kcall_tuple_of K) (by rfl) m_tuple (by decide +kernel) (pa_cons (pe_lc (own := [("at", 1)]) rfl sc_from_day.nd (pi_range1 (by rfl) m_range (pa_cons (pe_glob (v := .int 7) (by rfl) m_DAYS ⟨_, rfl⟩) pa_nil)) (blkOk_by (own := [("at", 1)]) (N := ["amounts", "at"]) (sc := defScope s_from_day) (by decide +kernel)) (fun _ _ _ _ _ => (pg_name (i := 1) sc_from_day.nd rfl (.inl rfl))) (fun _ _ _ _ _ => pts_nil) (fun _ _ _ _ _ => (pe_callB (kcr_sumT K rfl) (by rfl) m_sum (by decide +kernel) (pa_cons (pe_slice (ksl_tupA K) (pv 0) (po_some (pv 1)) po_none) pa_nil)))) pa_nil)))), ?_⟩
    walk_at "rd"
    refine ⟨by decide, by decide, fun D hD => lc_rel (walk_range (lo := 0) (n := 7)) (xs := List.range 7) rfl (f := fun k => some ((xs.drop k).sum)) (R := fun _ v x => v = V.int x) mono_eq hD (fun _ _ => trivial) (by decide) (fun i v x H1 H2 Ky Kn hx sm hy h1 h2 => ?_) (fun H2 zs sm hD' hd => ?_)⟩
    · obtain ⟨rfl, rfl⟩ := hy
      obtain ⟨rfl, hi⟩ := range_ix hx
      refine ⟨rfl, ?_⟩
      walk_at "rd"
      have ex : cutV (xs.map V.int) (some (0 + (x : Int))) none = (xs.drop x).map V.int := by
        rw [Int.zero_add, cutV_drop, List.map_drop]
      refine ⟨a, _, rfl, sm.seqT (sqT ha), fun hw => ?_, fun _ p hp => ?_⟩
      · have e0 : x = 0 := by
          have z := hw.1
          rw [Int.zero_add, HT.sIx_nat, List.length_map, hl] at z
          omega
        subst e0
        exact ⟨a, xs, rfl, sm.seqT (sqT ha), h1 _ _ _ rfl (Same.refl _) rfl⟩
      · rw [ex]
        exact ⟨p, _, rfl, sqT upd_same, h1 _ _ _ rfl (same_upd hp) rfl⟩
    · have e := held_eq (f := V.int) hd
      rw [fm_some] at e
      refine ⟨D, _, rfl, .inl ⟨sqL hD', fun p hp => ?_⟩⟩
      rw [e]
      exact q p _ (sm.new hp) upd_same
abbrev s_kept_to : Stmt := topS 7
theorem sc_kept_to : FnScope ["pairs", "day", "amount", "last"] ["pairs", "day"] (defScope s_kept_to) := ⟨rfl, rfl, rfl, by decide +kernel, rfl, by decide +kernel, by decide +kernel⟩
theorem bd_kept_to : ∀ (kV doc pm : Value) (an : Option Addr) (cdv ct : Value) (us : List Value), us.length = (["pairs", "day"] : List Str).length → bindArgs (PySem.W.fnOf "kept_to" "kept_to" (defArgs s_kept_to) (defBody s_kept_to) (defScope s_kept_to) .none kV doc pm an cdv ct) ⟨us, []⟩ = pure ((["pairs", "day"] : List Str).zip us) := fun _ _ _ _ _ _ us hl => match us, hl with | [_, _], _ => rfl
def spKeptTo (K : PySem.W.Frag) : Sp := fun vs H Q _ => ∃ (a : Addr) (us : List V) (ps : List (Int × Int)) (day : Int), vs = [.ref a, .int day] ∧ SqL K H a us ∧ Held PairAt H us ps ∧ ps.length ≤ 10000 ∧ ∀ H', Same H H' → Q (.int (toDay ps day)) H'
theorem ok_kept_to {P : Program} {w : World} {K : PySem.W.Frag} {mg : Str → Option Value} {base : Heap} (D : DefAt K mg "kept_to" s_kept_to) (m_sum : mg "sum" = none) :
    Clb P w K mg base 1 "kept_to" ["pairs", "day"] (spKeptTo K) := by
  refine D.clb sc_kept_to (fun vs H Q E h => ?_) bd_kept_to (fun f cdv A outer s H vs Q E hr h => ?_)
  · obtain ⟨a, us, ps, day, rfl, _⟩ := h
    rfl
  · obtain ⟨a, us, ps, day, rfl, hS, hh, hz, q⟩ := h
    refine ⟨_, (pss_one (ps_ret (pe_callB (kcr_sum K rfl) (by rfl) m_sum (by decide +kernel) (pa_cons (pe_lc (own := [("amount", 2), ("last", 3)]) rfl sc_kept_to.nd (kpi_list K (pv 0)) (blkOk_by (own := [("amount", 2), ("last", 3)]) (N := ["pairs", "day", "amount", "last"]) (sc := defScope s_kept_to) (by decide +kernel)) (fun _ _ _ _ _ => (kpg_tup K (n := 2) rfl (pgs_cons (pg_name (i := 2) sc_kept_to.nd rfl (.inl rfl)) (pgs_cons (pg_name (i := 3) sc_kept_to.nd rfl (.inl rfl)) pgs_nil)))) (fun _ _ _ _ _ => (pts_one (pt_cmpR op_ge (pv 3) (pv 1) (nomark _)))) (fun _ _ _ _ _ => (pv 2))) pa_nil)))), ?_⟩
    refine ⟨_, rfl, a, rfl, ⟨_, hS⟩, fun D hD => lc_rel (walk_list (xs := us)) (xs := ps) hh.len.symm (f := fun x => if day ≤ x.2 then some x.1 else none) (R := fun _ v x => v = V.int x) mono_eq hD (fun H' s => s.seq hS) (by rw [hh.len]; omega) (fun i v x H1 H2 Ky Kn hx sm hy h1 h2 => ?_) (fun H' ys sm hD' hd => ?_)⟩
    · obtain ⟨rfl, hv⟩ := hy
      obtain ⟨t, rfl, ht⟩ := hh.all i v x hv hx
      refine ⟨t, _, rfl, sqT (sm _ _ ht), rfl, _, _, rfl, _, _, rfl, rfl, rfl, ?_⟩
      walk_at "rd"
      refine it_le (fun e => ?_) (fun e => ?_)
      · exact ⟨_, rfl, h1 _ _ _ (if_pos e) (Same.refl _) rfl⟩
      · exact h2 _ (if_neg e) (Same.refl _)
    · have e := held_eq (f := V.int) hd
      exact ⟨D, _, rfl, sqL (by rw [hD', e]), q H' sm⟩
abbrev s_kept : Stmt := topS 6
theorem sc_kept : FnScope ["larder", "name", "pairs", "word", "amount", "last", "day"] ["larder", "name"] (defScope s_kept) := ⟨rfl, rfl, rfl, by decide +kernel, rfl, by decide +kernel, by decide +kernel⟩
theorem bd_kept : ∀ (kV doc pm : Value) (an : Option Addr) (cdv ct : Value) (us : List Value), us.length = (["larder", "name"] : List Str).length → bindArgs (PySem.W.fnOf "kept" "kept" (defArgs s_kept) (defBody s_kept) (defScope s_kept) .none kV doc pm an cdv ct) ⟨us, []⟩ = pure ((["larder", "name"] : List Str).zip us) := fun _ _ _ _ _ _ us hl => match us, hl with | [_, _], _ => rfl
def spKept (K : PySem.W.Frag) : Sp := fun vs H Q _ => ∃ (v : V) (lar : List Batch) (nm : Str), vs = [v, .str nm] ∧ LarderAt H v lar ∧ lar.length ≤ 10000 ∧ ∀ p H', Same H H' → H' p = some (.tup ((keptL lar nm).map V.int)) → Q (.ref p) H'
theorem ok_kept {P : Program} {w : World} {K : PySem.W.Frag} {mg : Str → Option Value} {base : Heap} {tk : Tok} (D : DefAt K mg "kept" s_kept) (m_tuple : mg "tuple" = none) (m_range : mg "range" = none) (m_DAYS : mg "DAYS" = some (.int 7 tk))
    (C_kept_to : Clb P w K mg base 1 "kept_to" ["pairs", "day"] (spKeptTo K)) :
    Clb P w K mg base 2 "kept" ["larder", "name"] (spKept K) := by
  refine D.clb sc_kept (fun vs H Q E h => ?_) bd_kept (fun f cdv A outer s H vs Q E hr h => ?_)
  · obtain ⟨v, lar, nm, rfl, _⟩ := h
    rfl
  · obtain ⟨v, lar, nm, rfl, ⟨a, us, rfl, ha, hh⟩, hl, q⟩ := h
    refine ⟨_, (pss_cons (ps_set (i := 2) sc_kept.nd rfl (.inr rfl) (pe_lc (own := [("word", 3), ("amount", 4), ("last", 5)]) rfl sc_kept.nd (kpi_tup K (pv 0)) (blkOk_by (own := [("word", 3), ("amount", 4), ("last", 5)]) (N := ["larder", "name", "pairs", "word", "amount", "last", "day"]) (sc := defScope s_kept) (by decide +kernel)) (fun _ _ _ _ _ => (kpg_tup K (n := 3) rfl (pgs_cons (pg_name (i := 3) sc_kept.nd rfl (.inl rfl)) (pgs_cons (pg_name (i := 4) sc_kept.nd rfl (.inl rfl)) (pgs_cons (pg_name (i := 5) sc_kept.nd rfl (.inl rfl)) pgs_nil))))) (fun _ _ _ _ _ => (pts_one (pt_cmpR op_eq (pv 3) (pv 1) (nomark _)))) (fun _ _ _ _ _ => (pe_tup (pa_cons (pv 4) (pa_cons (pv 5) pa_nil))))))
    (pss_one (ps_ret (pe_callTy (kcall_tuple_of K) (by rfl) m_tuple (by decide +kernel) (pa_cons (pe_lc (own := [("day", 6)]) rfl sc_kept.nd (pi_range2 (by rfl) m_range (pa_cons pe_int (pa_cons (pe_op op_add (pe_glob (v := .int 7) (by rfl) m_DAYS ⟨_, rfl⟩) pe_int) pa_nil))) (blkOk_by (own := [("day", 6)]) (N := ["larder", "name", "pairs", "word", "amount", "last", "day"]) (sc := defScope s_kept) (by decide +kernel)) (fun _ _ _ _ _ => (pg_name (i := 6) sc_kept.nd rfl (.inl rfl))) (fun _ _ _ _ _ => pts_nil) (fun _ _ _ _ _ => (pe_cal C_kept_to (hr.mono (by decide)) (pa_cons (pv 2) (pa_cons (pv 6) pa_nil))))) pa_nil))))), ?_⟩
    have lp : (keptPairs lar nm).length ≤ 10000 := Nat.le_trans (List.length_filterMap_le _ _) hl
    refine ⟨_, rfl, a, rfl, ⟨_, sqT ha⟩, fun D hD => lc_rel (walk_tup (xs := us)) (xs := lar) hh.len.symm (f := fun b => if b.name = nm then some (b.amount, b.last) else none) (R := PairAt) PairAt.mono hD (fun H' s => s.seqT (sqT ha)) (by rw [hh.len]; omega) (fun i v x H1 H2 Ky Kn hx sm hy h1 h2 => ?_) (fun H' ys sm hD' hd => ?_)⟩
    · obtain ⟨rfl, hv⟩ := hy
      obtain ⟨t, rfl, ht⟩ := hh.all i v x hv hx
      refine ⟨t, _, rfl, sqT (sm _ _ ht), rfl, _, _, rfl, _, _, rfl, _, _, rfl, rfl, rfl, ?_⟩
      walk_at "rd"
      refine it_eqS (fun e => ?_) (fun e => ?_)
      · walk_at "rd"
        refine ⟨small (by show 2 ≤ 100000; decide), fun p hp => ?_⟩
        exact h1 _ _ _ (if_pos e) (same_upd hp) ⟨p, rfl, upd_same⟩
      · exact h2 _ (if_neg e) (Same.refl _)
    · walk_at "rd"
      refine fun D2 hD2 => lc_rel (walk_range (lo := 1) (n := 7)) (xs := List.range 7) rfl (f := fun k => some (toDay (keptPairs lar nm) (1 + (k : Nat)))) (R := fun _ v x => v = V.int x) mono_eq hD2 (fun _ _ => trivial) (by decide) (fun i v x H1 H2 Ky Kn hx sm2 hy h1 h2 => ?_) (fun H2 zs sm2 hD2' hd2 => ?_)
      · obtain ⟨rfl, rfl⟩ := hy
        obtain ⟨rfl, hi⟩ := range_ix hx
        refine ⟨rfl, ?_⟩
        refine ⟨_, rfl, _, rfl, D, ys, keptPairs lar nm, _, rfl, sm2.seq (sqL hD'), hd.mono PairAt.mono (SameT.of sm2), lp, fun H3 sm3 => ?_⟩
        exact h1 _ _ _ rfl sm3 rfl
      · have e := held_eq (f := V.int) hd2
        rw [fm_some] at e
        refine ⟨D2, _, rfl, .inl ⟨sqL hD2', fun p hp => ?_⟩⟩
        rw [e]
        exact q p _ ((sm.trans sm2).new hp) upd_same
abbrev s_lacking : Stmt := topS 8
theorem sc_lacking : FnScope ["dishes", "larder", "name", "needs", "need", "have"] ["dishes", "larder", "name"] (defScope s_lacking) := ⟨rfl, rfl, rfl, by decide +kernel, rfl, by decide +kernel, by decide +kernel⟩
theorem bd_lacking : ∀ (kV doc pm : Value) (an : Option Addr) (cdv ct : Value) (us : List Value), us.length = (["dishes", "larder", "name"] : List Str).length → bindArgs (PySem.W.fnOf "lacking" "lacking" (defArgs s_lacking) (defBody s_lacking) (defScope s_lacking) .none kV doc pm an cdv ct) ⟨us, []⟩ = pure ((["dishes", "larder", "name"] : List Str).zip us) := fun _ _ _ _ _ _ us hl => match us, hl with | [_, _, _], _ => rfl
def spLacking (K : PySem.W.Frag) : Sp := fun vs H Q _ => ∃ (v u : V) (ds : List Dish) (lar : List Batch) (nm : Str), vs = [v, u, .str nm] ∧ DishesAt H v ds ∧ ds.length ≤ 100 ∧ (∀ d ∈ ds, d.2.length ≤ 20) ∧ LarderAt H u lar ∧ lar.length ≤ 10000 ∧
  ∀ p H', Same H H' → H' p = some (.tup ((lackL ds lar nm).map V.int)) → Q (.ref p) H'
theorem ok_lacking {P : Program} {w : World} {K : PySem.W.Frag} {mg : Str → Option Value} {base : Heap} (D : DefAt K mg "lacking" s_lacking) (m_tuple : mg "tuple" = none) (m_zip : mg "zip" = none) (m_max : mg "max" = none)
    (C_needed : Clb P w K mg base 2 "needed" ["dishes", "name"] (spNeeded K)) (C_from_day : Clb P w K mg base 1 "from_day" ["amounts"] (spFromDay K)) (C_kept : Clb P w K mg base 2 "kept" ["larder", "name"] (spKept K)) :
    Clb P w K mg base 3 "lacking" ["dishes", "larder", "name"] (spLacking K) := by
  refine D.clb sc_lacking (fun vs H Q E h => ?_) bd_lacking (fun f cdv A outer s H vs Q E hr h => ?_)
  · obtain ⟨v, u, ds, lar, nm, rfl, _⟩ := h
    rfl
  · obtain ⟨v, u, ds, lar, nm, rfl, hd, hl, hn, hlar, hll, q⟩ := h
    refine ⟨_, (pss_cons (ps_set (i := 3) sc_lacking.nd rfl (.inl rfl) (pe_cal C_from_day (hr.mono (by decide)) (pa_cons (pe_cal C_needed (hr.mono (by decide)) (pa_cons (pv 0) (pa_cons (pv 2) pa_nil))) pa_nil)))
    (pss_one (ps_ret (pe_callTy (kcall_tuple_of K) (by rfl) m_tuple (by decide +kernel) (pa_cons (pe_lc (own := [("need", 4), ("have", 5)]) rfl sc_lacking.nd (kpi_zipA K (by rfl) m_zip (pa_cons (pv 3) (pa_cons (pe_cal C_kept (hr.mono (by decide)) (pa_cons (pv 1) (pa_cons (pv 2) pa_nil))) pa_nil))) (blkOk_by (own := [("need", 4), ("have", 5)]) (N := ["dishes", "larder", "name", "needs", "need", "have"]) (sc := defScope s_lacking) (by decide +kernel)) (fun _ _ _ _ _ => (kpg_tup K (n := 2) rfl (pgs_cons (pg_name (i := 4) sc_lacking.nd rfl (.inl rfl)) (pgs_cons (pg_name (i := 5) sc_lacking.nd rfl (.inl rfl)) pgs_nil)))) (fun _ _ _ _ _ => pts_nil) (fun _ _ _ _ _ => (pe_callB (call_max2 rfl) (by rfl) m_max (by decide +kernel) (pa_cons pe_int (pa_cons (pe_op op_sub (pv 4) (pv 5)) pa_nil))))) pa_nil))))), ?_⟩
    refine ⟨_, rfl, _, rfl, v, ds, nm, rfl, hd, hl, hn, fun p1 H1 s1 h1 => ?_⟩
    refine ⟨p1, _, rfl, h1, neededL_len _ _, fun p2 H2 s2 h2 => ?_⟩
    refine ⟨_, rfl, _, rfl, _, rfl, u, lar, nm, rfl, LarderAt.mono _ _ _ _ (SameT.of (s1.trans s2)) hlar, hll, fun p3 H3 s3 h3 => ?_⟩
    refine ⟨_, _, _, _, rfl, .inr ⟨sqT (s3 _ _ h2), sqT h3, ?_⟩⟩
    refine fun D hD => lc_rel (walk_zipT (n := 7) (xs := (fromL (neededL ds nm)).map V.int) (ys := (keptL lar nm).map V.int) (by rw [List.length_map, List.length_map, fromL_len, keptL_len]; rfl)) (xs := List.range 7) rfl
      (f := fun i => some (mx0 ((fromL (neededL ds nm)).getD i 0 - (keptL lar nm).getD i 0))) (R := fun _ v x => v = V.int x) mono_eq hD (fun H s => ⟨s.seqT (sqT (s3 _ _ h2)), s.seqT (sqT h3)⟩) (by decide) (fun i v x H4 H5 Ky Kn hx sm hy k1 k2 => ?_) (fun H4 ys sm hD' hd' => ?_)
    · obtain ⟨rfl, hi⟩ := range_ix hx
      obtain ⟨T, a, b, rfl, hT, rfl, ea, eb⟩ := hy
      obtain ⟨na, ea2, rfl⟩ := map_ix ea
      obtain ⟨nb, eb2, rfl⟩ := map_ix eb
      refine ⟨T, _, rfl, sqT upd_same, rfl, _, _, rfl, _, _, rfl, rfl, rfl, ?_⟩
      walk_at "rd"
      refine k1 _ _ _ rfl (same_upd hT) ?_
      rw [List.getD_eq_getElem?_getD, List.getD_eq_getElem?_getD, ea2, eb2]
      rfl
    · have e := held_eq (f := V.int) hd'
      rw [fm_some] at e
      refine ⟨D, _, rfl, .inl ⟨sqL hD', fun p hp => ?_⟩⟩
      rw [e]
      exact q p _ ((((s1.trans s2).trans s3).trans sm).new hp) upd_same
abbrev s_lacks : Stmt := topS 22
theorem sc_lacks : FnScope ["_law_dishes_here", "_law_larder_here", "_law_name", "_law_lacks_here", "_law_day", "_law_amount_here", "_law_dish", "_law_need", "_law_batch"] ["_law_dishes_here", "_law_larder_here", "_law_name"] (defScope s_lacks) := ⟨rfl, rfl, rfl, by decide +kernel, rfl, by decide +kernel, by decide +kernel⟩
theorem bd_lacks : ∀ (kV doc pm : Value) (an : Option Addr) (cdv ct : Value) (us : List Value), us.length = (["_law_dishes_here", "_law_larder_here", "_law_name"] : List Str).length → bindArgs (PySem.W.fnOf "_law_lacks" "_law_lacks" (defArgs s_lacks) (defBody s_lacks) (defScope s_lacks) .none kV doc pm an cdv ct) ⟨us, []⟩ = pure ((["_law_dishes_here", "_law_larder_here", "_law_name"] : List Str).zip us) := fun _ _ _ _ _ _ us hl => match us, hl with | [_, _, _], _ => rfl
def spLacks (K : PySem.W.Frag) : Sp := fun vs H Q _ => ∃ (v u : V) (ds : List Dish) (lar : List Batch) (nm : Str), vs = [v, u, .str nm] ∧ DishesAt H v ds ∧ (∀ d ∈ ds, d.2.length ≤ 20) ∧ LarderAt H u lar ∧
  ∀ p H', Same H H' → H p = none → H' p = some (.lst ((lackW ds lar nm).map V.int)) → Q (.ref p) H'
theorem ok_lacks {P : Program} {w : World} {K : PySem.W.Frag} {mg : Str → Option Value} {base : Heap} (D : DefAt K mg "_law_lacks" s_lacks) (m_range : mg "range" = none) (m_sum : mg "sum" = none) (m_max : mg "max" = none) :
    Clb P w K mg base 1 "_law_lacks" ["_law_dishes_here", "_law_larder_here", "_law_name"] (spLacks K) := by
  refine D.clb sc_lacks (fun vs H Q E h => ?_) bd_lacks (fun f cdv A outer s H vs Q E hr h => ?_)
  · obtain ⟨v, u, ds, lar, nm, rfl, _⟩ := h
    rfl
  · obtain ⟨v, u, ds, lar, nm, rfl, ⟨a, us, rfl, ha, hh⟩, hn, ⟨b, bs, rfl, hb, hbh⟩, q⟩ := h
    refine ⟨_, (pss_cons (ps_set (i := 3) sc_lacks.nd rfl (.inl rfl) (pe_lst pa_nil))
    (pss_cons (ps_for PassesOwn.never rfl (pi_range2 (by rfl) m_range (pa_cons pe_int (pa_cons pe_int pa_nil))) (pg_name (i := 4) sc_lacks.nd rfl (.inl rfl))
      (pss_cons (ps_set (i := 5) sc_lacks.nd rfl (.inl rfl) pe_int)
    (pss_cons (ps_for PassesOwn.never rfl (kpi_tup K (pv 0)) (pg_name (i := 6) sc_lacks.nd rfl (.inl rfl))
      (pss_one (ps_if (pt_cmpR op_ge (pe_ix (kix_tup K) (pv 6) pe_int (fun _ _ => rfl)) (pv 4) (nomark _))
      (pss_one (ps_set (i := 5) sc_lacks.nd rfl (.inl rfl) (pe_op op_add (pv 5) (pe_callB (kcr_sum K rfl) (by rfl) m_sum (by decide +kernel) (pa_cons (pe_lc (own := [("_law_need", 7)]) rfl sc_lacks.nd (kpi_tup K (pe_ix (kix_tup K) (pv 6) pe_int (fun _ _ => rfl))) (blkOk_by (own := [("_law_need", 7)]) (N := ["_law_dishes_here", "_law_larder_here", "_law_name", "_law_lacks_here", "_law_day", "_law_amount_here", "_law_dish", "_law_need", "_law_batch"]) (sc := defScope s_lacks) (by decide +kernel)) (fun _ _ _ _ _ => (pg_name (i := 7) sc_lacks.nd rfl (.inl rfl))) (fun _ _ _ _ _ => (pts_one (pt_cmpR op_eq (pe_ix (kix_tup K) (pv 7) pe_int (fun _ _ => rfl)) (pv 2) (nomark _)))) (fun _ _ _ _ _ => (pe_ix (kix_tup K) (pv 7) pe_int (fun _ _ => rfl)))) pa_nil)))))
      pss_nil)))
    (pss_cons (ps_for PassesOwn.never rfl (kpi_tup K (pv 1)) (pg_name (i := 8) sc_lacks.nd rfl (.inl rfl))
      (pss_one (ps_if (PW.pt (pw_and (pt_cmpR op_eq (pe_ix (kix_tup K) (pv 8) pe_int (fun _ _ => rfl)) (pv 2) (nomark _)) (pw_and1 (pt_cmpR op_ge (pe_ix (kix_tup K) (pv 8) pe_int (fun _ _ => rfl)) (pv 4) (nomark _)))))
      (pss_one (ps_set (i := 5) sc_lacks.nd rfl (.inl rfl) (pe_op op_sub (pv 5) (pe_ix (kix_tup K) (pv 8) pe_int (fun _ _ => rfl)))))
      pss_nil)))
    (pss_one (ps_expr (kpe_bm K PySem.F.plainAttrs_list PySem.F.slot_list_append PySem.F.type_list_append mt_append (pv 3) (pa_cons (pe_callB (call_max2 rfl) (by rfl) m_max (by decide +kernel) (pa_cons pe_int (pa_cons (pv 5) pa_nil))) pa_nil))))))))
    (pss_one (ps_ret (pv 3))))), ?_⟩
    refine ⟨Nat.zero_le _, fun p hp => ?_⟩
    refine ⟨_, _, rfl, by decide, ?_⟩
    refine for_range (lo := 1) (n := 7) (fun i σ H1 => ∃ y4 y5 y6 y7 y8 : Option V, σ = [some (.ref a), some (.ref b), some (.str nm), some (.ref p), y4, y5, y6, y7, y8] ∧ Same H H1 ∧ H1 p = some (.lst (((List.range i).map fun j => lackDay ds lar nm (1 + (j : Nat))).map V.int)) ∧ i ≤ 7)
      ⟨none, none, none, none, none, rfl, same_upd hp, upd_same, by decide⟩ (fun i σ H1 hi h => ?_) (fun σ H1 h => ?_)
    · obtain ⟨y4, y5, y6, y7, y8, rfl, sm, hpl, _⟩ := h
      generalize hday : (1 : Int) + (i : Nat) = day
      -- the dishes
      refine ⟨_, rfl, a, rfl, ⟨_, sqT (sm _ _ ha)⟩, ?_⟩
      refine for_tup (xs := us) (fun j σ H2 => ∃ y6 y7 y8 : Option V, σ = [some (.ref a), some (.ref b), some (.str nm), some (.ref p), some (.int day), some (.int (needFrom (ds.take j) nm day)), y6, y7, y8] ∧ Same H1 H2) ⟨y6, y7, y8, rfl, Same.refl _⟩
        (fun j σ H2 _ h => by obtain ⟨_, _, _, _, s2⟩ := h; exact (sm.trans s2).seqT (sqT ha)) (fun j v σ H2 hv h => ?_) (fun σ H2 h => ?_)
      · obtain ⟨y6, y7, y8, rfl, s2⟩ := h
        obtain ⟨d, hd, t, w', rfl, ht, z, ws, rfl, hz, hw⟩ := hh.get hv
        have s02 := sm.trans s2
        refine ⟨_, rfl, t, _, _, _, rfl, rfl, sqT (s02 _ _ ht), rfl, ?_⟩
        have et := take_succ' hd
        walk_at "rd"
        refine it_le (fun e => ?_) (fun e => ?_)
        · refine ⟨_, rfl, ?_⟩
          refine ⟨_, rfl, t, _, _, _, rfl, rfl, sqT (s02 _ _ ht), rfl, z, rfl, ⟨_, sqT (s02 _ _ hz)⟩, fun D hD => lc_rel (walk_tup (xs := ws)) (xs := d.2) hw.len.symm (f := fun x => if x.1 = nm then some x.2 else none) (R := fun _ v x => v = V.int x) mono_eq hD (fun H' s => (s02.trans s).seqT (sqT hz)) (by have h20 := hn d (List.mem_of_getElem? hd); have := hw.len; omega) (fun i v x H3 H4 Ky Kn hx s3 hy h1 h2 => ?_) (fun H3 ys s3 hD' hd' => ?_)⟩
          · obtain ⟨rfl, hv⟩ := hy
            obtain ⟨t2, rfl, ht2⟩ := hw.all i v x hv hx
            have ht3 := (s02.trans s3) _ _ ht2
            refine ⟨rfl, ?_⟩
            refine ⟨_, rfl, t2, _, _, _, rfl, rfl, sqT ht3, rfl, ?_⟩
            walk_at "rd"
            refine it_eqS (fun e => ?_) (fun e => ?_)
            · exact ⟨_, rfl, t2, _, _, _, rfl, rfl, sqT ht3, rfl, h1 _ _ _ (if_pos e) (Same.refl _) rfl⟩
            · exact h2 _ (if_neg e) (Same.refl _)
          · have e2 := held_eq (f := V.int) hd'
            refine ⟨D, _, rfl, sqL (by rw [hD', e2]), ?_⟩
            exact ⟨_, _, rfl, rfl, some (.ref t), y7, y8, by rw [et, needFrom_snoc, if_pos e]; rfl, s2.trans s3⟩
        · exact ⟨some (.ref t), y7, y8, by rw [et, needFrom_snoc, if_neg e, Int.add_zero]; rfl, s2⟩
      · obtain ⟨y6, y7, y8, rfl, s2⟩ := h
        rw [hh.len, List.take_length]
        have s02 := sm.trans s2
        -- the batches
        refine ⟨_, rfl, b, rfl, ⟨_, sqT (s02 _ _ hb)⟩, ?_⟩
        refine for_tup (xs := bs) (fun j σ H3 => ∃ y6 y7 y8 : Option V, σ = [some (.ref a), some (.ref b), some (.str nm), some (.ref p), some (.int day), some (.int (needFrom ds nm day - keptTo (lar.take j) nm day)), y6, y7, y8] ∧ H3 = H2)
          ⟨y6, y7, y8, by show _ = [_, _, _, _, _, some (V.int (needFrom ds nm day - 0)), _, _, _]; rw [Int.sub_zero], rfl⟩
          (fun j σ H3 _ h => by obtain ⟨_, _, _, _, rfl⟩ := h; exact s02.seqT (sqT hb)) (fun j v σ H3 hv h => ?_) (fun σ H3 h => ?_)
        · obtain ⟨y6, y7, y8, rfl, rfl⟩ := h
          obtain ⟨bt, hbt, t, rfl, ht⟩ := hbh.get hv
          have ht' := sqT (K := K) (s02 _ _ ht)
          have et := take_succ' hbt
          refine ⟨_, rfl, t, _, _, _, rfl, rfl, ht', rfl, ?_⟩
          walk_at "rd"
          refine it_eqS (fun e => ?_) (fun e => ?_)
          · refine ⟨_, rfl, t, _, _, _, rfl, rfl, ht', rfl, ?_⟩
            walk_at "rd"
            refine it_le (fun e2 => ?_) (fun e2 => ?_)
            · refine ⟨_, rfl, _, rfl, t, _, _, _, rfl, rfl, ht', rfl, ?_⟩
              exact ⟨_, _, rfl, rfl, y6, y7, some (.ref t), by rw [et, keptTo_snoc, if_pos ⟨e, e2⟩, ← Int.sub_sub]; rfl, rfl⟩
            · exact ⟨y6, y7, some (.ref t), by rw [et, keptTo_snoc, if_neg (fun z => e2 z.2), Int.add_zero]; rfl, rfl⟩
          · exact ⟨y6, y7, some (.ref t), by rw [et, keptTo_snoc, if_neg (fun z => e z.1), Int.add_zero]; rfl, rfl⟩
        · obtain ⟨y6, y7, y8, rfl, rfl⟩ := h
          rw [hbh.len, List.take_length]
          have hpl2 := s2 _ _ hpl
          refine ⟨_, rfl, .inl ⟨rfl, _, sqL hpl2⟩, ?_⟩
          walk_at "rd"
          refine ⟨p, _, _, rfl, rfl, hpl2, small' (by rw [List.length_map, List.length_map, List.length_range]; omega), ?_⟩
          refine ⟨_, _, _, _, _, rfl, s02.mut hp, ?_, by omega⟩
          rw [upd_same, List.range_succ, List.map_append, List.map_append]
          show _ = some (HO.lst (_ ++ [V.int (lackDay ds lar nm (1 + (i : Nat)))]))
          rw [hday]
          rfl
    · obtain ⟨y4, y5, y6, y7, y8, rfl, sm, hpl, _⟩ := h
      exact ⟨_, rfl, q p H1 sm hp hpl⟩
abbrev s_law : Stmt := topS 23
theorem sc_law : FnScope ["_law_script", "_law_cells", "_law_names_here", "_law_cell", "_law_dishes_here", "_law_larder_here", "_law_k", "_law_name", "_law_due", "_law_batch", "_law_day"] ["_law_script"] (defScope s_law) := ⟨rfl, rfl, rfl, by decide +kernel, rfl, by decide +kernel, by decide +kernel⟩
theorem bd_law : ∀ (kV doc pm : Value) (an : Option Addr) (cdv ct : Value) (us : List Value), us.length = (["_law_script"] : List Str).length → bindArgs (PySem.W.fnOf "law" "law" (defArgs s_law) (defBody s_law) (defScope s_law) .none kV doc pm an cdv ct) ⟨us, []⟩ = pure ((["_law_script"] : List Str).zip us) := fun _ _ _ _ _ _ us hl => match us, hl with | [_], _ => rfl
def spLaw (K : PySem.W.Frag) : Sp := fun vs H Q _ => ∃ (a : Addr) (ns : List Int), vs = [.ref a] ∧ SqL K H a (ns.map V.int) ∧ ns.length ≤ 63 ∧ ∀ H', Q (.bl true) H'
theorem ok_law {P : Program} {w : World} {K : PySem.W.Frag} {mg : Str → Option Value} {base : Heap} {f : Addr} {fd : FuncData} (F : Fun K "law" "law" s_law f fd) (m_range : mg "range" = none) (m_sum : mg "sum" = none)
    (C_mixed : Clb P w K mg base 1 "_law_mixed" ["_law_script"] (spMixed K)) (C_names : Clb P w K mg base 2 "_law_names" ["_law_cells"] (spNames K))
    (C_cell_at : Clb P w K mg base 1 "_law_cell_at" ["_law_cells", "_law_k"] (spCellAt K)) (C_dishes : Clb P w K mg base 2 "_law_dishes" ["_law_cells", "_law_names_here", "_law_many_here"] (spDishes K))
    (C_many : Clb P w K mg base 1 "_law_many" ["_law_cell", "_law_few", "_law_room"] spMany) (C_larder : Clb P w K mg base 2 "_law_larder" ["_law_cells", "_law_names_here", "_law_many_here"] (spLarder K))
    (C_name_by : Clb P w K mg base 1 "_law_name_by" ["_law_seed", "_law_k"] spNameBy) (C_numbers : Clb P w K mg base 2 "_law_numbers" ["_law_found", "_law_due"] (spNumbers K))
    (C_kept : Clb P w K mg base 2 "kept" ["larder", "name"] (spKept K)) (C_lacking : Clb P w K mg base 3 "lacking" ["dishes", "larder", "name"] (spLacking K)) (C_lacks : Clb P w K mg base 1 "_law_lacks" ["_law_dishes_here", "_law_larder_here", "_law_name"] (spLacks K)) :
    FnOk P w K mg base CX0 4 f fd ["_law_script"] (spLaw K) := by
  refine F.ok sc_law (fun vs H Q E h => ?_) (fun cdv A outer s H vs Q E hr h => ?_)
  · obtain ⟨a, ns, rfl, _⟩ := h
    rfl
  · obtain ⟨a, ns, rfl, hS, hl, q⟩ := h
    refine ⟨_, (pss_cons (ps_set (i := 1) sc_law.nd rfl (.inl rfl) (pe_cal C_mixed (hr.mono (by decide)) (pa_cons (pv 0) pa_nil)))
    (pss_cons (ps_set (i := 2) sc_law.nd rfl (.inl rfl) (pe_cal C_names (hr.mono (by decide)) (pa_cons (pv 1) pa_nil)))
    (pss_cons (ps_set (i := 3) sc_law.nd rfl (.inl rfl) (pe_cal C_cell_at (hr.mono (by decide)) (pa_cons (pv 1) (pa_cons pe_int pa_nil))))
    (pss_cons (ps_set (i := 4) sc_law.nd rfl (.inl rfl) (pe_cal C_dishes (hr.mono (by decide)) (pa_cons (pv 1) (pa_cons (pv 2) (pa_cons (pe_cal C_many (hr.mono (by decide)) (pa_cons (pv 3) (pa_cons pe_int (pa_cons pe_int pa_nil)))) pa_nil)))))
    (pss_cons (ps_set (i := 5) sc_law.nd rfl (.inr rfl) (pe_cal C_larder (hr.mono (by decide)) (pa_cons (pv 1) (pa_cons (pv 2) (pa_cons (pe_cal C_many (hr.mono (by decide)) (pa_cons (pe_op op_fdiv (pv 3) pe_int) (pa_cons pe_int (pa_cons pe_int pa_nil)))) pa_nil)))))
    (pss_cons (ps_for PassesOwn.never rfl (pi_range1 (by rfl) m_range (pa_cons (pe_op op_add (pe_ix (kix_list K) (pv 2) pe_int (fun _ _ => rfl)) pe_int) pa_nil)) (pg_name (i := 6) sc_law.nd rfl (.inl rfl))
      (pss_cons (ps_set (i := 7) sc_law.nd rfl (.inr rfl) (pe_cal C_name_by (hr.mono (by decide)) (pa_cons (pe_ix (kix_list K) (pv 2) pe_int (fun _ _ => rfl)) (pa_cons (pv 6) pa_nil))))
    (pss_cons (ps_setLc (i := 8) (own := [("_law_day", 10)])   rfl sc_law.nd rfl rfl (sw_true rfl rfl rfl (by decide +kernel)) (pi_range1 (by rfl) m_range (pa_cons pe_int pa_nil)) (blkOk_by (own := [("_law_day", 10)]) (N := ["_law_script", "_law_cells", "_law_names_here", "_law_cell", "_law_dishes_here", "_law_larder_here", "_law_k", "_law_name", "_law_due", "_law_batch", "_law_day"]) (sc := defScope s_law) (by decide +kernel)) (fun _ _ _ _ _ => (pg_name (i := 10) sc_law.nd rfl (.inr rfl))) (fun _ _ _ _ _ => pts_nil) (fun _ _ _ _ _ => (pe_callB (kcr_sum K rfl) (by rfl) m_sum (by decide +kernel) (pa_cons (pe_lc (own := [("_law_batch", 9)]) rfl sc_law.nd (kpi_tup K (pv 5)) (blkOk_by (by rfl)) (fun _ _ _ _ _ => (pg_name (i := 9) sc_law.nd rfl (.inl rfl))) (fun _ _ _ _ _ => (pts_one (PW.pt (pw_and (pt_cmpR op_eq (pe_ix (kix_tup K) (pv 9) pe_int (fun _ _ => rfl)) (pv 7) (nomark _)) (pw_and1 (pt_cmpR op_gt (pe_ix (kix_tup K) (pv 9) pe_int (fun _ _ => rfl)) (pv 10) (nomark _))))))) (fun _ _ _ _ _ => (pe_ix (kix_tup K) (pv 9) pe_int (fun _ _ => rfl)))) pa_nil))))
    (pss_cons (ps_if (pt_not (pt_val (pe_cal C_numbers (hr.mono (by decide)) (pa_cons (pe_cal C_kept (hr.mono (by decide)) (pa_cons (pv 5) (pa_cons (pv 7) pa_nil))) (pa_cons (pv 8) pa_nil)))))
      (pss_one (ps_ret pe_bl))
      pss_nil)
    (pss_one (ps_if (pt_not (pt_val (pe_cal C_numbers (hr.mono (by decide)) (pa_cons (pe_cal C_lacking (hr.mono (by decide)) (pa_cons (pv 4) (pa_cons (pv 5) (pa_cons (pv 7) pa_nil)))) (pa_cons (pe_cal C_lacks (hr.mono (by decide)) (pa_cons (pv 4) (pa_cons (pv 5) (pa_cons (pv 7) pa_nil)))) pa_nil)))))
      (pss_one (ps_ret pe_bl))
      pss_nil))))))
    (pss_one (ps_ret pe_bl)))))))), ?_⟩
    refine ⟨_, rfl, a, ns, rfl, hS, hl, fun ca H1 s1 hc => ?_⟩
    refine ⟨_, rfl, ca, rfl, hc, fun na H2 seed many s2 hn => ?_⟩
    refine ⟨_, rfl, ca, 2, rfl, hc.same s2, by decide, by decide, fun cell z0 z1 => ?_⟩
    refine ⟨_, rfl, _, rfl, _, rfl, cell, 5, 60, rfl, by decide, by decide, fun m m0 m1 => ?_⟩
    refine ⟨ca, na, m, seed, many, rfl, hc.same s2, hn, m0, m1, fun v ds H3 s3 hds dl dg => ?_⟩
    refine ⟨_, rfl, _, rfl, _, rfl, ?_⟩
    walk_at "rd"
    refine ⟨cell / 1500, 5, 200, rfl, by decide, by decide, fun m2 m3 m4 => ?_⟩
    refine ⟨ca, na, m2, seed, many, rfl, (hc.same s2).same s3, hn.same s3, m3, m4, fun u lar H4 s4 hlar ll lg => ?_⟩
    have hn4 := (hn.same s3).same s4
    have hds4 := DishesAt.mono _ _ _ _ (SameT.of s4) hds
    refine ⟨_, rfl, na, _, _, _, rfl, rfl, sqL hn4.1, rfl, ?_⟩
    have hmany := hn4.2
    walk_at "rd"
    refine ⟨by omega, by omega, ?_⟩
    refine for_range (lo := 0) (fun i σ H' => ∃ y6 y7 y8 y9 y10 : Option V, σ = [some (.ref a), some (.ref ca), some (.ref na), some (.int cell), some v, some u, y6, y7, y8, y9, y10] ∧ Same H4 H')
      ⟨none, none, none, none, none, rfl, Same.refl _⟩ (fun i σ H5 hi h => ?_) (fun σ H5 h => ?_)
    · obtain ⟨y6, y7, y8, y9, y10, rfl, s5⟩ := h
      have hn5 := hn4.same s5
      refine ⟨_, rfl, na, _, _, _, rfl, rfl, sqL hn5.1, rfl, ?_⟩
      refine ⟨_, rfl, seed, _, rfl, by omega, by omega, fun H6 s6 => ?_⟩
      generalize hnm : nameBy seed (0 + (i : Nat)) = nm
      have s46 := s5.trans s6
      have hlar6 := LarderAt.mono _ _ _ _ (SameT.of s46) hlar
      obtain ⟨b, bs, rfl, hb, hbh⟩ := hlar6
      -- what is due
      walk_at "rd"
      refine ⟨by decide, by decide, fun D1 hD1 => lc_rel (walk_range (lo := 0) (n := 7)) (xs := List.range 7) rfl (f := fun k => some (dueK lar nm (k : Nat))) (R := fun _ v x => v = V.int x) mono_eq hD1 (fun _ _ => trivial) (by decide) (fun j w' x H7 H8 Ky Kn hx s7 hy h1 h2 => ?_) (fun H7 ys s7 hD1' hd' => ?_)⟩
      · obtain ⟨rfl, rfl⟩ := hy
        obtain ⟨rfl, hx7⟩ := range_ix hx
        refine ⟨rfl, ?_⟩
        refine ⟨_, rfl, b, rfl, ⟨_, s7.seqT (sqT hb)⟩, fun D2 hD2 => lc_rel (walk_tup (xs := bs)) (xs := lar) hbh.len.symm (f := fun b => if b.name = nm ∧ (x : Int) < b.last then some b.amount else none) (R := fun _ v x => v = V.int x) mono_eq hD2 (fun H' s => (s7.trans s).seqT (sqT hb)) (by have := hbh.len; omega) (fun k w2 bt H9 H10 Ky2 Kn2 hbt s9 hy k1 k2 => ?_) (fun H9 zs s9 hD2' hd2 => ?_)⟩
        · obtain ⟨rfl, hv⟩ := hy
          obtain ⟨t, rfl, ht⟩ := hbh.all k _ bt hv hbt
          have ht' := sqT (K := K) ((s7.trans s9) _ _ ht)
          refine ⟨rfl, ?_⟩
          refine ⟨_, rfl, t, _, _, _, rfl, rfl, ht', rfl, ?_⟩
          walk_at "rd"
          refine it_eqS (fun e => ?_) (fun e => ?_)
          · refine ⟨_, rfl, t, _, _, _, rfl, rfl, ht', rfl, ?_⟩
            walk_at "rd"
            refine it_lt (fun e2 => ?_) (fun e2 => ?_)
            · exact ⟨_, rfl, t, _, _, _, rfl, rfl, ht', rfl, k1 _ _ _ (if_pos ⟨e, by omega⟩) (Same.refl _) rfl⟩
            · exact k2 _ (if_neg fun z => e2 (by have := z.2; omega)) (Same.refl _)
          · exact k2 _ (if_neg fun z => e z.1) (Same.refl _)
        · have e2 := held_eq (f := V.int) hd2
          exact ⟨D2, _, rfl, sqL (by rw [hD2', e2]), h1 _ _ _ rfl s9 rfl⟩
      · have e2 := held_eq (f := V.int) hd'
        rw [fm_some] at e2
        have s47 := s46.trans s7
        -- kept
        refine ⟨_, rfl, _, rfl, .ref b, lar, nm, rfl, ⟨b, bs, rfl, s7 _ _ hb, hbh.mono BatchAt.mono (SameT.of s7)⟩, by omega, fun p1 H8 s8 hp1 => ?_⟩
        refine ⟨_, rfl, p1, D1, keptL lar nm, rfl, hp1, .inl (sqL (by rw [s8 _ _ hD1', e2, keptL_eq])), by rw [keptL_len]; decide, ?_⟩
        refine ⟨_, rfl, ?_⟩
        -- lacking
        have s48 := s47.trans s8
        have dsh : DishesAt H8 v ds := DishesAt.mono _ _ _ _ (SameT.of s48) hds4
        have lrh : LarderAt H8 (.ref b) lar := ⟨b, bs, rfl, s8 _ _ (s7 _ _ hb), (hbh.mono BatchAt.mono (SameT.of s7)).mono BatchAt.mono (SameT.of s8)⟩
        refine ⟨_, rfl, _, rfl, _, rfl, v, .ref b, ds, lar, nm, rfl, dsh, by omega, fun d hd => (dg d hd).many, lrh, by omega, fun p2 H9 s9 hp2 => ?_⟩
        refine ⟨_, rfl, _, rfl, _, rfl, v, .ref b, ds, lar, nm, rfl, DishesAt.mono _ _ _ _ (SameT.of s9) dsh, fun d hd => (dg d hd).many, LarderAt.mono _ _ _ _ (SameT.of s9) lrh, fun p3 H10 s10 _ hp3 => ?_⟩
        refine ⟨p2, p3, lackL ds lar nm, rfl, s10 _ _ hp2, .inl (sqL (by rw [hp3, lack_eq ds lar nm fun d hd => ⟨(dg d hd).day1, (dg d hd).day7⟩])), by rw [lackL_len]; decide, ?_⟩
        refine ⟨_, rfl, ?_⟩
        exact ⟨_, _, _, _, _, rfl, (s48.trans s9).trans s10⟩
    · exact q H5
/-! ### what the top has written -/
theorem all_mk {l : PySem.W.OpenLaw} {w : World} {K : PySem.W.Frag} {h : Heap} {mg : Str → Option Value} {fa : Addr} (X : K.In h) (G : h.Ns mainGlobals mg) (hfa : mg "law" = some (.ref fa))
    {f0 : Addr} {od0 an0 : Option Addr} {sl0 : Array (Option Value)} {oc0 kV0 dc0 pm0 cd0 ct0 : Value} (a0 : PySem.W.nsIn K mainGlobals "_law_cell_at" = some (some (.ref f0))) (l0 : K.lookup f0 = some ⟨oc0, od0, .func (PySem.W.fnOf "_law_cell_at" "_law_cell_at" (defArgs s_cell_at) (defBody s_cell_at) (defScope s_cell_at) .none kV0 dc0 pm0 an0 cd0 ct0), sl0⟩) (c0 : PySem.W.codeIn K cd0 "_law_cell_at" = true) (k0 : PySem.W.keepIn K (.ref f0) = true)
    {f1 : Addr} {od1 an1 : Option Addr} {sl1 : Array (Option Value)} {oc1 kV1 dc1 pm1 cd1 ct1 : Value} (a1 : PySem.W.nsIn K mainGlobals "_law_amount" = some (some (.ref f1))) (l1 : K.lookup f1 = some ⟨oc1, od1, .func (PySem.W.fnOf "_law_amount" "_law_amount" (defArgs s_amount) (defBody s_amount) (defScope s_amount) .none kV1 dc1 pm1 an1 cd1 ct1), sl1⟩) (c1 : PySem.W.codeIn K cd1 "_law_amount" = true) (k1 : PySem.W.keepIn K (.ref f1) = true)
    {f2 : Addr} {od2 an2 : Option Addr} {sl2 : Array (Option Value)} {oc2 kV2 dc2 pm2 cd2 ct2 : Value} (a2 : PySem.W.nsIn K mainGlobals "_law_mix" = some (some (.ref f2))) (l2 : K.lookup f2 = some ⟨oc2, od2, .func (PySem.W.fnOf "_law_mix" "_law_mix" (defArgs s_mix) (defBody s_mix) (defScope s_mix) .none kV2 dc2 pm2 an2 cd2 ct2), sl2⟩) (c2 : PySem.W.codeIn K cd2 "_law_mix" = true) (k2 : PySem.W.keepIn K (.ref f2) = true)
    {f3 : Addr} {od3 an3 : Option Addr} {sl3 : Array (Option Value)} {oc3 kV3 dc3 pm3 cd3 ct3 : Value} (a3 : PySem.W.nsIn K mainGlobals "_law_name_by" = some (some (.ref f3))) (l3 : K.lookup f3 = some ⟨oc3, od3, .func (PySem.W.fnOf "_law_name_by" "_law_name_by" (defArgs s_name_by) (defBody s_name_by) (defScope s_name_by) .none kV3 dc3 pm3 an3 cd3 ct3), sl3⟩) (c3 : PySem.W.codeIn K cd3 "_law_name_by" = true) (k3 : PySem.W.keepIn K (.ref f3) = true)
    {f4 : Addr} {od4 an4 : Option Addr} {sl4 : Array (Option Value)} {oc4 kV4 dc4 pm4 cd4 ct4 : Value} (a4 : PySem.W.nsIn K mainGlobals "_law_dishes" = some (some (.ref f4))) (l4 : K.lookup f4 = some ⟨oc4, od4, .func (PySem.W.fnOf "_law_dishes" "_law_dishes" (defArgs s_dishes) (defBody s_dishes) (defScope s_dishes) .none kV4 dc4 pm4 an4 cd4 ct4), sl4⟩) (c4 : PySem.W.codeIn K cd4 "_law_dishes" = true) (k4 : PySem.W.keepIn K (.ref f4) = true)
    {f5 : Addr} {od5 an5 : Option Addr} {sl5 : Array (Option Value)} {oc5 kV5 dc5 pm5 cd5 ct5 : Value} (a5 : PySem.W.nsIn K mainGlobals "_law_lacks" = some (some (.ref f5))) (l5 : K.lookup f5 = some ⟨oc5, od5, .func (PySem.W.fnOf "_law_lacks" "_law_lacks" (defArgs s_lacks) (defBody s_lacks) (defScope s_lacks) .none kV5 dc5 pm5 an5 cd5 ct5), sl5⟩) (c5 : PySem.W.codeIn K cd5 "_law_lacks" = true) (k5 : PySem.W.keepIn K (.ref f5) = true)
    {f6 : Addr} {od6 an6 : Option Addr} {sl6 : Array (Option Value)} {oc6 kV6 dc6 pm6 cd6 ct6 : Value} (a6 : PySem.W.nsIn K mainGlobals "_law_last" = some (some (.ref f6))) (l6 : K.lookup f6 = some ⟨oc6, od6, .func (PySem.W.fnOf "_law_last" "_law_last" (defArgs s_last) (defBody s_last) (defScope s_last) .none kV6 dc6 pm6 an6 cd6 ct6), sl6⟩) (c6 : PySem.W.codeIn K cd6 "_law_last" = true) (k6 : PySem.W.keepIn K (.ref f6) = true)
    {f7 : Addr} {od7 an7 : Option Addr} {sl7 : Array (Option Value)} {oc7 kV7 dc7 pm7 cd7 ct7 : Value} (a7 : PySem.W.nsIn K mainGlobals "_law_larder" = some (some (.ref f7))) (l7 : K.lookup f7 = some ⟨oc7, od7, .func (PySem.W.fnOf "_law_larder" "_law_larder" (defArgs s_larder) (defBody s_larder) (defScope s_larder) .none kV7 dc7 pm7 an7 cd7 ct7), sl7⟩) (c7 : PySem.W.codeIn K cd7 "_law_larder" = true) (k7 : PySem.W.keepIn K (.ref f7) = true)
    {f8 : Addr} {od8 an8 : Option Addr} {sl8 : Array (Option Value)} {oc8 kV8 dc8 pm8 cd8 ct8 : Value} (a8 : PySem.W.nsIn K mainGlobals "_law_many" = some (some (.ref f8))) (l8 : K.lookup f8 = some ⟨oc8, od8, .func (PySem.W.fnOf "_law_many" "_law_many" (defArgs s_many) (defBody s_many) (defScope s_many) .none kV8 dc8 pm8 an8 cd8 ct8), sl8⟩) (c8 : PySem.W.codeIn K cd8 "_law_many" = true) (k8 : PySem.W.keepIn K (.ref f8) = true)
    {f9 : Addr} {od9 an9 : Option Addr} {sl9 : Array (Option Value)} {oc9 kV9 dc9 pm9 cd9 ct9 : Value} (a9 : PySem.W.nsIn K mainGlobals "_law_mixed" = some (some (.ref f9))) (l9 : K.lookup f9 = some ⟨oc9, od9, .func (PySem.W.fnOf "_law_mixed" "_law_mixed" (defArgs s_mixed) (defBody s_mixed) (defScope s_mixed) .none kV9 dc9 pm9 an9 cd9 ct9), sl9⟩) (c9 : PySem.W.codeIn K cd9 "_law_mixed" = true) (k9 : PySem.W.keepIn K (.ref f9) = true)
    {f10 : Addr} {od10 an10 : Option Addr} {sl10 : Array (Option Value)} {oc10 kV10 dc10 pm10 cd10 ct10 : Value} (a10 : PySem.W.nsIn K mainGlobals "_law_names" = some (some (.ref f10))) (l10 : K.lookup f10 = some ⟨oc10, od10, .func (PySem.W.fnOf "_law_names" "_law_names" (defArgs s_names) (defBody s_names) (defScope s_names) .none kV10 dc10 pm10 an10 cd10 ct10), sl10⟩) (c10 : PySem.W.codeIn K cd10 "_law_names" = true) (k10 : PySem.W.keepIn K (.ref f10) = true)
    {f11 : Addr} {od11 an11 : Option Addr} {sl11 : Array (Option Value)} {oc11 kV11 dc11 pm11 cd11 ct11 : Value} (a11 : PySem.W.nsIn K mainGlobals "_law_whole" = some (some (.ref f11))) (l11 : K.lookup f11 = some ⟨oc11, od11, .func (PySem.W.fnOf "_law_whole" "_law_whole" (defArgs s_whole) (defBody s_whole) (defScope s_whole) .none kV11 dc11 pm11 an11 cd11 ct11), sl11⟩) (c11 : PySem.W.codeIn K cd11 "_law_whole" = true) (k11 : PySem.W.keepIn K (.ref f11) = true)
    {f12 : Addr} {od12 an12 : Option Addr} {sl12 : Array (Option Value)} {oc12 kV12 dc12 pm12 cd12 ct12 : Value} (a12 : PySem.W.nsIn K mainGlobals "_law_numbers" = some (some (.ref f12))) (l12 : K.lookup f12 = some ⟨oc12, od12, .func (PySem.W.fnOf "_law_numbers" "_law_numbers" (defArgs s_numbers) (defBody s_numbers) (defScope s_numbers) .none kV12 dc12 pm12 an12 cd12 ct12), sl12⟩) (c12 : PySem.W.codeIn K cd12 "_law_numbers" = true) (k12 : PySem.W.keepIn K (.ref f12) = true)
    {f13 : Addr} {od13 an13 : Option Addr} {sl13 : Array (Option Value)} {oc13 kV13 dc13 pm13 cd13 ct13 : Value} (a13 : PySem.W.nsIn K mainGlobals "kept_to" = some (some (.ref f13))) (l13 : K.lookup f13 = some ⟨oc13, od13, .func (PySem.W.fnOf "kept_to" "kept_to" (defArgs s_kept_to) (defBody s_kept_to) (defScope s_kept_to) .none kV13 dc13 pm13 an13 cd13 ct13), sl13⟩) (c13 : PySem.W.codeIn K cd13 "kept_to" = true) (k13 : PySem.W.keepIn K (.ref f13) = true)
    {f14 : Addr} {od14 an14 : Option Addr} {sl14 : Array (Option Value)} {oc14 kV14 dc14 pm14 cd14 ct14 : Value} (a14 : PySem.W.nsIn K mainGlobals "kept" = some (some (.ref f14))) (l14 : K.lookup f14 = some ⟨oc14, od14, .func (PySem.W.fnOf "kept" "kept" (defArgs s_kept) (defBody s_kept) (defScope s_kept) .none kV14 dc14 pm14 an14 cd14 ct14), sl14⟩) (c14 : PySem.W.codeIn K cd14 "kept" = true) (k14 : PySem.W.keepIn K (.ref f14) = true)
    {f15 : Addr} {od15 an15 : Option Addr} {sl15 : Array (Option Value)} {oc15 kV15 dc15 pm15 cd15 ct15 : Value} (a15 : PySem.W.nsIn K mainGlobals "from_day" = some (some (.ref f15))) (l15 : K.lookup f15 = some ⟨oc15, od15, .func (PySem.W.fnOf "from_day" "from_day" (defArgs s_from_day) (defBody s_from_day) (defScope s_from_day) .none kV15 dc15 pm15 an15 cd15 ct15), sl15⟩) (c15 : PySem.W.codeIn K cd15 "from_day" = true) (k15 : PySem.W.keepIn K (.ref f15) = true)
    {f16 : Addr} {od16 an16 : Option Addr} {sl16 : Array (Option Value)} {oc16 kV16 dc16 pm16 cd16 ct16 : Value} (a16 : PySem.W.nsIn K mainGlobals "needed_on" = some (some (.ref f16))) (l16 : K.lookup f16 = some ⟨oc16, od16, .func (PySem.W.fnOf "needed_on" "needed_on" (defArgs s_needed_on) (defBody s_needed_on) (defScope s_needed_on) .none kV16 dc16 pm16 an16 cd16 ct16), sl16⟩) (c16 : PySem.W.codeIn K cd16 "needed_on" = true) (k16 : PySem.W.keepIn K (.ref f16) = true)
    {f17 : Addr} {od17 an17 : Option Addr} {sl17 : Array (Option Value)} {oc17 kV17 dc17 pm17 cd17 ct17 : Value} (a17 : PySem.W.nsIn K mainGlobals "needed" = some (some (.ref f17))) (l17 : K.lookup f17 = some ⟨oc17, od17, .func (PySem.W.fnOf "needed" "needed" (defArgs s_needed) (defBody s_needed) (defScope s_needed) .none kV17 dc17 pm17 an17 cd17 ct17), sl17⟩) (c17 : PySem.W.codeIn K cd17 "needed" = true) (k17 : PySem.W.keepIn K (.ref f17) = true)
    {f18 : Addr} {od18 an18 : Option Addr} {sl18 : Array (Option Value)} {oc18 kV18 dc18 pm18 cd18 ct18 : Value} (a18 : PySem.W.nsIn K mainGlobals "lacking" = some (some (.ref f18))) (l18 : K.lookup f18 = some ⟨oc18, od18, .func (PySem.W.fnOf "lacking" "lacking" (defArgs s_lacking) (defBody s_lacking) (defScope s_lacking) .none kV18 dc18 pm18 an18 cd18 ct18), sl18⟩) (c18 : PySem.W.codeIn K cd18 "lacking" = true) (k18 : PySem.W.keepIn K (.ref f18) = true)
    {f19 : Addr} {od19 an19 : Option Addr} {sl19 : Array (Option Value)} {oc19 kV19 dc19 pm19 cd19 ct19 : Value} (a19 : PySem.W.nsIn K mainGlobals "law" = some (some (.ref f19))) (l19 : K.lookup f19 = some ⟨oc19, od19, .func (PySem.W.fnOf "law" "law" (defArgs s_law) (defBody s_law) (defScope s_law) .none kV19 dc19 pm19 an19 cd19 ct19), sl19⟩) (c19 : PySem.W.codeIn K cd19 "law" = true) (k19 : PySem.W.keepIn K (.ref f19) = true)
    {t0 : Tok} (z0 : PySem.W.nsIn K mainGlobals "DAYS" = some (some (.int 7 t0)))
    (z1 : PySem.W.nsIn K mainGlobals "bool" = some none)
    (z2 : PySem.W.nsIn K mainGlobals "int" = some none)
    (z3 : PySem.W.nsIn K mainGlobals "isinstance" = some none)
    (z4 : PySem.W.nsIn K mainGlobals "len" = some none)
    (z5 : PySem.W.nsIn K mainGlobals "max" = some none)
    (z6 : PySem.W.nsIn K mainGlobals "min" = some none)
    (z7 : PySem.W.nsIn K mainGlobals "range" = some none)
    (z8 : PySem.W.nsIn K mainGlobals "sum" = some none)
    (z9 : PySem.W.nsIn K mainGlobals "tuple" = some none)
    (z10 : PySem.W.nsIn K mainGlobals "zip" = some none) :
    ∃ fd : FuncData, (∀ (s : Shared) (v : Value), BindsTo s fd ⟨[v], []⟩ [("_law_script", v)]) ∧ ∀ base : Heap, K.In base → base.Ns mainGlobals mg → FnOk l.prog w K mg base CX0 4 fa fd ["_law_script"] (spLaw K) := by
  have e := hfa.symm.trans (PySem.W.mg_of X G a19)
  cases e
  have F_cell_at := fun_mk (st := s_cell_at) l0 c0 k0
  have D_cell_at : DefAt K mg "_law_cell_at" s_cell_at := ⟨f0, _, F_cell_at, PySem.W.mg_of X G a0⟩
  have F_amount := fun_mk (st := s_amount) l1 c1 k1
  have D_amount : DefAt K mg "_law_amount" s_amount := ⟨f1, _, F_amount, PySem.W.mg_of X G a1⟩
  have F_mix := fun_mk (st := s_mix) l2 c2 k2
  have D_mix : DefAt K mg "_law_mix" s_mix := ⟨f2, _, F_mix, PySem.W.mg_of X G a2⟩
  have F_name_by := fun_mk (st := s_name_by) l3 c3 k3
  have D_name_by : DefAt K mg "_law_name_by" s_name_by := ⟨f3, _, F_name_by, PySem.W.mg_of X G a3⟩
  have F_dishes := fun_mk (st := s_dishes) l4 c4 k4
  have D_dishes : DefAt K mg "_law_dishes" s_dishes := ⟨f4, _, F_dishes, PySem.W.mg_of X G a4⟩
  have F_lacks := fun_mk (st := s_lacks) l5 c5 k5
  have D_lacks : DefAt K mg "_law_lacks" s_lacks := ⟨f5, _, F_lacks, PySem.W.mg_of X G a5⟩
  have F_last := fun_mk (st := s_last) l6 c6 k6
  have D_last : DefAt K mg "_law_last" s_last := ⟨f6, _, F_last, PySem.W.mg_of X G a6⟩
  have F_larder := fun_mk (st := s_larder) l7 c7 k7
  have D_larder : DefAt K mg "_law_larder" s_larder := ⟨f7, _, F_larder, PySem.W.mg_of X G a7⟩
  have F_many := fun_mk (st := s_many) l8 c8 k8
  have D_many : DefAt K mg "_law_many" s_many := ⟨f8, _, F_many, PySem.W.mg_of X G a8⟩
  have F_mixed := fun_mk (st := s_mixed) l9 c9 k9
  have D_mixed : DefAt K mg "_law_mixed" s_mixed := ⟨f9, _, F_mixed, PySem.W.mg_of X G a9⟩
  have F_names := fun_mk (st := s_names) l10 c10 k10
  have D_names : DefAt K mg "_law_names" s_names := ⟨f10, _, F_names, PySem.W.mg_of X G a10⟩
  have F_whole := fun_mk (st := s_whole) l11 c11 k11
  have D_whole : DefAt K mg "_law_whole" s_whole := ⟨f11, _, F_whole, PySem.W.mg_of X G a11⟩
  have F_numbers := fun_mk (st := s_numbers) l12 c12 k12
  have D_numbers : DefAt K mg "_law_numbers" s_numbers := ⟨f12, _, F_numbers, PySem.W.mg_of X G a12⟩
  have F_kept_to := fun_mk (st := s_kept_to) l13 c13 k13
  have D_kept_to : DefAt K mg "kept_to" s_kept_to := ⟨f13, _, F_kept_to, PySem.W.mg_of X G a13⟩
  have F_kept := fun_mk (st := s_kept) l14 c14 k14
  have D_kept : DefAt K mg "kept" s_kept := ⟨f14, _, F_kept, PySem.W.mg_of X G a14⟩
  have F_from_day := fun_mk (st := s_from_day) l15 c15 k15
  have D_from_day : DefAt K mg "from_day" s_from_day := ⟨f15, _, F_from_day, PySem.W.mg_of X G a15⟩
  have F_needed_on := fun_mk (st := s_needed_on) l16 c16 k16
  have D_needed_on : DefAt K mg "needed_on" s_needed_on := ⟨f16, _, F_needed_on, PySem.W.mg_of X G a16⟩
  have F_needed := fun_mk (st := s_needed) l17 c17 k17
  have D_needed : DefAt K mg "needed" s_needed := ⟨f17, _, F_needed, PySem.W.mg_of X G a17⟩
  have F_lacking := fun_mk (st := s_lacking) l18 c18 k18
  have D_lacking : DefAt K mg "lacking" s_lacking := ⟨f18, _, F_lacking, PySem.W.mg_of X G a18⟩
  have F_law := fun_mk (st := s_law) l19 c19 k19
  have m_DAYS := PySem.W.mg_of X G z0
  have m_bool := PySem.W.mg_none_of X G z1
  have m_int := PySem.W.mg_none_of X G z2
  have m_isinstance := PySem.W.mg_none_of X G z3
  have m_len := PySem.W.mg_none_of X G z4
  have m_max := PySem.W.mg_none_of X G z5
  have m_min := PySem.W.mg_none_of X G z6
  have m_range := PySem.W.mg_none_of X G z7
  have m_sum := PySem.W.mg_none_of X G z8
  have m_tuple := PySem.W.mg_none_of X G z9
  have m_zip := PySem.W.mg_none_of X G z10
  refine ⟨PySem.W.fnOf "law" "law" (defArgs s_law) (defBody s_law) (defScope s_law) .none kV19 dc19 pm19 an19 cd19 ct19, fun s v => .of_eq rfl, fun base _ _ => ?_⟩
  have C_cell_at := ok_cell_at (P := l.prog) (w := w) (base := base) D_cell_at m_len
  have C_amount := ok_amount (P := l.prog) (w := w) (base := base) D_amount
  have C_mix := ok_mix (P := l.prog) (w := w) (base := base) D_mix
  have C_name_by := ok_name_by (P := l.prog) (w := w) (base := base) D_name_by m_len m_min m_range
  have C_dishes := ok_dishes (P := l.prog) (w := w) (base := base) D_dishes m_range m_int m_tuple C_mix C_cell_at C_amount C_name_by
  have C_lacks := ok_lacks (P := l.prog) (w := w) (base := base) D_lacks m_range m_sum m_max
  have C_last := ok_last (P := l.prog) (w := w) (base := base) D_last
  have C_larder := ok_larder (P := l.prog) (w := w) (base := base) D_larder m_range m_tuple C_mix C_cell_at C_amount C_last C_name_by
  have C_many := ok_many (P := l.prog) (w := w) (base := base) D_many
  have C_mixed := ok_mixed (P := l.prog) (w := w) (base := base) D_mixed
  have C_names := ok_names (P := l.prog) (w := w) (base := base) D_names C_cell_at
  have C_whole := ok_whole (P := l.prog) (w := w) (base := base) D_whole m_isinstance m_int m_bool
  have C_numbers := ok_numbers (P := l.prog) (w := w) (base := base) D_numbers m_isinstance m_tuple m_len m_range C_whole
  have C_kept_to := ok_kept_to (P := l.prog) (w := w) (base := base) D_kept_to m_sum
  have C_kept := ok_kept (P := l.prog) (w := w) (base := base) D_kept m_tuple m_range m_DAYS C_kept_to
  have C_from_day := ok_from_day (P := l.prog) (w := w) (base := base) D_from_day m_tuple m_range m_sum m_DAYS
  have C_needed_on := ok_needed_on (P := l.prog) (w := w) (base := base) D_needed_on m_sum
  have C_needed := ok_needed (P := l.prog) (w := w) (base := base) D_needed m_tuple m_range m_DAYS C_needed_on
  have C_lacking := ok_lacking (P := l.prog) (w := w) (base := base) D_lacking m_tuple m_zip m_max C_needed C_from_day C_kept
  exact ok_law F_law m_range m_sum C_mixed C_names C_cell_at C_dishes C_many C_larder C_name_by C_numbers C_kept C_lacking C_lacks
end Lar
open PySem PySem.W PyProof.Rows
set_option maxHeartbeats 0 in
theorem PySem.Challenge.cw_larderlist_k02_lacking_holds : PySem.Challenge.rw_larderlist_k02_lacking.Holds := by
  w_on; o_law; k_head; (case hw => w_witness2)
  k_fill
  refine L2.walk_of (l := PySem.Challenge.rw_larderlist_k02_lacking) (n := 63) (k := 4) (x := "_law_script") (CX := fun _ => L2.CX0) (sp := fun w => Lar.spLaw _) rfl (by decide) rfl ⟨rfl, by decide, by decide⟩ (fun w h Y => PySem.W.kIn_of Y) ?F (fun _ _ a ns hl _ hS => ⟨a, ns, rfl, hS, hl, fun _ => rfl⟩) (fun _ _ _ _ _ h => h)
  case F =>
    intro w mg fa h KX G hmg
    refine' Lar.all_mk KX G hmg ?a0 ?l0 ?c0 ?k0 ?a1 ?l1 ?c1 ?k1 ?a2 ?l2 ?c2 ?k2 ?a3 ?l3 ?c3 ?k3 ?a4 ?l4 ?c4 ?k4 ?a5 ?l5 ?c5 ?k5 ?a6 ?l6 ?c6 ?k6 ?a7 ?l7 ?c7 ?k7 ?a8 ?l8 ?c8 ?k8 ?a9 ?l9 ?c9 ?k9 ?a10 ?l10 ?c10 ?k10 ?a11 ?l11 ?c11 ?k11 ?a12 ?l12 ?c12 ?k12 ?a13 ?l13 ?c13 ?k13 ?a14 ?l14 ?c14 ?k14 ?a15 ?l15 ?c15 ?k15 ?a16 ?l16 ?c16 ?k16 ?a17 ?l17 ?c17 ?k17 ?a18 ?l18 ?c18 ?k18 ?a19 ?l19 ?c19 ?k19 ?z0 ?z1 ?z2 ?z3 ?z4 ?z5 ?z6 ?z7 ?z8 ?z9 ?z10
    (case a0 => k_is); (case l0 => k_is); (case c0 => k_is); (case k0 => k_is); (case a1 => k_is); (case l1 => k_is); (case c1 => k_is); (case k1 => k_is); (case a2 => k_is); (case l2 => k_is); (case c2 => k_is); (case k2 => k_is); (case a3 => k_is); (case l3 => k_is); (case c3 => k_is); (case k3 => k_is); (case a4 => k_is); (case l4 => k_is); (case c4 => k_is); (case k4 => k_is); (case a5 => k_is); (case l5 => k_is); (case c5 => k_is); (case k5 => k_is); (case a6 => k_is); (case l6 => k_is); (case c6 => k_is); (case k6 => k_is); (case a7 => k_is); (case l7 => k_is); (case c7 => k_is); (case k7 => k_is); (case a8 => k_is); (case l8 => k_is); (case c8 => k_is); (case k8 => k_is); (case a9 => k_is); (case l9 => k_is); (case c9 => k_is); (case k9 => k_is); (case a10 => k_is); (case l10 => k_is); (case c10 => k_is); (case k10 => k_is); (case a11 => k_is); (case l11 => k_is); (case c11 => k_is); (case k11 => k_is); (case a12 => k_is); (case l12 => k_is); (case c12 => k_is); (case k12 => k_is); (case a13 => k_is); (case l13 => k_is); (case c13 => k_is); (case k13 => k_is); (case a14 => k_is); (case l14 => k_is); (case c14 => k_is); (case k14 => k_is); (case a15 => k_is); (case l15 => k_is); (case c15 => k_is); (case k15 => k_is); (case a16 => k_is); (case l16 => k_is); (case c16 => k_is); (case k16 => k_is); (case a17 => k_is); (case l17 => k_is); (case c17 => k_is); (case k17 => k_is); (case a18 => k_is); (case l18 => k_is); (case c18 => k_is); (case k18 => k_is); (case a19 => k_is); (case l19 => k_is); (case c19 => k_is); (case k19 => k_is); (case z0 => k_is); (case z1 => k_is); (case z2 => k_is); (case z3 => k_is); (case z4 => k_is); (case z5 => k_is); (case z6 => k_is); (case z7 => k_is); (case z8 => k_is); (case z9 => k_is); (case z10 => k_is)
