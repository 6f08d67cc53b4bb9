import PyProof.Rows.All
import Wide.All
import OpenK.AllK
import Wide.FinOn
import HandS.ForMost
import HandS.IsInst
import HandS.Zip
import HandS.TupAny
import HandS.Walk
import HandS.More
import HandS.Codes
import KE.KTupSum
import HandS.TupMul
import HandS.Style
import HandS.Set
import HandS.SetBool
import HandS.Text
import KE.KxText
import PyProof.FitsReplace
import HandS.FStr
import PySem.Challenge.RW_larderlist_k14_listed
set_option Elab.async false
set_option linter.all false
set_option maxRecDepth 100000
set_option maxHeartbeats 4000000
namespace Lar
open PySem PySem.Spec PyProof.Rows L2

/-! ### defs of the text, as they are called -/
structure DefAt (K : PySem.W.Frag) (mg : Str → Option Value) (x : Str) (st : Stmt) : Prop where
  ex : ∃ f fd, Fun K x x st f fd ∧ mg x = some (.ref f)
structure Clb (P : Program) (w : World) (K : PySem.W.Frag) (mg : Str → Option Value) (base : Heap) (k : Nat) (x : Str) (ps : List Str) (sp : Sp) : Prop where
  ex : ∃ f fd, FnOk P w K mg base CX0 k f fd ps sp ∧ mg x = some (.ref f) ∧ PySem.W.keepIn K (.ref f) = true ∧ Binds K fd ps []
theorem DefAt.clb {P : Program} {w : World} {K : PySem.W.Frag} {mg : Str → Option Value} {base : Heap} {x : Str} {st : Stmt} {N ps : List Str} {k : Nat} {sp : Sp} (D : DefAt K mg x st)
    (S : FnScope N ps (defScope st)) (len : ∀ vs H Q E, sp vs H Q E → vs.length = ps.length)
    (hb : ∀ (kV doc pm : Value) (an : Option Addr) (cdv ct : Value) (us : List Value), us.length = ps.length → bindArgs (PySem.W.fnOf x x (defArgs st) (defBody st) (defScope st) .none kV doc pm an cdv ct) ⟨us, []⟩ = pure (ps.zip us))
    (hbody : ∀ (f : Addr) (cdv : Value) (A : Around) (outer : List Env) (s : Shared) (H : Hp) (vs : List V) (Q : VK) (E : XK), Room k (A.deeper (envOfC x (defScope st) s.heap.objs.size f cdv)) → sp vs H Q E →
      ∃ t, PSs (cxOf CX0 P w K mg base N x (defScope st) f cdv A outer s H E).nox (defBody st) t ∧ t { nx := fun _ H' => Q .non H', rt := Q } (start N vs) H) : Clb P w K mg base (k + 1) x ps sp := by
  obtain ⟨f, fd, F, hm⟩ := D.ex
  exact ⟨f, fd, F.ok S len (fun cdv A outer s H vs Q E hr h => hbody f cdv A outer s H vs Q E hr h), hm, F.kp, F.binds hb⟩
theorem pe_cal {X : Cx} {k : Nat} {x : Str} {ps : List Str} {sp : Sp} {e : Expr} {es : List Expr} {t : TA} {p pos : Pos} (C : Clb X.prog X.w X.K X.mg X.base k x ps sp) (hr : Room k X.A) (ha : PA X (e :: es) t) (hg : Gl X x := by rfl)
    (hdb : (x == ("__debug__" : Str)) = false := by decide) (he : starEach (e :: es) X.env = (false, eval e X.env) :: starEach es X.env := by rfl) (hpl : (backTo pos (starEach es X.env)).any (·.1) = false := by rfl) :
    PE X (.Call (.Name x p) (e :: es) [] pos) (tCall sp [] E0 t) := by
  obtain ⟨f, fd, F, hm, hk, hb⟩ := C.ex
  exact pe_call F hr hg hm hk hb .nil pass0 ha hdb he hpl

/-! ### heaps -/
theorem same_upd {H : Hp} {p : Addr} {o : HO} (h : H p = none) : Same H (upd H p o) := fun b x e => by
  rw [upd_ne (ne_of_none e h)]
  exact e
theorem _root_.L2.Same.new {H H' : Hp} {p : Addr} {o : HO} (e : Same H H') (h : H' p = none) : Same H (upd H' p o) := e.trans (same_upd h)
/-- what H did not know may change -/
theorem _root_.L2.Same.mut {H H' : Hp} {p : Addr} {o : HO} (e : Same H H') (h : H p = none) : Same H (upd H' p o) := fun a u ha => by
  rw [upd_ne (ne_of_none ha h)]
  exact e a u ha
theorem _root_.L2.Same.seqT {K : PySem.W.Frag} {H H' : Hp} {a : Addr} {xs : List V} (e : Same H H') (h : SqT K H a xs) : SqT K H' a xs := by
  rcases h with (h | ⟨o, h⟩) | h
  · exact .inl (.inl (e _ _ h))
  · exact .inl (.inr ⟨o, e _ _ h⟩)
  · exact .inr h
theorem sqL {K : PySem.W.Frag} {H : Hp} {a : Addr} {xs : List V} (h : H a = some (.lst xs)) : SqL K H a xs := .inl (.inl h)
theorem sqT {K : PySem.W.Frag} {H : Hp} {a : Addr} {xs : List V} (h : H a = some (.tup xs)) : SqT K H a xs := .inl (.inl h)
theorem small {n : Nat} (h : n ≤ 100000) : n ≤ sizeLine := Nat.le_trans h (by decide)
theorem small' {n : Nat} (h : n < 100000) : n < sizeLine := Nat.lt_of_lt_of_le h (by decide)
theorem map_ix {α : Type} {f : α → V} {xs : List α} {i : Nat} {v : V} (h : (xs.map f)[i]? = some v) : ∃ x, xs[i]? = some x ∧ v = f x := by
  rw [List.getElem?_map] at h
  cases e : xs[i]? with
  | none => rw [e] at h; cases h
  | some x => rw [e] at h; exact ⟨x, rfl, (Option.some.inj h).symm⟩
theorem ix_map {α : Type} {f : α → V} {xs : List α} {i : Nat} {x : α} (h : xs[i]? = some x) : (xs.map f)[i]? = some (f x) := by
  rw [List.getElem?_map, h]; rfl
theorem take_succ' {α : Type} {xs : List α} {i : Nat} {x : α} (h : xs[i]? = some x) : xs.take (i + 1) = xs.take i ++ [x] := by
  rw [List.take_add_one, h]; rfl

/-! ### tests -/
section
variable {A B : Prop} {i j : Int} {x y : Str}
theorem it_lt (h1 : i < j → A) (h2 : ¬ i < j → B) : if decide (i < j) = true then A else B := ite2 (fun h => h1 (of_decide_eq_true h)) (fun h => h2 fun z => h (decide_eq_true z))
theorem it_le (h1 : i ≤ j → A) (h2 : ¬ i ≤ j → B) : if decide (i ≤ j) = true then A else B := ite2 (fun h => h1 (of_decide_eq_true h)) (fun h => h2 fun z => h (decide_eq_true z))
theorem it_eqI (h1 : i = j → A) (h2 : ¬ i = j → B) : if decide (V.int i = V.int j) = true then A else B := ite2 (fun h => h1 (V.int.inj (of_decide_eq_true h))) (fun h => h2 fun z => h (decide_eq_true (congrArg V.int z)))
theorem it_eqS (h1 : x = y → A) (h2 : ¬ x = y → B) : if decide (V.str x = V.str y) = true then A else B := ite2 (fun h => h1 (V.str.inj (of_decide_eq_true h))) (fun h => h2 fun z => h (decide_eq_true (congrArg V.str z)))
theorem it_neI (h1 : ¬ i = j → A) (h2 : i = j → B) : if (!decide (V.int i = V.int j)) = true then A else B := by
  by_cases e : i = j
  · subst e
    rw [decide_eq_true rfl]
    exact iteF (h2 rfl)
  · rw [decide_eq_false (fun z => e (V.int.inj z))]
    exact iteT (h1 e)
end
/-! ### the rules that speak of the written part, with it said -/
section
variable {X : Cx} {K : PySem.W.Frag}
theorem kpg_tup (K : PySem.W.Frag) {es : List Expr} {k : Nat} {t : TGs} {n : Nat} {pos : Pos} (hc : X.calm = true) (h : PGs X es t) (hK : X.K = K := by rfl) (hn : (assignEach es X.env).length = n := by rfl) (hst : (assignEach es X.env).findIdx? (·.1) = none := by rfl) :
    PG X (.Tuple es k pos) (gTup K n t) := by subst hK; exact pg_tup hc h hn hst
theorem kpi_list (K : PySem.W.Frag) {tg l : Expr} {tl : TE} (h : PE X l tl) (hK : X.K = K := by rfl) : PI X tg l (iList K tl) := by subst hK; exact pi_list h
theorem kpi_tup (K : PySem.W.Frag) {tg l : Expr} {tl : TE} (h : PE X l tl) (hK : X.K = K := by rfl) : PI X tg l (iTup K tl) := by subst hK; exact pi_tup h
theorem kix_list (K : PySem.W.Frag) (hK : X.K = K := by rfl) : IxR X (rIxL K) := by subst hK; exact ix_list
theorem kix_tup (K : PySem.W.Frag) (hK : X.K = K := by rfl) : IxR X (rIxT K) := by subst hK; exact ix_tup
theorem ksl_list (K : PySem.W.Frag) (hK : X.K = K := by rfl) : SlR X (rSlL K) := by subst hK; exact sl_list
theorem ksl_tupA (K : PySem.W.Frag) (hK : X.K = K := by rfl) : SlR X (rSlA K) := by subst hK; exact sl_tupA
theorem kcall_len_seq (K : PySem.W.Frag) (hK : X.K = K := by rfl) : CallR X (.builtin "len") (fun xs H Q => ∃ p ys, xs = [.ref p] ∧ (SqL K H p ys ∨ SqT K H p ys) ∧ Q (.int ys.length) H) := by subst hK; exact call_len_seq
theorem kcr_sum (K : PySem.W.Frag) (hc : X.calm = true) (hK : X.K = K := by rfl) : CallR X (.builtin "sum") (rSum K) := by subst hK; exact cr_sum hc
theorem kcr_max (K : PySem.W.Frag) (hc : X.calm = true) (hK : X.K = K := by rfl) : CallR X (.builtin "max") (rMax K) := by subst hK; exact cr_max hc
theorem kcr_min (K : PySem.W.Frag) (hc : X.calm = true) (hK : X.K = K := by rfl) : CallR X (.builtin "min") (rMin K) := by subst hK; exact cr_min hc
theorem kcall_tuple_of (K : PySem.W.Frag) (hK : X.K = K := by rfl) : CallR X (.type "tuple") (fun xs H Q => ∃ p ys, xs = [.ref p] ∧ ((SqL K H p ys ∧ ∀ l, H l = none → Q (.ref l) (upd H l (.tup ys))) ∨ (SqT K H p ys ∧ Q (.ref p) H))) := by subst hK; exact call_tuple_of
theorem kcall_list_of (K : PySem.W.Frag) (hK : X.K = K := by rfl) : CallR X (.type "list") (fun xs H Q => ∃ p ys, xs = [.ref p] ∧ (SqL K H p ys ∨ SqT K H p ys) ∧ ∀ l, H l = none → Q (.ref l) (upd H l (.lst ys))) := by subst hK; exact call_list_of
theorem kcall_isi (K : PySem.W.Frag) (hK : X.K = K := by rfl) : CallR X (.builtin "isinstance") (rIsi K) := by subst hK; exact call_isi
theorem kop_eqD (K : PySem.W.Frag) (hu : X.A.units + 64 < cLine) (hK : X.K = K := by rfl) : OpR X (compareOp .Eq) (rEqD K) := by subst hK; exact op_eqD hu
theorem kop_neD (K : PySem.W.Frag) (hu : X.A.units + 64 < cLine) (hK : X.K = K := by rfl) : OpR X (compareOp .NotEq) (rNeD K) := by subst hK; exact op_neD hu
theorem kop_catA (K : PySem.W.Frag) (hK : X.K = K := by rfl) : OpR X (binaryOp .Add) (rCatA K) := by subst hK; exact op_catA
theorem kpi_zipA (K : PySem.W.Frag) {e e2 : Expr} {ta : TA} {p pos tpos : Pos} {elts : List Expr} {kk : Nat} (hg : Gl X "zip") (hm : X.mg "zip" = none) (ha : PA X [e, e2] ta) (hK : X.K = K := by rfl)
    (hs : starEach [e, e2] X.env = (false, eval e X.env) :: starEach [e2] X.env := by rfl) (hpl : (backTo pos (starEach [e2] X.env)).any (·.1) = false := by rfl) :
    PI X (.Tuple elts kk tpos) (.Call (.Name "zip" p) [e, e2] [] pos) (RZ.iZipA K ta) := by subst hK; exact RZ.pi_zipA hg hm ha hs hpl
theorem kpi_enum (K : PySem.W.Frag) {e : Expr} {ta : TA} {p pos tpos : Pos} {elts : List Expr} {kk : Nat} (hg : Gl X "enumerate") (hm : X.mg "enumerate" = none) (ha : PA X [e] ta) (hK : X.K = K := by rfl)
    (hs : starEach [e] X.env = [(false, eval e X.env)] := by rfl) :
    PI X (.Tuple elts kk tpos) (.Call (.Name "enumerate" p) [e] [] pos) (iEnum K ta) := by subst hK; exact pi_enum hg hm ha hs
theorem kpe_bm (K : PySem.W.Frag) {T name id : String} {r : V → List V → Hp → VK → Prop} {o e : Expr} {es : List Expr} {to : TE} {t : TA} {apos cpos : Pos} (pa : PlainAttrs T) (slot : Slot T name id) (hty : typeOf (.builtin id) = pure (.type "method_descriptor")) (hm : MtR X id r) (ho : PE X o to) (ha : PA X (e :: es) t) (hK : X.K = K := by rfl)
    (hbase : attributeBase o name X.env (eval o X.env) = eval o X.env := by rfl)
    (hfew : ((backTo cpos (starEach (e :: es) X.env)).all (fun x => !x.1) && (backToKw cpos (keywordEach [] X.env)).all (fun x => x.1.isSome)
      && decide ((e :: es).length + ([] : List Keyword).length + (if ([] : List Keyword).isEmpty then 0 else 1) < 30)) = true := by rfl)
    (hline : (apos.endLine == cpos.line) = true := by rfl) (hs : starEach (e :: es) X.env = (false, eval e X.env) :: starEach es X.env := by rfl) (hplain : (backTo cpos (starEach es X.env)).any (·.1) = false := by rfl) :
    PE X (.Call (.Attribute o name apos) (e :: es) [] cpos) (tBM K T r to t) := by subst hK; exact pe_bm pa slot hty hm ho ha hbase hfew hline hs hplain
end
/-! ### sum of a tuple of ints -/
section
variable {X : Cx} {K : PySem.W.Frag}
def rSumT (K : PySem.W.Frag) : List V → Hp → VK → Prop := fun vs H Q => ∃ (a : Addr) (ns : List Int), vs = [V.ref a] ∧ SqT K H a (ns.map V.int) ∧ Q (.int ns.sum) H
theorem kcr_sumT (K : PySem.W.Frag) (hc : X.calm = true) (hK : X.K = K := by rfl) : CallR X (.builtin "sum") (rSumT K) := by
  subst hK
  intro pins s σ H vs us Q I r h
  obtain ⟨a, ns, rfl, hs, q⟩ := h
  obtain ⟨its, rv, hl, _⟩ := I.tuple hs
  rw [Vals.ref1 r]
  have hi : IntsAre its ns := rv.ints
  obtain ⟨xs, e⟩ := hi.allInts.items
  have hn : numsOf (intItems xs).toList = ns := by rw [← e]; exact hi.numsOf
  rw [nums_intItems] at hn
  rw [e] at hl
  refine PySem.W.ktm_sumG (I.ok.hd hc) hl fun h' tk t' hk => ?_
  rw [preSum_eq, List.take_of_length_le (by simp), hn]
  exact ⟨.int _, H, I.kept hk, ⟨_, rfl⟩, q⟩
end
end Lar
namespace Lar
open PySem PySem.Spec PyProof.Rows L2
/-! ### the names -/
abbrev sgn : Str := "abcdefghijklmnopqrstuvwxyz"
def sg (i : Int) : Str := ⟨#[sgn.cps.toList.getD (i % 26).toNat 0]⟩
theorem sgn_len : sgn.cps.toList.length = 26 := by decide +kernel
theorem sgn_len' : sgn.length = 26 := by decide +kernel
theorem sg_at (i : Int) : atI sgn.cps.toList (i % 26) = some (sgn.cps.toList.getD (i % 26).toNat 0) := by
  have h1 := Int.emod_nonneg i (show (26 : Int) ≠ 0 by decide)
  have h2 := Int.emod_lt_of_pos i (show (0 : Int) < 26 by decide)
  have hl : (i % 26).toNat < sgn.cps.toList.length := by rw [sgn_len]; omega
  have e : sgn.cps.toList[(i % 26).toNat]? = some (sgn.cps.toList.getD (i % 26).toNat 0) := by
    rw [List.getD_eq_getElem?_getD, List.getElem?_eq_getElem hl]; rfl
  have q := atI_nat e
  rw [Int.toNat_of_nonneg h1] at q
  exact q
theorem sg_len (i : Int) : (sg i).length = 1 := rfl
def nmAt (more : Int) : Nat → Int
  | 0 => more / 7
  | t + 1 => nmAt more t + 1 + more / 182 % 25
def nmNm (more : Int) : Nat → Str
  | 0 => ""
  | t + 1 => nmNm more t ++ sg (nmAt more (t + 1))
theorem app_len (x y : Str) : (x ++ y).length = x.length + y.length := by
  show (x.cps ++ y.cps).size = x.cps.size + y.cps.size
  exact Array.size_append
theorem nmNm_len (more : Int) : ∀ t, (nmNm more t).length = t
  | 0 => rfl
  | t + 1 => by
    show (nmNm more t ++ sg _).length = t + 1
    rw [app_len, nmNm_len more t]; rfl
def words : List Str := ["total", "day", "flour", "salt", "left", "used", "short", "salts", "a", "z", "oil"]
def min6 (i : Int) : Int := if 6 < i then 6 else i
def nameBy (seed k : Int) : Str :=
  if seed % 6 = 0 ∧ k < 4 then words.getD ((seed / 6 + k) % 11).toNat ""
  else
    let more := seed / 6
    let n := (1 + more % 7).toNat
    let nm := nmNm more n
    let at' := nmAt more n
    let spot := more / 4550 % (n : Int)
    if 3 < k then cutS nm none (some (min6 spot)) ++ (sg (at' + k / 26) ++ sg k) ++ cutS nm (some (min6 spot)) (some 6)
    else if 3 < seed % 6 then sg (more / 7 + k) ++ nm
    else if k = 1 then cutS nm none (some spot) ++ sg (Txt.find sgn ⟨#[nm.cps.toList.getD spot.toNat 0]⟩ + 1) ++ cutS nm (some (spot + 1)) none
    else nm ++ [("" : Str), "", sg at', sg (at' + 1)].getD k.toNat ""
/-! ### data of tuples in the heap -/
/-- the tuples stand as they stood -/
def SameT (H H' : Hp) : Prop := ∀ b xs, H b = some (.tup xs) → H' b = some (.tup xs)
theorem SameT.refl (H : Hp) : SameT H H := fun _ _ h => h
theorem SameT.trans {H H1 H2 : Hp} (a : SameT H H1) (b : SameT H1 H2) : SameT H H2 := fun c o h => b c o (a c o h)
theorem SameT.of {H H' : Hp} (e : Same H H') : SameT H H' := fun b xs h => e b _ h
theorem SameT.lst {H : Hp} {p : Addr} {xs : List V} {o : HO} (h : H p = some (.lst xs)) : SameT H (upd H p o) := fun b ys hb => by
  rw [upd_ne (fun z => by subst z; rw [h] at hb; cases hb)]
  exact hb
theorem SameT.dict {H : Hp} {p : Addr} {kvs : List (Key × V)} {o : HO} (h : H p = some (.dK kvs)) : SameT H (upd H p o) := fun b ys hb => by
  rw [upd_ne (fun z => by subst z; rw [h] at hb; cases hb)]
  exact hb
theorem SameT.new {H : Hp} {p : Addr} {o : HO} (h : H p = none) : SameT H (upd H p o) := SameT.of (same_upd h)
section
variable {α : Type}
/-- vs tell xs, one by one -/
structure Held (R : Hp → V → α → Prop) (H : Hp) (vs : List V) (xs : List α) : Prop where
  len : vs.length = xs.length
  all : ∀ (i : Nat) (v : V) (x : α), vs[i]? = some v → xs[i]? = some x → R H v x
def MonoT (R : Hp → V → α → Prop) : Prop := ∀ H H' v x, SameT H H' → R H v x → R H' v x
theorem Held.nil {R : Hp → V → α → Prop} {H : Hp} : Held R H [] [] := ⟨rfl, fun i v x h => by simp at h⟩
theorem Held.mono {R : Hp → V → α → Prop} (m : MonoT R) {H H' : Hp} {vs : List V} {xs : List α} (e : SameT H H') (h : Held R H vs xs) : Held R H' vs xs := ⟨h.len, fun i v x a b => m _ _ _ _ e (h.all i v x a b)⟩
theorem Held.snoc {R : Hp → V → α → Prop} {H : Hp} {vs : List V} {xs : List α} {v : V} {x : α} (h : Held R H vs xs) (r : R H v x) : Held R H (vs ++ [v]) (xs ++ [x]) := by
  refine ⟨by rw [List.length_append, List.length_append, h.len]; rfl, fun i v' x' hv hx => ?_⟩
  by_cases hi : i < vs.length
  · rw [List.getElem?_append_left hi] at hv
    rw [List.getElem?_append_left (by rw [← h.len]; exact hi)] at hx
    exact h.all i _ _ hv hx
  · rw [List.getElem?_append_right (by omega)] at hv
    rw [List.getElem?_append_right (by have := h.len; omega)] at hx
    have e : i - vs.length = 0 := by
      have := (List.getElem?_eq_some_iff.mp hv).1
      simp at this
      omega
    rw [e] at hv
    rw [← h.len, e] at hx
    have e1 : v = v' := Option.some.inj hv
    have e2 : x = x' := Option.some.inj hx
    rw [← e1, ← e2]
    exact r
theorem Held.get {R : Hp → V → α → Prop} {H : Hp} {vs : List V} {xs : List α} {i : Nat} {v : V} (h : Held R H vs xs) (hv : vs[i]? = some v) : ∃ x, xs[i]? = some x ∧ R H v x := by
  have hi : i < xs.length := by rw [← h.len]; exact (List.getElem?_eq_some_iff.mp hv).1
  exact ⟨xs[i], List.getElem?_eq_getElem hi, h.all i v _ hv (List.getElem?_eq_getElem hi)⟩
/-- a tuple of things -/
def TupAll (R : Hp → V → α → Prop) (H : Hp) (v : V) (xs : List α) : Prop := ∃ t vs, v = .ref t ∧ H t = some (.tup vs) ∧ Held R H vs xs
theorem TupAll.mono {R : Hp → V → α → Prop} (m : MonoT R) : MonoT (TupAll R) := fun H H' v xs e ⟨t, vs, h1, h2, h3⟩ => ⟨t, vs, h1, e _ _ h2, h3.mono m e⟩
end
abbrev Need := Str × Int
abbrev Dish := Int × List Need
structure Batch where
  name : Str
  amount : Int
  last : Int
def NeedAt (H : Hp) (v : V) (x : Need) : Prop := ∃ t, v = .ref t ∧ H t = some (.tup [.str x.1, .int x.2])
theorem NeedAt.mono : MonoT NeedAt := fun _ _ _ _ e ⟨t, h1, h2⟩ => ⟨t, h1, e _ _ h2⟩
def DishAt (H : Hp) (v : V) (d : Dish) : Prop := ∃ t u, v = .ref t ∧ H t = some (.tup [.int d.1, u]) ∧ TupAll NeedAt H u d.2
theorem DishAt.mono : MonoT DishAt := fun _ _ _ _ e ⟨t, u, h1, h2, h3⟩ => ⟨t, u, h1, e _ _ h2, TupAll.mono NeedAt.mono _ _ _ _ e h3⟩
abbrev DishesAt : Hp → V → List Dish → Prop := TupAll DishAt
theorem DishesAt.mono : MonoT DishesAt := TupAll.mono DishAt.mono
def BatchAt (H : Hp) (v : V) (b : Batch) : Prop := ∃ t, v = .ref t ∧ H t = some (.tup [.str b.name, .int b.amount, .int b.last])
theorem BatchAt.mono : MonoT BatchAt := fun _ _ _ _ e ⟨t, h1, h2⟩ => ⟨t, h1, e _ _ h2⟩
abbrev LarderAt : Hp → V → List Batch → Prop := TupAll BatchAt
theorem LarderAt.mono : MonoT LarderAt := TupAll.mono BatchAt.mono
def NameOf (seed : Int) (x : Str) : Prop := ∃ k : Nat, k < 12 ∧ x = nameBy seed k
structure GoodDish (seed : Int) (d : Dish) : Prop where
  day1 : 1 ≤ d.1
  day7 : d.1 ≤ 7
  many : d.2.length ≤ 20
  need : ∀ x ∈ d.2, (1 ≤ x.2 ∧ x.2 ≤ 200) ∧ NameOf seed x.1
structure GoodBatch (seed : Int) (b : Batch) : Prop where
  am1 : 1 ≤ b.amount
  am2 : b.amount ≤ 200
  la1 : 1 ≤ b.last
  la2 : b.last ≤ 99
  name : NameOf seed b.name
/-! ### comprehensions, by filterMap -/
section
variable {α β γ : Type} {J : It} {n : Nat} {G : Hp → Prop} {Y : Nat → Hp → V → Hp → Prop}
theorem held_eq {f : α → V} {H : Hp} {vs : List V} {xs : List α} (h : Held (fun _ v x => v = f x) H vs xs) : vs = xs.map f := by
  apply List.ext_getElem?
  intro i
  rw [List.getElem?_map]
  cases e : vs[i]? with
  | none =>
    have : xs[i]? = none := by
      rw [List.getElem?_eq_none_iff, ← h.len]
      exact List.getElem?_eq_none_iff.mp e
    rw [this]; rfl
  | some v =>
    obtain ⟨x, hx, rx⟩ := h.get e
    rw [hx, rx]; rfl
theorem mono_eq {f : α → V} : MonoT (fun (_ : Hp) (v : V) (x : α) => v = f x) := fun _ _ _ _ _ h => h
/-- a comprehension over what walks: the new list tells (xs.filterMap f) -/
theorem lc_rel (w : Walk J n G Y) {xs : List α} (hn : xs.length = n) {f : α → Option β} {R : Hp → V → β → Prop} (mR : MonoT R) {g : TG} {tt : TT} {te : TE} {ws : List Nat} {σ : L2.St} {H1 : Hp} {D : Addr} {Qd : Hp → Prop}
    (hD : H1 D = none) (hG : ∀ H, Same H1 H → G H) (hz : n ≤ 100000)
    (hs : ∀ (i : Nat) (v : V) (x : α) (H H' : Hp) (Ky : V → Hp → Prop) (Kn : Hp → Prop), xs[i]? = some x → Same H1 H → Y i H v H' → (∀ y b H4, f x = some b → Same H H4 → R H4 y b → Ky y H4) → (∀ H3, f x = none → Same H H3 → Kn H3) →
      g v (wipe σ ws) H' fun σ2 H2 => wipe σ2 ws = wipe σ ws ∧ tt σ2 H2 fun b H3 => if b = true then te σ2 H3 Ky else Kn H3)
    (hd : ∀ H' ys, Same H1 H' → H' D = some (.lst ys) → Held R H' ys (xs.filterMap f) → Qd H') :
    ∃ W : Nat → Nat → Hp → Prop, (∃ m, W 0 m (upd H1 D (.lst []))) ∧ ∀ i m H, W i m H →
      (J.stop i H ∧ Qd H) ∨ (J.go i H ∧ ∃ Nx : Hp → Prop, (∀ H', Nx H' → ∃ m', m' < m ∧ W (i + 1) m' H') ∧ ∀ x H', J.yld i H x H' → g x (wipe σ ws) H' fun σ2 H2 => wipe σ2 ws = wipe σ ws ∧ tt σ2 H2 fun b H3 =>
        if b = true then te σ2 H3 fun y H4 => ∃ acc, H4 D = some (.lst acc) ∧ acc.length < sizeLine ∧ Nx (upd H4 D (.lst (acc ++ [y]))) else Nx H3) := by
  refine lc_it w (fun i H => Same H1 H ∧ ∃ ys, H D = some (.lst ys) ∧ Held R H ys ((xs.take i).filterMap f)) ⟨same_upd hD, [], upd_same, Held.nil⟩ (fun i H _ p => hG H p.1) (fun i v H H' hi p y => ?_) (fun H p => ?_)
  · obtain ⟨sm, ys, hDl, hh⟩ := p
    have hx : xs[i]? = some (xs[i]'(by omega)) := List.getElem?_eq_getElem (by omega)
    refine hs i v _ H H' _ _ hx sm y (fun y b H4 e s4 r => ?_) (fun H3 e s3 => ?_)
    · refine ⟨_, s4 _ _ hDl, ?_, (sm.trans s4).mut hD, ys ++ [y], upd_same, ?_⟩
      · have h1 := List.length_filterMap_le f (xs.take i)
        rw [List.length_take] at h1
        exact small' (by rw [hh.len]; omega)
      · have st := SameT.lst (o := .lst (ys ++ [y])) (s4 _ _ hDl)
        rw [take_succ' hx, List.filterMap_append]
        have e2 : List.filterMap f [xs[i]'(by omega)] = [b] := by rw [List.filterMap_cons_some e]; rfl
        rw [e2]
        exact (hh.mono mR ((SameT.of s4).trans st)).snoc (mR _ _ _ _ st r)
    · refine ⟨sm.trans s3, ys, s3 _ _ hDl, ?_⟩
      rw [take_succ' hx, List.filterMap_append]
      have e2 : List.filterMap f [xs[i]'(by omega)] = [] := by rw [List.filterMap_cons_none e]; rfl
      rw [e2, List.append_nil]
      exact hh.mono mR (SameT.of s3)
  · obtain ⟨sm, ys, hDl, hh⟩ := p
    rw [← hn, List.take_length] at hh
    exact hd H ys sm hDl hh
/-- .. of two clauses: the outer one -/
theorem lc2_out (w : Walk J n G Y) {xs : List α} (hn : xs.length = n) {F : α → List γ} {R : Hp → V → γ → Prop} {g : TG} {te : L2.St → Hp → (Hp → Prop) → Prop} {ws : List Nat} {σ : L2.St} {H1 : Hp} {D : Addr} {Qd : Hp → Prop}
    (hD : H1 D = none) (hG : ∀ H, Same H1 H → G H)
    (hs : ∀ (i : Nat) (v : V) (x : α) (H H' : Hp) (ys : List V) (Nx : Hp → Prop), xs[i]? = some x → Same H1 H → Y i H v H' → H D = some (.lst ys) → Held R H ys ((xs.take i).flatMap F) →
      (∀ H3 ys, Same H1 H3 → H3 D = some (.lst ys) → Held R H3 ys ((xs.take i).flatMap F ++ F x) → Nx H3) →
      g v (wipe σ ws) H' fun σ2 H2 => wipe σ2 ws = wipe σ ws ∧ te σ2 H2 Nx)
    (hd : ∀ H' ys, Same H1 H' → H' D = some (.lst ys) → Held R H' ys (xs.flatMap F) → Qd H') :
    ∃ W : Nat → Nat → Hp → Prop, (∃ m, W 0 m (upd H1 D (.lst []))) ∧ ∀ i m H, W i m H →
      (J.stop i H ∧ Qd H) ∨ (J.go i H ∧ ∃ Nx : Hp → Prop, (∀ H', Nx H' → ∃ m', m' < m ∧ W (i + 1) m' H') ∧ ∀ x H', J.yld i H x H' → g x (wipe σ ws) H' fun σ2 H2 => wipe σ2 ws = wipe σ ws ∧ te σ2 H2 Nx) := by
  refine ⟨fun i m H => m = n - i ∧ i ≤ n ∧ Same H1 H ∧ ∃ ys, H D = some (.lst ys) ∧ Held R H ys ((xs.take i).flatMap F), ⟨n, by simp, Nat.zero_le _, same_upd hD, [], upd_same, Held.nil⟩, ?_⟩
  rintro i m H ⟨rfl, hi, sm, ys, hDl, hh⟩
  by_cases hlt : i < n
  · refine .inr ⟨w.goes i H hlt (hG H sm), fun H' => Same H1 H' ∧ ∃ ys, H' D = some (.lst ys) ∧ Held R H' ys ((xs.take (i + 1)).flatMap F), fun H' p' => ⟨n - (i + 1), by omega, rfl, hlt, p'⟩, fun v H' y => ?_⟩
    have hx : xs[i]? = some (xs[i]'(by omega)) := List.getElem?_eq_getElem (by omega)
    refine hs i v _ H H' ys _ hx sm (w.yields i H v H' hlt (hG H sm) y) hDl hh (fun H3 ys' s3 hD3 h3 => ⟨s3, ys', hD3, ?_⟩)
    rw [take_succ' hx, List.flatMap_append]
    have e2 : List.flatMap F [xs[i]'(by omega)] = F (xs[i]'(by omega)) := by simp
    rw [e2]
    exact h3
  · have e : i = n := by omega
    subst e
    rw [← hn, List.take_length] at hh
    exact .inl ⟨w.stops H (hG H sm), hd H ys sm hDl hh⟩
/-- .. the inner one -/
theorem lc2_in (w : Walk J n G Y) {xs : List α} (hn : xs.length = n) {f : α → Option γ} {R : Hp → V → γ → Prop} (mR : MonoT R) {g : TG} {tt : TT} {te : TE} {ws : List Nat} {σ : L2.St} {H0 H1 : Hp} {D : Addr} {ys0 : List V} {zs : List γ} {Qd : Hp → Prop}
    (hD : H0 D = none) (s1 : Same H0 H1) (hD1 : H1 D = some (.lst ys0)) (h1 : Held R H1 ys0 zs) (hG : ∀ H, Same H0 H → SameT H1 H → G H) (hz : zs.length + n ≤ 100000)
    (hs : ∀ (i : Nat) (v : V) (x : α) (H H' : Hp) (Ky : V → Hp → Prop) (Kn : Hp → Prop), xs[i]? = some x → Same H0 H → SameT H1 H → Y i H v H' → (∀ y b H4, f x = some b → Same H H4 → R H4 y b → Ky y H4) → (∀ H3, f x = none → Same H H3 → Kn H3) →
      g v (wipe σ ws) H' fun σ2 H2 => wipe σ2 ws = wipe σ ws ∧ tt σ2 H2 fun b H3 => if b = true then te σ2 H3 Ky else Kn H3)
    (hd : ∀ H' ys, Same H0 H' → H' D = some (.lst ys) → Held R H' ys (zs ++ xs.filterMap f) → Qd H') :
    ∃ W : Nat → Nat → Hp → Prop, (∃ m, W 0 m H1) ∧ ∀ i m H, W i m H →
      (J.stop i H ∧ Qd H) ∨ (J.go i H ∧ ∃ Nx : Hp → Prop, (∀ H', Nx H' → ∃ m', m' < m ∧ W (i + 1) m' H') ∧ ∀ x H', J.yld i H x H' → g x (wipe σ ws) H' fun σ2 H2 => wipe σ2 ws = wipe σ ws ∧ tt σ2 H2 fun b H3 =>
        if b = true then te σ2 H3 fun y H4 => ∃ acc, H4 D = some (.lst acc) ∧ acc.length < sizeLine ∧ Nx (upd H4 D (.lst (acc ++ [y]))) else Nx H3) := by
  refine ⟨fun i m H => m = n - i ∧ i ≤ n ∧ Same H0 H ∧ SameT H1 H ∧ ∃ ys, H D = some (.lst ys) ∧ Held R H ys (zs ++ (xs.take i).filterMap f), ⟨n, by simp, Nat.zero_le _, s1, SameT.refl _, ys0, hD1, by simpa using h1⟩, ?_⟩
  rintro i m H ⟨rfl, hi, sm, st, ys, hDl, hh⟩
  by_cases hlt : i < n
  · refine .inr ⟨w.goes i H hlt (hG H sm st), fun H' => Same H0 H' ∧ SameT H1 H' ∧ ∃ ys, H' D = some (.lst ys) ∧ Held R H' ys (zs ++ (xs.take (i + 1)).filterMap f), fun H' p' => ⟨n - (i + 1), by omega, rfl, hlt, p'⟩, fun v H' y => ?_⟩
    have hx : xs[i]? = some (xs[i]'(by omega)) := List.getElem?_eq_getElem (by omega)
    refine hs i v _ H H' _ _ hx sm st (w.yields i H v H' hlt (hG H sm st) y) (fun y b H4 e s4 r => ?_) (fun H3 e s3 => ?_)
    · have su := SameT.lst (o := .lst (ys ++ [y])) (s4 _ _ hDl)
      refine ⟨_, s4 _ _ hDl, ?_, (sm.trans s4).mut hD, (st.trans (SameT.of s4)).trans su, ys ++ [y], upd_same, ?_⟩
      · have h2 := List.length_filterMap_le f (xs.take i)
        rw [List.length_take] at h2
        exact small' (by rw [hh.len, List.length_append]; omega)
      · rw [take_succ' hx, List.filterMap_append]
        have e2 : List.filterMap f [xs[i]'(by omega)] = [b] := by rw [List.filterMap_cons_some e]; rfl
        rw [e2, ← List.append_assoc]
        exact (hh.mono mR ((SameT.of s4).trans su)).snoc (mR _ _ _ _ su r)
    · refine ⟨sm.trans s3, st.trans (SameT.of s3), ys, s3 _ _ hDl, ?_⟩
      rw [take_succ' hx, List.filterMap_append]
      have e2 : List.filterMap f [xs[i]'(by omega)] = [] := by rw [List.filterMap_cons_none e]; rfl
      rw [e2, List.append_nil]
      exact hh.mono mR (SameT.of s3)
  · have e : i = n := by omega
    subst e
    rw [← hn, List.take_length] at hh
    exact .inl ⟨w.stops H (hG H sm st), hd H ys sm hDl hh⟩
end
/-- the walk over two tuples -/
theorem walk_zipT {K : PySem.W.Frag} {a b : Addr} {xs ys : List V} {n : Nat} (hn : n = min xs.length ys.length) : Walk (RZ.ItzT K a b) n (fun H => SqT K H a xs ∧ SqT K H b ys) (YPair (fun i => xs[i]?) (fun i => ys[i]?)) := by
  subst hn
  refine ⟨fun i _ hi q => ?_, fun _ q => ⟨xs, ys, q.1, q.2, by omega⟩, fun i H v H' _ q y => ?_⟩
  · have h1 : i < xs.length := by omega
    have h2 : i < ys.length := by omega
    exact ⟨xs, ys, xs[i], ys[i], q.1, q.2, by simp [h1], by simp [h2]⟩
  · obtain ⟨T, x, z, h1, h2, h3, h4, h5⟩ := y
    exact ⟨T, x, z, h1, h2, h3, h4 xs q.1, h5 ys q.2⟩
/-- the turns of a range -/
theorem range_ix {n i k : Nat} (h : (List.range n)[i]? = some k) : k = i ∧ i < n := by
  obtain ⟨h1, h2⟩ := List.getElem?_eq_some_iff.mp h
  rw [List.getElem_range] at h2
  exact ⟨h2.symm, by simpa using h1⟩
/-! ### what is needed, kept, lacking -/
def PairAt (H : Hp) (v : V) (x : Int × Int) : Prop := ∃ t, v = .ref t ∧ H t = some (.tup [.int x.1, .int x.2])
theorem PairAt.mono : MonoT PairAt := fun _ _ _ _ e ⟨t, h1, h2⟩ => ⟨t, h1, e _ _ h2⟩
def onDay (ps : List (Int × Int)) (day : Int) : Int := (ps.filterMap fun x => if x.1 = day then some x.2 else none).sum
def toDay (ps : List (Int × Int)) (day : Int) : Int := (ps.filterMap fun x => if day ≤ x.2 then some x.1 else none).sum
def pairsOf (ds : List Dish) (nm : Str) : List (Int × Int) := ds.flatMap fun d => d.2.filterMap fun x => if x.1 = nm then some (d.1, x.2) else none
def neededL (ds : List Dish) (nm : Str) : List Int := (List.range 7).map fun i => onDay (pairsOf ds nm) (1 + (i : Nat))
def fromL (xs : List Int) : List Int := (List.range 7).map fun i => (xs.drop i).sum
def keptPairs (lar : List Batch) (nm : Str) : List (Int × Int) := lar.filterMap fun b => if b.name = nm then some (b.amount, b.last) else none
def keptL (lar : List Batch) (nm : Str) : List Int := (List.range 7).map fun i => toDay (keptPairs lar nm) (1 + (i : Nat))
def mx0 (x : Int) : Int := if x > 0 then x else 0
def lackL (ds : List Dish) (lar : List Batch) (nm : Str) : List Int := (List.range 7).map fun i => mx0 ((fromL (neededL ds nm)).getD i 0 - (keptL lar nm).getD i 0)
theorem neededL_len (ds : List Dish) (nm : Str) : (neededL ds nm).length = 7 := by unfold neededL; simp
theorem fromL_len (xs : List Int) : (fromL xs).length = 7 := by unfold fromL; simp
theorem keptL_len (lar : List Batch) (nm : Str) : (keptL lar nm).length = 7 := by unfold keptL; simp
theorem lackL_len (ds : List Dish) (lar : List Batch) (nm : Str) : (lackL ds lar nm).length = 7 := by unfold lackL; simp
theorem fm_some {α β : Type} (f : α → β) (xs : List α) : xs.filterMap (fun x => some (f x)) = xs.map f := by
  induction xs with
  | nil => rfl
  | cons x r ih =>
    show f x :: List.filterMap (fun x => some (f x)) r = _
    rw [ih]; rfl
theorem pairsOf_len {n : Nat} : ∀ (ds : List Dish) (nm : Str), (∀ d ∈ ds, d.2.length ≤ n) → (pairsOf ds nm).length ≤ ds.length * n
  | [], _, _ => by simp [pairsOf]
  | d :: r, nm, h => by
    have ih := pairsOf_len r nm fun d hd => h d (List.mem_cons_of_mem _ hd)
    have h1 := List.length_filterMap_le (fun x : Need => if x.1 = nm then some (d.1, x.2) else none) d.2
    have h2 := h d List.mem_cons_self
    unfold pairsOf at ih ⊢
    rw [List.flatMap_cons, List.length_append, List.length_cons, Nat.succ_mul]
    omega
/-! ### the law's own reckoning of what lacks -/
def needOf (d : Dish) (nm : Str) : Int := (d.2.filterMap fun x => if x.1 = nm then some x.2 else none).sum
def needFrom (ds : List Dish) (nm : Str) (day : Int) : Int := (ds.map fun d => if day ≤ d.1 then needOf d nm else 0).sum
def keptTo (lar : List Batch) (nm : Str) (day : Int) : Int := (lar.map fun b => if b.name = nm ∧ day ≤ b.last then b.amount else 0).sum
def lackDay (ds : List Dish) (lar : List Batch) (nm : Str) (day : Int) : Int := mx0 (needFrom ds nm day - keptTo lar nm day)
def lackW (ds : List Dish) (lar : List Batch) (nm : Str) : List Int := (List.range 7).map fun i => lackDay ds lar nm (1 + (i : Nat))
theorem toDay_kept (nm : Str) (day : Int) : ∀ lar : List Batch, toDay (keptPairs lar nm) day = keptTo lar nm day
  | [] => rfl
  | b :: r => by
    have ih := toDay_kept nm day r
    unfold toDay keptPairs keptTo at ih ⊢
    rw [List.map_cons, List.sum_cons, ← ih]
    by_cases e : b.name = nm
    · by_cases l : day ≤ b.last
      · simp only [List.filterMap_cons, if_pos e, if_pos l, if_pos (And.intro e l), List.sum_cons]
      · simp only [List.filterMap_cons, if_pos e, if_neg l, if_neg (fun z : b.name = nm ∧ day ≤ b.last => l z.2)]
        omega
    · simp only [List.filterMap_cons, if_neg e, if_neg (fun z : b.name = nm ∧ day ≤ b.last => e z.1)]
      omega
theorem onDay_app (xs ys : List (Int × Int)) (day : Int) : onDay (xs ++ ys) day = onDay xs day + onDay ys day := by
  unfold onDay
  rw [List.filterMap_append, List.sum_append]
theorem onDay_one (k day : Int) (nm : Str) : ∀ ns : List Need, onDay (ns.filterMap fun x => if x.1 = nm then some (k, x.2) else none) day = if k = day then (ns.filterMap fun x => if x.1 = nm then some x.2 else none).sum else 0
  | [] => by unfold onDay; simp
  | x :: r => by
    have ih := onDay_one k day nm r
    unfold onDay at ih ⊢
    by_cases e : x.1 = nm
    · by_cases d : k = day
      · simp only [List.filterMap_cons, if_pos e, if_pos d, List.sum_cons] at ih ⊢
        rw [ih]
      · simp only [List.filterMap_cons, if_pos e, if_neg d] at ih ⊢
        exact ih
    · simp only [List.filterMap_cons, if_neg e]
      exact ih
theorem onDay_cons (d : Dish) (r : List Dish) (nm : Str) (day : Int) : onDay (pairsOf (d :: r) nm) day = (if d.1 = day then needOf d nm else 0) + onDay (pairsOf r nm) day := by
  unfold pairsOf
  rw [List.flatMap_cons, onDay_app, onDay_one]; rfl
theorem seven (f : Nat → Int) : (List.range 7).map f = [f 0, f 1, f 2, f 3, f 4, f 5, f 6] := rfl
theorem from_needed (nm : Str) : ∀ (ds : List Dish), (∀ d ∈ ds, 1 ≤ d.1 ∧ d.1 ≤ 7) → ∀ i : Nat, i < 7 → ((neededL ds nm).drop i).sum = needFrom ds nm (1 + (i : Nat))
  | [], _, i, hi => by
    have h : i = 0 ∨ i = 1 ∨ i = 2 ∨ i = 3 ∨ i = 4 ∨ i = 5 ∨ i = 6 := by omega
    rcases h with e | e | e | e | e | e | e <;> subst e <;> rfl
  | d :: r, hd, i, hi => by
    have ih := from_needed nm r (fun x hx => hd x (List.mem_cons_of_mem _ hx)) i hi
    have hd1 := hd d List.mem_cons_self
    unfold neededL at ih ⊢
    unfold needFrom at ih ⊢
    rw [List.map_cons, List.sum_cons, ← ih, seven, seven]
    simp only [onDay_cons]
    generalize needOf d nm = z
    have h : i = 0 ∨ i = 1 ∨ i = 2 ∨ i = 3 ∨ i = 4 ∨ i = 5 ∨ i = 6 := by omega
    have h2 : d.1 = 1 ∨ d.1 = 2 ∨ d.1 = 3 ∨ d.1 = 4 ∨ d.1 = 5 ∨ d.1 = 6 ∨ d.1 = 7 := by omega
    rcases h2 with e2 | e2 | e2 | e2 | e2 | e2 | e2 <;> rw [e2] <;> rcases h with e | e | e | e | e | e | e <;> subst e <;> simp <;> omega
theorem lack_eq (ds : List Dish) (lar : List Batch) (nm : Str) (hd : ∀ d ∈ ds, 1 ≤ d.1 ∧ d.1 ≤ 7) : lackL ds lar nm = lackW ds lar nm := by
  unfold lackL lackW
  apply List.map_congr_left
  intro i hi
  have hi7 : i < 7 := List.mem_range.mp hi
  unfold lackDay
  have e1 : (fromL (neededL ds nm)).getD i 0 = needFrom ds nm (1 + (i : Nat)) := by
    unfold fromL
    rw [List.getD_eq_getElem?_getD, List.getElem?_map, List.getElem?_eq_getElem (by simpa using hi7), List.getElem_range]
    exact from_needed nm ds hd i hi7
  have e2 : (keptL lar nm).getD i 0 = keptTo lar nm (1 + (i : Nat)) := by
    unfold keptL
    rw [List.getD_eq_getElem?_getD, List.getElem?_map, List.getElem?_eq_getElem (by simpa using hi7), List.getElem_range]
    exact toDay_kept nm _ lar
  rw [e1, e2]
theorem needFrom_snoc (ds : List Dish) (d : Dish) (nm : Str) (day : Int) : needFrom (ds ++ [d]) nm day = needFrom ds nm day + if day ≤ d.1 then needOf d nm else 0 := by
  unfold needFrom
  rw [List.map_append, List.sum_append]; simp
theorem keptTo_snoc (lar : List Batch) (b : Batch) (nm : Str) (day : Int) : keptTo (lar ++ [b]) nm day = keptTo lar nm day + if b.name = nm ∧ day ≤ b.last then b.amount else 0 := by
  unfold keptTo
  rw [List.map_append, List.sum_append]; simp
/-- what is kept, as the law reckons it -/
def dueK (lar : List Batch) (nm : Str) (i : Int) : Int := (lar.filterMap fun b => if b.name = nm ∧ i < b.last then some b.amount else none).sum
theorem dueK_eq (nm : Str) (i : Int) : ∀ lar : List Batch, dueK lar nm i = keptTo lar nm (1 + i)
  | [] => rfl
  | b :: r => by
    have ih := dueK_eq nm i r
    unfold dueK keptTo at ih ⊢
    rw [List.map_cons, List.sum_cons, ← ih]
    by_cases e : b.name = nm ∧ i < b.last
    · have e2 : b.name = nm ∧ 1 + i ≤ b.last := ⟨e.1, by omega⟩
      simp only [List.filterMap_cons, if_pos e, if_pos e2, List.sum_cons]
    · have e2 : ¬ (b.name = nm ∧ 1 + i ≤ b.last) := fun z => e ⟨z.1, by omega⟩
      simp only [List.filterMap_cons, if_neg e, if_neg e2]
      omega
theorem keptL_eq (lar : List Batch) (nm : Str) : keptL lar nm = (List.range 7).map fun i => dueK lar nm (i : Nat) := by
  unfold keptL
  apply List.map_congr_left
  intro i _
  rw [toDay_kept, dueK_eq]
end Lar
namespace Lar
open PySem PySem.Spec PyProof.Rows L2
/-! ### the greatest of a tuple of ints -/
section
variable {prog : Program} {w : World} {A : Around} {E : Value → Shared → Prop} {s : Shared} {t : Addr}
theorem max_tupI {xs : Array (Int × Tok)} {Q : Value → Shared → Prop} (hh : A.handled = none) (ht : s.heap.IsTuple t (intItems xs)) (h0 : 0 < xs.size)
    (h : ∀ v h' tk, (intItems xs)[argBest (fun i j => decide (numAt xs i > numAt xs j)) (xs.size - 1)]? = some v → (∀ b o, s.heap.get? b = some o → h'.get? b = some o) → Q v { s with heap := h', toks := tk }) :
    wpAny (model prog w) A (call (.builtin "max") [.ref t]) Q E s := by
  obtain ⟨o, ho, hc, n, hd⟩ := id ht
  have hne : t ≠ s.heap.objs.size := Nat.ne_of_lt (Heap.lt_size ho)
  have hsz : (intItems xs).size = xs.size := by simp [intItems]
  have W := (Walks.tuple (prog := prog) (w := w) (A := A.in1) hh s.heap.objs.size t hne (intItems xs)).toS
  rw [hsz] at W
  refine call_max_walkS (wpAny_pyIter_tuple ht ?_)
  refine ⟨s.heap.objs.size, _, _, _, _, _, _, _, rfl, W, ⟨⟨_, Heap.get?_push_size _ rfl, rfl, rfl⟩, ht.at fun o e => Heap.get?_push_of_some _ e⟩, fun b hb => ?_, h0, CmpOf.ints_gt (numAt xs) (fun i v hP => intItems_at hP), fun v s' hP hm => ?_⟩
  · rcases List.mem_cons.mp hb with rfl | hb
    · exact Heap.lt_size (Heap.get?_push_size _ rfl)
    · obtain rfl := List.mem_singleton.mp hb
      exact Heap.lt_size (Heap.get?_push_of_some _ ho)
  · obtain ⟨h', g', d', tk', os'⟩ := s'
    have e1 : g' = s.gens := hm.gens
    have e2 : d' = s.drawn := hm.drawn
    have e3 : os' = s.os := hm.os
    subst e1 e2 e3
    exact h v h' tk' hP fun b o e => hm.heap b o (fun hb => absurd (Heap.lt_size e) ((List.mem_singleton.mp hb) ▸ Nat.lt_irrefl _)) (Heap.get?_push_of_some _ e)
end
section
variable {X : Cx}
/-- max(xs), xs a list or a tuple of ints -/
def rMaxA (K : PySem.W.Frag) : List V → Hp → VK → Prop := fun vs H Q => ∃ (a : Addr) (ns : List Int), vs = [V.ref a] ∧ (SqL K H a (ns.map V.int) ∨ SqT K H a (ns.map V.int)) ∧ 0 < ns.length ∧ ∀ m, m ∈ ns → (∀ y, y ∈ ns → y ≤ m) → Q (.int m) H
theorem kcr_maxA (K : PySem.W.Frag) (hc : X.calm = true) (hK : X.K = K := by rfl) : CallR X (.builtin "max") (rMaxA K) := by
  subst hK
  intro pins s σ H vs us Q I r h
  obtain ⟨a, ns, rfl, hs, hne, q⟩ := h
  rw [Vals.ref1 r]
  rcases hs with hs | hs
  · obtain ⟨its, rv, hl, _⟩ := I.list hs
    exact max_raw (I.ok.hd hc) hl.isList rv.ints hne fun h' tk m t' hk h1 h2 => ⟨.int _, H, I.kept hk, ⟨_, rfl⟩, q m h1 h2⟩
  · obtain ⟨its, rv, hl, _⟩ := I.tuple hs
    have hi : IntsAre its ns := rv.ints
    obtain ⟨xs, e⟩ := hi.allInts.items
    have hn : numsOf (intItems xs).toList = ns := by rw [← e]; exact hi.numsOf
    rw [nums_intItems] at hn
    rw [e] at hl
    have hsz : 0 < xs.size := by rw [← hn] at hne; simpa using hne
    refine max_tupI (I.ok.hd hc) hl hsz fun v h' tk hv hk => ?_
    obtain ⟨t', rfl⟩ := intItems_at hv
    obtain ⟨h1, h2⟩ := argBest_gt (numAt xs) (xs.size - 1)
    refine ⟨.int _, H, I.kept hk, ⟨_, rfl⟩, q _ ?_ fun y hy => ?_⟩
    · rw [numAt_eq, hn]; exact PySem.getD_mem (by rw [← hn, List.length_map, Array.length_toList]; omega)
    · rw [← hn] at hy
      obtain ⟨j, hj, rfl⟩ := mem_getD hy
      rw [List.length_map, Array.length_toList] at hj
      rw [← numAt_eq]; exact h2 j (by omega)
/-- a list's or a tuple's item -/
def rIxA (K : PySem.W.Frag) : R2 := fun x y H Q => ∃ p xs i v, x = .ref p ∧ y = .int i ∧ (SqL K H p xs ∨ SqT K H p xs) ∧ atI xs i = some v ∧ Q v H
theorem kix_seq (K : PySem.W.Frag) (hK : X.K = K := by rfl) : IxR X (rIxA K) := by
  subst hK
  intro value slice pins s σ H x y v u Q I rx ry h hs
  obtain ⟨p, xs, i, z, hx, hy, hq, he, q⟩ := h
  refine (IxR.or ix_list ix_tup) value slice pins s σ H x y v u Q I rx ry ?_ hs
  rcases hq with hq | hq
  · exact .inl ⟨p, xs, i, z, hx, hy, hq, he, q⟩
  · exact .inr ⟨p, xs, i, z, hx, hy, hq, he, q⟩
theorem kop_repT (K : PySem.W.Frag) (hK : X.K = K := by rfl) : OpR X (binaryOp .Mult) (rRepT K) := by subst hK; exact op_repT
end
theorem ixN_of {n j : Nat} {k : Int} (h : k = j) (hj : j < n) : ixN n k = some j := by
  subst h
  unfold ixN
  rw [if_pos (by omega), if_pos (by omega)]; simp
theorem same_none {H H' : Hp} {a : Addr} (s : Same H H') (h : H' a = none) : H a = none := by
  cases e : H a with
  | none => rfl
  | some x => rw [s _ _ e] at h; cases h
/-! ### offers -/
structure Offer where
  size : Int
  price : Int
  last : Int
def OfferAt (H : Hp) (v : V) (o : Offer) : Prop := ∃ t, v = .ref t ∧ H t = some (.tup [.int o.size, .int o.price, .int o.last])
theorem OfferAt.mono : MonoT OfferAt := fun _ _ _ _ e ⟨t, h1, h2⟩ => ⟨t, h1, e _ _ h2⟩
structure GoodOffer (o : Offer) : Prop where
  size1 : 1 ≤ o.size
  size2 : o.size ≤ 200
  price0 : 0 ≤ o.price
  price2 : o.price ≤ 1000000
  last1 : 1 ≤ o.last
  last2 : o.last ≤ 99
/-- a list or a tuple -/
def SqA (K : PySem.W.Frag) (H : Hp) (a : Addr) (xs : List V) : Prop := SqL K H a xs ∨ SqT K H a xs
theorem SqA.l {K : PySem.W.Frag} {H : Hp} {a : Addr} {xs : List V} (h : H a = some (.lst xs)) : SqA K H a xs := .inl (sqL h)
theorem SqA.t {K : PySem.W.Frag} {H : Hp} {a : Addr} {xs : List V} (h : H a = some (.tup xs)) : SqA K H a xs := .inr (sqT h)
theorem SqA.same {K : PySem.W.Frag} {H H' : Hp} {a : Addr} {xs : List V} (h : SqA K H a xs) (e : Same H H') : SqA K H' a xs := by
  rcases h with h | h
  · exact .inl (e.seq h)
  · exact .inr (e.seqT h)
def OffersIn (K : PySem.W.Frag) (H : Hp) (v : V) (os : List Offer) : Prop := ∃ a us, v = .ref a ∧ SqA K H a us ∧ Held OfferAt H us os
theorem OffersIn.same {K : PySem.W.Frag} {H H' : Hp} {v : V} {os : List Offer} (h : OffersIn K H v os) (e : Same H H') : OffersIn K H' v os := by
  obtain ⟨a, us, h1, h2, h3⟩ := h
  exact ⟨a, us, h1, h2.same e, h3.mono OfferAt.mono (SameT.of e)⟩
def IntsIn (K : PySem.W.Frag) (H : Hp) (v : V) (ns : List Int) : Prop := ∃ a, v = .ref a ∧ SqA K H a (ns.map V.int)
theorem IntsIn.same {K : PySem.W.Frag} {H H' : Hp} {v : V} {ns : List Int} (h : IntsIn K H v ns) (e : Same H H') : IntsIn K H' v ns := by
  obtain ⟨a, h1, h2⟩ := h
  exact ⟨a, h1, h2.same e⟩
/-- a tuple of offers -/
abbrev OffersAt : Hp → V → List Offer → Prop := TupAll OfferAt
theorem OffersAt.mono : MonoT OffersAt := TupAll.mono OfferAt.mono
theorem OffersAt.in {K : PySem.W.Frag} {H : Hp} {v : V} {os : List Offer} (h : OffersAt H v os) : OffersIn K H v os := by
  obtain ⟨a, us, h1, h2, h3⟩ := h
  exact ⟨a, us, h1, SqA.t h2, h3⟩
/-! ### plain sums over what is bought -/
def costOf (os : List Offer) (cs : List Int) : Int := ((os.zip cs).map fun p => p.1.price * p.2).sum
def heldZ (zs : List (Offer × Int)) (day : Int) : Int := (zs.map fun p => if day ≤ p.1.last then p.1.size * p.2 else 0).sum
def heldOn (os : List Offer) (cs : List Int) (day : Int) : Int := heldZ (os.zip cs) day
def servesB (os : List Offer) (cs : List Int) (ls : List Int) : Bool := (List.range 7).all fun i => decide (ls.getD i 0 ≤ heldOn os cs (1 + (i : Nat)))
theorem heldZ_snoc (zs : List (Offer × Int)) (p : Offer × Int) (day : Int) : heldZ (zs ++ [p]) day = heldZ zs day + if day ≤ p.1.last then p.1.size * p.2 else 0 := by
  unfold heldZ
  rw [List.map_append, List.sum_append]; simp
theorem heldZ_fm (zs : List (Offer × Int)) (day : Int) : (zs.filterMap fun p => if day ≤ p.1.last then some (p.1.size * p.2) else none).sum = heldZ zs day := by
  unfold heldZ
  induction zs with
  | nil => rfl
  | cons p r ih =>
    rw [List.map_cons, List.sum_cons, ← ih]
    by_cases e : day ≤ p.1.last
    · simp only [List.filterMap_cons, if_pos e, List.sum_cons]
    · simp only [List.filterMap_cons, if_neg e]; omega
theorem zip_ix {α β : Type} {xs : List α} {ys : List β} {i : Nat} {x : α} {y : β} (h1 : xs[i]? = some x) (h2 : ys[i]? = some y) : (xs.zip ys)[i]? = some (x, y) := by
  rw [List.getElem?_zip_eq_some]; exact ⟨h1, h2⟩
theorem ix_zip {α β : Type} {xs : List α} {ys : List β} {i : Nat} {p : α × β} (h : (xs.zip ys)[i]? = some p) : xs[i]? = some p.1 ∧ ys[i]? = some p.2 := by
  rwa [List.getElem?_zip_eq_some] at h
theorem zip_len {α β : Type} {xs : List α} {ys : List β} (h : xs.length = ys.length) : (xs.zip ys).length = xs.length := by
  rw [List.length_zip]; omega
def GoodLs (ls : List Int) : Prop := ls.length = 7 ∧ ∀ x ∈ ls, 0 ≤ x ∧ x ≤ 200
theorem GoodLs.set {ls : List Int} {i : Nat} {z : Int} (h : GoodLs ls) (h0 : 0 ≤ z) (h1 : z ≤ 200) : GoodLs (ls.set i z) := ⟨by rw [List.length_set]; exact h.1, fun x hx => by
  rcases List.mem_or_eq_of_mem_set hx with y | y
  · exact h.2 x y
  · subst y; exact ⟨h0, h1⟩⟩
/-! ### what the program's functions promise -/
def spPriceOf : Sp := fun vs H Q _ => ∃ (v : V) (b : Addr) (os : List Offer) (cs : List Int), vs = [v, .ref b] ∧ OffersAt H v os ∧ H b = some (.tup (cs.map V.int)) ∧ os.length = cs.length ∧ os.length ≤ 1000 ∧ (∀ o ∈ os, GoodOffer o) ∧ (∀ c ∈ cs, 0 ≤ c) ∧
  ∀ H', Same H H' → Q (.int (costOf os cs)) H'
def spServes : Sp := fun vs H Q _ => ∃ (v : V) (b c : Addr) (os : List Offer) (cs ls : List Int), vs = [v, .ref b, .ref c] ∧ OffersAt H v os ∧ H b = some (.tup (cs.map V.int)) ∧ H c = some (.tup (ls.map V.int)) ∧ os.length = cs.length ∧ os.length ≤ 1000 ∧ (∀ o ∈ os, GoodOffer o) ∧ (∀ c ∈ cs, 0 ≤ c) ∧ GoodLs ls ∧
  ∀ H', Same H H' → Q (.bl (servesB os cs ls)) H'
end Lar
/-! a set of texts that a comprehension fills, and its sorted members -/
namespace Lar
open PySem PySem.Spec PyProof.Rows L2
def txt (e : Int × Value) : Str := match e.2 with | .str x _ => x | _ => ""
def EntS (w : World) (e : Int × Value) : Prop := ∃ x u, e = (hashStr w x, Value.str x u)
/-- the set at a holds the texts ks, and can be walked -/
def SetS (w : World) (h : Heap) (a : Addr) (ks : List Str) : Prop := ∃ o es ep t, h.get? a = some o ∧ o.ExactSet ∧ o.data = .set es ep t ∧ (∀ e ∈ es.toList, EntS w e) ∧ (es.toList.map txt).Perm ks ∧ ks.Nodup ∧
  (es.size < scanBound ∧ t.fits es.size = true) ∧ Ris t.place.toList ∧ (w.params.followText "set-order" = true ∨ t.led = true)
def insS (ks : List Str) (k : Str) : List Str := if k ∈ ks then ks else ks ++ [k]
section
variable {P : Program} {w : World} {A : Around} {E : Value → Shared → Prop} {s : Shared} {a : Addr} {ks : List Str}
theorem SetS.stay {h h' : Heap} (R : SetS w h a ks) (k : ∀ o, h.get? a = some o → h'.get? a = some o) : SetS w h' a ks := by
  obtain ⟨o, es, ep, t, ho, r⟩ := R
  exact ⟨o, es, ep, t, k o ho, r⟩
theorem ents_elems {l : List (Int × Value)} (g : ∀ e ∈ l, EntS w e) : ElemsOf (strKind P w) l := fun e he => by
  obtain ⟨x, u, rfl⟩ := g e he
  exact ⟨⟨x, show (x == x) = true from beq_self_eq_true x, rfl⟩, rfl⟩
theorem ent_is {e : Int × Value} (g : EntS w e) (k : Str) : (strKind P w).is k e.2 = true ↔ txt e = k := by
  obtain ⟨x, u, rfl⟩ := g
  exact show (x == k) = true ↔ x = k from beq_iff_eq
theorem SetS.of {h : Heap} (R : SetS w h a ks) : h.SetOf (strKind P w) a (fun k => decide (k ∈ ks)) ks.length := by
  obtain ⟨o, es, ep, t, ho, hx, hd, g, pm, nd, ⟨hb, hf⟩, _⟩ := R
  refine ⟨o, es, ep, t, ho, hx, hd, ents_elems g, fun k => ?_, hb, hf, by rw [← pm.length_eq, List.length_map, Array.length_toList]⟩
  rw [decide_eq_true_eq, ← pm.mem_iff, List.mem_map]
  exact ⟨fun ⟨e, he, q⟩ => ⟨e, he, (ent_is (g e he) k).2 q⟩, fun ⟨e, he, q⟩ => ⟨e, he, (ent_is (g e he) k).1 q⟩⟩
/-- the tail of an add: the entries stored, the table laid anew where it is too full -/
theorem setS_tail {ks' : List Str} {og : Bool → Sem Unit} (hog : ∀ (b : Bool) (s₁ : Shared) (Q' : Unit → Shared → Prop), Q' () s₁ → wpAny (model P w) A (og b) Q' E s₁) {o : Obj} {es : Array (Int × Value)} {ep : Nat} {t : SetTable} (at0 : s.heap.get? a = some o) (ex0 : o.ExactSet) (da0 : o.data = .set es ep t)
    {ys : Array (Int × Value)} {tb : SetTable} (g : ∀ e ∈ ys.toList, EntS w e) (pm : (ys.toList.map txt).Perm ks') (nd : ks'.Nodup) (hb : ys.size < scanBound) (hf : tb.fits ys.size = true) (hr : Ris tb.place.toList) (hl : w.params.followText "set-order" = true ∨ tb.led = true) {wd : Bool} {R : Option Bool → Shared → Prop}
    (fin : ∀ h', Heap.SameBut a s.heap h' → SetS w h' a ks' → R (some true) { s with heap := h' }) :
    wpAny (model P w) A (do
      storeSet a ys tb
      if (!wd && tb.tooFull) = true then do
        og (relayAll tb ys (SetTable.grown ys.size)).2.2
        storeSet a (relayAll tb ys (SetTable.grown ys.size)).1 (relayAll tb ys (SetTable.grown ys.size)).2.1
        pure (some true)
      else pure (some true)) R E s := by
  have ls := store_at (es' := ys) (t' := tb) at0 da0
  have b1 := Heap.SameBut.update s.heap a (Obj.putSet ys tb)
  refine wpAny_bind (wpAny_storeSet_of at0 da0 ?_ (fits_of_scanBound hb))
  by_cases full : (!wd && tb.tooFull) = true
  · rw [if_pos full]
    have q1 := relayAll_perm tb ys (SetTable.grown ys.size); have q2 := relayAll_fits tb ys (SetTable.grown ys.size)
    have q3 := relayAll_ris tb ys (SetTable.grown ys.size); have q4 := relayAll_led tb ys (SetTable.grown ys.size)
    revert q1 q2 q3 q4
    generalize relayAll tb ys (SetTable.grown ys.size) = rl
    rcases rl with ⟨zs, tc, gv⟩
    intro q1 q2 q3 q4
    have q1 : zs.toList.Perm ys.toList := q1
    have zsz : zs.size < scanBound := by rw [← Array.length_toList, q1.length_eq, Array.length_toList]; exact hb
    refine wpAny_bind (hog _ _ _ (wpAny_bind (wpAny_storeSet_of ls rfl ?_ (fits_of_scanBound zsz))))
    refine wpAny_pure (fin _ (b1.trans (Heap.SameBut.update _ a _)) ⟨_, zs, _, tc, store_at ls rfl, ex0, rfl, fun e he => g e (q1.mem_iff.1 he), (q1.map txt).trans pm, nd, ⟨zsz, q2⟩, q3, ?_⟩)
    rcases hl with z | z
    · exact .inl z
    · exact .inr ((show tc.led = tb.led from q4).trans z)
  · rw [if_neg full]
    exact wpAny_pure (fin _ b1 ⟨_, ys, _, tb, ls, ex0, rfl, g, pm, nd, ⟨hb, hf⟩, hr, hl⟩)
theorem setS_hashed {k : Str} {u : Tok} {Q : Bool → Shared → Prop} (R : SetS w s.heap a ks) (room : ks.length + 1 < scanBound) (fin : ∀ (b : Bool) h', Heap.SameBut a s.heap h' → SetS w h' a (insS ks k) → Q b { s with heap := h' }) :
    wpAny (model P w) A (setAddHashed a (.str k u) ((strKind P w).hash k)) Q E s := by
  have R0 := R
  obtain ⟨o, es, ep, t, at0, ex0, da0, g, pm, nd, ⟨hb, hf⟩, hr, hl⟩ := R
  have el : ElemsOf (strKind P w) es.toList := ents_elems g
  have self : (strKind P w).is k (.str k u) = true := show (k == k) = true from beq_self_eq_true k
  (unfold setAddHashed setAddHashedIn; refine wpAny_holding (wpAny_bind (wpAny_setState_of at0 da0 hf ?_)); dsimp only)
  rw [byScan_of (show (Value.str k u).scannable = true from rfl) hb el, if_pos rfl]
  (unfold setAddByScan; refine wpAny_bind (wpAny_bind (wpAny_rule (wpAny_bind (wpAny_setScan_of self at0 da0 hf el ?_)))))
  cases hfi : List.findIdx? (fun e => (strKind P w).is k e.2) es.toList with
  | none =>
    -- not there
    have hnk : k ∉ ks := fun hk => by
      obtain ⟨e, he, q⟩ := List.mem_map.1 (pm.mem_iff.2 hk)
      have z := List.findIdx?_eq_none_iff.1 hfi e he
      rw [(ent_is (P := P) (g e he) k).2 q] at z
      cases z
    have p1 := layNew_perm t es ((strKind P w).hash k) (.str k u); have p2 := layNew_fits t es ((strKind P w).hash k) (.str k u)
    have p3 := layNew_ris t es ((strKind P w).hash k) (.str k u) hr; have p4 := layNew_led t es ((strKind P w).hash k) (.str k u)
    dsimp only
    revert p1 p2 p3 p4
    generalize layNew t es ((strKind P w).hash k) (.str k u) = ln
    rcases ln with ⟨ys, tb, wd, gv⟩
    intro p1 p2 p3 p4
    have p1 : ys.toList.Perm (es.toList ++ [((strKind P w).hash k, Value.str k u)]) := by rw [← Array.toList_push]; exact p1
    have gy : ∀ e ∈ ys.toList, EntS w e := fun e he => by
      rcases List.mem_append.1 (p1.mem_iff.1 he) with z | z
      · exact g e z
      · exact ⟨k, u, List.mem_singleton.1 z⟩
    have py : (ys.toList.map txt).Perm (ks ++ [k]) := by
      have z := p1.map txt
      rw [List.map_append] at z
      exact z.trans (pm.append_right _)
    have ndy : (ks ++ [k]).Nodup := nd_snoc nd hnk
    have szy : ys.size < scanBound := by
      have z := py.length_eq
      rw [List.length_map, Array.length_toList, List.length_append] at z
      rw [z]; exact room
    have ly : w.params.followText "set-order" = true ∨ tb.led = true := by
      rcases hl with z | z
      · exact .inl z
      · exact .inr ((show tb.led = t.led from p4).trans z)
    have fin' : ∀ h', Heap.SameBut a s.heap h' → SetS w h' a (ks ++ [k]) → Q true { s with heap := h' } := fun h' sb r => fin true h' sb (by unfold insS; rw [if_neg hnk]; exact r)
    have og : ∀ (b : Bool) (s₁ : Shared) (Q' : Unit → Shared → Prop), Q' () s₁ → wpAny (model P w) A (match b with | true => rule "set.scan.the-table-gave-way" | false => pure ()) Q' E s₁ := fun b s₁ Q' q => by
      cases b
      · exact wpAny_pure q
      · exact wpAny_rule q
    refine wpAny_bind (og _ _ _ ?_)
    by_cases pl : tb.plain = true
    · rw [if_pos pl]
      refine wpAny_bind ?_
      rw [hashByValue_scannable 8 (show (Value.str k u).scannable = true from rfl)]
      refine wpAny_pure (setS_tail (ks' := ks ++ [k]) og at0 ex0 da0 gy py ndy szy ?_ ?_ ?_ fun h' sb r => ?_)
      · first | exact p2 | (split <;> first | exact p2 | exact SetTable.fits_plain_off p2)
      · first | exact p3 | (split <;> exact p3)
      · first | exact ly | (split <;> exact ly)
      · exact wpAny_pure (fin' h' sb r)
    · rw [if_neg pl]
      refine wpAny_bind (wpAny_pure ?_)
      refine setS_tail (ks' := ks ++ [k]) og at0 ex0 da0 gy py ndy szy ?_ ?_ ?_ fun h' sb r => ?_
      · exact p2
      · exact p3
      · exact ly
      · exact wpAny_pure (fin' h' sb r)
  | some j =>
    -- there
    dsimp only
    obtain ⟨hj, pj, _⟩ := List.findIdx?_eq_some_iff_getElem.1 hfi
    have hk : k ∈ ks := pm.mem_iff.1 (List.mem_map.2 ⟨_, List.getElem_mem hj, (ent_is (P := P) (g _ (List.getElem_mem hj)) k).1 pj⟩)
    refine wpAny_pure (wpAny_pure (fin false s.heap (Heap.SameBut.refl a s.heap) ?_))
    unfold insS
    rw [if_pos hk]
    exact R0
theorem setS_add {k : Str} {u : Tok} {Q : Value → Shared → Prop} (R : SetS w s.heap a ks) (room : ks.length + 1 < scanBound) (fin : ∀ h', Heap.SameBut a s.heap h' → SetS w h' a (insS ks k) → Q .none { s with heap := h', toks := s.toks + 1 }) :
    wpAny (model P w) A (call (.builtin "set.add") [.ref a, .str k u]) Q E s := by
  refine wpAny_call_entry F.slot_set_add (SetS.of (P := P) R).typeIs F.entry_set_add ?_ (F.args_set_add_2 _ _)
  (unfold Builtin.«set.add» Builtin.Frozenset.oneOther; simp only [List.isEmpty_nil, bind_assoc]; unfold Builtin.Frozenset.addrOf setAdd)
  refine wpAny_bind (wpAny_pure ?_); try dsimp only
  refine wpAny_bind (wpAny_pure ?_); try dsimp only
  refine wpAny_bind (wpAny_holding (wpAny_bind ((strKind P w).pyHash (k := k) (beq_self_eq_true k) (setS_hashed (s := { s with toks := s.toks + 1 }) R room fun b h' sb r => ?_))))
  exact wpAny_pure ⟨_, rfl, fin h' sb r⟩
theorem setS_new {h : Heap} (w : World) : SetS w (h.push { cls := .type "set", dict := none, data := .set #[] 0 (.fresh 0 0 (!w.params.followText "set-order")) }) h.objs.size [] :=
  ⟨_, #[], 0, _, Heap.get?_push_size _ rfl, ⟨rfl, rfl, rfl⟩, rfl, fun e he => (nomatch he), List.Perm.nil, List.nodup_nil, ⟨by decide, rfl⟩, List.Pairwise.nil, by
    show _ ∨ (!w.params.followText "set-order") = true
    cases w.params.followText "set-order"
    · exact .inr rfl
    · exact .inl rfl⟩
end
end Lar
namespace Lar
open PySem PySem.Spec PyProof.Rows L2
/-! ### {elt for t0 in i0 for t1 in i1} -/
abbrev cSet (elt t0 i0 t1 i1 : Expr) (scope : Scope) (pos : Pos) : Expr := .SetComp elt [⟨t0, i0, [], 0⟩, ⟨t1, i1, [], 0⟩] scope pos
theorem turn_first (elt t0 i0 t1 i1 : Expr) (scope : Scope) (pos : Pos) (it acc : Value) (env : Env) : compTurn (cSet elt t0 i0 t1 i1 scope pos) 0 it acc env = (do
    standAt i0.pos
    let r ← pyNext it
    match r with
    | none => pure (.done .next)
    | some v => do
      letOwnedTupleGo t0 it v
      assign t0 env v
      let x ← eval i1 env
      standAt i1.pos
      let x ← foldedSetIterable i1 env x
      let z ← holding [x] (pyIter x)
      let _ ← runOwn (.compStart (cSet elt t0 i0 t1 i1 scope pos) 1 z acc env) env
      again (.compLoop (cSet elt t0 i0 t1 i1 scope pos) 0 it acc env)) := by rfl
theorem turn_second (elt t0 i0 t1 i1 : Expr) (scope : Scope) (pos : Pos) (it acc : Value) (env : Env) : compTurn (cSet elt t0 i0 t1 i1 scope pos) 1 it acc env = (do
    standAt i1.pos
    let r ← pyNext it
    match r with
    | none => pure (.done .next)
    | some v => do
      letOwnedTupleGo t1 it v
      assign t1 env v
      (do let x ← eval elt env
          standAt elt.pos
          let _ ← call (.builtin "set.add") [acc, x]
          pure ())
      again (.compLoop (cSet elt t0 i0 t1 i1 scope pos) 1 it acc env)) := by rfl
section
variable {prog : Program} {w : World} {A : Around} {R : Result → Shared → Prop} {s : Shared} {elt t0 i0 t1 i1 : Expr} {scope : Scope} {pos : Pos} {it acc : Value} {env : Env}
/-- the loop of the first clause, by what stands at its head -/
theorem first_loop (hf : ∀ x, foldedSetIterable i1 env x = pure x) (Hd : Nat → Shared → Prop) (turn : ∀ n s, Hd n s → wpAny (model prog w) A (pyNext it) (fun r s1 => match r with
    | none => R (.ok .next) s1
    | some v => wpAny (model prog w) A (letOwnedTupleGo t0 it v) (fun _ s2 => wpAny (model prog w) A (assign t0 env v) (fun _ s3 => wpAny (model prog w) A (eval i1 env) (fun x s4 => wpAny (model prog w) A (pyIter x) (fun z s5 =>
        codeAny (model prog w) A (.compStart (cSet elt t0 i0 t1 i1 scope pos) 1 z acc env) (fun r s' => match r with | .ok _ => ∃ m, m < n ∧ Hd m s' | .error _ => False) s5) (fun _ _ => False) s4) (fun _ _ => False) s3) (fun _ _ => False) s2) (fun _ _ => False) s1) (fun _ _ => False) s)
    (n : Nat) (h : Hd n s) : codeAny (model prog w) A (.compLoop (cSet elt t0 i0 t1 i1 scope pos) 0 it acc env) R s := by
  refine codeAny_loop rfl Hd (fun n s hd => ?_) n h
  show wpAny _ A ((compTurn (cSet elt t0 i0 t1 i1 scope pos) 0 it acc env).onRaise (fun x => do noteFrame x env; theTreesLotGoes x)) _ _ s
  refine wpAny_noted ?_
  rw [turn_first]
  refine wpAny_bind (wpAny_standAt (wpAny_bind (thnF (turn n s hd) fun r s1 h1 => ?_)))
  rcases r with _ | v
  · exact wpAny_pure h1
  refine wpAny_bind (thnF h1 fun _ s2 h2 => wpAny_bind (thnF h2 fun _ s3 h3 => wpAny_bind (thnF h3 fun x s4 h4 => ?_)))
  refine wpAny_bind (wpAny_standAt (wpAny_bind (wpAny_of_eq (hf x) (wpAny_bind (wpAny_holding (thnF h4 fun z s5 h5 => ?_))))))
  refine wpAny_bind (wpAny_runOwn ?_)
  rw [Around.mark_none]
  refine codeAny_mono h5 fun r s' hr => ?_
  rcases r with f | e
  · first
      | exact wpAny_pure ⟨rfl, hr⟩
      | exact hr.elim
  · first
      | exact wpAny_pure ⟨rfl, hr⟩
      | exact hr.elim
/-- the loop of the second one -/
theorem second_loop (Hd : Nat → Shared → Prop) (turn : ∀ n s, Hd n s → wpAny (model prog w) A (pyNext it) (fun r s1 => match r with
    | none => R (.ok .next) s1
    | some v => wpAny (model prog w) A (letOwnedTupleGo t1 it v) (fun _ s2 => wpAny (model prog w) A (assign t1 env v) (fun _ s3 => wpAny (model prog w) A (eval elt env) (fun x s4 =>
        wpAny (model prog w) A (call (.builtin "set.add") [acc, x]) (fun _ s5 => ∃ m, m < n ∧ Hd m s5) (fun _ _ => False) s4) (fun _ _ => False) s3) (fun _ _ => False) s2) (fun _ _ => False) s1) (fun _ _ => False) s)
    (n : Nat) (h : Hd n s) : codeAny (model prog w) A (.compLoop (cSet elt t0 i0 t1 i1 scope pos) 1 it acc env) R s := by
  refine codeAny_loop rfl Hd (fun n s hd => ?_) n h
  show wpAny _ A ((compTurn (cSet elt t0 i0 t1 i1 scope pos) 1 it acc env).onRaise (fun x => do noteFrame x env; theTreesLotGoes x)) _ _ s
  refine wpAny_noted ?_
  rw [turn_second]
  refine wpAny_bind (wpAny_standAt (wpAny_bind (thnF (turn n s hd) fun r s1 h1 => ?_)))
  rcases r with _ | v
  · exact wpAny_pure h1
  refine wpAny_bind (thnF h1 fun _ s2 h2 => wpAny_bind (thnF h2 fun _ s3 h3 => wpAny_bind (wpAny_bind (thnF h3 fun x s4 h4 => ?_))))
  exact wpAny_bind (wpAny_standAt (wpAny_bind (thnF h4 fun _ s5 h5 => wpAny_pure (wpAny_pure ⟨rfl, h5⟩))))
/-- how a clause's loop starts: with its iterator, or with the iterator's own iter -/
theorem clause_start {k : Nat} (hk : k = 0 ∨ k = 1) (h0 : codeAny (model prog w) A (.compLoop (cSet elt t0 i0 t1 i1 scope pos) k it acc env) R s)
    (h : wpAny (model prog w) A (pyIter it) (fun it' s' => codeAny (model prog w) A (.compLoop (cSet elt t0 i0 t1 i1 scope pos) k it' acc env) R s') (notedBy (model prog w) A env fun x s' => R (.error x) s') s) :
    codeAny (model prog w) A (.compStart (cSet elt t0 i0 t1 i1 scope pos) k it acc env) R s := by
  refine codeAny_of_tree ?_
  show wpAny _ _ ((compStart (cSet elt t0 i0 t1 i1 scope pos) k it acc env).onRaise (fun x => do noteFrame x env; standAt theWindowsPlace)) _ _ s
  refine wpAny_notedAt ?_
  rcases hk with rfl | rfl <;>
  · unfold compStart
    show wpAny _ _ (ask >>= _) _ _ s
    refine wpAny_bind (wpAny_askSetting (wpAny_ite ?_))
    split
    · first
        | exact wpAny_pure (And.intro rfl h0)
        | exact wpAny_bind (wpAny_pure (wpAny_pure (And.intro rfl h0)))
    · refine wpAny_bind (wpAny_rule ?_)
      first
        | exact wpAny_bind (wpAny_standAt (wpAny_bind (wpAny_mono h (fun it' s' h' => wpAny_pure (And.intro rfl h')) fun _ _ x => x)))
        | (show wpAny _ _ (standAt _ >>= _) _ _ s; exact wpAny_bind (wpAny_standAt (wpAny_bind (wpAny_mono h (fun it' s' h' => wpAny_pure (And.intro rfl h')) fun _ _ x => x))))
end
/-! ### as an expression -/
def SetSO (w : World) (a : Addr) (ks : List Str) : HO := .ext fun h => SetS w h a ks
theorem setSO_ok {w : World} {P : Program} {H : Hp} {h : Heap} {a : Addr} {ks : List Str} (R : SetS w h a ks) : ObjOk P w H h a (SetSO w a ks) := by
  have ⟨o, _, _, _, ho, _⟩ := R
  exact ⟨R, ⟨o, ho⟩, fun h1 h2 p k => p.stay k⟩
section
variable {X : Cx}
theorem setSO_at {pins : List (Addr × Obj)} {σ : L2.St} {H : Hp} {s : Shared} {a : Addr} {ks : List Str} (I : Inv X pins σ H s) (ha : H a = some (SetSO X.w a ks)) : SetS X.w s.heap a ks := (I.hok a _ ha).1
theorem setSO_add {pins : List (Addr × Obj)} {σ : L2.St} {H : Hp} {s : Shared} {E : Value → Shared → Prop} {D : Addr} {ks : List Str} {z : Str} {u : Value} {Q : Value → Shared → Prop} (I : Inv X pins σ H s) (rz : RelV (.str z) u) (hD : H D = some (SetSO X.w D ks)) (room : ks.length + 1 < scanBound)
    (h : ∀ s', Inv X pins σ (upd H D (SetSO X.w D (insS ks z))) s' → Q .none s') : wpAny (model X.prog X.w) X.A (call (.builtin "set.add") [.ref D, u]) Q E s := by
  obtain ⟨tk, rfl⟩ := rz
  refine setS_add (setSO_at I hD) room fun h' sb new => h _ ?_
  have ⟨o, _, _, _, ho, _⟩ := new
  exact I.write (e := D) (t' := s.toks + 1) (by rw [hD]; trivial) (.inl rfl) (fun b u hb hu => (sb.2 b hb).trans hu) ⟨o, ho⟩ (setSO_ok new)
/-- {elt for t0 in i0 for t1 in i1}, elt a text: D the new set, ks its members in the order in which they came -/
def tScS (w : World) (wi : TI) (g : TG) (wi1 : TI) (g1 : TG) (te : TE) (vs vs1 : List Nat) : TE := fun σ H Q => wi σ H fun J H1 => ∀ D, H1 D = none → ∃ W : Nat → Nat → Hp → Prop, (∃ m, W 0 m (upd H1 D (SetSO w D []))) ∧ ∀ i m H, W i m H →
  (J.stop i H ∧ Q (.ref D) H) ∨ (J.go i H ∧ ∃ Nx : Hp → Prop, (∀ H', Nx H' → ∃ m', m' < m ∧ W (i + 1) m' H') ∧ ∀ x H', J.yld i H x H' → g x (wipe σ vs) H' fun σ2 H2 => wipe σ2 vs = wipe σ vs ∧ wi1 σ2 H2 fun J1 H3 => ∃ W1 : Nat → Nat → Hp → Prop, (∃ m, W1 0 m H3) ∧ ∀ j k H, W1 j k H →
    (J1.stop j H ∧ Nx H) ∨ (J1.go j H ∧ ∃ Nx1 : Hp → Prop, (∀ H', Nx1 H' → ∃ k', k' < k ∧ W1 (j + 1) k' H') ∧ ∀ x H', J1.yld j H x H' → g1 x (wipe σ2 vs1) H' fun σ3 H4 => wipe σ3 vs1 = wipe σ2 vs1 ∧
      te σ3 H4 fun y H5 => ∃ (z : Str) (ks : List Str), y = .str z ∧ H5 D = some (SetSO w D ks) ∧ ks.length + 1 < scanBound ∧ Nx1 (upd H5 D (SetSO w D (insS ks z)))))
theorem pe_scS {elt t0 i0 t1 i1 : Expr} {scope : Scope} {own : List (Str × Nat)} {vs1 : List Nat} {pos : Pos} {wi wi1 : TI} {g g1 : TG} {te : TE} (hc : X.calm = true) (hN : X.N.Nodup) (hi : PI X t0 i0 wi) (ok : BlkOk X.N X.env.scope scope own) (hv : ∀ i ∈ vs1, i ∈ own.map (·.2))
    (hg : ∀ (s : Shared) (H : Hp) (C : Addr) (cl : List (Str × Addr)) (fp : List Addr), PG (X.blk s H scope (compEnvC scope cl C X.env) fp) t0 g)
    (hi1 : ∀ (s : Shared) (H : Hp) (C : Addr) (cl : List (Str × Addr)) (fp : List Addr), PI (X.blk s H scope (compEnvC scope cl C X.env) fp) t1 i1 wi1)
    (hg1 : ∀ (s : Shared) (H : Hp) (C : Addr) (cl : List (Str × Addr)) (fp : List Addr), PG (X.blk s H scope (compEnvC scope cl C X.env) fp) t1 g1)
    (he : ∀ (s : Shared) (H : Hp) (C : Addr) (cl : List (Str × Addr)) (fp : List Addr), PE (X.blk s H scope (compEnvC scope cl C X.env) fp) elt te)
    (hf : ∀ x, foldedSetIterable i0 X.env x = pure x := by intro _; rfl) (hf1 : ∀ env x, foldedSetIterable i1 env x = pure x := by intro _ _; rfl) :
    PE X (cSet elt t0 i0 t1 i1 scope pos) (tScS X.w wi g wi1 g1 te (own.map (·.2)) vs1) := by
  refine ⟨fun pins s σ H Q I h => ?_⟩
  rw [PpSet.eval_SetComp]
  have cells : ∀ y ∈ scope.names, y.2 = .free → ∃ c, X.env.cells.lookup y.1 = some c := fun y hy e => (ok.free y hy e).elim (fun k => I.ok.has _ (.inl k)) fun k => I.ok.has _ (.inr k)
  refine wpAny_comprehension_free (use := none) rfl hf (closure_ok cells) ok.kind (fun y hy e => (ok.uniq y hy).trans (congrArg some e)) (thn (hi.run pins s σ H _ I h) fun xv sa hx => thn hx fun itv sb hb => ?_)
  obtain ⟨it, fp, tn, J, Hb, rfl, Ib, T, stb, fb, q⟩ := hb
  refine PpSet.newSet_ok (newEnv_comp ?_)
  -- the new set, at D
  obtain ⟨D, hD⟩ : ∃ D, D = sb.heap.objs.size := ⟨_, rfl⟩
  obtain ⟨sc, hsc⟩ : ∃ sc : Shared, sc = { sb with heap := sb.heap.push { cls := .type "set", dict := none, data := .set #[] 0 (.fresh 0 0 (!X.w.params.followText "set-order")) } } := ⟨_, rfl⟩
  have hsh : sc.heap = sb.heap.push { cls := .type "set", dict := none, data := .set #[] 0 (.fresh 0 0 (!X.w.params.followText "set-order")) } := congrArg Shared.heap hsc
  have olds : ∀ b o, sb.heap.get? b = some o → sc.heap.get? b = some o := fun b o e => by rw [hsh]; exact Heap.get?_push_of_some _ e
  rw [← hD]
  obtain ⟨W, ⟨m0, w0⟩, turn⟩ := q D (Ib.hok.fresh (Nat.le_of_eq hD.symm))
  have Ic : Inv X pins σ (upd Hb D (SetSO X.w D [])) sc := by
    rw [hsc]
    refine Ib.laid (t' := sb.toks) (fun b o e => Heap.get?_push_of_some _ e) (Nat.le_of_eq hD.symm) ?_
    rw [hD]
    exact setSO_ok (setS_new X.w)
  obtain ⟨Hc, hHc⟩ : ∃ Hc, Hc = upd Hb D (SetSO X.w D []) := ⟨_, rfl⟩
  rw [← hHc] at Ic w0
  have below : ∀ b ∈ fp, b < sb.heap.objs.size := fun b hb => let ⟨o, e, _⟩ := T.obj _ _ stb b hb; Heap.lt_size e
  have fc : ∀ b ∈ fp, FpOk X pins Hc b ∧ b < sc.heap.objs.size := fun b hb => by
    refine ⟨⟨?_, (fb b hb).2⟩, ?_⟩
    · rw [hHc, upd_ne (Nat.ne_of_lt (hD ▸ below b hb))]
      exact (fb b hb).1
    · rw [hsh, Heap.size_push]
      exact Nat.lt_succ_of_lt (below b hb)
  have stc : tn 0 sc.heap := T.keep _ _ _ stb fun b _ o e => olds b o e
  have Id := block_start Ic ok hN fc
  obtain ⟨ce, hce⟩ : ∃ ce, ce = compEnvC scope (cellsFrom (sc.heap.objs.size + 1) scope.names (cloFrom X.env.cells scope.names [])) sc.heap.objs.size X.env := ⟨_, rfl⟩
  have pg : PG (X.blk sc Hc scope ce fp) t0 g := hce ▸ hg sc Hc _ _ fp
  have pi1 : PI (X.blk sc Hc scope ce fp) t1 i1 wi1 := hce ▸ hi1 sc Hc _ _ fp
  have pg1 : PG (X.blk sc Hc scope ce fp) t1 g1 := hce ▸ hg1 sc Hc _ _ fp
  have pe : PE (X.blk sc Hc scope ce fp) elt te := hce ▸ he sc Hc _ _ fp
  have cL : ce.locals = sc.heap.objs.size := by rw [hce]; rfl
  obtain ⟨sd, hsd⟩ : ∃ sd : Shared, sd = { sc with heap := pushCells (sc.heap.push { cls := .type "dict", data := .dict #[] }) scope.names } := ⟨_, rfl⟩
  have Id : Inv (X.blk sc Hc scope ce fp) [] (wipe σ (own.map (·.2))) Hc sd := by rw [hsd, hce]; exact Id
  have std : tn 0 sd.heap := T.keep _ _ _ stc fun b _ o e => by rw [hsd]; exact pushCells_keeps _ _ _ _ (Heap.get?_push_of_some _ e)
  have calmB : (X.blk sc Hc scope ce fp).calm = true := hc
  have stand : ∀ {σ' : L2.St} {H' : Hp} {s' : Shared}, Inv (X.blk sc Hc scope ce fp) [] σ' H' s' → (∀ b ∈ fp, H' b = none) → ∀ b ∈ fp, FpOk (X.blk sc Hc scope ce fp) [] H' b := fun {σ' H' s'} I' hn b hb =>
    ⟨hn b hb, (I'.ok.exf b hb).1, I'.ok.exfs b hb, .inl hb, fun x c e => (I'.ok.exf b hb).2 x c e, fun p hp => (nomatch (show p ∈ ([] : List (Addr × Obj)) from hp))⟩
  -- the head of the first loop
  let Hd0 : Nat → Shared → Prop := fun n s' => ∃ i H', Inv (X.blk sc Hc scope ce fp) [] (wipe σ (own.map (·.2))) H' s' ∧ tn i s'.heap ∧ (∀ b ∈ fp, H' b = none) ∧ W i n H'
  have run : codeAny (model X.prog X.w) X.A (.compLoop (cSet elt t0 i0 t1 i1 scope pos) 0 (.ref it) (.ref D) ce) (compPost (model X.prog X.w) X.A X.xe none (EP X pins σ Q) (.ref D) sc.heap.objs.size) sd := by
    refine first_loop (hf1 ce) Hd0 ?_ m0 ⟨0, Hc, Id, std, fun b hb => (fc b hb).1.1, w0⟩
    rintro n se ⟨i, He, Ie, ste, ne, we⟩
    rcases turn i n He we with ⟨stop, qd⟩ | ⟨go, Nx, hNx, step⟩
    · refine thnF (T.done (X.blk sc Hc scope ce fp) rfl rfl rfl calmB i [] se _ He (fun _ _ => False) Ie (stand Ie ne) ste stop) fun r sf ⟨hr, If⟩ => ?_
      subst hr
      have Ig : Inv X pins σ He sf := Ic.call' (ch := fp) If.os If.base If.hok If.bare fun b hb => let z := (fc b hb).1.2; ⟨z.2.2.1, z.1, z.2.2.2.1, z.2.2.2.2⟩
      have nC : He sc.heap.objs.size = none := cL ▸ (show He ce.locals = none from If.free)
      obtain ⟨m, hm, _⟩ := If.loc
      have hm : sf.heap.Ns sc.heap.objs.size m := cL ▸ (show sf.heap.Ns ce.locals m from hm)
      obtain ⟨f0, f1, f2, f3, f4, f5⟩ := Ic.fpOk (Nat.le_refl _) nC
      exact ⟨m, hm, fun h'' sb' => ⟨.ref D, He, Ig.turned (t' := sf.toks) (fun b o hb e => (sb'.2 b hb).trans e) f0 f1 f3 f4 f5, rfl, qd⟩⟩
    · refine thnF (T.item (X.blk sc Hc scope ce fp) rfl rfl rfl calmB i [] se _ He (fun _ _ => False) Ie (stand Ie ne) ste go) fun r sf ⟨u, hr, hf'⟩ => ?_
      subst hr
      refine thnF hf' fun _ sg ⟨x, Hg, Ig, rg, yg, stg, ng⟩ => ?_
      refine thnF (pg.run _ sg _ Hg x u _ (Ig.pinned (stand Ig ng) (T.obj _ _ stg)) rg (step x Hg yg)) fun _ sh ⟨σh, Hh, Ih, hwh, qh⟩ => ?_
      -- what holds where a turn of the first loop has ended
      have back : ∀ {σ' : L2.St} {s' : Shared} {H' : Hp}, Inv (X.blk sc Hc scope ce fp) ([] ++ pinsAt fp sg.heap) σ' H' s' → σ'.length = σh.length → (∀ (j : Nat) v, (wipe σ (own.map (·.2)))[j]? = some (some v) → σ'[j]? = some (some v)) → Nx H' → ∃ m, m < n ∧ Hd0 m s' := fun {σ' s' H'} I' hl hk nx => by
        obtain ⟨m', hm, w'⟩ := hNx H' nx
        have keptP : ∀ b ∈ fp, ∀ o, sg.heap.get? b = some o → s'.heap.get? b = some o ∧ H' b = none := fun b hb o e => let z := I'.pin (b, o) (List.mem_append_right _ (List.mem_append_right _ (mem_pinsAt hb e))); ⟨z.1, z.2.1⟩
        refine ⟨m', hm, i + 1, H', (I'.unpinned (pins := [])).weak (by rw [hl, ← hwh, wipe_length]) hk, T.keep _ _ _ stg fun b hb o e => (keptP b hb o e).1, fun b hb => ?_, w'⟩
        obtain ⟨o, e, _⟩ := T.obj _ _ stg b hb
        exact (keptP b hb o e).2
      refine thnF (pi1.run _ sh σh Hh _ Ih qh) fun xv si hx => thnF hx fun itv sj hj => ?_
      obtain ⟨it1, fp1, tn1, J1, Hj, rfl, Ij, T1, stj, fj, W1, ⟨m1, w1⟩, turn1⟩ := hj
      have stand1 : ∀ {H' : Hp}, (∀ b ∈ fp1, H' b = none) → ∀ b ∈ fp1, FpOk (X.blk sc Hc scope ce fp) ([] ++ pinsAt fp sg.heap) H' b := fun hn b hb => ⟨hn b hb, (fj b hb).2⟩
      let Hd1 : Nat → Shared → Prop := fun k s' => ∃ j H', Inv (X.blk sc Hc scope ce fp) ([] ++ pinsAt fp sg.heap) (wipe σh vs1) H' s' ∧ tn1 j s'.heap ∧ (∀ b ∈ fp1, H' b = none) ∧ W1 j k H'
      have run1 : codeAny (model X.prog X.w) X.A (.compLoop (cSet elt t0 i0 t1 i1 scope pos) 1 (.ref it1) (.ref D) ce) (fun r s' => match r with | .ok _ => ∃ m, m < n ∧ Hd0 m s' | .error _ => False) sj := by
        refine second_loop Hd1 ?_ m1 ⟨0, Hj, Ij.weak (wipe_length _ _) (fun j v e => (wipe_some e).1), stj, fun b hb => (fj b hb).1, w1⟩
        rintro k sk ⟨j, Hk, Ik, stk, nk, wk⟩
        rcases turn1 j k Hk wk with ⟨stop1, nx1⟩ | ⟨go1, Nx1, hNx1, step1⟩
        · refine thnF (T1.done (X.blk sc Hc scope ce fp) rfl rfl rfl calmB j _ sk (wipe σh vs1) Hk (fun _ _ => False) Ik (stand1 nk) stk stop1) fun r sl ⟨hr, Il⟩ => ?_
          subst hr
          refine back Il (wipe_length σh vs1) (fun j v e => ?_) nx1
          rw [← hwh] at e
          obtain ⟨e1, e2⟩ := wipe_some e
          rw [wipe_out fun z => e2 (hv j z)]
          exact e1
        · refine thnF (T1.item (X.blk sc Hc scope ce fp) rfl rfl rfl calmB j _ sk (wipe σh vs1) Hk (fun _ _ => False) Ik (stand1 nk) stk go1) fun r sl ⟨u1, hr, hl'⟩ => ?_
          subst hr
          refine thnF hl' fun _ sm ⟨x1, Hm, Im, rm, ym, stm, nm⟩ => ?_
          refine thnF (pg1.run _ sm (wipe σh vs1) Hm x1 u1 _ (Im.pinned (stand1 nm) (T1.obj _ _ stm)) rm (step1 x1 Hm ym)) fun _ sn ⟨σn, Hn, In, hwn, qn⟩ => ?_
          refine thnF (pe.run _ sn σn Hn _ In qn) fun zv so ⟨yv, Ho, Io, ro, z, ks, ey, hDo, room, nx⟩ => ?_
          subst ey
          refine setSO_add (X := X.blk sc Hc scope ce fp) Io ro hDo room fun sp Ip => ?_
          obtain ⟨m', hm, w'⟩ := hNx1 _ nx
          have keptQ : ∀ b ∈ fp1, ∀ o, sm.heap.get? b = some o → sp.heap.get? b = some o ∧ (upd Ho D (SetSO X.w D (insS ks z))) b = none := fun b hb o e => let z := Ip.pin (b, o) (List.mem_append_right _ (List.mem_append_right _ (mem_pinsAt hb e))); ⟨z.1, z.2.1⟩
          refine ⟨m', hm, j + 1, _, Ip.unpinned.weak (by rw [← hwn, wipe_length]) (fun j v e => by rw [← hwn] at e; exact (wipe_some e).1), T1.keep _ _ _ stm fun b hb o e => (keptQ b hb o e).1, fun b hb => ?_, w'⟩
          obtain ⟨o, e, _⟩ := T1.obj _ _ stm b hb
          exact (keptQ b hb o e).2
      exact clause_start (.inr rfl) run1 (T1.self X.A 0 _ _ _ stj run1)
  have fine := clause_start (.inl rfl) run (T.self X.A 0 _ _ _ std run)
  rw [hsd, hce, hsc] at fine
  exact fine
end
/-! ### sorted of such a set -/
def tv (v : Value) : Str := match v with | .str x _ => x | _ => ""
theorem strs_all : ∀ (l : List Value), (∀ v ∈ l, ∃ x u, v = Value.str x u) → StrsAre l (l.map tv)
  | [], _ => .nil
  | v :: r, h => by
    obtain ⟨x, u, rfl⟩ := h v List.mem_cons_self
    exact .cons x u (strs_all r fun z hz => h z (List.mem_cons_of_mem _ hz))
def rSortedSet (w : World) : List V → Hp → VK → Prop := fun vs H Q => ∃ (a : Addr) (ks : List Str), vs = [V.ref a] ∧ H a = some (SetSO w a ks) ∧ ks.length < 64 ∧ ∀ (ys : List Str) (p : Addr), ys.Perm ks → sortedS ys = true → H p = none → Q (.ref p) (upd H p (.lst (ys.map V.str)))
theorem cr_sortedSetS {X : Cx} (hc : X.calm = true) : CallR X (.builtin "sorted") (rSortedSet X.w) := by
  intro pins s σ H vs us Q I r h
  obtain ⟨a, ks, rfl, ha, h64, q⟩ := h
  obtain ⟨o, es, ep, t, ho, hx, hd, g, pm, nd, ⟨hb, hf⟩, hr, hl⟩ := setSO_at I ha
  rw [Vals.ref1 r]
  refine Calls.call_function_entry kind_sorted plain_sorted entry_sorted (args_sorted1 _) ?_
  (unfold Builtin.«sorted»; refine wpAny_bind (m := checkCount "sorted" 1 1 _) (wpAny_pure ?_))
  refine wpAny_bind (collect_set (A := X.A.in1) (I.ok.hd hc) ⟨o, ho, hx.1, hd⟩ hf hb hr hl fun s1 out kp gr g1 o1 pm1 => ?_)
  have pk : (out.map tv).Perm ks := by
    have z := pm1.map tv
    rw [List.map_map] at z
    exact z.trans pm
  have len : out.length = ks.length := by rw [← pk.length_eq, List.length_map]
  have hS : StrsAre out (out.map tv) := strs_all out fun v hv => by
    obtain ⟨e, he, q⟩ := List.mem_map.1 (pm1.mem_iff.1 hv)
    obtain ⟨x, u, rfl⟩ := g e he
    exact ⟨x, u, q.symm⟩
  have I1 : Inv X pins σ H { s with heap := s1.heap, gens := s1.gens, drawn := s1.drawn, toks := s1.toks } := I.call (ch := []) (Un.kept kp) (I.hok.kept kp) (g1 ▸ I.bare) (fun _ z => nomatch z)
  have es1 : s1 = { s with heap := s1.heap, gens := s1.gens, drawn := s1.drawn, toks := s1.toks } := by
    rcases s1 with ⟨_, _, _, _, _⟩
    rcases s with ⟨_, _, _, _, _⟩
    cases o1
    rfl
  rw [← es1] at I1
  refine wpAny_bind (wpAny_newList ?_ (small64 (len ▸ h64)))
  have new : (s1.heap.push (seqObj "list" out.toArray 0)).get? s1.heap.objs.size = some (seqObj "list" out.toArray 0) := Heap.get?_push_size _ rfl
  refine wpAny_bind (wpAny_holding (wpAny_call_entry slot_list_sort ⟨_, new, rfl⟩ entry_list_sort (list_sort_treeK strKind_oneLt (s := { s1 with heap := s1.heap.push (seqObj "list" out.toArray 0) }) new hS.keysOf (fun v1 v2 rest e => keyKind_strs (e ▸ hS)) (len ▸ h64) fun st' hp hs => ⟨_, rfl, ?_⟩) (args_list_sort _)))
  obtain ⟨ys, w1, w2, w3⟩ := sorted_out_str hS hp hs
  obtain ⟨c, hc'⟩ := sortedHeap_at (vs := out) (out := (arrOf st').map (·.2)) new
  have small : (ys.map V.str).length ≤ sizeLine := by rw [List.length_map, w2.length_eq, List.length_map]; exact small64 (len ▸ h64)
  refine wpAny_pure ⟨_, rfl, .ref s1.heap.objs.size, upd H s1.heap.objs.size (.lst (ys.map V.str)), I1.laid (t' := s1.toks) (fun b u e => ?_) (Nat.le_refl _) (show ObjOk X.prog X.w _ _ _ (.lst (ys.map V.str)) from ⟨small, ((arrOf st').map (·.2)).toList, c, vals_of_strs w1, by rw [Array.toArray_toList]; exact hc'⟩), rfl, q ys _ (w2.trans pk) w3 (I1.hok.fresh (Nat.le_refl _))⟩
  have hlt : b < s1.heap.objs.size := Heap.lt_size e
  rw [sortedHeap_old (Nat.ne_of_lt hlt) (by rw [size_push']; exact Nat.lt_succ_of_lt hlt)]
  exact Heap.get?_push_of_some _ e
end Lar
namespace Lar
open PySem PySem.Spec PyProof.Rows L2
/-! ### the order of texts -/
def leS (x y : Str) : Prop := ltCps y.cps.toList x.cps.toList = false
theorem lt_asym : ∀ {a b : List Nat}, ltCps a b = false → ltCps b a = false → a = b
  | [], [], _, _ => rfl
  | [], _ :: _, h, _ => by cases h
  | _ :: _, [], _, h => by cases h
  | x :: a, y :: b, h1, h2 => by
    unfold ltCps at h1 h2
    rw [Bool.or_eq_false_iff] at h1 h2
    have e : x = y := by
      have z1 := of_decide_eq_false h1.1
      have z2 := of_decide_eq_false h2.1
      omega
    subst e
    have q1 := h1.2
    have q2 := h2.2
    rw [beq_self_eq_true, Bool.true_and] at q1 q2
    rw [lt_asym q1 q2]
theorem lt_trans : ∀ {a b c : List Nat}, ltCps b a = false → ltCps c b = false → ltCps c a = false
  | [], b, [], _, _ => rfl
  | [], [], _ :: _, _, h => h
  | [], _ :: _, _ :: _, _, _ => rfl
  | _ :: _, [], c, h, _ => by cases h
  | _ :: _, _ :: _, [], _, h => by cases h
  | x :: a, y :: b, z :: c, h1, h2 => by
    unfold ltCps at h1 h2 ⊢
    rw [Bool.or_eq_false_iff] at h1 h2 ⊢
    have z1 := of_decide_eq_false h1.1
    have z2 := of_decide_eq_false h2.1
    refine ⟨decide_eq_false (by omega), ?_⟩
    by_cases e : z = x
    · subst e
      have e2 : y = z := by omega
      subst e2
      have q1 := h1.2
      have q2 := h2.2
      rw [beq_self_eq_true, Bool.true_and] at q1 q2
      rw [beq_self_eq_true, Bool.true_and]
      exact lt_trans q1 q2
    · rw [beq_eq_false_iff_ne.mpr e]; rfl
theorem rising_all : ∀ (p : Str) (l : List Str), risingS p l = true → (∀ x ∈ l, leS p x) ∧ l.Pairwise leS
  | _, [], _ => ⟨fun _ h => (nomatch h), List.Pairwise.nil⟩
  | p, x :: r, h => by
    unfold risingS at h
    rw [Bool.and_eq_true] at h
    have hx : leS p x := by
      have z := h.1
      unfold leS
      cases q : ltCps x.cps.toList p.cps.toList with
      | false => rfl
      | true => rw [q] at z; cases z
    obtain ⟨h1, h2⟩ := rising_all x r h.2
    refine ⟨fun y hy => ?_, List.pairwise_cons.mpr ⟨h1, h2⟩⟩
    rcases List.mem_cons.mp hy with z | z
    · rw [z]; exact hx
    · exact lt_trans hx (h1 y z)
theorem sortedS_all : ∀ {l : List Str}, sortedS l = true → l.Pairwise leS
  | [], _ => List.Pairwise.nil
  | x :: r, h => let ⟨h1, h2⟩ := rising_all x r h; List.pairwise_cons.mpr ⟨h1, h2⟩
theorem sorted_one {xs ys zs : List Str} (h1 : xs.Perm zs) (h2 : ys.Perm zs) (s1 : sortedS xs = true) (s2 : sortedS ys = true) : xs = ys := by
  refine List.Perm.eq_of_pairwise (le := leS) (fun a b _ _ h1 h2 => ?_) (sortedS_all s1) (sortedS_all s2) (h1.trans h2.symm)
  have e := lt_asym h2 h1
  have e2 : a.cps = b.cps := Array.toList_inj.mp e
  cases a; cases b
  cases e2
  rfl
/-! ### the names of some dishes, in the order in which they come -/
def allS (ds : List Dish) : List Str := ds.flatMap fun d => d.2.map (·.1)
def insAll (ks : List Str) (xs : List Str) : List Str := xs.foldl insS ks
def namesOf (ds : List Dish) : List Str := insAll [] (allS ds)
theorem insS_nodup {ks : List Str} {k : Str} (h : ks.Nodup) : (insS ks k).Nodup := by
  unfold insS
  split
  · exact h
  · exact nd_snoc h (by assumption)
theorem insS_mem {ks : List Str} {k x : Str} : x ∈ insS ks k ↔ x ∈ ks ∨ x = k := by
  unfold insS
  split
  · rename_i h
    exact ⟨.inl, fun z => z.elim id fun e => e ▸ h⟩
  · simp
theorem insS_len (ks : List Str) (k : Str) : (insS ks k).length ≤ ks.length + 1 := by
  unfold insS
  split
  · omega
  · simp
theorem insAll_nodup : ∀ (xs : List Str) {ks : List Str}, ks.Nodup → (insAll ks xs).Nodup
  | [], _, h => h
  | x :: r, ks, h => insAll_nodup r (insS_nodup h)
theorem insAll_mem : ∀ (xs : List Str) {ks : List Str} {x : Str}, x ∈ insAll ks xs ↔ x ∈ ks ∨ x ∈ xs
  | [], ks, x => by simp [insAll]
  | y :: r, ks, x => by
    show x ∈ insAll (insS ks y) r ↔ _
    rw [insAll_mem r, insS_mem, List.mem_cons]
    constructor
    · rintro ((h | h) | h)
      · exact .inl h
      · exact .inr (.inl h)
      · exact .inr (.inr h)
    · rintro (h | h | h)
      · exact .inl (.inl h)
      · exact .inl (.inr h)
      · exact .inr h
theorem insAll_snoc (ks xs : List Str) (x : Str) : insAll ks (xs ++ [x]) = insS (insAll ks xs) x := by
  unfold insAll
  rw [List.foldl_append]; rfl
theorem insAll_app (ks xs ys : List Str) : insAll ks (xs ++ ys) = insAll (insAll ks xs) ys := by
  unfold insAll
  rw [List.foldl_append]
theorem insAll_len : ∀ (xs ks : List Str), (insAll ks xs).length ≤ ks.length + xs.length
  | [], ks => Nat.le_refl _
  | x :: r, ks => by
    have h := insAll_len r (insS ks x)
    have h2 := insS_len ks x
    show (insAll (insS ks x) r).length ≤ ks.length + (r.length + 1)
    omega
theorem nodup_len {α : Type} [DecidableEq α] : ∀ (xs ys : List α), xs.Nodup → (∀ x ∈ xs, x ∈ ys) → xs.length ≤ ys.length
  | [], _, _, _ => Nat.zero_le _
  | x :: r, ys, nd, h => by
    obtain ⟨h1, h2⟩ := List.nodup_cons.mp nd
    have hx := h x List.mem_cons_self
    have ih := nodup_len r (ys.erase x) h2 fun y hy => by
      refine (List.mem_erase_of_ne (fun e => ?_)).mpr (h y (List.mem_cons_of_mem _ hy))
      subst e
      exact h1 hy
    have e := List.length_erase_of_mem hx
    have p : 0 < ys.length := List.length_pos_of_mem hx
    show r.length + 1 ≤ ys.length
    omega
theorem names_few (seed : Int) (xs : List Str) (h : ∀ x ∈ xs, NameOf seed x) : (insAll [] xs).length ≤ 12 := by
  have z := nodup_len (insAll [] xs) ((List.range 12).map fun k => nameBy seed (k : Nat)) (insAll_nodup xs List.nodup_nil) fun x hx => by
    rcases insAll_mem xs |>.mp hx with q | q
    · cases q
    · obtain ⟨k, hk, e⟩ := h x q
      exact List.mem_map.mpr ⟨k, List.mem_range.mpr hk, e.symm⟩
  simpa using z
theorem allS_good {seed : Int} {ds : List Dish} (h : ∀ d ∈ ds, GoodDish seed d) : ∀ x ∈ allS ds, NameOf seed x := fun x hx => by
  obtain ⟨d, hd, hx⟩ := List.mem_flatMap.mp hx
  obtain ⟨n, hn, e⟩ := List.mem_map.mp hx
  exact e ▸ ((h d hd).need n hn).2
theorem allS_len {n : Nat} : ∀ (ds : List Dish), (∀ d ∈ ds, d.2.length ≤ n) → (allS ds).length ≤ ds.length * n
  | [], _ => by simp [allS]
  | d :: r, h => by
    have ih := allS_len r fun d hd => h d (List.mem_cons_of_mem _ hd)
    have h2 := h d List.mem_cons_self
    unfold allS at ih ⊢
    rw [List.flatMap_cons, List.length_append, List.length_map, List.length_cons, Nat.succ_mul]
    omega
theorem putK_keys {kvs : List (Key × V)} {ks : List Str} {k : Str} {v : V} (h : kvs.map (·.1) = ks.map Sum.inr) : (putK kvs (Sum.inr k) v).map (·.1) = (insS ks k).map Sum.inr := by
  have hm : (kvs.any fun kv => decide (kv.1 = (Sum.inr k : Key))) = decide (k ∈ ks) := by
    rw [Bool.eq_iff_iff, List.any_eq_true, decide_eq_true_eq]
    constructor
    · rintro ⟨p, hp, e⟩
      have z : (Sum.inr k : Key) ∈ ks.map Sum.inr := by
        rw [← h]
        exact List.mem_map.mpr ⟨p, hp, of_decide_eq_true e⟩
      obtain ⟨y, hy, e2⟩ := List.mem_map.mp z
      rw [← Sum.inr.inj e2]; exact hy
    · intro hk
      have z : (Sum.inr k : Key) ∈ kvs.map (·.1) := by
        rw [h]
        exact List.mem_map.mpr ⟨k, hk, rfl⟩
      obtain ⟨p, hp, e⟩ := List.mem_map.mp z
      exact ⟨p, hp, decide_eq_true e⟩
  unfold putK insS
  rw [hm]
  by_cases hk : k ∈ ks
  · rw [if_pos (decide_eq_true hk), if_pos hk, List.map_map, ← h]
    apply List.map_congr_left
    intro p _
    show (if p.1 = Sum.inr k then (p.1, v) else p).1 = p.1
    split <;> rfl
  · rw [if_neg (fun z => hk (of_decide_eq_true z)), if_neg hk, List.map_append, List.map_append, h]; rfl
/-! ### tuples of texts as data -/
theorem str_lay : ∀ {ys : List Str}, (∀ y ∈ ys, PyData.canLay0 (.str y) = true) → PyData.canLayAll0 (ys.map PyData.str) = true
  | [], _ => by simp [PyData.canLayAll0]
  | y :: r, h => by
    have ih := str_lay (ys := r) fun z hz => h z (List.mem_cons_of_mem _ hz)
    have h1 := h y List.mem_cons_self
    rw [List.map_cons, PyData.canLayAll0, h1, ih]
    rfl
theorem str_deep : ∀ ys : List Str, PyData.depthAll (ys.map PyData.str) = 0
  | [] => by simp [PyData.depthAll]
  | y :: r => by
    rw [List.map_cons, PyData.depthAll, str_deep r]
    simp [PyData.depth]
theorem dp_strs {K : PySem.W.Frag} {H : Hp} : ∀ ys : List Str, DpAll K H (ys.map V.str) (ys.map PyData.str)
  | [] => DpAll.nil
  | y :: r => DpAll.cons (Dp.str y) (dp_strs r)
theorem str_shaped {ys : List Str} (h : ∀ y ∈ ys, PyData.canLay0 (.str y) = true) : SeqAt.shaped (.tuple (ys.map PyData.str)) = true := by
  have h1 := str_lay h
  have h2 := str_deep ys
  unfold SeqAt.shaped
  rw [PyData.canLay0, h1, PyData.depth, h2]
  rfl
theorem str_self {ys : List Str} (h : ∀ y ∈ ys, PyData.canLay0 (.str y) = true) : PyData.eqv (.tuple (ys.map PyData.str)) (.tuple (ys.map PyData.str)) = true := by
  refine SeqAt.eqv_refl _ ?_
  rw [PyData.canLay0]
  exact str_lay h
/-! ### the names' signs -/
def OkS (x : Str) : Prop := ∀ c ∈ x.cps.toList, c < 0x110000
theorem OkS.lay {x : Str} (h : OkS x) : PyData.canLay0 (.str x) = true := by
  rw [PyData.canLay0]
  show x.cps.all (· < 0x110000) = true
  rw [Array.all_eq_true']
  intro c hc
  exact decide_eq_true (h c (Array.mem_toList_iff.mpr hc))
theorem OkS.app {x y : Str} (h1 : OkS x) (h2 : OkS y) : OkS (x ++ y) := fun c hc => by
  have e : (x ++ y).cps.toList = x.cps.toList ++ y.cps.toList := Array.toList_append
  rw [e] at hc
  exact (List.mem_append.mp hc).elim (h1 c) (h2 c)
theorem OkS.cut {x : Str} (h : OkS x) (lo hi : Option Int) : OkS (cutS x lo hi) := fun c hc => h c (List.mem_of_mem_drop (List.mem_of_mem_take (show c ∈ ((x.cps.toList.drop _).take _) from hc)))
theorem sgn_ok : ∀ c ∈ sgn.cps.toList, c < 128 := by decide +kernel
theorem sg_ok (i : Int) : OkS (sg i) := fun c hc => by
  have e : c = sgn.cps.toList.getD (i % 26).toNat 0 := List.mem_singleton.mp hc
  rw [e, List.getD_eq_getElem?_getD]
  cases q : sgn.cps.toList[(i % 26).toNat]? with
  | none => exact (by decide : (0 : Nat) < 0x110000)
  | some z => exact Nat.lt_trans (sgn_ok z (List.mem_of_getElem? q)) (by decide)
theorem nmNm_ok (more : Int) : ∀ t, OkS (nmNm more t)
  | 0 => fun c hc => (nomatch (show c ∈ ([] : List Nat) from hc))
  | t + 1 => (nmNm_ok more t).app (sg_ok _)
theorem empty_ok : OkS "" := fun c hc => (nomatch (show c ∈ ([] : List Nat) from hc))
theorem words_ok : ∀ x ∈ words, ∀ c ∈ x.cps.toList, c < 128 := by decide +kernel
theorem getD_ok {l : List Str} (h : ∀ x ∈ l, OkS x) (i : Nat) : OkS (l.getD i "") := by
  rw [List.getD_eq_getElem?_getD]
  cases q : l[i]? with
  | none => exact empty_ok
  | some z => exact h z (List.mem_of_getElem? q)
theorem nameBy_ok (seed k : Int) : OkS (nameBy seed k) := by
  unfold nameBy
  split
  · exact getD_ok (fun x hx c hc => Nat.lt_trans (words_ok x hx c hc) (by decide)) _
  · dsimp only
    split
    · exact (((nmNm_ok _ _).cut _ _).app ((sg_ok _).app (sg_ok _))).app ((nmNm_ok _ _).cut _ _)
    · split
      · exact (sg_ok _).app (nmNm_ok _ _)
      · split
        · exact (((nmNm_ok _ _).cut _ _).app (sg_ok _)).app ((nmNm_ok _ _).cut _ _)
        · refine (nmNm_ok _ _).app (getD_ok (fun x hx => ?_) _)
          rcases List.mem_cons.mp hx with e | hx
          · rw [e]; exact empty_ok
          rcases List.mem_cons.mp hx with e | hx
          · rw [e]; exact empty_ok
          rcases List.mem_cons.mp hx with e | hx
          · rw [e]; exact sg_ok _
          rcases List.mem_cons.mp hx with e | hx
          · rw [e]; exact sg_ok _
          · cases hx
/-! ### the law's own sums of what is needed -/
theorem onDay_snoc (ps : List (Int × Int)) (k x day : Int) : onDay (ps ++ [(k, x)]) day = onDay ps day + if k = day then x else 0 := by
  rw [onDay_app]
  unfold onDay
  by_cases e : k = day
  · simp [e]
  · simp [e]
def sevenOf (ps : List (Int × Int)) : List Int := (List.range 7).map fun i => onDay ps (1 + (i : Nat))
theorem sevenOf_len (ps : List (Int × Int)) : (sevenOf ps).length = 7 := by unfold sevenOf; simp
theorem sevenOf_at (ps : List (Int × Int)) {j : Nat} (h : j < 7) : (sevenOf ps)[j]? = some (onDay ps (1 + (j : Nat))) := by
  unfold sevenOf
  rw [List.getElem?_map, List.getElem?_eq_getElem (by simpa using h), List.getElem_range]; rfl
theorem sevenOf_set (ps : List (Int × Int)) (k x : Int) {j : Nat} (hj : j < 7) (hk : k = 1 + (j : Nat)) : (sevenOf ps).set j (onDay ps (1 + (j : Nat)) + x) = sevenOf (ps ++ [(k, x)]) := by
  apply List.ext_getElem?
  intro i
  by_cases hi : i < 7
  · rw [sevenOf_at _ hi, onDay_snoc, List.getElem?_set]
    by_cases e : j = i
    · subst e
      rw [if_pos rfl, if_pos (by rw [sevenOf_len]; exact hj), hk, if_pos rfl]
    · rw [if_neg e, sevenOf_at _ hi, if_neg (by omega), Int.add_zero]
  · rw [List.getElem?_eq_none (by rw [List.length_set, sevenOf_len]; omega), List.getElem?_eq_none (by rw [sevenOf_len]; omega)]
theorem drop_comp (xs : List Int) (hl : xs.length = 7) {i : Nat} (hi : i < 7) : (List.range (7 - i)).filterMap (fun k => some (xs.getD (i + k) 0)) = xs.drop i := by
  rw [fm_some]
  apply List.ext_getElem?
  intro j
  rw [List.getElem?_map, List.getElem?_drop]
  by_cases h : j < 7 - i
  · rw [List.getElem?_eq_getElem (by simpa using h), List.getElem_range, List.getElem?_eq_getElem (by omega)]
    show some (xs.getD (i + j) 0) = _
    rw [List.getD_eq_getElem?_getD, List.getElem?_eq_getElem (by omega)]
    rfl
  · rw [List.getElem?_eq_none (by simpa using h), List.getElem?_eq_none (by omega)]
    rfl
end Lar
namespace Lar
/-! ### sums weighed by counts -/
def wsum (f : Offer → Int) (os : List Offer) (cs : List Int) : Int := ((os.zip cs).map fun p => f p.1 * p.2).sum
theorem wsum_nil (f : Offer → Int) (cs : List Int) : wsum f [] cs = 0 := by simp [wsum]
theorem wsum_cons (f : Offer → Int) (o : Offer) (os : List Offer) (c : Int) (cs : List Int) : wsum f (o :: os) (c :: cs) = f o * c + wsum f os cs := by simp [wsum]
theorem costOf_w (os : List Offer) (cs : List Int) : costOf os cs = wsum Offer.price os cs := rfl
def onto (day : Int) (o : Offer) : Int := if day ≤ o.last then o.size else 0
theorem heldOn_w (os : List Offer) (cs : List Int) (day : Int) : heldOn os cs day = wsum (onto day) os cs := by
  unfold heldOn heldZ wsum
  congr 1
  apply List.map_congr_left
  intro p _
  unfold onto
  split
  · rfl
  · simp
/-- one more of the k-th -/
theorem wsum_set (f : Offer → Int) (z : Int) : ∀ (os : List Offer) (cs : List Int) (k : Nat) (o : Offer) (c : Int), os[k]? = some o → cs[k]? = some c → wsum f os (cs.set k (c + z)) = wsum f os cs + f o * z
  | [], _, k, _, _, h, _ => by simp at h
  | _ :: _, [], k, _, _, _, h => by simp at h
  | o' :: os, c' :: cs, 0, o, c, h1, h2 => by
    have e1 : o' = o := by simpa using h1
    have e2 : c' = c := by simpa using h2
    subst e1 e2
    rw [List.set_cons_zero, wsum_cons, wsum_cons, Int.mul_add]
    omega
  | o' :: os, c' :: cs, k + 1, o, c, h1, h2 => by
    rw [List.set_cons_succ, wsum_cons, wsum_cons, wsum_set f z os cs k o c (by simpa using h1) (by simpa using h2)]
    omega
theorem wsum_nonneg (f : Offer → Int) : ∀ (os : List Offer) (cs : List Int), (∀ o ∈ os, 0 ≤ f o) → (∀ c ∈ cs, 0 ≤ c) → 0 ≤ wsum f os cs
  | [], cs, _, _ => by rw [wsum_nil]; decide
  | _ :: _, [], _, _ => by simp [wsum]
  | o :: os, c :: cs, h1, h2 => by
    rw [wsum_cons]
    have a := wsum_nonneg f os cs (fun x hx => h1 x (List.mem_cons_of_mem _ hx)) (fun x hx => h2 x (List.mem_cons_of_mem _ hx))
    have b := Int.mul_nonneg (h1 o List.mem_cons_self) (h2 c List.mem_cons_self)
    omega
/-- where no counted one tells f and g apart -/
theorem wsum_congr (f g : Offer → Int) : ∀ (os : List Offer) (cs : List Int), (∀ (k : Nat) o c, os[k]? = some o → cs[k]? = some c → c ≠ 0 → f o = g o) → wsum f os cs = wsum g os cs
  | [], cs, _ => by rw [wsum_nil, wsum_nil]
  | _ :: _, [], _ => by simp [wsum]
  | o :: os, c :: cs, h => by
    rw [wsum_cons, wsum_cons, wsum_congr f g os cs (fun k o' c' h1 h2 => h (k + 1) o' c' (by simpa using h1) (by simpa using h2))]
    by_cases e : c = 0
    · subst e; simp
    · rw [h 0 o c rfl rfl e]
theorem wsum_zero (f : Offer → Int) : ∀ (os : List Offer) (cs : List Int), (∀ (k : Nat) o c, os[k]? = some o → cs[k]? = some c → c ≠ 0 → f o = 0) → wsum f os cs = 0
  | [], cs, _ => wsum_nil _ _
  | _ :: _, [], _ => by simp [wsum]
  | o :: os, c :: cs, h => by
    rw [wsum_cons, wsum_zero f os cs (fun k o' c' h1 h2 => h (k + 1) o' c' (by simpa using h1) (by simpa using h2))]
    by_cases e : c = 0
    · subst e; simp
    · rw [h 0 o c rfl rfl e]; simp
theorem wsum_zeros (f : Offer → Int) (os : List Offer) (n : Nat) : wsum f os (List.replicate n 0) = 0 := wsum_zero f _ _ fun k o c _ h2 hc => by
  rw [List.getElem?_replicate] at h2
  split at h2
  · exact absurd (Option.some.inj h2).symm hc
  · cases h2
/-! ### what a table is -/
def dayOf (o : Offer) : Int := if o.last < 7 then o.last else 7
def lackAt (ls : List Int) (d : Nat) : Nat := (ls.getD (d - 1) 0).toNat
def cellT (rows : List (List (Option Int))) (d a : Nat) : Option Int := (rows.getD (d - 1) []).getD a none
def goT (ls : List Int) (rows : List (List (Option Int))) (d a : Nat) : Option Int := if d < 7 then cellT rows (d + 1) (max a (lackAt ls (d + 1))) else if a = 0 then some 0 else none
structure IsTable (os : List Offer) (ls : List Int) (M : Nat) (rows : List (List (Option Int))) : Prop where
  len : rows.length = 7
  each : ∀ r ∈ rows, r.length = M + 1
  most : ∀ d : Nat, lackAt ls d ≤ M
  from_ : ∀ (d a : Nat) (c : Int), 1 ≤ d → d ≤ 7 → a ≤ M → cellT rows d a = some c → goT ls rows d a = some c ∨ (0 < a ∧ ∃ o r, o ∈ os ∧ dayOf o = d ∧ cellT rows d (a - o.size.toNat) = some r ∧ c = r + o.price)
  go : ∀ (d a : Nat) (g : Int), 1 ≤ d → d ≤ 7 → a ≤ M → goT ls rows d a = some g → ∃ c, cellT rows d a = some c ∧ c ≤ g
  take : ∀ (d a : Nat) (o : Offer) (r : Int), 1 ≤ d → d ≤ 7 → a ≤ M → 0 < a → o ∈ os → dayOf o = d → cellT rows d (a - o.size.toNat) = some r → ∃ c, cellT rows d a = some c ∧ c ≤ r + o.price
theorem day_on {o : Offer} {d : Nat} (h : dayOf o = d) (h1 : 1 ≤ d) : ∀ e : Nat, e ≤ d → onto e o = o.size := fun e he => by
  unfold onto
  rw [if_pos]
  unfold dayOf at h
  split at h <;> omega
theorem onto_next {o : Offer} {d : Nat} (h : dayOf o ≠ d) (hd : d < 7) : onto d o = onto ((d + 1 : Nat) : Int) o := by
  unfold onto
  unfold dayOf at h
  have : ((d : Int) ≤ o.last) ↔ (((d + 1 : Nat) : Int) ≤ o.last) := by
    split at h <;> omega
  by_cases e : (d : Int) ≤ o.last
  · rw [if_pos e, if_pos (this.mp e)]
  · rw [if_neg e, if_neg (fun z => e (this.mpr z))]
theorem onto_last {o : Offer} (h : dayOf o ≠ (7 : Nat)) : onto ((7 : Nat) : Int) o = 0 := by
  unfold onto
  unfold dayOf at h
  rw [if_neg]
  split at h <;> omega
theorem onto_nonneg {o : Offer} (g : GoodOffer o) (e : Int) : 0 ≤ onto e o := by
  unfold onto
  split
  · have := g.size1; omega
  · decide
theorem ix_mem {α : Type} {xs : List α} {k : Nat} {x : α} (h : xs[k]? = some x) : x ∈ xs := List.mem_of_getElem? h
section
variable {os : List Offer} {ls : List Int} {M : Nat} {rows : List (List (Option Int))}
/-- the sum of the counts -/
def sumC (cs : List Int) : Nat := (cs.map Int.toNat).sum
theorem sumC_set : ∀ (cs : List Int) (k : Nat) (c : Int), cs[k]? = some c → 0 < c → sumC (cs.set k (c + -1)) + 1 = sumC cs
  | [], k, c, h, _ => by simp at h
  | c' :: cs, 0, c, h, hc => by
    have e : c' = c := by simpa using h
    subst e
    unfold sumC
    rw [List.set_cons_zero, List.map_cons, List.sum_cons, List.map_cons, List.sum_cons]
    omega
  | c' :: cs, k + 1, c, h, hc => by
    have ih := sumC_set cs k c (by simpa using h) hc
    unfold sumC at ih ⊢
    rw [List.set_cons_succ, List.map_cons, List.sum_cons, List.map_cons, List.sum_cons]
    omega
theorem nn_set {cs : List Int} {k : Nat} {z : Int} (h : ∀ c ∈ cs, 0 ≤ c) (hz : 0 ≤ z) : ∀ c ∈ cs.set k z, 0 ≤ c := fun c hc => by
  rcases List.mem_or_eq_of_mem_set hc with y | y
  · exact h c y
  · omega
/-- no buying undercuts a cell -/
theorem under (T : IsTable os ls M rows) (hg : ∀ o ∈ os, GoodOffer o) {fs : List Offer} (hf : ∀ o ∈ fs, o ∈ os) :
    ∀ (j n d a : Nat) (cs : List Int), d + j = 7 → 1 ≤ d → sumC cs = n → (∀ c ∈ cs, 0 ≤ c) → a ≤ M → (a : Int) ≤ heldOn fs cs d → (∀ e : Nat, d < e → e ≤ 7 → (lackAt ls e : Int) ≤ heldOn fs cs e) →
      ∃ c, cellT rows d a = some c ∧ c ≤ costOf fs cs := by
  intro j
  induction j with
  | zero =>
    intro n
    induction n with
    | zero =>
      intro d a cs hd h1 hs hn ha hh hb
      have hd7 : d = 7 := by omega
      subst hd7
      have z : ∀ (k : Nat) o c, fs[k]? = some o → cs[k]? = some c → c ≠ 0 → onto ((7 : Nat) : Int) o = 0 := fun k o c _ h2 hc => by
        exfalso
        have hpos : 0 < c := by have := hn c (ix_mem h2); omega
        have := sumC_set cs k c h2 hpos
        omega
      rw [heldOn_w, wsum_zero _ _ _ z] at hh
      have ha0 : a = 0 := by omega
      subst ha0
      obtain ⟨c, e, l⟩ := T.go 7 0 0 (by decide) (by decide) (Nat.zero_le _) rfl
      refine ⟨c, e, Int.le_trans l ?_⟩
      rw [costOf_w]
      exact wsum_nonneg _ _ _ (fun o ho => (hg o (hf o ho)).price0) hn
    | succ n ih =>
      intro d a cs hd h1 hs hn ha hh hb
      have hd7 : d = 7 := by omega
      subst hd7
      by_cases ex : ∃ (k : Nat) (o : Offer) (c : Int), fs[k]? = some o ∧ cs[k]? = some c ∧ 0 < c ∧ dayOf o = (7 : Nat)
      · obtain ⟨k, o, c, ho, hc, hp, hdo⟩ := ex
        have g := hg o (hf o (ix_mem ho))
        have hs' := sumC_set cs k c hc hp
        have hheld := wsum_set (onto ((7 : Nat) : Int)) (-1) fs cs k o c ho hc
        have hcost := wsum_set Offer.price (-1) fs cs k o c ho hc
        rw [day_on hdo (by decide) 7 (Nat.le_refl _)] at hheld
        have hw0 := wsum_nonneg (onto ((7 : Nat) : Int)) fs (cs.set k (c + -1)) (fun x hx => onto_nonneg (hg x (hf x hx)) _) (nn_set hn (by omega))
        have g1 := g.size1
        have g0 := g.price0
        obtain ⟨r, er, lr⟩ := ih 7 (a - o.size.toNat) (cs.set k (c + -1)) hd h1 (by omega) (nn_set hn (by omega)) (by omega) (by rw [heldOn_w, hheld]; rw [heldOn_w] at hh; omega) (fun e h7 h8 => by omega)
        rw [costOf_w, hcost] at lr
        by_cases ha0 : a = 0
        · subst ha0
          rw [Nat.zero_sub] at er
          refine ⟨r, er, ?_⟩
          rw [costOf_w]
          omega
        · obtain ⟨c', e', l'⟩ := T.take 7 a o r (by decide) (by decide) ha (by omega) (hf o (ix_mem ho)) hdo er
          refine ⟨c', e', ?_⟩
          rw [costOf_w]
          omega
      · have z : ∀ (k : Nat) o c, fs[k]? = some o → cs[k]? = some c → c ≠ 0 → onto ((7 : Nat) : Int) o = 0 := fun k o c h1 h2 hc => by
          have hpos : 0 < c := by have := hn c (ix_mem h2); omega
          exact onto_last fun e => ex ⟨k, o, c, h1, h2, hpos, e⟩
        rw [heldOn_w, wsum_zero _ _ _ z] at hh
        have ha0 : a = 0 := by omega
        subst ha0
        obtain ⟨c, e, l⟩ := T.go 7 0 0 (by decide) (by decide) (Nat.zero_le _) rfl
        refine ⟨c, e, Int.le_trans l ?_⟩
        rw [costOf_w]
        exact wsum_nonneg _ _ _ (fun o ho => (hg o (hf o ho)).price0) hn
  | succ j jh =>
    intro n
    induction n with
    | zero =>
      intro d a cs hd h1 hs hn ha hh hb
      have z : ∀ (k : Nat) o c, fs[k]? = some o → cs[k]? = some c → c ≠ 0 → onto (d : Int) o = onto ((d + 1 : Nat) : Int) o := fun k o c _ h2 hc => by
        exfalso
        have hpos : 0 < c := by have := hn c (ix_mem h2); omega
        have := sumC_set cs k c h2 hpos
        omega
      rw [heldOn_w, wsum_congr _ _ _ _ z, ← heldOn_w] at hh
      have hl := hb (d + 1) (by omega) (by omega)
      have hm := T.most (d + 1)
      obtain ⟨c, e, l⟩ := jh 0 (d + 1) (max a (lackAt ls (d + 1))) cs (by omega) (by omega) hs hn (by omega) (by omega) (fun e h7 h8 => hb e (by omega) h8)
      have eg : goT ls rows d a = some c := by unfold goT; rw [if_pos (by omega)]; exact e
      obtain ⟨c', e', l'⟩ := T.go d a c h1 (by omega) ha eg
      exact ⟨c', e', by omega⟩
    | succ n ih =>
      intro d a cs hd h1 hs hn ha hh hb
      by_cases ex : ∃ (k : Nat) (o : Offer) (c : Int), fs[k]? = some o ∧ cs[k]? = some c ∧ 0 < c ∧ dayOf o = d
      · obtain ⟨k, o, c, ho, hc, hp, hdo⟩ := ex
        have g := hg o (hf o (ix_mem ho))
        have hs' := sumC_set cs k c hc hp
        have hheld := wsum_set (onto (d : Int)) (-1) fs cs k o c ho hc
        have hcost := wsum_set Offer.price (-1) fs cs k o c ho hc
        rw [day_on hdo h1 d (Nat.le_refl _)] at hheld
        have hw0 := wsum_nonneg (onto (d : Int)) fs (cs.set k (c + -1)) (fun x hx => onto_nonneg (hg x (hf x hx)) _) (nn_set hn (by omega))
        have g1 := g.size1
        have g0 := g.price0
        obtain ⟨r, er, lr⟩ := ih d (a - o.size.toNat) (cs.set k (c + -1)) hd h1 (by omega) (nn_set hn (by omega)) (by omega) (by rw [heldOn_w, hheld]; rw [heldOn_w] at hh; omega) (fun e h7 h8 => by
          have hb' := hb e h7 h8
          have hx := wsum_set (onto (e : Int)) (-1) fs cs k o c ho hc
          have : onto (e : Int) o = 0 := by
            unfold onto
            rw [if_neg]
            unfold dayOf at hdo
            split at hdo <;> omega
          rw [this] at hx
          rw [heldOn_w, hx]
          rw [heldOn_w] at hb'
          omega)
        rw [costOf_w, hcost] at lr
        by_cases ha0 : a = 0
        · subst ha0
          rw [Nat.zero_sub] at er
          refine ⟨r, er, ?_⟩
          rw [costOf_w]
          omega
        · obtain ⟨c', e', l'⟩ := T.take d a o r h1 (by omega) ha (by omega) (hf o (ix_mem ho)) hdo er
          refine ⟨c', e', ?_⟩
          rw [costOf_w]
          omega
      · have z : ∀ (k : Nat) o c, fs[k]? = some o → cs[k]? = some c → c ≠ 0 → onto (d : Int) o = onto ((d + 1 : Nat) : Int) o := fun k o c h1 h2 hc => by
          have hpos : 0 < c := by have := hn c (ix_mem h2); omega
          exact onto_next (fun e => ex ⟨k, o, c, h1, h2, hpos, e⟩) (by omega)
        rw [heldOn_w, wsum_congr _ _ _ _ z, ← heldOn_w] at hh
        have hl := hb (d + 1) (by omega) (by omega)
        have hm := T.most (d + 1)
        obtain ⟨c, e, l⟩ := jh (n + 1) (d + 1) (max a (lackAt ls (d + 1))) cs (by omega) (by omega) hs hn (by omega) (by omega) (fun e h7 h8 => hb e (by omega) h8)
        have eg : goT ls rows d a = some c := by unfold goT; rw [if_pos (by omega)]; exact e
        obtain ⟨c', e', l'⟩ := T.go d a c h1 (by omega) ha eg
        exact ⟨c', e', by omega⟩
end
end Lar
namespace Lar
section
variable {os : List Offer} {ls : List Int} {M : Nat} {rows rows2 : List (List (Option Int))}
/-! ### one table alone -/
theorem tab_le (T : IsTable os ls M rows) (U : IsTable os ls M rows2) (hg : ∀ o ∈ os, GoodOffer o) :
    ∀ (j d : Nat), d + j = 7 → 1 ≤ d → ∀ (n a : Nat) (c : Int), a ≤ n → a ≤ M → cellT rows d a = some c → ∃ c', cellT rows2 d a = some c' ∧ c' ≤ c := by
  intro j
  induction j with
  | zero =>
    intro d hd h1 n
    induction n with
    | zero =>
      intro a c hn ha hc
      have hd7 : d = 7 := by omega
      have ha0 : a = 0 := by omega
      subst hd7 ha0
      rcases T.from_ 7 0 c (by decide) (by decide) ha hc with e | ⟨h, _⟩
      · exact U.go 7 0 c (by decide) (by decide) ha e
      · omega
    | succ n ih =>
      intro a c hn ha hc
      have hd7 : d = 7 := by omega
      subst hd7
      rcases T.from_ 7 a c (by decide) (by decide) ha hc with e | ⟨h, o, r, ho, hdo, hr, rfl⟩
      · exact U.go 7 a c (by decide) (by decide) ha e
      · have := (hg o ho).size1
        obtain ⟨r', er, lr⟩ := ih (a - o.size.toNat) r (by omega) (by omega) hr
        obtain ⟨c', e', l'⟩ := U.take 7 a o r' (by decide) (by decide) ha h ho hdo er
        exact ⟨c', e', by omega⟩
  | succ j jh =>
    intro d hd h1 n
    have GO : ∀ (a : Nat) (c : Int), a ≤ M → goT ls rows d a = some c → ∃ c', cellT rows2 d a = some c' ∧ c' ≤ c := fun a c ha e => by
      unfold goT at e
      rw [if_pos (by omega)] at e
      have hm := T.most (d + 1)
      obtain ⟨r, er, lr⟩ := jh (d + 1) (by omega) (by omega) _ _ c (Nat.le_refl _) (by omega) e
      obtain ⟨c', e', l'⟩ := U.go d a r h1 (by omega) ha (by unfold goT; rw [if_pos (by omega)]; exact er)
      exact ⟨c', e', by omega⟩
    induction n with
    | zero =>
      intro a c hn ha hc
      have ha0 : a = 0 := by omega
      subst ha0
      rcases T.from_ d 0 c h1 (by omega) ha hc with e | ⟨h, _⟩
      · exact GO 0 c ha e
      · omega
    | succ n ih =>
      intro a c hn ha hc
      rcases T.from_ d a c h1 (by omega) ha hc with e | ⟨h, o, r, ho, hdo, hr, rfl⟩
      · exact GO a c ha e
      · have := (hg o ho).size1
        obtain ⟨r', er, lr⟩ := ih (a - o.size.toNat) r (by omega) (by omega) hr
        obtain ⟨c', e', l'⟩ := U.take d a o r' h1 (by omega) ha h ho hdo er
        exact ⟨c', e', by omega⟩
theorem tab_cell (T : IsTable os ls M rows) (U : IsTable os ls M rows2) (hg : ∀ o ∈ os, GoodOffer o) (d a : Nat) (h1 : 1 ≤ d) (h7 : d ≤ 7) (ha : a ≤ M) : cellT rows d a = cellT rows2 d a := by
  have A := tab_le T U hg (7 - d) d (by omega) h1 a a
  have B := tab_le U T hg (7 - d) d (by omega) h1 a a
  cases e : cellT rows d a with
  | none =>
    cases e2 : cellT rows2 d a with
    | none => rfl
    | some c2 =>
      obtain ⟨c, z, _⟩ := B c2 (Nat.le_refl _) ha e2
      rw [e] at z; cases z
  | some c =>
    obtain ⟨c2, z, l⟩ := A c (Nat.le_refl _) ha e
    obtain ⟨c3, z3, l3⟩ := B c2 (Nat.le_refl _) ha z
    rw [e] at z3
    have e4 := Option.some.inj z3
    rw [z]
    congr 1
    omega
theorem tab_one (T : IsTable os ls M rows) (U : IsTable os ls M rows2) (hg : ∀ o ∈ os, GoodOffer o) : rows = rows2 := by
  have hl : rows.length = rows2.length := by rw [T.len, U.len]
  refine List.ext_getElem hl fun i h1 h2 => ?_
  have e1 := T.each _ (List.getElem_mem h1)
  have e2 := U.each _ (List.getElem_mem h2)
  refine List.ext_getElem (by rw [e1, e2]) fun a h3 h4 => ?_
  have i7 : i < 7 := by rw [← T.len]; exact h1
  have := tab_cell T U hg (i + 1) a (by omega) (by omega) (by omega)
  unfold cellT at this
  rw [Nat.add_sub_cancel, List.getD_eq_getElem?_getD, List.getD_eq_getElem?_getD, List.getD_eq_getElem?_getD, List.getD_eq_getElem?_getD, List.getElem?_eq_getElem h1, List.getElem?_eq_getElem h2] at this
  simp only [Option.getD_some] at this
  rw [List.getElem?_eq_getElem h3, List.getElem?_eq_getElem h4] at this
  simpa using this
/-! ### the greatest lack behind a day -/
def mxA (ls : List Int) : Nat → Nat
  | 0 => 0
  | j + 1 => max (lackAt ls (7 - j)) (mxA ls j)
theorem mxA_le (T : IsTable os ls M rows) : ∀ j, mxA ls j ≤ M
  | 0 => Nat.zero_le _
  | j + 1 => by
    have := T.most (7 - j)
    have := mxA_le T j
    unfold mxA
    omega
/-- a lesser amount costs no more; nor does one that lacks behind all the same -/
theorem tab_mono (T : IsTable os ls M rows) (hg : ∀ o ∈ os, GoodOffer o) :
    ∀ (j d : Nat), d + j = 7 → 1 ≤ d → ∀ (n a a' : Nat) (c : Int), a ≤ n → a ≤ M → a' ≤ max a (mxA ls j) → cellT rows d a = some c → ∃ c', cellT rows d a' = some c' ∧ c' ≤ c := by
  intro j
  induction j with
  | zero =>
    intro d hd h1 n
    have hd7 : d = 7 := by omega
    subst hd7
    induction n with
    | zero =>
      intro a a' c hn ha h' hc
      have : a = 0 := by omega
      subst this
      have : a' = 0 := by unfold mxA at h'; omega
      subst this
      exact ⟨c, hc, Int.le_refl _⟩
    | succ n ih =>
      intro a a' c hn ha h' hc
      unfold mxA at h'
      rcases T.from_ 7 a c (by decide) (by decide) ha hc with e | ⟨h, o, r, ho, hdo, hr, rfl⟩
      · unfold goT at e
        rw [if_neg (by decide)] at e
        split at e
        · rename_i a0
          subst a0
          have : a' = 0 := by omega
          subst this
          exact ⟨c, hc, Int.le_refl _⟩
        · cases e
      · have g := hg o ho
        have := g.size1
        have := g.price0
        obtain ⟨r', er, lr⟩ := ih (a - o.size.toNat) (a' - o.size.toNat) r (by omega) (by omega) (by unfold mxA; omega) hr
        by_cases a0 : a' = 0
        · subst a0
          rw [Nat.zero_sub] at er
          exact ⟨r', er, by omega⟩
        · obtain ⟨c', e', l'⟩ := T.take 7 a' o r' (by decide) (by decide) (by omega) (by omega) ho hdo er
          exact ⟨c', e', by omega⟩
  | succ j jh =>
    intro d hd h1 n
    have hmx := mxA_le T (j + 1)
    have hL : lackAt ls (7 - j) = lackAt ls (d + 1) := by congr 1; omega
    have hlm := T.most (d + 1)
    have GO : ∀ (a a' : Nat) (c : Int), a ≤ M → a' ≤ max a (mxA ls (j + 1)) → goT ls rows d a = some c → ∃ c', cellT rows d a' = some c' ∧ c' ≤ c := fun a a' c ha h' e => by
      unfold mxA at h'
      rw [hL] at h'
      unfold mxA at hmx
      rw [hL] at hmx
      unfold goT at e
      rw [if_pos (by omega)] at e
      obtain ⟨r, er, lr⟩ := jh (d + 1) (by omega) (by omega) _ _ (max a' (lackAt ls (d + 1))) c (Nat.le_refl _) (by omega) (by omega) e
      obtain ⟨c', e', l'⟩ := T.go d a' r h1 (by omega) (by omega) (by unfold goT; rw [if_pos (by omega)]; exact er)
      exact ⟨c', e', by omega⟩
    induction n with
    | zero =>
      intro a a' c hn ha h' hc
      have ha0 : a = 0 := by omega
      subst ha0
      rcases T.from_ d 0 c h1 (by omega) ha hc with e | ⟨h, _⟩
      · exact GO 0 a' c ha h' e
      · omega
    | succ n ih =>
      intro a a' c hn ha h' hc
      rcases T.from_ d a c h1 (by omega) ha hc with e | ⟨h, o, r, ho, hdo, hr, rfl⟩
      · exact GO a a' c ha h' e
      · have g := hg o ho
        have := g.size1
        have := g.price0
        obtain ⟨r', er, lr⟩ := ih (a - o.size.toNat) (a' - o.size.toNat) r (by omega) (by omega) (by omega) hr
        by_cases a0 : a' = 0
        · subst a0
          rw [Nat.zero_sub] at er
          exact ⟨r', er, by omega⟩
        · obtain ⟨c', e', l'⟩ := T.take d a' o r' h1 (by omega) (by omega) (by omega) ho hdo er
          exact ⟨c', e', by omega⟩
/-- where no more is asked than lacks behind, the walk goes on -/
theorem tab_stay (T : IsTable os ls M rows) (hg : ∀ o ∈ os, GoodOffer o) {j d : Nat} (hd : d + j = 7) (h1 : 1 ≤ d) :
    ∀ (n a : Nat) (c : Int), a ≤ n → a ≤ mxA ls j → cellT rows d a = some c → goT ls rows d a = some c := by
  have hmx := mxA_le T j
  intro n
  induction n with
  | zero =>
    intro a c hn ha hc
    rcases T.from_ d a c h1 (by omega) (by omega) hc with e | ⟨h, _⟩
    · exact e
    · omega
  | succ n ih =>
    intro a c hn ha hc
    rcases T.from_ d a c h1 (by omega) (by omega) hc with e | ⟨h, o, r, ho, hdo, hr, rfl⟩
    · exact e
    · have g := hg o ho
      have := g.size1
      have := g.price0
      have e2 := ih (a - o.size.toNat) r (by omega) (by omega) hr
      cases j with
      | zero => unfold mxA at ha; omega
      | succ j =>
        have hL : lackAt ls (7 - j) = lackAt ls (d + 1) := by congr 1; omega
        unfold mxA at ha
        rw [hL] at ha
        unfold mxA at hmx
        rw [hL] at hmx
        unfold goT at e2
        rw [if_pos (by omega)] at e2
        obtain ⟨r', er, lr⟩ := tab_mono T hg j (d + 1) (by omega) (by omega) _ _ (max a (lackAt ls (d + 1))) r (Nat.le_refl _) (by omega) (by omega) e2
        have eg : goT ls rows d a = some r' := by unfold goT; rw [if_pos (by omega)]; exact er
        obtain ⟨c', e', l'⟩ := T.go d a r' h1 (by omega) (by omega) eg
        rw [hc] at e'
        have := Option.some.inj e'
        rw [eg]
        congr 1
        omega
/-! ### the walk -/
def fits (rows : List (List (Option Int))) (d a : Nat) (o : Offer) : Bool := decide (dayOf o = d) && (match cellT rows d (a - o.size.toNat) with | none => false | some r => decide (some (r + o.price) = cellT rows d a))
theorem fits_iff {d a : Nat} {o : Offer} : fits rows d a o = true ↔ dayOf o = d ∧ ∃ r, cellT rows d (a - o.size.toNat) = some r ∧ some (r + o.price) = cellT rows d a := by
  unfold fits
  cases e : cellT rows d (a - o.size.toNat) with
  | none => simp
  | some r => simp
def firstT (os : List Offer) (rows : List (List (Option Int))) (d a : Nat) : Option Nat := os.findIdx? (fits rows d a)
def walkT (os : List Offer) (ls : List Int) (rows : List (List (Option Int))) : Nat → Nat → Nat → List Int → Option (List Int)
  | 0, _, _, _ => none
  | t + 1, d, a, cs =>
    if cellT rows d a = goT ls rows d a then
      if d = 7 then some cs else walkT os ls rows t (d + 1) (max a (lackAt ls (d + 1))) cs
    else
      match firstT os rows d a with
      | none => none
      | some k => walkT os ls rows t d (a - ((os.getD k ⟨0, 0, 0⟩).size.toNat)) (cs.set k (cs.getD k 0 + 1))
structure Walked (os : List Offer) (ls : List Int) (d a : Nat) (c : Int) (cs cs' : List Int) : Prop where
  len : cs'.length = cs.length
  nn : ∀ x ∈ cs', 0 ≤ x
  cost : costOf os cs' = costOf os cs + c
  here : heldOn os cs d + a ≤ heldOn os cs' d
  behind : ∀ e : Nat, d < e → e ≤ 7 → heldOn os cs e + lackAt ls e ≤ heldOn os cs' e
  ahead : ∀ e : Nat, e ≤ d → heldOn os cs' d - heldOn os cs d = heldOn os cs' e - heldOn os cs e
theorem walk_ok (T : IsTable os ls M rows) (hg : ∀ o ∈ os, GoodOffer o) :
    ∀ (t j d a : Nat) (c : Int) (cs : List Int), d + j = 7 → 1 ≤ d → a ≤ M → max a (mxA ls j) + j + 1 ≤ t → cs.length = os.length → (∀ x ∈ cs, 0 ≤ x) → cellT rows d a = some c →
      ∃ cs', walkT os ls rows t d a cs = some cs' ∧ Walked os ls d a c cs cs' := by
  intro t
  induction t with
  | zero => intro j d a c cs _ _ _ h; omega
  | succ t ih =>
    intro j d a c cs hd h1 ha ht hlen hn hc
    unfold walkT
    by_cases eg : cellT rows d a = goT ls rows d a
    · rw [if_pos eg]
      rw [hc] at eg
      by_cases d7 : d = 7
      · rw [if_pos d7]
        subst d7
        unfold goT at eg
        rw [if_neg (by decide)] at eg
        split at eg
        · rename_i a0
          subst a0
          have := Option.some.inj eg
          subst this
          exact ⟨cs, rfl, rfl, hn, by omega, by omega, fun e h h' => by omega, fun e _ => by omega⟩
        · cases eg
      · rw [if_neg d7]
        cases j with
        | zero => omega
        | succ j =>
          have hL : lackAt ls (7 - j) = lackAt ls (d + 1) := by congr 1; omega
          unfold goT at eg
          rw [if_pos (by omega)] at eg
          have hm := T.most (d + 1)
          unfold mxA at ht
          rw [hL] at ht
          obtain ⟨cs', e', W⟩ := ih j (d + 1) (max a (lackAt ls (d + 1))) c cs (by omega) (by omega) (by omega) (by omega) hlen hn eg.symm
          have w1 := W.here
          refine ⟨cs', e', W.len, W.nn, W.cost, ?_, fun e h h' => ?_, fun e h => ?_⟩
          · have := W.ahead d (by omega)
            omega
          · by_cases e1 : e = d + 1
            · subst e1; omega
            · exact W.behind e (by omega) h'
          · -- of those of a later day each holds on all days up to d alike
            have a1 := W.ahead e (by omega)
            have a2 := W.ahead d (by omega)
            omega
    · rw [if_neg eg]
      rcases T.from_ d a c h1 (by omega) ha hc with e | ⟨h0, o, r, ho, hdo, hr, rfl⟩
      · rw [hc, e] at eg; exact absurd rfl eg
      · have ff : fits rows d a o = true := fits_iff.mpr ⟨hdo, r, hr, hc.symm⟩
        cases ef : firstT os rows d a with
        | none =>
          have := List.findIdx?_eq_none_iff.mp ef o ho
          rw [ff] at this; cases this
        | some k =>
          obtain ⟨hk, fk, _⟩ := List.findIdx?_eq_some_iff_getElem.mp ef
          obtain ⟨hdk, r', hr', hs⟩ := fits_iff.mp fk
          have eo : os.getD k ⟨0, 0, 0⟩ = os[k] := by rw [List.getD_eq_getElem?_getD, List.getElem?_eq_getElem hk]; rfl
          have ec : cs.getD k 0 = cs[k]'(by omega) := by rw [List.getD_eq_getElem?_getD, List.getElem?_eq_getElem (by omega)]; rfl
          rw [hc] at hs
          have hs' := Option.some.inj hs
          have gk := hg _ (List.getElem_mem hk)
          have g1 := gk.size1
          have hst : mxA ls j < a := by
            by_cases z : a ≤ mxA ls j
            · have := tab_stay T hg hd h1 a a _ (Nat.le_refl _) z hc
              rw [hc, this] at eg
              exact absurd rfl eg
            · omega
          show ∃ cs', walkT os ls rows t d (a - ((os.getD k ⟨0, 0, 0⟩).size.toNat)) (cs.set k (cs.getD k 0 + 1)) = some cs' ∧ _
          rw [eo, ec]
          have hco := List.getElem?_eq_getElem (show k < cs.length by omega)
          have hoo := List.getElem?_eq_getElem hk
          have c0 := hn _ (List.getElem_mem (show k < cs.length by omega))
          obtain ⟨cs', e', W⟩ := ih j d (a - os[k].size.toNat) r' (cs.set k (cs[k]'(by omega) + 1)) hd h1 (by omega) (by omega) (by rw [List.length_set]; exact hlen) (nn_set hn (by omega)) hr'
          have wc := wsum_set Offer.price 1 os cs k _ _ hoo hco
          have wh : ∀ e : Int, heldOn os (cs.set k (cs[k]'(by omega) + 1)) e = heldOn os cs e + onto e os[k] * 1 := fun e => by
            rw [heldOn_w, heldOn_w]
            exact wsum_set (onto e) 1 os cs k _ _ hoo hco
          have on : ∀ e : Nat, e ≤ d → onto e os[k] = os[k].size := day_on hdk h1
          refine ⟨cs', e', by rw [W.len, List.length_set], W.nn, ?_, ?_, fun e h h' => ?_, fun e h => ?_⟩
          · rw [W.cost, costOf_w, wc, ← costOf_w]; omega
          · have := W.here
            rw [wh, on d (Nat.le_refl _)] at this
            omega
          · have b := W.behind e h h'
            rw [wh] at b
            have := onto_nonneg gk e
            omega
          · have b := W.ahead e h
            rw [wh, wh, on e h, on d (Nat.le_refl _)] at b
            omega
end
end Lar
namespace Lar
open PySem PySem.Spec PyProof.Rows L2
theorem min7 (o : Offer) : (if (7 : Int) < o.last then (7 : Int) else o.last) = dayOf o := by
  unfold dayOf
  split <;> split <;> omega
def cellV : Option Int → V
  | none => .non
  | some x => .int x
theorem cellV_inj {x y : Option Int} (h : cellV x = cellV y) : x = y := by
  cases x with
  | none => cases y with
    | none => rfl
    | some y => cases h
  | some x => cases y with
    | none => cases h
    | some y => rw [V.int.inj h]
theorem cellV_scal (x y : Option Int) : scal (cellV x) (cellV y) = true := by cases x <;> cases y <;> rfl
theorem it_some {A B : Prop} {x : Option Int} (h1 : ∀ z, x = some z → A) (h2 : x = none → B) : if (!decide (cellV x = V.non)) = true then A else B := by
  cases x with
  | none => exact iteF (h2 rfl)
  | some z => exact iteT (h1 z rfl)
theorem it_none {A B : Prop} {x : Option Int} (h1 : x = none → A) (h2 : ∀ z, x = some z → B) : if decide (cellV x = V.non) = true then A else B := by
  cases x with
  | none => exact iteT (h1 rfl)
  | some z => exact iteF (h2 z rfl)
theorem dp_ints {K : PySem.W.Frag} {H : Hp} : ∀ zs : List Int, DpAll K H (zs.map V.int) (zs.map PyData.int)
  | [] => .nil
  | z :: r => .cons (.int z) (dp_ints r)
theorem int_lay : ∀ zs : List Int, PyData.canLayAll0 (zs.map PyData.int) = true
  | [] => by simp [PyData.canLayAll0]
  | z :: r => by
    rw [List.map_cons, PyData.canLayAll0, int_lay r]
    simp [PyData.canLay0]
theorem int_deep : ∀ zs : List Int, PyData.depthAll (zs.map PyData.int) = 0
  | [] => by simp [PyData.depthAll]
  | z :: r => by
    rw [List.map_cons, PyData.depthAll, int_deep r]
    simp [PyData.depth]
theorem int_shaped (zs : List Int) : SeqAt.shaped (.list (zs.map PyData.int)) = true := by
  unfold SeqAt.shaped
  rw [PyData.canLay0, int_lay, PyData.depth, int_deep]
  rfl
theorem nil_eqv (zs : List Int) : PyData.eqv (.list (zs.map PyData.int)) (.list []) = zs.isEmpty := by
  rw [PyData.eqv]
  cases zs with
  | nil => simp [PyData.eqvAll]
  | cons z r => simp [PyData.eqvAll]
def RowAt (H : Hp) (v : V) (r : List (Option Int)) : Prop := ∃ t, v = .ref t ∧ H t = some (.tup (r.map cellV))
theorem RowAt.mono : MonoT RowAt := fun _ _ _ _ e ⟨t, h1, h2⟩ => ⟨t, h1, e _ _ h2⟩
abbrev RowsAt : Hp → V → List (List (Option Int)) → Prop := TupAll RowAt
theorem RowsAt.mono : MonoT RowsAt := TupAll.mono RowAt.mono
/-- the greatest -/
def mostL (ls : List Int) : Nat := (ls.map Int.toNat).foldr max 0
theorem mostL_ge : ∀ (ls : List Int) (x : Int), x ∈ ls → x.toNat ≤ mostL ls
  | [], x, h => nomatch h
  | y :: r, x, h => by
    unfold mostL
    rw [List.map_cons, List.foldr_cons]
    rcases List.mem_cons.mp h with e | e
    · subst e; omega
    · have := mostL_ge r x e
      unfold mostL at this
      omega
theorem mostL_mem : ∀ (ls : List Int), ls ≠ [] → ∃ x ∈ ls, x.toNat = mostL ls
  | [], h => absurd rfl h
  | [y], _ => ⟨y, List.mem_singleton.mpr rfl, by unfold mostL; simp⟩
  | y :: z :: r, _ => by
    obtain ⟨x, hx, e⟩ := mostL_mem (z :: r) (by simp)
    unfold mostL at e ⊢
    rw [List.map_cons, List.foldr_cons]
    by_cases h : y.toNat ≤ ((z :: r).map Int.toNat).foldr max 0
    · exact ⟨x, List.mem_cons_of_mem _ hx, by rw [e]; omega⟩
    · exact ⟨y, List.mem_cons_self, by omega⟩
theorem mostL_eq {ls : List Int} (g : GoodLs ls) {m : Int} (h1 : m ∈ ls) (h2 : ∀ y ∈ ls, y ≤ m) : m = mostL ls := by
  have a := mostL_ge ls m h1
  obtain ⟨x, hx, e⟩ := mostL_mem ls (List.ne_nil_of_mem h1)
  have b := h2 x hx
  have c := (g.2 m h1).1
  have d := (g.2 x hx).1
  omega
theorem GoodLs.most {ls : List Int} (g : GoodLs ls) : mostL ls ≤ 200 := by
  obtain ⟨x, hx, e⟩ := mostL_mem ls (by intro z; have := g.1; rw [z] at this; cases this)
  have := g.2 x hx
  omega
theorem GoodLs.lack {ls : List Int} (g : GoodLs ls) (d : Nat) : lackAt ls d ≤ mostL ls := by
  unfold lackAt
  rw [List.getD_eq_getElem?_getD]
  cases e : ls[d - 1]? with
  | none => exact Nat.zero_le _
  | some x => exact mostL_ge ls x (List.mem_of_getElem? e)
theorem GoodLs.at {ls : List Int} (g : GoodLs ls) {d : Nat} (h1 : 1 ≤ d) (h7 : d ≤ 7) : ls[d - 1]? = some (lackAt ls d : Int) := by
  have hl : d - 1 < ls.length := by rw [g.1]; omega
  have e := List.getElem?_eq_getElem hl
  rw [e]
  congr 1
  unfold lackAt
  rw [List.getD_eq_getElem?_getD, e]
  have := (g.2 _ (List.getElem_mem hl)).1
  show _ = ((ls[d - 1].toNat : Nat) : Int)
  omega
theorem cell_at' {rows : List (List (Option Int))} {M d a : Nat} (hl : rows.length = 7) (he : ∀ r ∈ rows, r.length = M + 1) (h1 : 1 ≤ d) (h7 : d ≤ 7) (ha : a ≤ M) : ∃ r, rows[d - 1]? = some r ∧ r[a]? = some (cellT rows d a) := by
  have h : d - 1 < rows.length := by omega
  have e := List.getElem?_eq_getElem h
  refine ⟨_, e, ?_⟩
  have hr := he _ (List.getElem_mem h)
  unfold cellT
  rw [List.getD_eq_getElem?_getD, List.getD_eq_getElem?_getD, e]
  show _ = some ((rows[d - 1])[a]?.getD none)
  rw [List.getElem?_eq_getElem (by omega)]; rfl
/-- what is told for a cell -/
def candT (rows : List (List (Option Int))) (d a : Nat) (o : Offer) : Option Int := if 0 < a ∧ dayOf o = d then (match cellT rows d (a - o.size.toNat) with | none => none | some r => some (r + o.price)) else none
def dueT (os : List Offer) (ls : List Int) (rows : List (List (Option Int))) (d a : Nat) : List Int := (goT ls rows d a).toList ++ os.filterMap (candT rows d a)
section
variable {os : List Offer} {ls : List Int} {M : Nat} {rows : List (List (Option Int))} {d a : Nat}
theorem due_mem (T : IsTable os ls M rows) (h1 : 1 ≤ d) (h7 : d ≤ 7) (ha : a ≤ M) {z : Int} (hz : z ∈ dueT os ls rows d a) : ∃ c, cellT rows d a = some c ∧ c ≤ z := by
  rcases List.mem_append.mp hz with h | h
  · rw [Option.mem_toList] at h
    exact T.go d a z h1 h7 ha h
  · obtain ⟨o, ho, e⟩ := List.mem_filterMap.mp h
    unfold candT at e
    split at e
    · rename_i hc
      split at e
      · cases e
      · rename_i r hr
        cases e
        exact T.take d a o r h1 h7 ha hc.1 ho hc.2 hr
    · cases e
theorem due_of (T : IsTable os ls M rows) (h1 : 1 ≤ d) (h7 : d ≤ 7) (ha : a ≤ M) {c : Int} (hc : cellT rows d a = some c) : c ∈ dueT os ls rows d a := by
  rcases T.from_ d a c h1 h7 ha hc with e | ⟨h0, o, r, ho, hdo, hr, rfl⟩
  · exact List.mem_append_left _ (by rw [e]; simp)
  · refine List.mem_append_right _ (List.mem_filterMap.mpr ⟨o, ho, ?_⟩)
    unfold candT
    rw [if_pos ⟨h0, hdo⟩, hr]
theorem due_none (T : IsTable os ls M rows) (h1 : 1 ≤ d) (h7 : d ≤ 7) (ha : a ≤ M) (h : dueT os ls rows d a = []) : cellT rows d a = none := by
  cases e : cellT rows d a with
  | none => rfl
  | some c =>
    have := due_of T h1 h7 ha e
    rw [h] at this
    cases this
theorem due_min (T : IsTable os ls M rows) (h1 : 1 ≤ d) (h7 : d ≤ 7) (ha : a ≤ M) {m : Int} (hm : m ∈ dueT os ls rows d a) (hl : ∀ y ∈ dueT os ls rows d a, m ≤ y) : cellT rows d a = some m := by
  obtain ⟨c, e, l⟩ := due_mem T h1 h7 ha hm
  have := hl c (due_of T h1 h7 ha e)
  rw [e]
  congr 1
  omega
end
def spTable : Sp := fun vs H Q _ => ∃ (v : V) (c : Addr) (os : List Offer) (ls : List Int), vs = [v, .ref c] ∧ OffersAt H v os ∧ H c = some (.tup (ls.map V.int)) ∧ os.length ≤ 60 ∧ (∀ o ∈ os, GoodOffer o) ∧ GoodLs ls ∧
  ∀ v' rows H', Same H H' → RowsAt H' v' rows → IsTable os ls (mostL ls) rows → Q v' H'
def boughtT (os : List Offer) (ls : List Int) (rows : List (List (Option Int))) : Option (List Int) := if cellT rows 1 (lackAt ls 1) = none then none else walkT os ls rows 220 1 (lackAt ls 1) (List.replicate os.length 0)
def spBought : Sp := fun vs H Q _ => ∃ (v : V) (c : Addr) (os : List Offer) (ls : List Int), vs = [v, .ref c] ∧ OffersAt H v os ∧ H c = some (.tup (ls.map V.int)) ∧ os.length ≤ 60 ∧ (∀ o ∈ os, GoodOffer o) ∧ GoodLs ls ∧
  ∀ rows H', Same H H' → IsTable os ls (mostL ls) rows → (boughtT os ls rows = none → Q .non H') ∧ (∀ cs p, boughtT os ls rows = some cs → H' p = some (.tup (cs.map V.int)) → Q (.ref p) H')
end Lar
namespace Lar
open PySem PySem.Spec PyProof.Rows L2
/-! ### all but one object as it was -/
def SameBut (c : Addr) (H H' : Hp) : Prop := ∀ b x, b ≠ c → H b = some x → H' b = some x
theorem SameBut.of {c : Addr} {H H' : Hp} (e : Same H H') : SameBut c H H' := fun b x _ h => e b x h
theorem SameBut.refl (c : Addr) (H : Hp) : SameBut c H H := fun _ _ _ h => h
theorem SameBut.trans {c : Addr} {H H1 H2 : Hp} (a : SameBut c H H1) (b : SameBut c H1 H2) : SameBut c H H2 := fun d o n h => b d o n (a d o n h)
theorem SameBut.put {c : Addr} {H H' : Hp} {o : HO} (a : SameBut c H H') : SameBut c H (upd H' c o) := fun b x n h => by
  rw [upd_ne n]
  exact a b x n h
theorem SameBut.over {c : Addr} {H0 H H' : Hp} (s : Same H0 H) (h : H0 c = none) (a : SameBut c H H') : Same H0 H' := fun b x e => a b x (ne_of_none e h) (s b x e)
theorem keepA {K : PySem.W.Frag} {H H' : Hp} {a : Addr} {xs : List V} (h : ∀ x, H a = some x → H' a = some x) (q : SqA K H a xs) : SqA K H' a xs := by
  rcases q with ((q | ⟨o, q⟩) | q) | ((q | ⟨o, q⟩) | q)
  · exact .inl (.inl (.inl (h _ q)))
  · exact .inl (.inl (.inr ⟨o, h _ q⟩))
  · exact .inl (.inr q)
  · exact .inr (.inl (.inl (h _ q)))
  · exact .inr (.inl (.inr ⟨o, h _ q⟩))
  · exact .inr (.inr q)
theorem SameBut.sq {K : PySem.W.Frag} {c : Addr} {H H' : Hp} {a : Addr} {xs : List V} (e : SameBut c H H') (n : a ≠ c) (q : SqA K H a xs) : SqA K H' a xs := keepA (fun x h => e a x n h) q
/-- where c is a list all along, tuples stay -/
theorem SameBut.tup {c : Addr} {H H' : Hp} {zs : List V} (e : SameBut c H H') (h : H c = some (.lst zs)) : SameT H H' := fun b xs hb => e b _ (fun z => by subst z; rw [h] at hb; cases hb) hb
theorem cutV_from (xs : List V) (i : Nat) : cutV xs (some (i : Int)) none = xs.drop i := by
  unfold cutV
  rw [HT.sIx_nat, HT.sIx_none]
  by_cases h : i ≤ xs.length
  · rw [Nat.min_eq_left h]
    exact List.take_of_length_le (by rw [List.length_drop]; exact Nat.le_refl _)
  · rw [Nat.min_eq_right (by omega), List.drop_of_length_le (Nat.le_refl _), List.drop_of_length_le (by omega), List.take_nil]
theorem rep0 (d : Nat) : (List.replicate (d : Int).toNat [V.int 0]).flatten = (List.replicate d (0 : Int)).map V.int := by
  rw [Int.toNat_natCast]
  induction d with
  | zero => rfl
  | succ d ih => rw [List.replicate_succ, List.flatten_cons, ih, List.replicate_succ, List.map_cons]; rfl
/-! ### the offers that fit -/
abbrev oz : Offer := ⟨0, 0, 0⟩
def fitK (os : List Offer) (d : Int) : List Nat := (List.range os.length).filterMap fun k => if d ≤ (os.getD k oz).last then some k else none
theorem fit_mem {os : List Offer} {d : Int} {k : Nat} (h : k ∈ fitK os d) : k < os.length ∧ d ≤ (os.getD k oz).last := by
  obtain ⟨j, hj, e⟩ := List.mem_filterMap.mp h
  split at e
  · rename_i hd
    cases e
    exact ⟨List.mem_range.mp hj, hd⟩
  · cases e
theorem fit_nil {os : List Offer} {d : Int} (h : fitK os d = []) : ∀ o ∈ os, ¬ d ≤ o.last := fun o ho hd => by
  obtain ⟨k, hk, e⟩ := List.getElem_of_mem ho
  have : k ∈ fitK os d := List.mem_filterMap.mpr ⟨k, List.mem_range.mpr hk, by
    have e2 : os.getD k oz = o := by rw [List.getD_eq_getElem?_getD, List.getElem?_eq_getElem hk, ← e]; rfl
    rw [e2, if_pos hd]⟩
  rw [h] at this
  cases this
theorem zip_range (os : List Offer) (cs : List Int) (h : os.length = cs.length) : os.zip cs = (List.range os.length).map fun k => (os.getD k oz, cs.getD k 0) := by
  refine List.ext_getElem (by rw [zip_len h]; simp) fun i h1 h2 => ?_
  have hi : i < os.length := by rw [zip_len h] at h1; exact h1
  rw [List.getElem_zip, List.getElem_map, List.getElem_range]
  rw [List.getD_eq_getElem?_getD, List.getD_eq_getElem?_getD, List.getElem?_eq_getElem hi, List.getElem?_eq_getElem (by omega)]; rfl
theorem sum_fm (p : Nat → Prop) [DecidablePred p] (g : Nat → Int) : ∀ xs : List Nat, ((xs.filterMap fun k => if p k then some k else none).map g).sum = (xs.map fun k => if p k then g k else 0).sum
  | [] => rfl
  | x :: r => by
    rw [List.map_cons, List.sum_cons, ← sum_fm p g r]
    by_cases e : p x
    · simp only [List.filterMap_cons, if_pos e, List.map_cons, List.sum_cons]
    · simp only [List.filterMap_cons, if_neg e]; omega
theorem held_fit (os : List Offer) (cs : List Int) (h : os.length = cs.length) (d : Int) : ((fitK os d).map fun k => (os.getD k oz).size * cs.getD k 0).sum = heldOn os cs d := by
  unfold fitK
  rw [sum_fm]
  unfold heldOn heldZ
  rw [zip_range os cs h, List.map_map]; rfl
/-- what a filling up leaves -/
structure Filled (os : List Offer) (ls : List Int) (M : Nat) (i : Nat) (cs cs' : List Int) : Prop where
  len : cs'.length = cs.length
  nn : ∀ x ∈ cs', 0 ≤ x
  few : sumC cs' ≤ sumC cs + i * M
  serve : ∀ e : Nat, 7 - i < e → e ≤ 7 → (lackAt ls e : Int) ≤ heldOn os cs' e
theorem sumC_add : ∀ (cs : List Int) (k : Nat) (c x : Int), cs[k]? = some c → 0 ≤ c → 0 ≤ x → sumC (cs.set k (c + x)) = sumC cs + x.toNat
  | [], k, c, x, h, _, _ => by simp at h
  | c' :: cs, 0, c, x, h, hc, hx => by
    have e : c' = c := by simpa using h
    subst e
    unfold sumC
    rw [List.set_cons_zero, List.map_cons, List.sum_cons, List.map_cons, List.sum_cons]
    omega
  | c' :: cs, k + 1, c, x, h, hc, hx => by
    have ih := sumC_add cs k c x (by simpa using h) hc hx
    unfold sumC at ih ⊢
    rw [List.set_cons_succ, List.map_cons, List.sum_cons, List.map_cons, List.sum_cons]
    omega
theorem fill_div {l h s : Int} (hs : 1 ≤ s) (hl : h < l) : l - h ≤ s * ((l - h + s - 1) / s) ∧ 0 ≤ (l - h + s - 1) / s ∧ (l - h + s - 1) / s ≤ l - h := by
  have e := Int.mul_ediv_add_emod (l - h + s - 1) s
  have m0 := Int.emod_nonneg (l - h + s - 1) (show s ≠ 0 by omega)
  have m1 := Int.emod_lt_of_pos (l - h + s - 1) (show 0 < s by omega)
  have n0 := Int.ediv_nonneg (show 0 ≤ l - h + s - 1 by omega) (show 0 ≤ s by omega)
  refine ⟨by omega, n0, ?_⟩
  by_cases z : (l - h + s - 1) / s ≤ l - h
  · exact z
  · exfalso
    have z2 : l - h + 1 ≤ (l - h + s - 1) / s := by omega
    have := Int.mul_le_mul_of_nonneg_left z2 (show 0 ≤ s by omega)
    rw [Int.mul_add] at this
    have q : l - h ≤ s * (l - h) := by
      have := Int.mul_le_mul_of_nonneg_right hs (show 0 ≤ l - h by omega)
      omega
    omega
theorem Filled.none {os : List Offer} {ls : List Int} {M i : Nat} {cs cs' : List Int} (F : Filled os ls M i cs cs') (hi : i < 7) (h : (lackAt ls (7 - i) : Int) ≤ heldOn os cs' ((7 - i : Nat) : Int)) : Filled os ls M (i + 1) cs cs' :=
  ⟨F.len, F.nn, by have := F.few; rw [Nat.succ_mul]; omega, fun e h1 h2 => by
    by_cases z : e = 7 - i
    · subst z; exact h
    · exact F.serve e (by omega) h2⟩
theorem Filled.more {os : List Offer} {ls : List Int} {M i : Nat} {cs cs' : List Int} (F : Filled os ls M i cs cs') (hl : os.length = cs.length) (hg : ∀ o ∈ os, GoodOffer o) (hi : i < 7) (hM : lackAt ls (7 - i) ≤ M)
    {k : Nat} (hk : k ∈ fitK os ((7 - i : Nat) : Int)) (h : heldOn os cs' ((7 - i : Nat) : Int) < (lackAt ls (7 - i) : Int)) :
    Filled os ls M (i + 1) cs (cs'.set k (cs'.getD k 0 + ((lackAt ls (7 - i) : Int) - heldOn os cs' ((7 - i : Nat) : Int) + (os.getD k oz).size - 1) / (os.getD k oz).size)) := by
  obtain ⟨hk1, hk2⟩ := fit_mem hk
  have eo : os.getD k oz = os[k] := by rw [List.getD_eq_getElem?_getD, List.getElem?_eq_getElem hk1]; rfl
  have hkc : k < cs'.length := by rw [F.len, ← hl]; exact hk1
  have ec : cs'.getD k 0 = cs'[k] := by rw [List.getD_eq_getElem?_getD, List.getElem?_eq_getElem hkc]; rfl
  rw [eo] at hk2
  rw [eo, ec]
  have g := hg _ (List.getElem_mem hk1)
  have g1 := g.size1
  obtain ⟨d1, d2, d3⟩ := fill_div g1 h
  have c0 := F.nn _ (List.getElem_mem hkc)
  have hh : 0 ≤ heldOn os cs' ((7 - i : Nat) : Int) := by rw [heldOn_w]; exact wsum_nonneg _ _ _ (fun o ho => onto_nonneg (hg o ho) _) F.nn
  generalize hx : ((lackAt ls (7 - i) : Int) - heldOn os cs' ((7 - i : Nat) : Int) + os[k].size - 1) / os[k].size = x at d1 d2 d3 ⊢
  have hw : ∀ e : Int, heldOn os (cs'.set k (cs'[k] + x)) e = heldOn os cs' e + onto e os[k] * x := fun e => by
    rw [heldOn_w, heldOn_w]
    exact wsum_set (onto e) x os cs' k _ _ (List.getElem?_eq_getElem hk1) (List.getElem?_eq_getElem hkc)
  refine ⟨by rw [List.length_set]; exact F.len, nn_set F.nn (by omega), ?_, fun e h1 h2 => ?_⟩
  · have := sumC_add cs' k _ x (List.getElem?_eq_getElem hkc) c0 d2
    have f := F.few
    rw [this, Nat.succ_mul]
    omega
  · rw [hw]
    by_cases z : e = 7 - i
    · subst z
      unfold onto
      rw [if_pos hk2]
      omega
    · have := F.serve e (by omega) h2
      have := Int.mul_nonneg (onto_nonneg g e) d2
      omega
end Lar
namespace Lar
open PySem PySem.Spec PyProof.Rows L2
/-! ### uses: tuples of pairs (batch, amount) -/
abbrev Use := Nat × Int
def UseAt (H : Hp) (v : V) (p : Use) : Prop := ∃ t, v = .ref t ∧ H t = some (.tup [.int (p.1 : Int), .int p.2])
theorem UseAt.mono : MonoT UseAt := fun _ _ _ _ e ⟨t, h1, h2⟩ => ⟨t, h1, e _ _ h2⟩
abbrev PairsAt : Hp → V → List Use → Prop := TupAll UseAt
theorem PairsAt.mono : MonoT PairsAt := TupAll.mono UseAt.mono
abbrev UsesAt : Hp → V → List (List Use) → Prop := TupAll PairsAt
theorem UsesAt.mono : MonoT UsesAt := TupAll.mono PairsAt.mono
/-- a tuple of ints -/
def IntsT (H : Hp) (v : V) (xs : List Int) : Prop := ∃ t, v = .ref t ∧ H t = some (.tup (xs.map V.int))
theorem IntsT.mono : MonoT IntsT := fun _ _ _ _ e ⟨t, h1, h2⟩ => ⟨t, h1, e _ _ h2⟩
/-- how much of a batch is used -/
def usedP (ps : List Use) (k : Nat) : Int := (ps.map fun p => if p.1 = k then p.2 else 0).sum
def usedOf (us : List (List Use)) (k : Nat) : Int := (us.map fun ps => usedP ps k).sum
theorem usedP_snoc (ps : List Use) (p : Use) (k : Nat) : usedP (ps ++ [p]) k = usedP ps k + if p.1 = k then p.2 else 0 := by
  unfold usedP
  rw [List.map_append, List.sum_append]; simp
theorem usedOf_snoc (us : List (List Use)) (ps : List Use) (k : Nat) : usedOf (us ++ [ps]) k = usedOf us k + usedP ps k := by
  unfold usedOf
  rw [List.map_append, List.sum_append]; simp
abbrev bz : Batch := ⟨"", 0, 0⟩
def endOf (b : Batch) (used : Int) : List Int := if b.last < 7 then [used, b.amount - used, 0] else [used, 0, b.amount - used]
def endsL (lar : List Batch) (us : List (List Use)) : List (List Int) := (List.range lar.length).map fun k => endOf (lar.getD k bz) (usedOf us k)
def spEnds : Sp := fun vs H Q _ => ∃ (v u : V) (lar : List Batch) (us : List (List Use)), vs = [v, u] ∧ LarderAt H v lar ∧ UsesAt H u us ∧ lar.length ≤ 50000 ∧ us.length ≤ 1000 ∧ (∀ ps ∈ us, ps.length ≤ 50000 ∧ ∀ p ∈ ps, p.1 < lar.length ∧ 1 ≤ p.2) ∧ (∀ k, k < lar.length → usedOf us k ≤ (lar.getD k bz).amount) ∧
  ∀ v' H', Same H H' → TupAll IntsT H' v' (endsL lar us) → Q v' H'
/-! ### what is left of the batches -/
def leftL (lar : List Batch) (f : Nat → Int) : List Int := (List.range lar.length).map fun k => (lar.getD k bz).amount - f k
theorem leftL_len (lar : List Batch) (f : Nat → Int) : (leftL lar f).length = lar.length := by unfold leftL; simp
theorem leftL_at {lar : List Batch} {f : Nat → Int} {k : Nat} (h : k < lar.length) : (leftL lar f)[k]? = some ((lar.getD k bz).amount - f k) := by
  unfold leftL
  rw [List.getElem?_map, List.getElem?_range h]; rfl
theorem leftL_set {lar : List Batch} {f g : Nat → Int} {k : Nat} {z : Int} (h : k < lar.length) (h1 : (lar.getD k bz).amount - g k = z) (h2 : ∀ j, j < lar.length → j ≠ k → g j = f j) : (leftL lar f).set k z = leftL lar g := by
  refine List.ext_getElem? fun j => ?_
  rw [List.getElem?_set]
  by_cases e : k = j
  · subst e
    rw [if_pos rfl, leftL_len, if_pos h, leftL_at h, h1]
  · rw [if_neg e]
    by_cases hj : j < lar.length
    · rw [leftL_at hj, leftL_at hj, h2 j hj (fun z => e z.symm)]
    · rw [List.getElem?_eq_none (by rw [leftL_len]; omega), List.getElem?_eq_none (by rw [leftL_len]; omega)]
theorem getD_at {α : Type} {xs : List α} {k : Nat} {x d : α} (h : xs[k]? = some x) : xs.getD k d = x := by rw [List.getD_eq_getElem?_getD, h]; rfl
theorem at_getD {α : Type} {xs : List α} {k : Nat} (h : k < xs.length) (d : α) : xs[k]? = some (xs.getD k d) := by rw [List.getD_eq_getElem?_getD, List.getElem?_eq_getElem h]; rfl
/-- what is told of each can be told of all -/
theorem Held.choose {α β : Type} {R : Hp → V → β → Prop} {P : α → β → Prop} {H : Hp} : ∀ {vs : List V} {xs : List α}, Held (fun H v x => ∃ y, R H v y ∧ P x y) H vs xs → ∃ ys : List β, Held R H vs ys ∧ ys.length = xs.length ∧ ∀ (i : Nat) x y, xs[i]? = some x → ys[i]? = some y → P x y
  | [], [], _ => ⟨[], Held.nil, rfl, fun i x y h => by simp at h⟩
  | [], _ :: _, h => by have := h.len; simp at this
  | _ :: _, [], h => by have := h.len; simp at this
  | v :: vs, x :: xs, h => by
    obtain ⟨ys, a, b, c⟩ := Held.choose (vs := vs) (xs := xs) (R := R) (P := P) (H := H) ⟨by have := h.len; simpa using this, fun i v' x' h1 h2 => h.all (i + 1) v' x' (by simpa using h1) (by simpa using h2)⟩
    obtain ⟨y, r, p⟩ := h.all 0 v x rfl rfl
    refine ⟨y :: ys, ⟨by simp [a.len], fun i v' y' h1 h2 => ?_⟩, by simp [b], fun i x' y' h1 h2 => ?_⟩
    · cases i with
      | zero =>
        have e1 : v = v' := by simpa using h1
        have e2 : y = y' := by simpa using h2
        subst e1 e2
        exact r
      | succ i => exact a.all i v' y' (by simpa using h1) (by simpa using h2)
    · cases i with
      | zero =>
        have e1 : x = x' := by simpa using h1
        have e2 : y = y' := by simpa using h2
        subst e1 e2
        exact p
      | succ i => exact c i x' y' (by simpa using h1) (by simpa using h2)
/-- a tuple and one that is not empty -/
theorem cat_tup {K : PySem.W.Frag} {H : Hp} {Q : VK} {a b : Addr} {xs ys : List V} (ha : SqT K H a xs) (hb : H b = some (.tup ys)) (hz : xs.length + ys.length ≤ sizeLine) (ny : ys ≠ []) (h : ∀ p H', Same H H' → H' p = some (.tup (xs ++ ys)) → Q (.ref p) H') : rCatA K (.ref a) (.ref b) H Q := by
  refine ⟨a, b, xs, ys, rfl, rfl, ha, sqT hb, hz, fun e => ?_, fun _ e => absurd e ny, fun _ _ p hp => ?_⟩
  · subst e
    exact h b H (Same.refl _) hb
  · exact h p _ (same_upd hp) upd_same
theorem endOf_len (b : Batch) (u : Int) : (endOf b u).length = 3 := by unfold endOf; split <;> rfl
end Lar
namespace Lar
open PySem PySem.Spec PyProof.Rows L2
/-! ### packs -/
structure Pack where
  name : Str
  size : Int
  price : Int
  last : Int
def PackAt (H : Hp) (v : V) (p : Pack) : Prop := ∃ t, v = .ref t ∧ H t = some (.tup [.str p.name, .int p.size, .int p.price, .int p.last])
theorem PackAt.mono : MonoT PackAt := fun _ _ _ _ e ⟨t, h1, h2⟩ => ⟨t, h1, e _ _ h2⟩
abbrev PacksAt : Hp → V → List Pack → Prop := TupAll PackAt
theorem PacksAt.mono : MonoT PacksAt := TupAll.mono PackAt.mono
structure GoodPack (seed : Int) (p : Pack) : Prop where
  size1 : 1 ≤ p.size
  size2 : p.size ≤ 200
  price0 : 0 ≤ p.price
  price2 : p.price ≤ 1000000
  last1 : 1 ≤ p.last
  last2 : p.last ≤ 99
  name : NameOf seed p.name
structure FinePack (p : Pack) : Prop where
  size1 : 1 ≤ p.size
  size2 : p.size ≤ 200
  price0 : 0 ≤ p.price
  price2 : p.price ≤ 1000000
  last1 : 1 ≤ p.last
  last2 : p.last ≤ 99
  ok : OkS p.name
  few : p.name.length ≤ 16
def totalP (ps : List Pack) (cs : List Int) : Int := ((ps.zip cs).map fun p => p.1.price * p.2).sum
def batchOf (p : Pack) : Batch := ⟨p.name, p.size, p.last⟩
def stockZ (zs : List (Pack × Int)) : List Batch := zs.flatMap fun p => List.replicate p.2.toNat (batchOf p.1)
def stockL (lar : List Batch) (ps : List Pack) (cs : List Int) : List Batch := lar ++ stockZ (ps.zip cs)
def rowS (p : Pack) (c : Int) : Str := Txt.join " " [Str.ofString (toString c), p.name, Str.ofString (toString p.size), Str.ofString (toString (p.price * c))]
def rowsS (zs : List (Pack × Int)) : Str := zs.foldl (fun acc p => if 0 < p.2 then acc ++ rowS p.1 p.2 ++ ("\n" : Str) else acc) ("" : Str)
def listedS (ps : List Pack) (cs : List Int) : Str := rowsS (ps.zip cs) ++ ("total " : Str) ++ Str.ofString (toString (totalP ps cs))
def spTotal : Sp := fun vs H Q _ => ∃ (v : V) (b : Addr) (ps : List Pack) (cs : List Int), vs = [v, .ref b] ∧ PacksAt H v ps ∧ H b = some (.tup (cs.map V.int)) ∧ ps.length = cs.length ∧ ps.length ≤ 1000 ∧ (∀ p ∈ ps, FinePack p) ∧ (∀ c ∈ cs, 0 ≤ c) ∧
  ∀ H', Same H H' → Q (.int (totalP ps cs)) H'
def spStocked : Sp := fun vs H Q _ => ∃ (u v : V) (b : Addr) (lar : List Batch) (ps : List Pack) (cs : List Int), vs = [u, v, .ref b] ∧ LarderAt H u lar ∧ PacksAt H v ps ∧ H b = some (.tup (cs.map V.int)) ∧ ps.length = cs.length ∧ ps.length ≤ 1000 ∧ (∀ p ∈ ps, FinePack p) ∧ (∀ c ∈ cs, 0 ≤ c) ∧ lar.length + sumC cs ≤ 16000000 ∧
  ∀ v' H', Same H H' → LarderAt H' v' (stockL lar ps cs) → Q v' H'
def spListed : Sp := fun vs H Q _ => ∃ (v : V) (b : Addr) (ps : List Pack) (cs : List Int), vs = [v, .ref b] ∧ PacksAt H v ps ∧ H b = some (.tup (cs.map V.int)) ∧ ps.length = cs.length ∧ ps.length ≤ 60 ∧ (∀ p ∈ ps, FinePack p) ∧ (∀ c ∈ cs, 0 ≤ c ∧ c ≤ 200) ∧
  ∀ H', Same H H' → Q (.str (listedS ps cs)) H'
/-! ### lengths -/
theorem num_len {n : Int} {k : Nat} (h0 : 0 ≤ n) (hk : 0 < k) (h : n < 10 ^ k) : (Str.ofString (toString n)).length ≤ k := toString_length_le h0 hk h
theorem join_len (sep : Str) (ys : List Str) : (Txt.join sep ys).length ≤ (ys.map (·.length)).sum + ys.length * sep.length := by
  have h : (Txt.join sep ys).length = (ys.map (·.length)).sum + (ys.length - 1) * sep.length := size_glued sep ys
  rw [h]
  have := Nat.mul_le_mul_right sep.length (Nat.sub_le ys.length 1)
  omega
theorem words_len : ∀ x ∈ words, x.length ≤ 16 := by decide +kernel
theorem nameBy_len (seed k : Int) : (nameBy seed k).length ≤ 16 := by
  unfold nameBy
  split
  · rw [List.getD_eq_getElem?_getD]
    cases e : words[((seed / 6 + k) % 11).toNat]? with
    | none => exact Nat.zero_le _
    | some x => exact words_len x (List.mem_of_getElem? e)
  · have m1 := Int.emod_nonneg (seed / 6) (show (7 : Int) ≠ 0 by decide)
    have m2 := Int.emod_lt_of_pos (seed / 6) (show (0 : Int) < 7 by decide)
    have hn := nmNm_len (seed / 6) (1 + seed / 6 % 7).toNat
    simp only
    generalize nmNm (seed / 6) (1 + seed / 6 % 7).toNat = nm at *
    have hl : nm.length ≤ 7 := by omega
    split
    · rw [app_len, app_len, app_len, sg_len, sg_len]
      have a := cutS_length nm none (some (min6 (seed / 6 / 4550 % (((1 + seed / 6 % 7).toNat : Nat) : Int))))
      have b := cutS_length nm (some (min6 (seed / 6 / 4550 % (((1 + seed / 6 % 7).toNat : Nat) : Int)))) (some 6)
      omega
    · split
      · rw [app_len, sg_len]; omega
      · split
        · rw [app_len, app_len, sg_len]
          have a := cutS_length nm none (some (seed / 6 / 4550 % (((1 + seed / 6 % 7).toNat : Nat) : Int)))
          have b := cutS_length nm (some (seed / 6 / 4550 % (((1 + seed / 6 % 7).toNat : Nat) : Int) + 1)) none
          omega
        · rw [app_len, List.getD_eq_getElem?_getD]
          have hz : ∀ x ∈ [("" : Str), "", sg (nmAt (seed / 6) (1 + seed / 6 % 7).toNat), sg (nmAt (seed / 6) (1 + seed / 6 % 7).toNat + 1)], x.length ≤ 1 := fun x hx => by
            simp only [List.mem_cons, List.mem_nil_iff, or_false] at hx
            rcases hx with e | e | e | e <;> subst e
            · decide
            · decide
            · exact Nat.le_refl _
            · exact Nat.le_refl _
          cases e : ([("" : Str), "", sg (nmAt (seed / 6) (1 + seed / 6 % 7).toNat), sg (nmAt (seed / 6) (1 + seed / 6 % 7).toNat + 1)])[k.toNat]? with
          | none => show nm.length + 0 ≤ 16; omega
          | some x => have := hz x (List.mem_of_getElem? e); show nm.length + x.length ≤ 16; omega
theorem GoodPack.fine {seed : Int} {p : Pack} (g : GoodPack seed p) : FinePack p := ⟨g.size1, g.size2, g.price0, g.price2, g.last1, g.last2, by obtain ⟨k, _, e⟩ := g.name; rw [e]; exact nameBy_ok _ _, by obtain ⟨k, _, e⟩ := g.name; rw [e]; exact nameBy_len _ _⟩
/-! ### larders as data -/
def batchD (b : Batch) : PyData := .tuple [.str b.name, .int b.amount, .int b.last]
theorem dp_batch {K : PySem.W.Frag} {H : Hp} {v : V} {b : Batch} (h : BatchAt H v b) : Dp K H v (batchD b) := by
  obtain ⟨t, rfl, ht⟩ := h
  exact .tup (sqT ht) (.cons (.str _) (.cons (.int _) (.cons (.int _) .nil)))
theorem dp_held {K : PySem.W.Frag} {H : Hp} : ∀ {vs : List V} {lar : List Batch}, Held BatchAt H vs lar → DpAll K H vs (lar.map batchD)
  | [], [], _ => .nil
  | [], _ :: _, h => by have := h.len; simp at this
  | _ :: _, [], h => by have := h.len; simp at this
  | v :: vs, b :: lar, h => .cons (dp_batch (h.all 0 v b rfl rfl)) (dp_held ⟨by have := h.len; simpa using this, fun i v' x' h1 h2 => h.all (i + 1) v' x' (by simpa using h1) (by simpa using h2)⟩)
theorem dp_larder {K : PySem.W.Frag} {H : Hp} {v : V} {lar : List Batch} (h : LarderAt H v lar) : Dp K H v (.tuple (lar.map batchD)) := by
  obtain ⟨t, vs, rfl, ht, hh⟩ := h
  exact .tup (sqT ht) (dp_held hh)
theorem batch_lay {b : Batch} (h : OkS b.name) : (batchD b).canLay0 = true := by
  unfold batchD
  rw [PyData.canLay0]
  simp only [PyData.canLayAll0, h.lay]
  simp [PyData.canLay0]
theorem larder_lay : ∀ {lar : List Batch}, (∀ b ∈ lar, OkS b.name) → PyData.canLayAll0 (lar.map batchD) = true
  | [], _ => by simp [PyData.canLayAll0]
  | b :: r, h => by
    have ih := larder_lay (lar := r) fun z hz => h z (List.mem_cons_of_mem _ hz)
    rw [List.map_cons, PyData.canLayAll0, batch_lay (h b List.mem_cons_self), ih]
    rfl
theorem larder_deep : ∀ lar : List Batch, PyData.depthAll (lar.map batchD) ≤ 1
  | [] => by simp [PyData.depthAll]
  | b :: r => by
    rw [List.map_cons, PyData.depthAll]
    have := larder_deep r
    have e : (batchD b).depth = 1 := by unfold batchD; simp [PyData.depth, PyData.depthAll]
    omega
theorem larder_shaped {lar : List Batch} (h : ∀ b ∈ lar, OkS b.name) : SeqAt.shaped (.tuple (lar.map batchD)) = true := by
  have h1 := larder_lay h
  have h2 := larder_deep lar
  unfold SeqAt.shaped
  rw [PyData.canLay0, h1, PyData.depth, Bool.true_and]
  exact decide_eq_true (by omega)
theorem larder_self {lar : List Batch} (h : ∀ b ∈ lar, OkS b.name) : PyData.eqv (.tuple (lar.map batchD)) (.tuple (lar.map batchD)) = true := by
  refine SeqAt.eqv_refl _ ?_
  rw [PyData.canLay0]
  exact larder_lay h
/-! ### the rows of a list -/
theorem rowsS_snoc (zs : List (Pack × Int)) (p : Pack × Int) : rowsS (zs ++ [p]) = if 0 < p.2 then rowsS zs ++ rowS p.1 p.2 ++ ("\n" : Str) else rowsS zs := by
  unfold rowsS
  rw [List.foldl_append]; rfl
theorem stockZ_snoc (zs : List (Pack × Int)) (p : Pack × Int) : stockZ (zs ++ [p]) = stockZ zs ++ List.replicate p.2.toNat (batchOf p.1) := by
  unfold stockZ
  rw [List.flatMap_append]; simp
def totalZ (zs : List (Pack × Int)) : Int := (zs.map fun p => p.1.price * p.2).sum
theorem totalP_z (ps : List Pack) (cs : List Int) : totalP ps cs = totalZ (ps.zip cs) := rfl
theorem totalZ_snoc (zs : List (Pack × Int)) (p : Pack × Int) : totalZ (zs ++ [p]) = totalZ zs + p.1.price * p.2 := by
  unfold totalZ
  rw [List.map_append, List.sum_append]; simp
/-- a pack and its count, as the list may hold them -/
def Bit (p : Pack × Int) : Prop := FinePack p.1 ∧ 0 ≤ p.2 ∧ p.2 ≤ 200
theorem Bit.cost {p : Pack × Int} (h : Bit p) : 0 ≤ p.1.price * p.2 ∧ p.1.price * p.2 ≤ 200000000 := by
  obtain ⟨f, h0, h1⟩ := h
  have a := Int.mul_nonneg f.price0 h0
  have b := Int.mul_le_mul_of_nonneg_right f.price2 h0
  have c := Int.mul_le_mul_of_nonneg_left h1 (show (0 : Int) ≤ 1000000 by decide)
  omega
theorem totalZ_few : ∀ zs : List (Pack × Int), (∀ p ∈ zs, Bit p) → 0 ≤ totalZ zs ∧ totalZ zs ≤ zs.length * 200000000
  | [], _ => by unfold totalZ; simp
  | p :: r, h => by
    have ih := totalZ_few r fun q hq => h q (List.mem_cons_of_mem _ hq)
    have c := (h p List.mem_cons_self).cost
    unfold totalZ at ih ⊢
    rw [List.map_cons, List.sum_cons, List.length_cons]
    push_cast
    omega
theorem rowS_len {p : Pack × Int} (h : Bit p) : (rowS p.1 p.2).length ≤ 40 := by
  have c := h.cost
  obtain ⟨f, h0, h1⟩ := h
  have j := join_len " " [Str.ofString (toString p.2), p.1.name, Str.ofString (toString p.1.size), Str.ofString (toString (p.1.price * p.2))]
  have a1 := num_len (k := 3) h0 (by decide) (by omega)
  have a2 := f.few
  have f1 := f.size1
  have f2 := f.size2
  have a3 := num_len (n := p.1.size) (k := 3) (by omega) (by decide) (by omega)
  have a4 := num_len (k := 9) c.1 (by decide) (by omega)
  have a5 : (" " : Str).length = 1 := rfl
  unfold rowS
  simp only [List.map_cons, List.map_nil, List.sum_cons, List.sum_nil, List.length_cons, List.length_nil, a5] at j
  omega
theorem snocRec {α : Type} {P : List α → Prop} (h0 : P []) (h1 : ∀ r p, P r → P (r ++ [p])) : ∀ xs, P xs := fun xs => by
  have : ∀ n, ∀ ys : List α, ys.length = n → P ys := by
    intro n
    induction n with
    | zero => intro ys h; rw [List.length_eq_zero_iff.mp h]; exact h0
    | succ n ih =>
      intro ys h
      have hne : ys ≠ [] := by intro z; rw [z] at h; cases h
      rw [← List.dropLast_concat_getLast hne]
      exact h1 _ _ (ih _ (by rw [List.length_dropLast, h]; rfl))
  exact this _ xs rfl
theorem rowsS_len : ∀ (zs : List (Pack × Int)), (∀ p ∈ zs, Bit p) → (rowsS zs).length ≤ zs.length * 41 := by
  refine snocRec (fun _ => Nat.zero_le _) (fun r p ih h => ?_)
  · skip
    have i := ih fun q hq => h q (List.mem_append_left _ hq)
    have l := rowS_len (h p (List.mem_append_right _ (List.mem_singleton.mpr rfl)))
    rw [rowsS_snoc, List.length_append]
    split
    · rw [app_len, app_len]
      have : ("\n" : Str).length = 1 := rfl
      simp only [List.length_cons, List.length_nil]
      omega
    · simp only [List.length_cons, List.length_nil]
      omega
theorem log_small {i : Int} (h0 : 0 ≤ i) (h : i < 18446744073709551616) : i.natAbs.log2 < 1920 := by
  by_cases z : i.natAbs = 0
  · rw [z]; decide
  · exact (Nat.log2_lt z).mpr (Nat.lt_of_lt_of_le (show i.natAbs < 2 ^ 64 by omega) (Nat.pow_le_pow_right (by decide) (by decide)))
theorem sumC_few (m : Nat) : ∀ cs : List Int, (∀ c ∈ cs, c ≤ m) → sumC cs ≤ cs.length * m
  | [], _ => Nat.zero_le _
  | c :: r, h => by
    have ih := sumC_few m r fun q hq => h q (List.mem_cons_of_mem _ hq)
    have c := h c List.mem_cons_self
    unfold sumC at ih ⊢
    rw [List.map_cons, List.sum_cons, List.length_cons, Nat.succ_mul]
    omega
end Lar
namespace Lar
open PySem PySem.Spec PyProof.Rows L2
section
variable {α β γ : Type} {J : It} {n : Nat} {G : Hp → Prop} {Y : Nat → Hp → V → Hp → Prop}
/-- lc_rel, for as many as a list may hold -/
theorem lc_relB (w : Walk J n G Y) {xs : List α} (hn : xs.length = n) {f : α → Option β} {R : Hp → V → β → Prop} (mR : MonoT R) {g : TG} {tt : TT} {te : TE} {ws : List Nat} {σ : L2.St} {H1 : Hp} {D : Addr} {Qd : Hp → Prop}
    (hD : H1 D = none) (hG : ∀ H, Same H1 H → G H) (hz : n ≤ sizeLine)
    (hs : ∀ (i : Nat) (v : V) (x : α) (H H' : Hp) (Ky : V → Hp → Prop) (Kn : Hp → Prop), xs[i]? = some x → Same H1 H → Y i H v H' → (∀ y b H4, f x = some b → Same H H4 → R H4 y b → Ky y H4) → (∀ H3, f x = none → Same H H3 → Kn H3) →
      g v (wipe σ ws) H' fun σ2 H2 => wipe σ2 ws = wipe σ ws ∧ tt σ2 H2 fun b H3 => if b = true then te σ2 H3 Ky else Kn H3)
    (hd : ∀ H' ys, Same H1 H' → H' D = some (.lst ys) → Held R H' ys (xs.filterMap f) → Qd H') :
    ∃ W : Nat → Nat → Hp → Prop, (∃ m, W 0 m (upd H1 D (.lst []))) ∧ ∀ i m H, W i m H →
      (J.stop i H ∧ Qd H) ∨ (J.go i H ∧ ∃ Nx : Hp → Prop, (∀ H', Nx H' → ∃ m', m' < m ∧ W (i + 1) m' H') ∧ ∀ x H', J.yld i H x H' → g x (wipe σ ws) H' fun σ2 H2 => wipe σ2 ws = wipe σ ws ∧ tt σ2 H2 fun b H3 =>
        if b = true then te σ2 H3 fun y H4 => ∃ acc, H4 D = some (.lst acc) ∧ acc.length < sizeLine ∧ Nx (upd H4 D (.lst (acc ++ [y]))) else Nx H3) := by
  refine lc_it w (fun i H => Same H1 H ∧ ∃ ys, H D = some (.lst ys) ∧ Held R H ys ((xs.take i).filterMap f)) ⟨same_upd hD, [], upd_same, Held.nil⟩ (fun i H _ p => hG H p.1) (fun i v H H' hi p y => ?_) (fun H p => ?_)
  · obtain ⟨sm, ys, hDl, hh⟩ := p
    have hx : xs[i]? = some (xs[i]'(by omega)) := List.getElem?_eq_getElem (by omega)
    refine hs i v _ H H' _ _ hx sm y (fun y b H4 e s4 r => ?_) (fun H3 e s3 => ?_)
    · refine ⟨_, s4 _ _ hDl, ?_, (sm.trans s4).mut hD, ys ++ [y], upd_same, ?_⟩
      · have h1 := List.length_filterMap_le f (xs.take i)
        rw [List.length_take] at h1
        exact Nat.lt_of_lt_of_le (show ys.length < n by rw [hh.len]; omega) hz
      · have st := SameT.lst (o := .lst (ys ++ [y])) (s4 _ _ hDl)
        rw [take_succ' hx, List.filterMap_append]
        have e2 : List.filterMap f [xs[i]'(by omega)] = [b] := by rw [List.filterMap_cons_some e]; rfl
        rw [e2]
        exact (hh.mono mR ((SameT.of s4).trans st)).snoc (mR _ _ _ _ st r)
    · refine ⟨sm.trans s3, ys, s3 _ _ hDl, ?_⟩
      rw [take_succ' hx, List.filterMap_append]
      have e2 : List.filterMap f [xs[i]'(by omega)] = [] := by rw [List.filterMap_cons_none e]; rfl
      rw [e2, List.append_nil]
      exact hh.mono mR (SameT.of s3)
  · obtain ⟨sm, ys, hDl, hh⟩ := p
    rw [← hn, List.take_length] at hh
    exact hd H ys sm hDl hh
end
/-- a walk over a list or a tuple -/
def iAny (K : PySem.W.Frag) (tl : TE) : TI := fun σ H R => tl σ H fun x H1 => ∃ a xs, x = .ref a ∧ ((SqL K H1 a xs ∧ R (Itl K a) H1) ∨ (SqT K H1 a xs ∧ R (Itt K a) H1))
theorem kpi_any {X : Cx} (K : PySem.W.Frag) {tg l : Expr} {tl : TE} (hl : PE X l tl) (hK : X.K = K := by rfl) : PI X tg l (iAny K tl) := by
  subst hK
  refine ⟨fun pins s σ H R I h => ?_⟩
  refine thn (hl.run pins s σ H _ I h) fun v s1 ⟨x, H1, I1, r1, q1⟩ => ?_
  obtain ⟨a, xs, e, q⟩ := q1
  subst e
  cases r1
  rcases q with ⟨hq, q⟩ | ⟨hq, q⟩
  · obtain ⟨its, rv, p, hz⟩ := I1.list hq
    refine wpAny_pyIter_list p.isList ?_
    refine ⟨s1.heap.objs.size, [s1.heap.objs.size], _, _, H1, rfl, I1.kept (t' := s1.toks) fun b o e => Heap.get?_push_of_some _ e, turn_list a _, ⟨_, Heap.get?_push_size _ rfl, rfl, rfl⟩, fun b hb => ?_, q⟩
    have e : b = s1.heap.objs.size := by simpa using hb
    subst e
    exact I1.fpOk (Nat.le_refl _) (I1.hok.fresh (Nat.le_refl _))
  · obtain ⟨its, rv, p, hz⟩ := I1.tuple hq
    refine wpAny_pyIter_tuple (show s1.heap.IsTuple a its.toArray from p) ?_
    refine ⟨s1.heap.objs.size, [s1.heap.objs.size], _, _, H1, rfl, I1.kept (t' := s1.toks) fun b o e => Heap.get?_push_of_some _ e, turn_tuple a _, ⟨_, Heap.get?_push_size _ rfl, rfl, rfl⟩, fun b hb => ?_, q⟩
    have e : b = s1.heap.objs.size := by simpa using hb
    subst e
    exact I1.fpOk (Nat.le_refl _) (I1.hok.fresh (Nat.le_refl _))
/-! ### packs as offers -/
def offOf (p : Pack) : Offer := ⟨p.size, p.price, p.last⟩
theorem offOf_good {p : Pack} (h : FinePack p) : GoodOffer (offOf p) := ⟨h.size1, h.size2, h.price0, h.price2, h.last1, h.last2⟩
def PacksIn (K : PySem.W.Frag) (H : Hp) (v : V) (ps : List Pack) : Prop := ∃ a us, v = .ref a ∧ SqA K H a us ∧ Held PackAt H us ps
theorem PacksAt.in {K : PySem.W.Frag} {H : Hp} {v : V} {ps : List Pack} (h : PacksAt H v ps) : PacksIn K H v ps := by
  obtain ⟨a, us, h1, h2, h3⟩ := h
  exact ⟨a, us, h1, SqA.t h2, h3⟩
theorem costOf_packs : ∀ (ps : List Pack) (cs : List Int), costOf (ps.map offOf) cs = totalP ps cs
  | [], cs => by simp [costOf, totalP]
  | p :: ps, [] => by simp [costOf, totalP]
  | p :: ps, c :: cs => by
    have ih := costOf_packs ps cs
    unfold costOf totalP at ih ⊢
    rw [List.map_cons, List.zip_cons_cons, List.zip_cons_cons, List.map_cons, List.map_cons, List.sum_cons, List.sum_cons, ih]
    rfl
def spOffersOf (K : PySem.W.Frag) : Sp := fun vs H Q _ => ∃ (v : V) (ps : List Pack), vs = [v] ∧ PacksIn K H v ps ∧ ps.length ≤ 1000 ∧ ∀ v' H', Same H H' → OffersAt H' v' (ps.map offOf) → Q v' H'
/-! ### the rows, as the program writes them -/
theorem str_ext {x y : Str} (h : x.cps.toList = y.cps.toList) : x = y := by
  cases x; cases y
  congr 1
  exact Array.toList_inj.mp h
theorem app_list (x y : Str) : (x ++ y).cps.toList = x.cps.toList ++ y.cps.toList := by
  show (x.cps ++ y.cps).toList = _
  exact Array.toList_append
theorem app_assoc (x y z : Str) : (x ++ y) ++ z = x ++ (y ++ z) := str_ext (by simp only [app_list, List.append_assoc])
theorem empty_app (x : Str) : Str.empty ++ x = x := str_ext (by rw [app_list]; rfl)
theorem join_eq (sep : Str) (ys : List Str) : Txt.join sep ys = Str.join sep ys := StrLaws.glued_eq_join sep ys
theorem rowS_eq (p : Pack) (c : Int) : rowS p c = Str.empty ++ Str.ofString (toString c) ++ " " ++ p.name ++ " " ++ Str.ofString (toString p.size) ++ " " ++ Str.ofString (toString (p.price * c)) := by
  unfold rowS
  rw [join_eq, join_cons_cons, join_cons_cons, join_cons_cons, join_one, empty_app]
  simp only [app_assoc]
/-- the rows that are told -/
def rowsL (zs : List (Pack × Int)) : List Str := zs.filterMap fun p => if 0 < p.2 then some (rowS p.1 p.2) else none
theorem join_snoc (sep : Str) (z : Str) : ∀ ys : List Str, Str.join sep (ys ++ [z]) = ys.foldr (fun y acc => y ++ sep ++ acc) z
  | [] => rfl
  | [y] => rfl
  | y :: x :: r => by
    have ih := join_snoc sep z (x :: r)
    show Str.join sep (y :: x :: (r ++ [z])) = _
    rw [join_cons_cons]
    rw [show x :: (r ++ [z]) = (x :: r) ++ [z] from rfl, ih]
    rfl
theorem rows_fold (z : Str) : ∀ zs : List (Pack × Int), (rowsL zs).foldr (fun y acc => y ++ ("\n" : Str) ++ acc) z = rowsS zs ++ z := by
  refine snocRec ?_ (fun r p ih => ?_)
  · exact (empty_app z).symm
  · have key : ∀ w : Str, (rowsL r).foldr (fun y acc => y ++ ("\n" : Str) ++ acc) w = rowsS r ++ w := fun w => by
      have g : ∀ (l : List Str) (w : Str), l.foldr (fun y acc => y ++ ("\n" : Str) ++ acc) w = l.foldr (fun y acc => y ++ ("\n" : Str) ++ acc) Str.empty ++ w := fun l w => by
        induction l with
        | nil => exact (empty_app w).symm
        | cons y l ih => rw [List.foldr_cons, List.foldr_cons, ih]; simp only [app_assoc]
      have e1 := g (rowsL r) z
      rw [g]
      have : (rowsL r).foldr (fun y acc => y ++ ("\n" : Str) ++ acc) Str.empty = rowsS r := by
        have h : ((rowsL r).foldr (fun y acc => y ++ ("\n" : Str) ++ acc) Str.empty ++ z) = rowsS r ++ z := by rw [← e1, ih]
        have h2 := congrArg (fun x : Str => x.cps.toList) h
        simp only [app_list] at h2
        exact str_ext (List.append_cancel_right h2)
      rw [this]
    unfold rowsL at key ⊢
    rw [List.filterMap_append, rowsS_snoc]
    by_cases e : 0 < p.2
    · rw [if_pos e]
      simp only [List.filterMap_cons, if_pos e, List.filterMap_nil, List.foldr_append, List.foldr_cons, List.foldr_nil]
      rw [key]
      simp only [app_assoc]
    · rw [if_neg e]
      simp only [List.filterMap_cons, if_neg e, List.filterMap_nil, List.append_nil]
      exact key z
theorem listed_eq (ps : List Pack) (cs : List Int) : Txt.join "\n" (rowsL (ps.zip cs) ++ [Str.empty ++ "total " ++ Str.ofString (toString (totalP ps cs))]) = listedS ps cs := by
  rw [join_eq, join_snoc, rows_fold]
  unfold listedS
  rw [empty_app, app_assoc]
theorem rowsL_len : ∀ zs : List (Pack × Int), (∀ p ∈ zs, Bit p) → ((rowsL zs).map (·.length)).sum ≤ zs.length * 40
  | [], _ => Nat.zero_le _
  | p :: r, h => by
    have ih := rowsL_len r fun q hq => h q (List.mem_cons_of_mem _ hq)
    have l := rowS_len (h p List.mem_cons_self)
    unfold rowsL at ih ⊢
    rw [List.length_cons]
    by_cases e : 0 < p.2
    · simp only [List.filterMap_cons, if_pos e, List.map_cons, List.sum_cons]
      omega
    · simp only [List.filterMap_cons, if_neg e]
      omega
end Lar
namespace Lar
open PySem PySem.Spec PyProof.Rows L2
theorem held_app {α : Type} {R : Hp → V → α → Prop} {H : Hp} {vs ws : List V} {xs ys : List α} (h : Held R H vs xs) (g : Held R H ws ys) : Held R H (vs ++ ws) (xs ++ ys) := by
  have hl := h.len
  refine ⟨by rw [List.length_append, List.length_append, h.len, g.len], fun i v x hv hx => ?_⟩
  by_cases hi : i < vs.length
  · rw [List.getElem?_append_left hi] at hv
    rw [List.getElem?_append_left (by omega)] at hx
    exact h.all i v x hv hx
  · rw [List.getElem?_append_right (by omega)] at hv hx
    rw [← hl] at hx
    exact g.all _ v x hv hx
theorem stockZ_le : ∀ (ps : List Pack) (cs : List Int) (i : Nat), (stockZ ((ps.zip cs).take i)).length ≤ sumC cs
  | [], cs, i => by simp [stockZ]
  | p :: ps, [], i => by simp [stockZ]
  | p :: ps, c :: cs, 0 => by simp [stockZ]
  | p :: ps, c :: cs, i + 1 => by
    have ih := stockZ_le ps cs i
    unfold stockZ sumC at *
    rw [List.zip_cons_cons, List.take_succ_cons, List.flatMap_cons, List.length_append, List.length_replicate, List.map_cons, List.sum_cons]
    omega
end Lar
namespace Lar
open PySem PySem.Spec PyProof.Rows L2
def rJoin (K : PySem.W.Frag) : V → List V → Hp → VK → Prop := fun x xs H Q => ∃ a p, ∃ ys : List Str, x = .str a ∧ xs = [.ref p] ∧ (SqL K H p (ys.map V.str) ∨ SqT K H p (ys.map V.str)) ∧ (ys.map (·.length)).sum + ys.length * a.length ≤ 16777216 ∧ Q (.str (Txt.join a ys)) H
theorem kpe_join {X : Cx} (K : PySem.W.Frag) {o e : Expr} {to te : TE} {apos pos : Pos} (ho : PE X o to) (he : PE X e te) (hK : X.K = K := by rfl) (hs : starEach [e] X.env = [(false, eval e X.env)] := by rfl) (hbase : attributeBase o "join" X.env (eval o X.env) = eval o X.env := by rfl) (hline : (apos.endLine == pos.line) = true := by rfl) :
    PE X (.Call (.Attribute o "join" apos) [e] [] pos) (tM1 (rJoin K) to te) := by subst hK; exact pe_join ho he hs hbase hline
end Lar
namespace Lar
open PySem PySem.Spec PyProof.Rows L2
def tJoined (ts : List TE) : TE := fun σ H Q => tJs ts Str.empty σ H fun out H1 => Q (.str out) H1
theorem kpe_joined {X : Cx} {v1 v2 : Expr} {rest : List Expr} {ts : List TE} {pos : Pos} (h : PJ X (v1 :: v2 :: rest) ts) : PE X (.JoinedStr (v1 :: v2 :: rest) pos) (tJoined ts) := pe_joined h
end Lar
namespace Lar
open PySem PySem.Spec PyProof.Rows L2
local macro_rules | `(tactic| walk_at "rd") => `(tactic| repeat' first
  | refine ⟨_, rfl, ?_⟩
  | refine ⟨_, _, rfl, rfl, ?_⟩
  | refine ⟨_, _, rfl, ?_⟩
  | refine ⟨rfl, ?_⟩
  | refine ⟨⟨_, rfl⟩, ?_⟩
  | refine ⟨(by show (0 : Int) < _; decide), ?_⟩
  | refine ⟨⟨by decide, by decide⟩, ?_⟩
  | refine ⟨.inr ⟨by decide, by decide⟩, ?_⟩
  | refine ⟨.inl ⟨by decide, by decide⟩, ?_⟩
  | refine ⟨.inl ⟨by omega, by omega⟩, ?_⟩
  | refine ⟨.inr ⟨by omega, by omega⟩, ?_⟩
  | fail "rd")
def topS (i : Nat) : Stmt := PySem.Challenge.pw_larderlist_k14_listed.main.body.getD i (.Pass ⟨0, 0, 0, 0⟩)
abbrev s_mix : Stmt := topS 10
theorem sc_mix : FnScope ["_law_cell", "_law_k", "_law_x"] ["_law_cell", "_law_k"] (defScope s_mix) := ⟨rfl, rfl, rfl, by decide +kernel, rfl, by decide +kernel, by decide +kernel⟩
theorem bd_mix : ∀ (kV doc pm : Value) (an : Option Addr) (cdv ct : Value) (us : List Value), us.length = (["_law_cell", "_law_k"] : List Str).length → bindArgs (PySem.W.fnOf "_law_mix" "_law_mix" (defArgs s_mix) (defBody s_mix) (defScope s_mix) .none kV doc pm an cdv ct) ⟨us, []⟩ = pure ((["_law_cell", "_law_k"] : List Str).zip us) := fun _ _ _ _ _ _ us hl => match us, hl with | [_, _], _ => rfl
/-- a cell mixed: between 0 and a bound -/
def spMix : Sp := fun vs H Q _ => ∃ c k : Int, vs = [.int c, .int k] ∧ 0 ≤ k ∧ k ≤ 1000000 ∧ ∀ z : Int, 0 ≤ z → z < 998244353 → Q (.int z) H
theorem ok_mix {P : Program} {w : World} {K : PySem.W.Frag} {mg : Str → Option Value} {base : Heap} (D : DefAt K mg "_law_mix" s_mix) : Clb P w K mg base 1 "_law_mix" ["_law_cell", "_law_k"] spMix := by
  refine D.clb sc_mix (fun vs H Q E h => ?_) bd_mix (fun f cdv A outer s H vs Q E hr h => ?_)
  · obtain ⟨c, k, rfl, _⟩ := h
    rfl
  · obtain ⟨c, k, rfl, h0, h1, q⟩ := h
    refine ⟨_, (pss_cons (ps_set (i := 2) sc_mix.nd rfl (.inl rfl) (pe_op op_mod (pe_op op_add (pe_op op_add (pv 0) (pe_op op_mul pe_int (pv 1))) (pe_op op_mul (pe_op op_mul pe_int (pv 1)) (pv 1))) pe_int))
    (pss_one (ps_ret (pe_op op_mod (pe_op op_mul (pe_op op_mod (pe_op op_mul (pv 2) (pv 2)) pe_int) pe_int) pe_int)))), ?_⟩
    walk_at "rd"
    exact q _ (Int.emod_nonneg _ (by decide)) (Int.emod_lt_of_pos _ (by decide))
/-- the cells: a list of numbers from 0 up -/
def CellsAt (K : PySem.W.Frag) (H : Hp) (a : Addr) : Prop := ∃ cs : List Int, SqL K H a (cs.map V.int) ∧ cs.length ≤ 63 ∧ ∀ c ∈ cs, 0 ≤ c ∧ c < 1000000000000000003
theorem CellsAt.same {K : PySem.W.Frag} {H H' : Hp} {a : Addr} (h : CellsAt K H a) (e : Same H H') : CellsAt K H' a := by
  obtain ⟨cs, h1, h2⟩ := h
  exact ⟨cs, e.seq h1, h2⟩
abbrev s_cell_at : Stmt := topS 9
theorem sc_cell_at : FnScope ["_law_cells", "_law_k"] ["_law_cells", "_law_k"] (defScope s_cell_at) := ⟨rfl, rfl, rfl, by decide +kernel, rfl, by decide +kernel, by decide +kernel⟩
theorem bd_cell_at : ∀ (kV doc pm : Value) (an : Option Addr) (cdv ct : Value) (us : List Value), us.length = (["_law_cells", "_law_k"] : List Str).length → bindArgs (PySem.W.fnOf "_law_cell_at" "_law_cell_at" (defArgs s_cell_at) (defBody s_cell_at) (defScope s_cell_at) .none kV doc pm an cdv ct) ⟨us, []⟩ = pure ((["_law_cells", "_law_k"] : List Str).zip us) := fun _ _ _ _ _ _ us hl => match us, hl with | [_, _], _ => rfl
def spCellAt (K : PySem.W.Frag) : Sp := fun vs H Q _ => ∃ (a : Addr) (k : Int), vs = [.ref a, .int k] ∧ CellsAt K H a ∧ 0 ≤ k ∧ k ≤ 1000 ∧ ∀ z : Int, 0 ≤ z → z < 1000000000000000003 → Q (.int z) H
theorem ok_cell_at {P : Program} {w : World} {K : PySem.W.Frag} {mg : Str → Option Value} {base : Heap} (D : DefAt K mg "_law_cell_at" s_cell_at) (m_len : mg "len" = none) : Clb P w K mg base 1 "_law_cell_at" ["_law_cells", "_law_k"] (spCellAt K) := by
  refine D.clb sc_cell_at (fun vs H Q E h => ?_) bd_cell_at (fun f cdv A outer s H vs Q E hr h => ?_)
  · obtain ⟨a, k, rfl, _⟩ := h
    rfl
  · obtain ⟨a, k, rfl, ⟨cs, hc, hl, hb⟩, h0, h1, q⟩ := h
    refine ⟨_, (pss_cons (ps_if (pt_cmpR op_lt (pv 1) (pe_callB (kcall_len_seq K) (by rfl) m_len (by decide +kernel) (pa_cons (pv 0) pa_nil)) (nomark _))
      (pss_one (ps_ret (pe_ix (kix_list K) (pv 0) (pv 1) (fun _ _ => rfl))))
      pss_nil)
    (pss_one (ps_ret (pe_op op_mul (pe_op op_mul (pe_op op_add (pv 1) pe_int) (pe_op op_add (pv 1) pe_int)) pe_int)))), ?_⟩
    refine ⟨_, rfl, _, rfl, a, _, rfl, .inl hc, ?_⟩
    walk_at "rd"
    refine it_lt (fun hlt => ?_) (fun _ => ?_)
    · rw [List.length_map] at hlt
      have hk : k.toNat < cs.length := by omega
      refine ⟨_, rfl, _, rfl, a, _, _, .int cs[k.toNat], rfl, rfl, hc, at_of (j := k.toNat) (by omega) (ix_map (List.getElem?_eq_getElem hk)), ?_⟩
      exact q _ (hb _ (List.getElem_mem hk)).1 (hb _ (List.getElem_mem hk)).2
    · walk_at "rd"
      have h3 : 0 ≤ (k + 3) * (k + 7) := Int.mul_nonneg (by omega) (by omega)
      have h4 : (k + 3) * (k + 7) ≤ 1003 * (k + 7) := Int.mul_le_mul_of_nonneg_right (by omega) (by omega)
      exact q _ (by show 0 ≤ (k + 3) * (k + 7) * 7919; omega) (by show (k + 3) * (k + 7) * 7919 < _; omega)
abbrev s_mixed : Stmt := topS 8
theorem sc_mixed : FnScope ["_law_script", "_law_found", "_law_more", "_law_cell"] ["_law_script"] (defScope s_mixed) := ⟨rfl, rfl, rfl, by decide +kernel, rfl, by decide +kernel, by decide +kernel⟩
theorem bd_mixed : ∀ (kV doc pm : Value) (an : Option Addr) (cdv ct : Value) (us : List Value), us.length = (["_law_script"] : List Str).length → bindArgs (PySem.W.fnOf "_law_mixed" "_law_mixed" (defArgs s_mixed) (defBody s_mixed) (defScope s_mixed) .none kV doc pm an cdv ct) ⟨us, []⟩ = pure ((["_law_script"] : List Str).zip us) := fun _ _ _ _ _ _ us hl => match us, hl with | [_], _ => rfl
def spMixed (K : PySem.W.Frag) : Sp := fun vs H Q _ => ∃ (a : Addr) (ns : List Int), vs = [.ref a] ∧ SqL K H a (ns.map V.int) ∧ ns.length ≤ 63 ∧ ∀ p H', Same H H' → CellsAt K H' p → Q (.ref p) H'
theorem ok_mixed {P : Program} {w : World} {K : PySem.W.Frag} {mg : Str → Option Value} {base : Heap} (D : DefAt K mg "_law_mixed" s_mixed) : Clb P w K mg base 1 "_law_mixed" ["_law_script"] (spMixed K) := by
  refine D.clb sc_mixed (fun vs H Q E h => ?_) bd_mixed (fun f cdv A outer s H vs Q E hr h => ?_)
  · obtain ⟨a, ns, rfl, _⟩ := h
    rfl
  · obtain ⟨a, ns, rfl, hS, hl, q⟩ := h
    refine ⟨_, (pss_cons (ps_set (i := 1) sc_mixed.nd rfl (.inl rfl) (pe_lst pa_nil))
    (pss_cons (ps_set (i := 2) sc_mixed.nd rfl (.inl rfl) pe_int)
    (pss_cons (ps_for PassesOwn.never rfl (kpi_list K (pv 0)) (pg_name (i := 3) sc_mixed.nd rfl (.inl rfl))
      (pss_cons (ps_set (i := 2) sc_mixed.nd rfl (.inl rfl) (pe_op op_mod (pe_op op_add (pe_op op_add (pe_op op_mul (pv 2) pe_int) (pv 3)) pe_int) pe_int))
    (pss_one (ps_expr (kpe_bm K PySem.F.plainAttrs_list PySem.F.slot_list_append PySem.F.type_list_append mt_append (pv 1) (pa_cons (pv 2) pa_nil))))))
    (pss_one (ps_ret (pv 1)))))), ?_⟩
    refine ⟨Nat.zero_le _, fun p hp => ?_⟩
    refine ⟨_, rfl, a, rfl, ⟨_, (same_upd hp).seq hS⟩, for_list (xs := ns.map V.int) (fun i σ H' => ∃ (cs : List Int) (m : Int) (y : Option V), σ = [some (.ref a), some (.ref p), some (.int m), y] ∧ Same H H' ∧ H' p = some (.lst (cs.map V.int)) ∧ cs.length = i ∧
      (0 ≤ m ∧ m < 1000000000000000003) ∧ ∀ c ∈ cs, 0 ≤ c ∧ c < 1000000000000000003) ⟨[], 1, none, rfl, same_upd hp, upd_same, rfl, by decide, fun _ h => nomatch h⟩ (fun i σ H' _ h => ?_) (fun i x σ H' hx h => ?_) (fun σ H' h => ?_)⟩
    · obtain ⟨cs, m, y, _, sm, _⟩ := h
      exact sm.seq hS
    · obtain ⟨cs, m, y, rfl, sm, hcs, hi, hm, hb⟩ := h
      obtain ⟨n, hn, rfl⟩ := map_ix hx
      have hlt : i < ns.length := (List.getElem?_eq_some_iff.mp hn).1
      walk_at "rd"
      refine ⟨.inl ⟨rfl, _, sqL hcs⟩, ?_⟩
      refine ⟨_, rfl, p, _, _, rfl, rfl, hcs, small' (by rw [List.length_map]; omega), ?_⟩
      have h1 : 0 ≤ (m * 6364136223846793005 + n + 1442695040888963407) % 1000000000000000003 := Int.emod_nonneg _ (by decide)
      have h2 : (m * 6364136223846793005 + n + 1442695040888963407) % 1000000000000000003 < 1000000000000000003 := Int.emod_lt_of_pos _ (by decide)
      refine ⟨cs ++ [(m * 6364136223846793005 + n + 1442695040888963407) % 1000000000000000003], _, _, rfl, sm.mut hp, ?_, ?_, ⟨h1, h2⟩, fun c hc => ?_⟩
      · rw [upd_same, List.map_append]; rfl
      · rw [List.length_append, hi]; rfl
      · rcases List.mem_append.mp hc with z | z
        · exact hb c z
        · rw [List.mem_singleton.mp z]
          exact ⟨h1, h2⟩
    · obtain ⟨cs, m, y, rfl, sm, hcs, hi, hm, hb⟩ := h
      rw [List.length_map] at hi
      exact ⟨_, rfl, q p H' sm ⟨cs, sqL hcs, by omega, hb⟩⟩
abbrev s_whole : Stmt := topS 11
theorem sc_whole : FnScope ["_law_found"] ["_law_found"] (defScope s_whole) := ⟨rfl, rfl, rfl, by decide +kernel, rfl, by decide +kernel, by decide +kernel⟩
theorem bd_whole : ∀ (kV doc pm : Value) (an : Option Addr) (cdv ct : Value) (us : List Value), us.length = (["_law_found"] : List Str).length → bindArgs (PySem.W.fnOf "_law_whole" "_law_whole" (defArgs s_whole) (defBody s_whole) (defScope s_whole) .none kV doc pm an cdv ct) ⟨us, []⟩ = pure ((["_law_found"] : List Str).zip us) := fun _ _ _ _ _ _ us hl => match us, hl with | [_], _ => rfl
def spWhole : Sp := fun vs H Q _ => ∃ n : Int, vs = [.int n] ∧ Q (.bl true) H
theorem ok_whole {P : Program} {w : World} {K : PySem.W.Frag} {mg : Str → Option Value} {base : Heap} (D : DefAt K mg "_law_whole" s_whole) (m_isinstance : mg "isinstance" = none) (m_int : mg "int" = none) (m_bool : mg "bool" = none) :
    Clb P w K mg base 1 "_law_whole" ["_law_found"] spWhole := by
  refine D.clb sc_whole (fun vs H Q E h => ?_) bd_whole (fun f cdv A outer s H vs Q E hr h => ?_)
  · obtain ⟨n, rfl, _⟩ := h
    rfl
  · obtain ⟨n, rfl, q⟩ := h
    refine ⟨_, (pss_one (ps_ret (pe_and (pe_callB (kcall_isi K) (by rfl) m_isinstance (by decide +kernel) (pa_cons (pv 0) (pa_cons (pe_bltn (v := .ty "int") (u := .type "int") (by rfl) m_int (by decide +kernel) rfl) pa_nil))) (pe_one (pe_not (pe_callB (kcall_isi K) (by rfl) m_isinstance (by decide +kernel) (pa_cons (pv 0) (pa_cons (pe_bltn (v := .ty "bool") (u := .type "bool") (by rfl) m_bool (by decide +kernel) rfl) pa_nil)))))))), ?_⟩
    refine ⟨_, rfl, ?_⟩
    refine ⟨_, _, _, _, true, rfl, .ty _, .base (.int n), kit_ty (by decide +kernel), ?_⟩
    refine ⟨_, rfl, iteT ?_⟩
    refine ⟨_, rfl, ?_⟩
    refine ⟨_, _, _, _, false, rfl, .ty _, .base (.int n), kit_ty (by decide +kernel), ?_⟩
    exact ⟨_, rfl, q⟩
abbrev s_amount : Stmt := topS 13
theorem sc_amount : FnScope ["_law_cell", "_law_most", "_law_way"] ["_law_cell", "_law_most"] (defScope s_amount) := ⟨rfl, rfl, rfl, by decide +kernel, rfl, by decide +kernel, by decide +kernel⟩
theorem bd_amount : ∀ (kV doc pm : Value) (an : Option Addr) (cdv ct : Value) (us : List Value), us.length = (["_law_cell", "_law_most"] : List Str).length → bindArgs (PySem.W.fnOf "_law_amount" "_law_amount" (defArgs s_amount) (defBody s_amount) (defScope s_amount) .none kV doc pm an cdv ct) ⟨us, []⟩ = pure ((["_law_cell", "_law_most"] : List Str).zip us) := fun _ _ _ _ _ _ us hl => match us, hl with | [_, _], _ => rfl
def spAmount : Sp := fun vs H Q _ => ∃ c : Int, vs = [.int c, .int 200] ∧ ∀ z : Int, 1 ≤ z → z ≤ 200 → Q (.int z) H
theorem ok_amount {P : Program} {w : World} {K : PySem.W.Frag} {mg : Str → Option Value} {base : Heap} (D : DefAt K mg "_law_amount" s_amount) : Clb P w K mg base 1 "_law_amount" ["_law_cell", "_law_most"] spAmount := by
  refine D.clb sc_amount (fun vs H Q E h => ?_) bd_amount (fun f cdv A outer s H vs Q E hr h => ?_)
  · obtain ⟨c, rfl, _⟩ := h
    rfl
  · obtain ⟨c, rfl, q⟩ := h
    refine ⟨_, (pss_cons (ps_set (i := 2) sc_amount.nd rfl (.inl rfl) (pe_op op_mod (pv 0) pe_int))
    (pss_cons (ps_if (pt_cmpR op_eq (pv 2) pe_int (nomark _))
      (pss_one (ps_ret (pe_op op_add pe_int (pe_op op_mod (pe_op op_fdiv (pv 0) pe_int) (pv 1)))))
      pss_nil)
    (pss_cons (ps_if (pt_cmpR op_eq (pv 2) pe_int (nomark _))
      (pss_one (ps_ret (pe_op op_add pe_int (pe_op op_mod (pe_op op_fdiv (pv 0) pe_int) pe_int))))
      pss_nil)
    (pss_one (ps_ret (pe_op op_add pe_int (pe_op op_mod (pe_op op_fdiv (pv 0) pe_int) pe_int))))))), ?_⟩
    have e1 := Int.emod_nonneg (c / 8) (show (200 : Int) ≠ 0 by decide)
    have e2 := Int.emod_lt_of_pos (c / 8) (show (0 : Int) < 200 by decide)
    have e3 := Int.emod_nonneg (c / 8) (show (60 : Int) ≠ 0 by decide)
    have e4 := Int.emod_lt_of_pos (c / 8) (show (0 : Int) < 60 by decide)
    have e5 := Int.emod_nonneg (c / 8) (show (12 : Int) ≠ 0 by decide)
    have e6 := Int.emod_lt_of_pos (c / 8) (show (0 : Int) < 12 by decide)
    walk_at "rd"
    refine it_eqI (fun _ => ?_) (fun _ => ?_)
    · walk_at "rd"
      exact q _ (by show 1 ≤ 1 + _; omega) (by show 1 + _ ≤ (200 : Int); omega)
    · walk_at "rd"
      refine it_eqI (fun _ => ?_) (fun _ => ?_)
      · walk_at "rd"
        exact q _ (by show 1 ≤ 1 + _; omega) (by show 1 + _ ≤ (200 : Int); omega)
      · walk_at "rd"
        exact q _ (by show 1 ≤ 1 + _; omega) (by show 1 + _ ≤ (200 : Int); omega)
abbrev s_last : Stmt := topS 14
theorem sc_last : FnScope ["_law_cell"] ["_law_cell"] (defScope s_last) := ⟨rfl, rfl, rfl, by decide +kernel, rfl, by decide +kernel, by decide +kernel⟩
theorem bd_last : ∀ (kV doc pm : Value) (an : Option Addr) (cdv ct : Value) (us : List Value), us.length = (["_law_cell"] : List Str).length → bindArgs (PySem.W.fnOf "_law_last" "_law_last" (defArgs s_last) (defBody s_last) (defScope s_last) .none kV doc pm an cdv ct) ⟨us, []⟩ = pure ((["_law_cell"] : List Str).zip us) := fun _ _ _ _ _ _ us hl => match us, hl with | [_], _ => rfl
def spLast : Sp := fun vs H Q _ => ∃ c : Int, vs = [.int c] ∧ ∀ z : Int, 1 ≤ z → z ≤ 99 → Q (.int z) H
theorem ok_last {P : Program} {w : World} {K : PySem.W.Frag} {mg : Str → Option Value} {base : Heap} (D : DefAt K mg "_law_last" s_last) : Clb P w K mg base 1 "_law_last" ["_law_cell"] spLast := by
  refine D.clb sc_last (fun vs H Q E h => ?_) bd_last (fun f cdv A outer s H vs Q E hr h => ?_)
  · obtain ⟨c, rfl, _⟩ := h
    rfl
  · obtain ⟨c, rfl, q⟩ := h
    refine ⟨_, (pss_cons (ps_if (pt_cmpR op_eq (pe_op op_mod (pv 0) pe_int) pe_int (nomark _))
      (pss_one (ps_ret (pe_op op_add pe_int (pe_op op_mod (pe_op op_fdiv (pv 0) pe_int) pe_int))))
      pss_nil)
    (pss_cons (ps_if (pt_cmpR op_lt (pe_op op_mod (pv 0) pe_int) pe_int (nomark _))
      (pss_one (ps_ret (pe_op op_add pe_int (pe_op op_mod (pe_op op_fdiv (pv 0) pe_int) pe_int))))
      pss_nil)
    (pss_one (ps_ret (pe_op op_add pe_int (pe_op op_mod (pe_op op_fdiv (pv 0) pe_int) pe_int)))))), ?_⟩
    have e1 := Int.emod_nonneg (c / 6) (show (99 : Int) ≠ 0 by decide)
    have e2 := Int.emod_lt_of_pos (c / 6) (show (0 : Int) < 99 by decide)
    have e3 := Int.emod_nonneg (c / 6) (show (2 : Int) ≠ 0 by decide)
    have e4 := Int.emod_lt_of_pos (c / 6) (show (0 : Int) < 2 by decide)
    have e5 := Int.emod_nonneg (c / 6) (show (9 : Int) ≠ 0 by decide)
    have e6 := Int.emod_lt_of_pos (c / 6) (show (0 : Int) < 9 by decide)
    walk_at "rd"
    refine it_eqI (fun _ => ?_) (fun _ => ?_)
    · walk_at "rd"
      exact q _ (by show 1 ≤ 1 + _; omega) (by show 1 + _ ≤ (99 : Int); omega)
    · walk_at "rd"
      refine it_lt (fun _ => ?_) (fun _ => ?_)
      · walk_at "rd"
        exact q _ (by show 1 ≤ 7 + _; omega) (by show 7 + _ ≤ (99 : Int); omega)
      · walk_at "rd"
        exact q _ (by show 1 ≤ 1 + _; omega) (by show 1 + _ ≤ (99 : Int); omega)
abbrev s_many : Stmt := topS 19
theorem sc_many : FnScope ["_law_cell", "_law_few", "_law_room"] ["_law_cell", "_law_few", "_law_room"] (defScope s_many) := ⟨rfl, rfl, rfl, by decide +kernel, rfl, by decide +kernel, by decide +kernel⟩
theorem bd_many : ∀ (kV doc pm : Value) (an : Option Addr) (cdv ct : Value) (us : List Value), us.length = (["_law_cell", "_law_few", "_law_room"] : List Str).length → bindArgs (PySem.W.fnOf "_law_many" "_law_many" (defArgs s_many) (defBody s_many) (defScope s_many) .none kV doc pm an cdv ct) ⟨us, []⟩ = pure ((["_law_cell", "_law_few", "_law_room"] : List Str).zip us) := fun _ _ _ _ _ _ us hl => match us, hl with | [_, _, _], _ => rfl
def spMany : Sp := fun vs H Q _ => ∃ c few room : Int, vs = [.int c, .int few, .int room] ∧ 0 ≤ few ∧ few ≤ room ∧ ∀ z : Int, 0 ≤ z → z ≤ room → Q (.int z) H
theorem ok_many {P : Program} {w : World} {K : PySem.W.Frag} {mg : Str → Option Value} {base : Heap} (D : DefAt K mg "_law_many" s_many) : Clb P w K mg base 1 "_law_many" ["_law_cell", "_law_few", "_law_room"] spMany := by
  refine D.clb sc_many (fun vs H Q E h => ?_) bd_many (fun f cdv A outer s H vs Q E hr h => ?_)
  · obtain ⟨c, few, room, rfl, _⟩ := h
    rfl
  · obtain ⟨c, few, room, rfl, h0, h1, q⟩ := h
    refine ⟨_, (pss_cons (ps_if (pt_cmpR op_eq (pe_op op_mod (pv 0) pe_int) pe_int (nomark _))
      (pss_one (ps_ret (pe_op op_mod (pe_op op_fdiv (pv 0) pe_int) (pe_op op_add (pv 2) pe_int))))
      pss_nil)
    (pss_one (ps_ret (pe_op op_mod (pe_op op_fdiv (pv 0) pe_int) (pe_op op_add (pv 1) pe_int))))), ?_⟩
    have e1 := Int.emod_nonneg (c / 24) (show room + 1 ≠ 0 by omega)
    have e2 := Int.emod_lt_of_pos (c / 24) (show 0 < room + 1 by omega)
    have e3 := Int.emod_nonneg (c / 24) (show few + 1 ≠ 0 by omega)
    have e4 := Int.emod_lt_of_pos (c / 24) (show 0 < few + 1 by omega)
    walk_at "rd"
    refine it_eqI (fun _ => ?_) (fun _ => ?_)
    · walk_at "rd"
      refine ⟨(by show 0 < room + 1; omega), q _ e1 (by show c / 24 % (room + 1) ≤ room; omega)⟩
    · walk_at "rd"
      refine ⟨(by show 0 < few + 1; omega), q _ e3 (by show c / 24 % (few + 1) ≤ room; omega)⟩
abbrev s_names : Stmt := topS 18
theorem sc_names : FnScope ["_law_cells", "_law_seed", "_law_many_here"] ["_law_cells"] (defScope s_names) := ⟨rfl, rfl, rfl, by decide +kernel, rfl, by decide +kernel, by decide +kernel⟩
theorem bd_names : ∀ (kV doc pm : Value) (an : Option Addr) (cdv ct : Value) (us : List Value), us.length = (["_law_cells"] : List Str).length → bindArgs (PySem.W.fnOf "_law_names" "_law_names" (defArgs s_names) (defBody s_names) (defScope s_names) .none kV doc pm an cdv ct) ⟨us, []⟩ = pure ((["_law_cells"] : List Str).zip us) := fun _ _ _ _ _ _ us hl => match us, hl with | [_], _ => rfl
/-- the seed of the names, how many there are -/
def NamesAt (K : PySem.W.Frag) (H : Hp) (a : Addr) (seed many : Int) : Prop := H a = some (.lst [.int seed, .int many]) ∧ 1 ≤ many ∧ many ≤ 12
theorem NamesAt.same {K : PySem.W.Frag} {H H' : Hp} {a : Addr} {s m : Int} (h : NamesAt K H a s m) (e : Same H H') : NamesAt K H' a s m := ⟨e _ _ h.1, h.2⟩
def spNames (K : PySem.W.Frag) : Sp := fun vs H Q _ => ∃ a : Addr, vs = [.ref a] ∧ CellsAt K H a ∧ ∀ p H' seed many, Same H H' → NamesAt K H' p seed many → Q (.ref p) H'
theorem ok_names {P : Program} {w : World} {K : PySem.W.Frag} {mg : Str → Option Value} {base : Heap} (D : DefAt K mg "_law_names" s_names) (C_cell_at : Clb P w K mg base 1 "_law_cell_at" ["_law_cells", "_law_k"] (spCellAt K)) :
    Clb P w K mg base 2 "_law_names" ["_law_cells"] (spNames K) := by
  refine D.clb sc_names (fun vs H Q E h => ?_) bd_names (fun f cdv A outer s H vs Q E hr h => ?_)
  · obtain ⟨a, rfl, _⟩ := h
    rfl
  · obtain ⟨a, rfl, hc, q⟩ := h
    refine ⟨_, (pss_cons (ps_set (i := 1) sc_names.nd rfl (.inl rfl) (pe_cal C_cell_at (hr.mono (by decide)) (pa_cons (pv 0) (pa_cons pe_int pa_nil))))
    (pss_cons (ps_set (i := 2) sc_names.nd rfl (.inl rfl) (pe_ix (kix_list K) (pe_lst (pa_cons pe_int (pa_cons pe_int (pa_cons pe_int (pa_cons pe_int pa_nil))))) (pe_op op_mod (pe_cal C_cell_at (hr.mono (by decide)) (pa_cons (pv 0) (pa_cons pe_int pa_nil))) pe_int) (fun _ _ => rfl)))
    (C8.pss_cut (ps_if (pt_cmpR op_eq (pe_op op_mod (pe_op op_fdiv (pe_cal C_cell_at (hr.mono (by decide)) (pa_cons (pv 0) (pa_cons pe_int pa_nil))) pe_int) pe_int) pe_int (nomark _))
      (pss_one (ps_set (i := 2) sc_names.nd rfl (.inl rfl) pe_int))
      pss_nil)
    (pss_one (ps_ret (pe_lst (pa_cons (pv 1) (pa_cons (pv 2) pa_nil)))))))), ?_⟩
    refine ⟨_, rfl, a, 0, rfl, hc, by decide, by decide, fun seed s0 s1 => ?_⟩
    refine ⟨small (by show 4 ≤ 100000; decide), fun p hp => ?_⟩
    have sp := same_upd (o := .lst [V.int 1, V.int 2, V.int 3, V.int 4]) hp
    refine ⟨_, rfl, a, 1, rfl, hc.same sp, by decide, by decide, fun c1 _ _ => ?_⟩
    have m1 := Int.emod_nonneg c1 (show (4 : Int) ≠ 0 by decide)
    have m2 := Int.emod_lt_of_pos c1 (show (0 : Int) < 4 by decide)
    have hm : ∃ m : Int, atI [V.int 1, V.int 2, V.int 3, V.int 4] (c1 % 4) = some (.int m) ∧ 1 ≤ m ∧ m ≤ 12 := by
      have : c1 % 4 = 0 ∨ c1 % 4 = 1 ∨ c1 % 4 = 2 ∨ c1 % 4 = 3 := by omega
      rcases this with e | e | e | e <;> rw [e]
      · exact ⟨1, rfl, by decide, by decide⟩
      · exact ⟨2, rfl, by decide, by decide⟩
      · exact ⟨3, rfl, by decide, by decide⟩
      · exact ⟨4, rfl, by decide, by decide⟩
    obtain ⟨m, em, h1, h2⟩ := hm
    walk_at "rd"
    refine ⟨p, _, _, _, rfl, rfl, sqL upd_same, em, ?_⟩
    walk_at "rd"
    refine ⟨fun σ' H' => ∃ m : Int, σ' = [some (.ref a), some (.int seed), some (.int m)] ∧ H' = upd H p (.lst [V.int 1, V.int 2, V.int 3, V.int 4]) ∧ 1 ≤ m ∧ m ≤ 12, ?_, fun σ' H' h => ?_⟩
    · refine ⟨_, rfl, a, 1, rfl, hc.same sp, by decide, by decide, fun c2 _ _ => ?_⟩
      walk_at "rd"
      refine it_eqI (fun _ => ?_) (fun _ => ?_)
      · exact ⟨12, rfl, rfl, by decide, by decide⟩
      · exact ⟨m, rfl, rfl, h1, h2⟩
    · obtain ⟨m, rfl, rfl, h1, h2⟩ := h
      refine ⟨_, rfl, _, rfl, small (by show 2 ≤ 100000; decide), fun r hr => ?_⟩
      exact q r _ seed m (sp.new hr) ⟨upd_same, h1, h2⟩
abbrev s_name_by : Stmt := topS 12
theorem sc_name_by : FnScope ["_law_seed", "_law_k", "_law_signs", "_law_words", "_law_more", "_law_name", "_law_at", "_law_turn", "_law_spot", "_law_two", "_law_sign"] ["_law_seed", "_law_k"] (defScope s_name_by) := ⟨rfl, rfl, rfl, by decide +kernel, rfl, by decide +kernel, by decide +kernel⟩
theorem bd_name_by : ∀ (kV doc pm : Value) (an : Option Addr) (cdv ct : Value) (us : List Value), us.length = (["_law_seed", "_law_k"] : List Str).length → bindArgs (PySem.W.fnOf "_law_name_by" "_law_name_by" (defArgs s_name_by) (defBody s_name_by) (defScope s_name_by) .none kV doc pm an cdv ct) ⟨us, []⟩ = pure ((["_law_seed", "_law_k"] : List Str).zip us) := fun _ _ _ _ _ _ us hl => match us, hl with | [_, _], _ => rfl
def spNameBy : Sp := fun vs H Q _ => ∃ seed k : Int, vs = [.int seed, .int k] ∧ 0 ≤ k ∧ k ≤ 100 ∧ ∀ H', Same H H' → Q (.str (nameBy seed k)) H'
theorem ok_name_by {P : Program} {w : World} {K : PySem.W.Frag} {mg : Str → Option Value} {base : Heap} (D : DefAt K mg "_law_name_by" s_name_by) (m_len : mg "len" = none) (m_min : mg "min" = none) (m_range : mg "range" = none) :
    Clb P w K mg base 1 "_law_name_by" ["_law_seed", "_law_k"] spNameBy := by
  refine D.clb sc_name_by (fun vs H Q E h => ?_) bd_name_by (fun f cdv A outer s H vs Q E hr h => ?_)
  · obtain ⟨seed, k, rfl, _⟩ := h
    rfl
  · obtain ⟨seed, k, rfl, h0, h1, q⟩ := h
    refine ⟨_, (pss_cons (ps_set (i := 2) sc_name_by.nd rfl (.inl rfl) pe_str)
    (pss_cons (ps_set (i := 3) sc_name_by.nd rfl (.inl rfl) (pe_lst (pa_cons pe_str (pa_cons pe_str (pa_cons pe_str (pa_cons pe_str (pa_cons pe_str (pa_cons pe_str (pa_cons pe_str (pa_cons pe_str (pa_cons pe_str (pa_cons pe_str (pa_cons pe_str pa_nil)))))))))))))
    (pss_cons (ps_set (i := 4) sc_name_by.nd rfl (.inl rfl) (pe_op op_fdiv (pv 0) pe_int))
    (C8.pss_cut (ps_if (PW.pt (pw_and (pt_cmpR op_eq (pe_op op_mod (pv 0) pe_int) pe_int (nomark _)) (pw_and1 (pt_cmpR op_lt (pv 1) pe_int (nomark _)))))
      (pss_one (ps_ret (pe_ix (kix_list K) (pv 3) (pe_op op_mod (pe_op op_add (pv 4) (pv 1)) pe_int) (fun _ _ => rfl))))
      pss_nil)
    (pss_cons (ps_set (i := 5) sc_name_by.nd rfl (.inl rfl) pe_str)
    (pss_cons (ps_set (i := 6) sc_name_by.nd rfl (.inl rfl) (pe_op op_fdiv (pv 4) pe_int))
    (pss_cons (ps_for PassesOwn.never rfl (pi_range1 (by rfl) m_range (pa_cons (pe_op op_add pe_int (pe_op op_mod (pv 4) pe_int)) pa_nil)) (pg_name (i := 7) sc_name_by.nd rfl (.inl rfl))
      (pss_cons (ps_set (i := 6) sc_name_by.nd rfl (.inl rfl) (pe_op op_add (pe_op op_add (pv 6) pe_int) (pe_op op_mod (pe_op op_fdiv (pv 4) pe_int) pe_int)))
    (pss_one (ps_set (i := 5) sc_name_by.nd rfl (.inl rfl) (pe_op op_add_str (pv 5) (pe_ix ix_str (pv 2) (pe_op op_mod (pv 6) pe_int) (fun _ _ => rfl)))))))
    (pss_cons (ps_set (i := 8) sc_name_by.nd rfl (.inl rfl) (pe_op op_mod (pe_op op_fdiv (pv 4) pe_int) (pe_callB call_len_str (by rfl) m_len (by decide +kernel) (pa_cons (pv 5) pa_nil))))
    (pss_cons (ps_if (pt_cmpR op_gt (pv 1) pe_int (nomark _))
      (pss_cons (ps_set (i := 9) sc_name_by.nd rfl (.inl rfl) (pe_op op_add_str (pe_ix ix_str (pv 2) (pe_op op_mod (pe_op op_add (pv 6) (pe_op op_fdiv (pv 1) pe_int)) pe_int) (fun _ _ => rfl)) (pe_ix ix_str (pv 2) (pe_op op_mod (pv 1) pe_int) (fun _ _ => rfl))))
    (pss_one (ps_ret (pe_op op_add_str (pe_op op_add_str (pe_slice sl_str (pv 5) po_none (po_some (pe_callB (call_min2 rfl) (by rfl) m_min (by decide +kernel) (pa_cons (pv 8) (pa_cons pe_int pa_nil))))) (pv 9)) (pe_slice sl_str (pv 5) (po_some (pe_callB (call_min2 rfl) (by rfl) m_min (by decide +kernel) (pa_cons (pv 8) (pa_cons pe_int pa_nil)))) (po_some pe_int))))))
      pss_nil)
    (pss_cons (ps_if (pt_cmpR op_gt (pe_op op_mod (pv 0) pe_int) pe_int (nomark _))
      (pss_one (ps_ret (pe_op op_add_str (pe_ix ix_str (pv 2) (pe_op op_mod (pe_op op_add (pe_op op_fdiv (pv 4) pe_int) (pv 1)) pe_int) (fun _ _ => rfl)) (pv 5))))
      pss_nil)
    (pss_cons (ps_if (pt_cmpR op_eq (pv 1) pe_int (nomark _))
      (pss_cons (ps_set (i := 10) sc_name_by.nd rfl (.inl rfl) (pe_ix ix_str (pv 2) (pe_op op_mod (pe_op op_add (pe_m1 PySem.F.slot_str_find PySem.F.type_str_find mt_find (pv 2) (pe_ix ix_str (pv 5) (pv 8) (fun _ _ => rfl))) pe_int) pe_int) (fun _ _ => rfl)))
    (pss_one (ps_ret (pe_op op_add_str (pe_op op_add_str (pe_slice sl_str (pv 5) po_none (po_some (pv 8))) (pv 10)) (pe_slice sl_str (pv 5) (po_some (pe_op op_add (pv 8) pe_int)) po_none)))))
      pss_nil)
    (pss_one (ps_ret (pe_op op_add_str (pv 5) (pe_ix (kix_list K) (pe_lst (pa_cons pe_str (pa_cons pe_str (pa_cons (pe_ix ix_str (pv 2) (pe_op op_mod (pv 6) pe_int) (fun _ _ => rfl)) (pa_cons (pe_ix ix_str (pv 2) (pe_op op_mod (pe_op op_add (pv 6) pe_int) pe_int) (fun _ _ => rfl)) pa_nil))))) (pv 1) (fun _ _ => rfl)))))))))))))))), ?_⟩
    refine ⟨small (by show 11 ≤ 100000; decide), fun p hp => ?_⟩
    have sp := same_upd (o := .lst (words.map V.str)) hp
    walk_at "rd"
    refine ⟨fun σ' H' => σ' = [some (.int seed), some (.int k), some (.str sgn), some (.ref p), some (.int (seed / 6)), none, none, none, none, none, none] ∧ H' = upd H p (.lst (words.map V.str)) ∧ ¬ (seed % 6 = 0 ∧ k < 4), ?_, fun σ' H' h => ?_⟩
    · walk_at "rd"
      refine it_eqI (fun e6 => ?_) (fun e6 => ?_)
      · walk_at "rd"
        refine it_lt (fun ek => ?_) (fun ek => ?_)
        · walk_at "rd"
          have m1 := Int.emod_nonneg (seed / 6 + k) (show (11 : Int) ≠ 0 by decide)
          have m2 := Int.emod_lt_of_pos (seed / 6 + k) (show (0 : Int) < 11 by decide)
          have hl : ((seed / 6 + k) % 11).toNat < words.length := by show _ < 11; omega
          refine ⟨p, words.map V.str, _, _, rfl, rfl, sqL upd_same, at_of (j := ((seed / 6 + k) % 11).toNat) (by omega) (ix_map (List.getElem?_eq_getElem hl)), ?_⟩
          have e : nameBy seed k = words[((seed / 6 + k) % 11).toNat] := by
            unfold nameBy
            rw [if_pos ⟨e6, ek⟩, List.getD_eq_getElem?_getD, List.getElem?_eq_getElem hl]; rfl
          rw [← e]
          exact q _ sp
        · exact ⟨rfl, rfl, fun z => ek z.2⟩
      · exact iteF ⟨rfl, rfl, fun z => e6 z.1⟩
    · obtain ⟨rfl, rfl, hno⟩ := h
      have m1 := Int.emod_nonneg (seed / 6) (show (7 : Int) ≠ 0 by decide)
      have m2 := Int.emod_lt_of_pos (seed / 6) (show (0 : Int) < 7 by decide)
      walk_at "rd"
      refine ⟨by omega, by omega, ?_⟩
      generalize hn : (1 + seed / 6 % 7).toNat = n
      have hn1 : 1 ≤ n := by omega
      have hn7 : n ≤ 7 := by omega
      refine for_range (lo := 0) (fun i σ H' => i ≤ n ∧ (∃ y : Option V, σ = [some (.int seed), some (.int k), some (.str sgn), some (.ref p), some (.int (seed / 6)), some (.str (nmNm (seed / 6) i)), some (.int (nmAt (seed / 6) i)), y, none, none, none]) ∧ H' = upd H p (.lst (words.map V.str)))
        ⟨Nat.zero_le _, ⟨none, rfl⟩, rfl⟩ (fun i σ H' hi h => ?_) (fun σ H' h => ?_)
      · obtain ⟨_, ⟨y, rfl⟩, rfl⟩ := h
        walk_at "rd"
        refine ⟨sgn, _, _, rfl, rfl, small (by rw [sgn_len']; decide), sg_at _, ?_⟩
        refine ⟨_, _, rfl, rfl, small (by rw [nmNm_len]; show i + 1 ≤ 100000; omega), ?_⟩
        exact ⟨hi, ⟨_, rfl⟩, rfl⟩
      · obtain ⟨_, ⟨y, rfl⟩, rfl⟩ := h
        generalize hnm : nmNm (seed / 6) n = nm
        generalize hat : nmAt (seed / 6) n = at'
        have ln : nm.length = n := by rw [← hnm]; exact nmNm_len _ _
        walk_at "rd"
        refine ⟨small (by omega), ?_⟩
        rw [ln]
        have s1 := Int.emod_nonneg (seed / 6 / 4550) (show (n : Int) ≠ 0 by omega)
        have s2 := Int.emod_lt_of_pos (seed / 6 / 4550) (show (0 : Int) < n by omega)
        refine ⟨_, _, rfl, rfl, by show (0 : Int) < n; omega, ?_⟩
        show gName 8 (V.int (seed / 6 / 4550 % (n : Int))) _ _ _
        generalize hsp : seed / 6 / 4550 % (n : Int) = spot at s1 s2
        have key : nameBy seed k = (if 3 < k then cutS nm none (some (min6 spot)) ++ (sg (at' + k / 26) ++ sg k) ++ cutS nm (some (min6 spot)) (some 6)
            else if 3 < seed % 6 then sg (seed / 6 / 7 + k) ++ nm
            else if k = 1 then cutS nm none (some spot) ++ sg (Txt.find sgn ⟨#[nm.cps.toList.getD spot.toNat 0]⟩ + 1) ++ cutS nm (some (spot + 1)) none
            else nm ++ [("" : Str), "", sg at', sg (at' + 1)].getD k.toNat "") := by
          unfold nameBy
          rw [if_neg hno]
          dsimp only
          rw [hn, hnm, hat, hsp]
        have c1 := fun lo hi => cutS_length nm lo hi
        walk_at "rd"
        refine it_lt (fun e3 => ?_) (fun e3 => ?_)
        · -- k > 3
          rw [if_pos e3] at key
          walk_at "rd"
          refine ⟨sgn, _, _, rfl, rfl, small (by rw [sgn_len']; decide), sg_at _, ?_⟩
          walk_at "rd"
          refine ⟨sgn, _, _, rfl, rfl, small (by rw [sgn_len']; decide), sg_at _, ?_⟩
          refine ⟨_, _, rfl, rfl, small (by show 1 + 1 ≤ 100000; decide), ?_⟩
          walk_at "rd"
          refine ⟨small (by omega), ?_⟩
          have q1 := c1 none (some (min6 spot))
          have q2 := c1 (some (min6 spot)) (some 6)
          walk_at "rd"
          refine ⟨small (by show (cutS nm none (some (min6 spot))).length + 2 ≤ 100000; omega), ?_⟩
          walk_at "rd"
          refine ⟨small (by omega), ?_⟩
          refine ⟨_, _, rfl, rfl, small (by
            show (cutS nm none (some (min6 spot)) ++ (sg (at' + k / 26) ++ sg k)).length + (cutS nm (some (min6 spot)) (some 6)).length ≤ 100000
            rw [app_len, app_len, sg_len, sg_len]; omega), ?_⟩
          have z := q _ sp
          rw [key] at z
          exact z
        · rw [if_neg e3] at key
          walk_at "rd"
          refine it_lt (fun e4 => ?_) (fun e4 => ?_)
          · rw [if_pos e4] at key
            walk_at "rd"
            refine ⟨sgn, _, _, rfl, rfl, small (by rw [sgn_len']; decide), sg_at _, ?_⟩
            walk_at "rd"
            refine ⟨small (by show 1 + nm.length ≤ 100000; omega), ?_⟩
            have z := q _ sp
            rw [key] at z
            exact z
          · rw [if_neg e4] at key
            walk_at "rd"
            refine it_eqI (fun e5 => ?_) (fun e5 => ?_)
            · rw [if_pos e5] at key
              have hsl : spot.toNat < nm.cps.toList.length := by
                rw [Array.length_toList]
                show spot.toNat < nm.length
                omega
              have ec : nm.cps.toList[spot.toNat]? = some (nm.cps.toList.getD spot.toNat 0) := by
                rw [List.getD_eq_getElem?_getD, List.getElem?_eq_getElem hsl]; rfl
              walk_at "rd"
              refine ⟨nm, _, _, rfl, rfl, small (by omega), (by have q0 := atI_nat ec; rw [Int.toNat_of_nonneg s1] at q0; exact q0), ?_⟩
              walk_at "rd"
              refine ⟨sgn, _, _, rfl, rfl, small (by rw [sgn_len']; decide), sg_at _, ?_⟩
              have q1 := c1 none (some spot)
              have q2 := c1 (some (spot + 1)) none
              walk_at "rd"
              refine ⟨small (by omega), ?_⟩
              walk_at "rd"
              refine ⟨small (by show (cutS nm none (some spot)).length + 1 ≤ 100000; omega), ?_⟩
              walk_at "rd"
              refine ⟨small (by omega), ?_⟩
              refine ⟨_, _, rfl, rfl, small (by
                show (cutS nm none (some spot) ++ sg (Txt.find sgn ⟨#[nm.cps.toList.getD spot.toNat 0]⟩ + 1)).length + (cutS nm (some (spot + 1)) none).length ≤ 100000
                rw [app_len, sg_len]; omega), ?_⟩
              have z := q _ sp
              rw [key] at z
              exact z
            · rw [if_neg e5] at key
              walk_at "rd"
              refine ⟨sgn, _, _, rfl, rfl, small (by rw [sgn_len']; decide), sg_at _, ?_⟩
              walk_at "rd"
              refine ⟨sgn, _, _, rfl, rfl, small (by rw [sgn_len']; decide), sg_at _, ?_⟩
              refine ⟨small (by show 4 ≤ 100000; decide), fun r hr2 => ?_⟩
              have hk : k = 0 ∨ k = 2 ∨ k = 3 := by omega
              have z := q _ (sp.new (o := .lst [V.str "", V.str "", V.str (sg at'), V.str (sg (at' + 1))]) hr2)
              rw [key] at z
              rcases hk with e | e | e <;> subst e
              · exact ⟨_, rfl, r, _, _, _, rfl, rfl, sqL upd_same, rfl, _, _, rfl, rfl, small (by show nm.length + 0 ≤ 100000; omega), z⟩
              · exact ⟨_, rfl, r, _, _, _, rfl, rfl, sqL upd_same, rfl, _, _, rfl, rfl, small (by show nm.length + 1 ≤ 100000; omega), z⟩
              · exact ⟨_, rfl, r, _, _, _, rfl, rfl, sqL upd_same, rfl, _, _, rfl, rfl, small (by show nm.length + 1 ≤ 100000; omega), z⟩
abbrev s_larder : Stmt := topS 15
theorem sc_larder : FnScope ["_law_cells", "_law_names_here", "_law_many_here", "_law_larder_here", "_law_k", "_law_cell", "_law_some"] ["_law_cells", "_law_names_here", "_law_many_here"] (defScope s_larder) := ⟨rfl, rfl, rfl, by decide +kernel, rfl, by decide +kernel, by decide +kernel⟩
theorem bd_larder : ∀ (kV doc pm : Value) (an : Option Addr) (cdv ct : Value) (us : List Value), us.length = (["_law_cells", "_law_names_here", "_law_many_here"] : List Str).length → bindArgs (PySem.W.fnOf "_law_larder" "_law_larder" (defArgs s_larder) (defBody s_larder) (defScope s_larder) .none kV doc pm an cdv ct) ⟨us, []⟩ = pure ((["_law_cells", "_law_names_here", "_law_many_here"] : List Str).zip us) := fun _ _ _ _ _ _ us hl => match us, hl with | [_, _, _], _ => rfl
def spLarder (K : PySem.W.Frag) : Sp := fun vs H Q _ => ∃ (a b : Addr) (m seed many : Int), vs = [.ref a, .ref b, .int m] ∧ CellsAt K H a ∧ NamesAt K H b seed many ∧ 0 ≤ m ∧ m ≤ 200 ∧
  ∀ (v : V) (lar : List Batch) (H' : Hp), Same H H' → LarderAt H' v lar → (lar.length : Int) ≤ m → (∀ b ∈ lar, GoodBatch seed b) → Q v H'
theorem ok_larder {P : Program} {w : World} {K : PySem.W.Frag} {mg : Str → Option Value} {base : Heap} (D : DefAt K mg "_law_larder" s_larder) (m_range : mg "range" = none) (m_tuple : mg "tuple" = none)
    (C_mix : Clb P w K mg base 1 "_law_mix" ["_law_cell", "_law_k"] spMix) (C_cell_at : Clb P w K mg base 1 "_law_cell_at" ["_law_cells", "_law_k"] (spCellAt K))
    (C_amount : Clb P w K mg base 1 "_law_amount" ["_law_cell", "_law_most"] spAmount) (C_last : Clb P w K mg base 1 "_law_last" ["_law_cell"] spLast) (C_name_by : Clb P w K mg base 1 "_law_name_by" ["_law_seed", "_law_k"] spNameBy) :
    Clb P w K mg base 2 "_law_larder" ["_law_cells", "_law_names_here", "_law_many_here"] (spLarder K) := by
  refine D.clb sc_larder (fun vs H Q E h => ?_) bd_larder (fun f cdv A outer s H vs Q E hr h => ?_)
  · obtain ⟨a, b, m, seed, many, rfl, _⟩ := h
    rfl
  · obtain ⟨a, b, m, seed, many, rfl, hc, hn, h0, h1, q⟩ := h
    refine ⟨_, (pss_cons (ps_set (i := 3) sc_larder.nd rfl (.inl rfl) (pe_lst pa_nil))
    (pss_cons (ps_for PassesOwn.never rfl (pi_range1 (by rfl) m_range (pa_cons (pv 2) pa_nil)) (pg_name (i := 4) sc_larder.nd rfl (.inl rfl))
      (pss_cons (ps_set (i := 5) sc_larder.nd rfl (.inl rfl) (pe_cal C_mix (hr.mono (by decide)) (pa_cons (pe_cal C_cell_at (hr.mono (by decide)) (pa_cons (pv 0) (pa_cons (pe_op op_add pe_int (pe_op op_mod (pv 4) pe_int)) pa_nil))) (pa_cons (pe_op op_add pe_int (pv 4)) pa_nil))))
    (pss_cons (ps_set (i := 6) sc_larder.nd rfl (.inl rfl) (pe_cal C_mix (hr.mono (by decide)) (pa_cons (pv 5) (pa_cons (pv 4) pa_nil))))
    (pss_one (ps_expr (kpe_bm K PySem.F.plainAttrs_list PySem.F.slot_list_append PySem.F.type_list_append mt_append (pv 3) (pa_cons (pe_tup (pa_cons (pe_cal C_name_by (hr.mono (by decide)) (pa_cons (pe_ix (kix_list K) (pv 1) pe_int (fun _ _ => rfl)) (pa_cons (pe_op op_mod (pe_op op_mod (pv 5) pe_int) (pe_ix (kix_list K) (pv 1) pe_int (fun _ _ => rfl))) pa_nil))) (pa_cons (pe_cal C_amount (hr.mono (by decide)) (pa_cons (pe_op op_fdiv (pv 5) pe_int) (pa_cons pe_int pa_nil))) (pa_cons (pe_cal C_last (hr.mono (by decide)) (pa_cons (pv 6) pa_nil)) pa_nil)))) pa_nil)))))))
    (pss_one (ps_ret (pe_callTy (kcall_tuple_of K) (by rfl) m_tuple (by decide +kernel) (pa_cons (pv 3) pa_nil)))))), ?_⟩
    refine ⟨Nat.zero_le _, fun p hp => ?_⟩
    walk_at "rd"
    refine ⟨by omega, by omega, ?_⟩
    refine for_range (lo := 0) (fun i σ H' => ∃ (y4 y5 y6 : Option V) (vs : List V) (lar : List Batch), σ = [some (.ref a), some (.ref b), some (.int m), some (.ref p), y4, y5, y6] ∧ Same H H' ∧ H' p = some (.lst vs) ∧
        Held BatchAt H' vs lar ∧ lar.length = i ∧ ∀ b ∈ lar, GoodBatch seed b)
      ⟨none, none, none, [], [], rfl, same_upd hp, upd_same, Held.nil, rfl, fun _ z => nomatch z⟩ (fun i σ H1 hi h => ?_) (fun σ H1 h => ?_)
    · obtain ⟨y4, y5, y6, vs, lar, rfl, sm, hpl, hd, hl, hg⟩ := h
      have hi' : (i : Int) < m := by omega
      walk_at "rd"
      refine ⟨hc.same sm, by omega, by omega, fun c c0 c1 => ?_⟩
      walk_at "rd"
      refine ⟨by omega, by omega, fun cell z0 z1 => ?_⟩
      walk_at "rd"
      refine ⟨by omega, by omega, fun som z2 z3 => ?_⟩
      have hn2 := hn.same sm
      have hmany := hn2.2
      walk_at "rd"
      refine ⟨.inl ⟨rfl, _, sqL hpl⟩, ?_⟩
      walk_at "rd"
      refine ⟨b, _, _, _, rfl, rfl, sqL hn2.1, rfl, ?_⟩
      walk_at "rd"
      refine ⟨b, _, _, _, rfl, rfl, sqL hn2.1, rfl, ?_⟩
      refine ⟨_, _, rfl, rfl, (by show 0 < many; omega), ?_⟩
      have k1 := Int.emod_nonneg (cell % 60) (show many ≠ 0 by omega)
      have k2 := Int.emod_lt_of_pos (cell % 60) (show 0 < many by omega)
      refine ⟨_, _, rfl, k1, (by show cell % 60 % many ≤ 100; omega), fun H3 sm3 => ?_⟩
      walk_at "rd"
      refine fun am a1 a2 => ?_
      walk_at "rd"
      refine fun la l1 l2 => ?_
      refine ⟨small (by show 3 ≤ 100000; decide), fun t ht => ?_⟩
      have hpl3 : (upd H3 t (.tup [V.str (nameBy seed (cell % 60 % many)), V.int am, V.int la])) p = some (.lst vs) := by
        have e := sm3 _ _ hpl
        rw [upd_ne (ne_of_none e ht)]
        exact e
      refine ⟨p, _, _, rfl, rfl, hpl3, small' (by rw [hd.len]; omega), ?_⟩
      have st : SameT H1 (upd (upd H3 t (.tup [V.str (nameBy seed (cell % 60 % many)), V.int am, V.int la])) p (.lst (vs ++ [V.ref t]))) := ((SameT.of sm3).trans (SameT.new ht)).trans (SameT.lst hpl3)
      refine ⟨_, _, _, vs ++ [V.ref t], lar ++ [⟨nameBy seed (cell % 60 % many), am, la⟩], rfl, ((sm.trans sm3).new ht).mut hp, upd_same, (hd.mono BatchAt.mono st).snoc ⟨t, rfl, ?_⟩, by rw [List.length_append, hl]; rfl, fun x hx => ?_⟩
      · rw [upd_ne (ne_of upd_same hpl3 (by intro z; cases z))]
        exact upd_same
      · rcases List.mem_append.mp hx with z | z
        · exact hg x z
        · rw [List.mem_singleton.mp z]
          exact ⟨a1, a2, l1, l2, (cell % 60 % many).toNat, by omega, by show nameBy seed (cell % 60 % many) = nameBy seed _; rw [Int.toNat_of_nonneg k1]⟩
    · obtain ⟨y4, y5, y6, vs, lar, rfl, sm, hpl, hd, hl, hg⟩ := h
      walk_at "rd"
      refine ⟨p, _, rfl, .inl ⟨sqL hpl, fun u hu => ?_⟩⟩
      exact q _ lar _ (sm.new hu) ⟨u, vs, rfl, upd_same, hd.mono BatchAt.mono (SameT.new hu)⟩ (by omega) hg
abbrev s_price : Stmt := topS 16
theorem sc_price : FnScope ["_law_cell"] ["_law_cell"] (defScope s_price) := ⟨rfl, rfl, rfl, by decide +kernel, rfl, by decide +kernel, by decide +kernel⟩
theorem bd_price : ∀ (kV doc pm : Value) (an : Option Addr) (cdv ct : Value) (us : List Value), us.length = (["_law_cell"] : List Str).length → bindArgs (PySem.W.fnOf "_law_price" "_law_price" (defArgs s_price) (defBody s_price) (defScope s_price) .none kV doc pm an cdv ct) ⟨us, []⟩ = pure ((["_law_cell"] : List Str).zip us) := fun _ _ _ _ _ _ us hl => match us, hl with | [_], _ => rfl
def spPrice : Sp := fun vs H Q _ => ∃ c : Int, vs = [.int c] ∧ ∀ z : Int, 0 ≤ z → z ≤ 1000000 → Q (.int z) H
theorem ok_price {P : Program} {w : World} {K : PySem.W.Frag} {mg : Str → Option Value} {base : Heap} (D : DefAt K mg "_law_price" s_price) : Clb P w K mg base 1 "_law_price" ["_law_cell"] spPrice := by
  refine D.clb sc_price (fun vs H Q E h => ?_) bd_price (fun f cdv A outer s H vs Q E hr h => ?_)
  · obtain ⟨c, rfl, _⟩ := h
    rfl
  · obtain ⟨c, rfl, q⟩ := h
    refine ⟨_, (pss_cons (ps_if (pt_cmpR op_eq (pe_op op_mod (pv 0) pe_int) pe_int (nomark _))
      (pss_one (ps_ret (pe_op op_mod (pe_op op_fdiv (pv 0) pe_int) pe_int)))
      pss_nil)
    (pss_cons (ps_if (pt_cmpR op_eq (pe_op op_mod (pv 0) pe_int) pe_int (nomark _))
      (pss_one (ps_ret pe_int))
      pss_nil)
    (pss_one (ps_ret (pe_op op_mod (pe_op op_fdiv (pv 0) pe_int) pe_int))))), ?_⟩
    have e1 := Int.emod_nonneg (c / 9) (show (1000001 : Int) ≠ 0 by decide)
    have e2 := Int.emod_lt_of_pos (c / 9) (show (0 : Int) < 1000001 by decide)
    have e3 := Int.emod_nonneg (c / 9) (show (30 : Int) ≠ 0 by decide)
    have e4 := Int.emod_lt_of_pos (c / 9) (show (0 : Int) < 30 by decide)
    walk_at "rd"
    refine it_eqI (fun _ => ?_) (fun _ => ?_)
    · walk_at "rd"
      exact q _ e1 (by omega)
    · walk_at "rd"
      refine it_eqI (fun _ => ?_) (fun _ => ?_)
      · exact q 0 (by decide) (by decide)
      · walk_at "rd"
        exact q _ e3 (by omega)
abbrev s_packs : Stmt := topS 17
theorem sc_packs : FnScope ["_law_cells", "_law_names_here", "_law_many_here", "_law_packs_here", "_law_k", "_law_cell", "_law_some", "_law_name"] ["_law_cells", "_law_names_here", "_law_many_here"] (defScope s_packs) := ⟨rfl, rfl, rfl, by decide +kernel, rfl, by decide +kernel, by decide +kernel⟩
theorem bd_packs : ∀ (kV doc pm : Value) (an : Option Addr) (cdv ct : Value) (us : List Value), us.length = (["_law_cells", "_law_names_here", "_law_many_here"] : List Str).length → bindArgs (PySem.W.fnOf "_law_packs" "_law_packs" (defArgs s_packs) (defBody s_packs) (defScope s_packs) .none kV doc pm an cdv ct) ⟨us, []⟩ = pure ((["_law_cells", "_law_names_here", "_law_many_here"] : List Str).zip us) := fun _ _ _ _ _ _ us hl => match us, hl with | [_, _, _], _ => rfl
def spPacks (K : PySem.W.Frag) : Sp := fun vs H Q _ => ∃ (a b : Addr) (m seed many : Int), vs = [.ref a, .ref b, .int m] ∧ CellsAt K H a ∧ NamesAt K H b seed many ∧ 0 ≤ m ∧ m ≤ 60 ∧
  ∀ (v : V) (ps : List Pack) (H' : Hp), Same H H' → PacksAt H' v ps → (ps.length : Int) ≤ m → (∀ p ∈ ps, GoodPack seed p) → Q v H'
theorem ok_packs {P : Program} {w : World} {K : PySem.W.Frag} {mg : Str → Option Value} {base : Heap} (D : DefAt K mg "_law_packs" s_packs) (m_range : mg "range" = none) (m_tuple : mg "tuple" = none)
    (C_mix : Clb P w K mg base 1 "_law_mix" ["_law_cell", "_law_k"] spMix) (C_cell_at : Clb P w K mg base 1 "_law_cell_at" ["_law_cells", "_law_k"] (spCellAt K)) (C_amount : Clb P w K mg base 1 "_law_amount" ["_law_cell", "_law_most"] spAmount) (C_last : Clb P w K mg base 1 "_law_last" ["_law_cell"] spLast) (C_price : Clb P w K mg base 1 "_law_price" ["_law_cell"] spPrice) (C_name_by : Clb P w K mg base 1 "_law_name_by" ["_law_seed", "_law_k"] spNameBy) :
    Clb P w K mg base 2 "_law_packs" ["_law_cells", "_law_names_here", "_law_many_here"] (spPacks K) := by
  refine D.clb sc_packs (fun vs H Q E h => ?_) bd_packs (fun f cdv A outer s H vs Q E hr h => ?_)
  · obtain ⟨a, b, m, seed, many, rfl, _⟩ := h
    rfl
  · obtain ⟨a, b, m, seed, many, rfl, hc, hn, h0, h1, q⟩ := h
    refine ⟨_, (pss_cons (ps_set (i := 3) sc_packs.nd rfl (.inl rfl) (pe_lst pa_nil))
    (pss_cons (ps_for PassesOwn.never rfl (pi_range1 (by rfl) m_range (pa_cons (pv 2) pa_nil)) (pg_name (i := 4) sc_packs.nd rfl (.inl rfl))
      (pss_cons (ps_set (i := 5) sc_packs.nd rfl (.inl rfl) (pe_cal C_mix (hr.mono (by decide)) (pa_cons (pe_cal C_cell_at (hr.mono (by decide)) (pa_cons (pv 0) (pa_cons (pe_op op_add pe_int (pe_op op_mod (pv 4) pe_int)) pa_nil))) (pa_cons (pe_op op_add pe_int (pv 4)) pa_nil))))
    (pss_cons (ps_set (i := 6) sc_packs.nd rfl (.inl rfl) (pe_cal C_mix (hr.mono (by decide)) (pa_cons (pv 5) (pa_cons (pe_op op_add (pv 4) pe_int) pa_nil))))
    (pss_cons (ps_set (i := 7) sc_packs.nd rfl (.inl rfl) (pe_cal C_name_by (hr.mono (by decide)) (pa_cons (pe_ix (kix_list K) (pv 1) pe_int (fun _ _ => rfl)) (pa_cons (pe_op op_mod (pe_op op_mod (pv 5) pe_int) (pe_ix (kix_list K) (pv 1) pe_int (fun _ _ => rfl))) pa_nil))))
    (pss_one (ps_expr (kpe_bm K PySem.F.plainAttrs_list PySem.F.slot_list_append PySem.F.type_list_append mt_append (pv 3) (pa_cons (pe_tup (pa_cons (pv 7) (pa_cons (pe_cal C_amount (hr.mono (by decide)) (pa_cons (pe_op op_fdiv (pv 5) pe_int) (pa_cons pe_int pa_nil))) (pa_cons (pe_cal C_price (hr.mono (by decide)) (pa_cons (pv 6) pa_nil)) (pa_cons (pe_cal C_last (hr.mono (by decide)) (pa_cons (pe_op op_fdiv (pv 6) pe_int) pa_nil)) pa_nil))))) pa_nil))))))))
    (pss_one (ps_ret (pe_callTy (kcall_tuple_of K) (by rfl) m_tuple (by decide +kernel) (pa_cons (pv 3) pa_nil)))))), ?_⟩
    refine ⟨Nat.zero_le _, fun p hp => ?_⟩
    walk_at "rd"
    refine ⟨by omega, by omega, ?_⟩
    refine for_range (lo := 0) (fun i σ H' => ∃ (y4 y5 y6 y7 : Option V) (vs : List V) (ps : List Pack), σ = [some (.ref a), some (.ref b), some (.int m), some (.ref p), y4, y5, y6, y7] ∧ Same H H' ∧ H' p = some (.lst vs) ∧
        Held PackAt H' vs ps ∧ ps.length = i ∧ ∀ b ∈ ps, GoodPack seed b)
      ⟨none, none, none, none, [], [], rfl, same_upd hp, upd_same, Held.nil, rfl, fun _ z => nomatch z⟩ (fun i σ H1 hi h => ?_) (fun σ H1 h => ?_)
    · obtain ⟨y4, y5, y6, y7, vs, ps, rfl, sm, hpl, hd, hl, hg⟩ := h
      have hi' : (i : Int) < m := by omega
      walk_at "rd"
      refine ⟨hc.same sm, by omega, by omega, fun c c0 c1 => ?_⟩
      walk_at "rd"
      refine ⟨by omega, by omega, fun cell z0 z1 => ?_⟩
      walk_at "rd"
      refine ⟨by omega, by omega, fun som z2 z3 => ?_⟩
      have hn2 := hn.same sm
      have hmany := hn2.2
      refine ⟨_, rfl, b, _, _, _, rfl, rfl, sqL hn2.1, rfl, ?_⟩
      walk_at "rd"
      refine ⟨b, _, _, _, rfl, rfl, sqL hn2.1, rfl, ?_⟩
      refine ⟨_, _, rfl, rfl, (by show 0 < many; omega), ?_⟩
      have k1 := Int.emod_nonneg (cell % 60) (show many ≠ 0 by omega)
      have k2 := Int.emod_lt_of_pos (cell % 60) (show 0 < many by omega)
      refine ⟨_, _, rfl, k1, (by show cell % 60 % many ≤ 100; omega), fun H3 sm3 => ?_⟩
      have hpl4 := sm3 _ _ hpl
      refine ⟨_, rfl, .inl ⟨rfl, _, sqL hpl4⟩, ?_⟩
      walk_at "rd"
      refine fun am a1 a2 => ?_
      walk_at "rd"
      refine fun pr p0 p1 => ?_
      walk_at "rd"
      refine fun la l1 l2 => ?_
      refine ⟨small (by show 4 ≤ 100000; decide), fun t ht => ?_⟩
      have hpl3 : (upd H3 t (.tup [V.str (nameBy seed (cell % 60 % many)), V.int am, V.int pr, V.int la])) p = some (.lst vs) := by
        rw [upd_ne (ne_of_none hpl4 ht)]
        exact hpl4
      refine ⟨p, _, _, rfl, rfl, hpl3, small' (by rw [hd.len]; omega), ?_⟩
      have st : SameT H1 (upd (upd H3 t (.tup [V.str (nameBy seed (cell % 60 % many)), V.int am, V.int pr, V.int la])) p (.lst (vs ++ [V.ref t]))) := ((SameT.of sm3).trans (SameT.new ht)).trans (SameT.lst hpl3)
      refine ⟨_, _, _, _, vs ++ [V.ref t], ps ++ [⟨nameBy seed (cell % 60 % many), am, pr, la⟩], rfl, ((sm.trans sm3).new ht).mut hp, upd_same, (hd.mono PackAt.mono st).snoc ⟨t, rfl, ?_⟩, by rw [List.length_append, hl]; rfl, fun x hx => ?_⟩
      · rw [upd_ne (ne_of upd_same hpl3 (by intro z; cases z))]
        exact upd_same
      · rcases List.mem_append.mp hx with z | z
        · exact hg x z
        · rw [List.mem_singleton.mp z]
          exact ⟨a1, a2, p0, p1, l1, l2, (cell % 60 % many).toNat, by omega, by show nameBy seed (cell % 60 % many) = nameBy seed _; rw [Int.toNat_of_nonneg k1]⟩
    · obtain ⟨y4, y5, y6, y7, vs, ps, rfl, sm, hpl, hd, hl, hg⟩ := h
      walk_at "rd"
      refine ⟨p, _, rfl, .inl ⟨sqL hpl, fun u hu => ?_⟩⟩
      exact q _ ps _ (sm.new hu) ⟨u, vs, rfl, upd_same, hd.mono PackAt.mono (SameT.new hu)⟩ (by omega) hg
abbrev s_price_of : Stmt := topS 1
theorem sc_price_of : FnScope ["offers", "counts", "size", "price", "last", "count"] ["offers", "counts"] (defScope s_price_of) := ⟨rfl, rfl, rfl, by decide +kernel, rfl, by decide +kernel, by decide +kernel⟩
theorem bd_price_of : ∀ (kV doc pm : Value) (an : Option Addr) (cdv ct : Value) (us : List Value), us.length = (["offers", "counts"] : List Str).length → bindArgs (PySem.W.fnOf "price_of" "price_of" (defArgs s_price_of) (defBody s_price_of) (defScope s_price_of) .none kV doc pm an cdv ct) ⟨us, []⟩ = pure ((["offers", "counts"] : List Str).zip us) := fun _ _ _ _ _ _ us hl => match us, hl with | [_, _], _ => rfl
theorem ok_price_of {P : Program} {w : World} {K : PySem.W.Frag} {mg : Str → Option Value} {base : Heap} (D : DefAt K mg "price_of" s_price_of) (m_sum : mg "sum" = none) (m_zip : mg "zip" = none) : Clb P w K mg base 1 "price_of" ["offers", "counts"] spPriceOf := by
  refine D.clb sc_price_of (fun vs H Q E h => ?_) bd_price_of (fun f cdv A outer s H vs Q E hr h => ?_)
  · obtain ⟨v, b, os, cs, rfl, _⟩ := h
    rfl
  · obtain ⟨v, b, os, cs, rfl, ⟨a, us, rfl, ha, hh⟩, hb, hl, hz, hg, hc, q⟩ := h
    refine ⟨_, (pss_one (ps_ret (pe_callB (kcr_sum K rfl) (by rfl) m_sum (by decide +kernel) (pa_cons (pe_lc (own := [("count", 5), ("size", 2), ("price", 3), ("last", 4)]) rfl sc_price_of.nd (kpi_zipA K (by rfl) m_zip (pa_cons (pv 0) (pa_cons (pv 1) pa_nil))) (blkOk_by (own := [("count", 5), ("size", 2), ("price", 3), ("last", 4)]) (N := ["offers", "counts", "size", "price", "last", "count"]) (sc := defScope s_price_of) (by decide +kernel)) (fun _ _ _ _ _ => (kpg_tup K (n := 2) rfl (pgs_cons (kpg_tup K (n := 3) rfl (pgs_cons (pg_name (i := 2) sc_price_of.nd rfl (.inl rfl)) (pgs_cons (pg_name (i := 3) sc_price_of.nd rfl (.inl rfl)) (pgs_cons (pg_name (i := 4) sc_price_of.nd rfl (.inl rfl)) pgs_nil)))) (pgs_cons (pg_name (i := 5) sc_price_of.nd rfl (.inl rfl)) pgs_nil)))) (fun _ _ _ _ _ => pts_nil) (fun _ _ _ _ _ => (pe_op op_mul (pv 3) (pv 5)))) pa_nil)))), ?_⟩
    have hlu := hh.len
    refine ⟨_, rfl, _, rfl, a, b, us, cs.map V.int, rfl, .inr ⟨sqT ha, sqT hb, ?_⟩⟩
    refine fun D hD => lc_rel (walk_zipT (n := us.length) (by rw [List.length_map]; omega)) (xs := os.zip cs) (by rw [zip_len hl]; omega) (f := fun p => some (p.1.price * p.2)) (R := fun _ v x => v = V.int x) mono_eq hD
      (fun H' s => ⟨s.seqT (sqT ha), s.seqT (sqT hb)⟩) (by omega) (fun i v x H1 H2 Ky Kn hx sm hy h1 h2 => ?_) (fun H' ys sm hD' hd => ?_)
    · obtain ⟨ho, hci⟩ := ix_zip hx
      obtain ⟨T, y, z, rfl, hT, rfl, ey, ez⟩ := hy
      obtain ⟨t, rfl, ht⟩ := hh.all i _ _ ey ho
      have e2 := Option.some.inj ((ix_map (f := V.int) hci).symm.trans ez)
      subst e2
      have st := same_upd (o := .tup [V.ref t, V.int x.2]) hT
      have g := hg _ (List.mem_of_getElem? ho)
      have g0 := g.price0
      have g1 := g.price2
      refine ⟨T, _, rfl, sqT upd_same, rfl, _, _, rfl, t, _, rfl, sqT (st _ _ (sm _ _ ht)), rfl, _, _, rfl, _, _, rfl, _, _, rfl, rfl, _, _, rfl, rfl, rfl, ?_⟩
      refine ⟨_, rfl, _, rfl, _, _, rfl, rfl, .inl ⟨by omega, by omega⟩, ?_⟩
      exact h1 _ _ _ rfl st rfl
    · have e := held_eq (f := V.int) hd
      rw [fm_some] at e
      exact ⟨D, _, rfl, sqL (by rw [hD', e]), q H' sm⟩
abbrev s_offers_of : Stmt := topS 3
theorem sc_offers_of : FnScope ["packs", "name", "size", "price", "last"] ["packs"] (defScope s_offers_of) := ⟨rfl, rfl, rfl, by decide +kernel, rfl, by decide +kernel, by decide +kernel⟩
theorem bd_offers_of : ∀ (kV doc pm : Value) (an : Option Addr) (cdv ct : Value) (us : List Value), us.length = (["packs"] : List Str).length → bindArgs (PySem.W.fnOf "offers_of" "offers_of" (defArgs s_offers_of) (defBody s_offers_of) (defScope s_offers_of) .none kV doc pm an cdv ct) ⟨us, []⟩ = pure ((["packs"] : List Str).zip us) := fun _ _ _ _ _ _ us hl => match us, hl with | [_], _ => rfl
theorem ok_offers_of {P : Program} {w : World} {K : PySem.W.Frag} {mg : Str → Option Value} {base : Heap} (D : DefAt K mg "offers_of" s_offers_of) (m_tuple : mg "tuple" = none) : Clb P w K mg base 1 "offers_of" ["packs"] (spOffersOf K) := by
  refine D.clb sc_offers_of (fun vs H Q E h => ?_) bd_offers_of (fun f cdv A outer s H vs Q E hr h => ?_)
  · obtain ⟨v, ps, rfl, _⟩ := h
    rfl
  · obtain ⟨v, ps, rfl, ⟨a, us, rfl, ha, hh⟩, hl, q⟩ := h
    refine ⟨_, (pss_one (ps_ret (pe_callTy (kcall_tuple_of K) (by rfl) m_tuple (by decide +kernel) (pa_cons (pe_lc (own := [("name", 1), ("size", 2), ("price", 3), ("last", 4)]) rfl sc_offers_of.nd (kpi_any K (pv 0)) (blkOk_by (own := [("name", 1), ("size", 2), ("price", 3), ("last", 4)]) (N := ["packs", "name", "size", "price", "last"]) (sc := defScope s_offers_of) (by decide +kernel)) (fun _ _ _ _ _ => (kpg_tup K (n := 4) rfl (pgs_cons (pg_name (i := 1) sc_offers_of.nd rfl (.inl rfl)) (pgs_cons (pg_name (i := 2) sc_offers_of.nd rfl (.inl rfl)) (pgs_cons (pg_name (i := 3) sc_offers_of.nd rfl (.inl rfl)) (pgs_cons (pg_name (i := 4) sc_offers_of.nd rfl (.inl rfl)) pgs_nil)))))) (fun _ _ _ _ _ => pts_nil) (fun _ _ _ _ _ => (pe_tup (pa_cons (pv 2) (pa_cons (pv 3) (pa_cons (pv 4) pa_nil)))))) pa_nil)))), ?_⟩
    have hul := hh.len
    have fin : ∀ (D : Addr) (H' : Hp) (ys : List V), Same H H' → H' D = some (.lst ys) → Held OfferAt H' ys (ps.filterMap fun p => some (offOf p)) → (∃ p ys, [V.ref D] = [V.ref p] ∧ ((SqL K H' p ys ∧ ∀ l, H' l = none → Q (.ref l) (upd H' l (.tup ys))) ∨ (SqT K H' p ys ∧ Q (.ref p) H'))) := fun D H' ys sm hD' hd => by
      rw [fm_some] at hd
      exact ⟨D, _, rfl, .inl ⟨sqL hD', fun p hp => q _ _ (sm.new hp) ⟨p, ys, rfl, upd_same, hd.mono OfferAt.mono (SameT.new hp)⟩⟩⟩
    refine ⟨_, rfl, a, us, rfl, ?_⟩
    rcases ha with ha | ha
    · refine .inl ⟨ha, ?_⟩
      refine fun D hD => lc_rel (walk_list (xs := us)) (xs := ps) hul.symm (f := fun p => some (offOf p)) (R := OfferAt) OfferAt.mono hD (fun H' s => s.seq ha) (by omega) (fun i v x H1 H2 Ky Kn hx sm hy h1 h2 => ?_) (fun H' ys sm hD' hd => fin D H' ys sm hD' hd)
      obtain ⟨rfl, hv⟩ := hy
      obtain ⟨t, rfl, ht⟩ := hh.all i v x hv hx
      refine ⟨t, _, rfl, sqT (sm _ _ ht), rfl, _, _, rfl, _, _, rfl, _, _, rfl, _, _, rfl, rfl, rfl, ?_⟩
      walk_at "rd"
      refine ⟨small (by show 3 ≤ 100000; decide), fun u hu => ?_⟩
      exact h1 _ _ _ rfl (same_upd hu) ⟨u, rfl, upd_same⟩
    · refine .inr ⟨ha, ?_⟩
      refine fun D hD => lc_rel (walk_tup (xs := us)) (xs := ps) hul.symm (f := fun p => some (offOf p)) (R := OfferAt) OfferAt.mono hD (fun H' s => s.seqT ha) (by omega) (fun i v x H1 H2 Ky Kn hx sm hy h1 h2 => ?_) (fun H' ys sm hD' hd => fin D H' ys sm hD' hd)
      obtain ⟨rfl, hv⟩ := hy
      obtain ⟨t, rfl, ht⟩ := hh.all i v x hv hx
      refine ⟨t, _, rfl, sqT (sm _ _ ht), rfl, _, _, rfl, _, _, rfl, _, _, rfl, _, _, rfl, rfl, rfl, ?_⟩
      walk_at "rd"
      refine ⟨small (by show 3 ≤ 100000; decide), fun u hu => ?_⟩
      exact h1 _ _ _ rfl (same_upd hu) ⟨u, rfl, upd_same⟩
abbrev s_stocked : Stmt := topS 4
theorem sc_stocked : FnScope ["larder", "packs", "counts", "batches", "name", "amount", "last", "size", "price", "count"] ["larder", "packs", "counts"] (defScope s_stocked) := ⟨rfl, rfl, rfl, by decide +kernel, rfl, by decide +kernel, by decide +kernel⟩
theorem bd_stocked : ∀ (kV doc pm : Value) (an : Option Addr) (cdv ct : Value) (us : List Value), us.length = (["larder", "packs", "counts"] : List Str).length → bindArgs (PySem.W.fnOf "stocked" "stocked" (defArgs s_stocked) (defBody s_stocked) (defScope s_stocked) .none kV doc pm an cdv ct) ⟨us, []⟩ = pure ((["larder", "packs", "counts"] : List Str).zip us) := fun _ _ _ _ _ _ us hl => match us, hl with | [_, _, _], _ => rfl
theorem ok_stocked {P : Program} {w : World} {K : PySem.W.Frag} {mg : Str → Option Value} {base : Heap} (D : DefAt K mg "stocked" s_stocked) (m_zip : mg "zip" = none) (m_tuple : mg "tuple" = none) : Clb P w K mg base 1 "stocked" ["larder", "packs", "counts"] spStocked := by
  refine D.clb sc_stocked (fun vs H Q E h => ?_) bd_stocked (fun f cdv A outer s H vs Q E hr h => ?_)
  · obtain ⟨u, v, b, lar, ps, cs, rfl, _⟩ := h
    rfl
  · obtain ⟨u, v, b, lar, ps, cs, rfl, ⟨la, lus, rfl, hla, hlh⟩, ⟨pa, pus, rfl, hpa, hph⟩, hb, hl, hz, hg, hc, hbig, q⟩ := h
    refine ⟨_, (pss_cons (ps_setLc (i := 3) (own := [("name", 4), ("amount", 5), ("last", 6)])   rfl sc_stocked.nd rfl rfl (sw_true rfl rfl rfl (by decide +kernel)) (kpi_tup K (pv 0)) (blkOk_by (own := [("name", 4), ("amount", 5), ("last", 6)]) (N := ["larder", "packs", "counts", "batches", "name", "amount", "last", "size", "price", "count"]) (sc := defScope s_stocked) (by decide +kernel)) (fun _ _ _ _ _ => (kpg_tup K (n := 3) rfl (pgs_cons (pg_name (i := 4) sc_stocked.nd rfl (.inl rfl)) (pgs_cons (pg_name (i := 5) sc_stocked.nd rfl (.inl rfl)) (pgs_cons (pg_name (i := 6) sc_stocked.nd rfl (.inl rfl)) pgs_nil))))) (fun _ _ _ _ _ => pts_nil) (fun _ _ _ _ _ => (pe_tup (pa_cons (pv 4) (pa_cons (pv 5) (pa_cons (pv 6) pa_nil))))))
    (pss_cons (ps_for PassesOwn.never rfl (kpi_zipA K (by rfl) m_zip (pa_cons (pv 1) (pa_cons (pv 2) pa_nil))) (kpg_tup K (n := 2) rfl (pgs_cons (kpg_tup K (n := 4) rfl (pgs_cons (pg_name (i := 4) sc_stocked.nd rfl (.inl rfl)) (pgs_cons (pg_name (i := 7) sc_stocked.nd rfl (.inl rfl)) (pgs_cons (pg_name (i := 8) sc_stocked.nd rfl (.inl rfl)) (pgs_cons (pg_name (i := 6) sc_stocked.nd rfl (.inl rfl)) pgs_nil))))) (pgs_cons (pg_name (i := 9) sc_stocked.nd rfl (.inl rfl)) pgs_nil)))
      (pss_one (ps_expr (kpe_bm K PySem.F.plainAttrs_list PySem.F.slot_list_extend PySem.F.type_list_extend mt_extend (pv 3) (pa_cons (pe_op op_rep (pe_lst (pa_cons (pe_tup (pa_cons (pv 4) (pa_cons (pv 7) (pa_cons (pv 6) pa_nil)))) pa_nil)) (pv 9)) pa_nil)))))
    (pss_one (ps_ret (pe_callTy (kcall_tuple_of K) (by rfl) m_tuple (by decide +kernel) (pa_cons (pv 3) pa_nil)))))), ?_⟩
    have hll := hlh.len
    have hpl := hph.len
    have hbg : 16000000 ≤ sizeLine := by decide
    refine ⟨_, rfl, la, rfl, ⟨_, sqT hla⟩, ?_⟩
    refine fun D hD => lc_relB (walk_tup (xs := lus)) (xs := lar) hll.symm (f := fun b => some b) (R := BatchAt) BatchAt.mono hD (fun H' s => s.seqT (sqT hla)) (by omega) (fun i v x H1 H2 Ky Kn hx sm hy h1 h2 => ?_) (fun H1 ys s1 hD' hd => ?_)
    · obtain ⟨rfl, hv⟩ := hy
      obtain ⟨t, rfl, ht⟩ := hlh.all i v x hv hx
      refine ⟨t, _, rfl, sqT (sm _ _ ht), rfl, _, _, rfl, _, _, rfl, _, _, rfl, rfl, rfl, ?_⟩
      walk_at "rd"
      refine ⟨small (by show 3 ≤ 100000; decide), fun u hu => ?_⟩
      exact h1 _ _ _ rfl (same_upd hu) ⟨u, rfl, upd_same⟩
    rw [fm_some, List.map_id'] at hd
    have hzl : (ps.zip cs).length = pus.length := by rw [zip_len hl]; omega
    have hcl : pus.length = (cs.map V.int).length := by rw [List.length_map]; omega
    refine ⟨_, rfl, _, rfl, pa, b, pus, cs.map V.int, rfl, .inr ⟨sqT (s1 _ _ hpa), sqT (s1 _ _ hb), ?_⟩⟩
    refine RZ.for_zipT hcl (fun i σ H' => ∃ (y4 y5 y6 y7 y8 y9 : Option V) (ys : List V), σ = [some (.ref la), some (.ref pa), some (.ref b), some (.ref D), y4, y5, y6, y7, y8, y9] ∧ Same H H' ∧ H' D = some (.lst ys) ∧ Held BatchAt H' ys (lar ++ stockZ ((ps.zip cs).take i)))
      ⟨_, _, _, _, _, _, ys, rfl, s1, hD', by simpa [stockZ] using hd⟩ (fun i σ H' h => by obtain ⟨_, _, _, _, _, _, _, _, sm, _⟩ := h; exact ⟨sm.seqT (sqT hpa), sm.seqT (sqT hb)⟩) (fun i x y T σ H2 hx hy h hT => ?_) (fun σ H2 h => ?_)
    · obtain ⟨y4, y5, y6, y7, y8, y9, ys, rfl, sm, hD2, hd2⟩ := h
      have hip : i < ps.length := by rw [← hpl]; exact (List.getElem?_eq_some_iff.mp hx).1
      have hpx := List.getElem?_eq_getElem hip
      have hcx := List.getElem?_eq_getElem (show i < cs.length by omega)
      obtain ⟨t, rfl, ht⟩ := hph.all i _ _ hx hpx
      have e2 := Option.some.inj ((ix_map (f := V.int) hcx).symm.trans hy)
      subst e2
      have st := same_upd (o := .tup [V.ref t, V.int cs[i]]) hT
      have c0 := hc _ (List.getElem_mem (show i < cs.length by omega))
      have ez := zip_ix hpx hcx
      have hstk : stockZ ((ps.zip cs).take (i + 1)) = stockZ ((ps.zip cs).take i) ++ List.replicate cs[i].toNat (batchOf ps[i]) := by rw [take_succ' ez, stockZ_snoc]
      have hsz : lar.length + (stockZ ((ps.zip cs).take (i + 1))).length ≤ 16000000 := by
        have : (stockZ ((ps.zip cs).take (i + 1))).length ≤ sumC cs := stockZ_le ps cs (i + 1)
        omega
      rw [hstk, List.length_append, List.length_replicate] at hsz
      have hdl := hd2.len
      rw [List.length_append] at hdl
      refine ⟨T, _, rfl, sqT upd_same, rfl, _, _, rfl, t, _, rfl, sqT (st _ _ (sm _ _ ht)), rfl, _, _, rfl, _, _, rfl, _, _, rfl, _, _, rfl, rfl, _, _, rfl, rfl, ?_⟩
      have hD3 := st _ _ hD2
      refine ⟨_, rfl, .inl ⟨rfl, _, sqL hD3⟩, ?_⟩
      refine ⟨_, rfl, _, rfl, _, rfl, small (by show 3 ≤ 100000; decide), fun u hu => ?_⟩
      have s4 := st.new (o := .tup [V.str ps[i].name, V.int ps[i].size, V.int ps[i].last]) hu
      refine ⟨small (by show 1 ≤ 100000; decide), fun l1 hl1 => ?_⟩
      have s5 := s4.new (o := .lst [V.ref u]) hl1
      refine ⟨_, rfl, l1, cs[i], _, rfl, rfl, upd_same, by omega, by omega, by show 1 * cs[i].toNat ≤ sizeLine; omega, fun l2 hl2 => ?_⟩
      have s6 := s5.new (o := .lst (List.replicate cs[i].toNat [V.ref u]).flatten) hl2
      have er : (List.replicate cs[i].toNat [V.ref u]).flatten = List.replicate cs[i].toNat (V.ref u) := by
        generalize cs[i].toNat = n
        induction n with
        | zero => rfl
        | succ n ih => rw [List.replicate_succ, List.flatten_cons, ih, List.replicate_succ]; rfl
      rw [er] at s6 ⊢
      have hu6 : (upd (upd (upd (upd H2 T (.tup [V.ref t, V.int cs[i]])) u (.tup [V.str ps[i].name, V.int ps[i].size, V.int ps[i].last])) l1 (.lst [V.ref u])) l2 (.lst (List.replicate cs[i].toNat (V.ref u)))) u = some (.tup [V.str ps[i].name, V.int ps[i].size, V.int ps[i].last]) := by
        have h1 := same_upd (o := .lst [V.ref u]) hl1 u _ upd_same
        exact same_upd (o := .lst (List.replicate cs[i].toNat (V.ref u))) hl2 u _ h1
      have hD6 := s6 _ _ hD2
      refine ⟨D, l2, _, _, rfl, rfl, hD6, upd_same, by rw [List.length_replicate]; omega, ?_⟩
      refine ⟨_, _, _, _, _, _, _, rfl, (sm.trans s6).mut hD, upd_same, ?_⟩
      rw [hstk, ← List.append_assoc]
      have stl := SameT.lst (o := .lst (ys ++ List.replicate cs[i].toNat (V.ref u))) hD6
      refine held_app ((hd2.mono BatchAt.mono (SameT.of s6)).mono BatchAt.mono stl) ⟨by rw [List.length_replicate, List.length_replicate], fun j w x hw hx => ?_⟩
      rw [List.getElem?_replicate] at hw hx
      split at hw
      · rename_i hj
        rw [if_pos hj] at hx
        cases hw
        cases hx
        exact ⟨u, rfl, stl _ _ hu6⟩
      · cases hw
    · obtain ⟨y4, y5, y6, y7, y8, y9, ys, rfl, sm, hD2, hd2⟩ := h
      rw [← hzl, List.take_length] at hd2
      refine ⟨_, rfl, D, _, rfl, .inl ⟨sqL hD2, fun p hp => ?_⟩⟩
      exact q _ _ (sm.new hp) ⟨p, ys, rfl, upd_same, hd2.mono BatchAt.mono (SameT.new hp)⟩
abbrev s_total : Stmt := topS 5
theorem sc_total : FnScope ["packs", "counts"] ["packs", "counts"] (defScope s_total) := ⟨rfl, rfl, rfl, by decide +kernel, rfl, by decide +kernel, by decide +kernel⟩
theorem bd_total : ∀ (kV doc pm : Value) (an : Option Addr) (cdv ct : Value) (us : List Value), us.length = (["packs", "counts"] : List Str).length → bindArgs (PySem.W.fnOf "total" "total" (defArgs s_total) (defBody s_total) (defScope s_total) .none kV doc pm an cdv ct) ⟨us, []⟩ = pure ((["packs", "counts"] : List Str).zip us) := fun _ _ _ _ _ _ us hl => match us, hl with | [_, _], _ => rfl
theorem ok_total {P : Program} {w : World} {K : PySem.W.Frag} {mg : Str → Option Value} {base : Heap} (D : DefAt K mg "total" s_total) (C_price_of : Clb P w K mg base 1 "price_of" ["offers", "counts"] spPriceOf) (C_offers_of : Clb P w K mg base 1 "offers_of" ["packs"] (spOffersOf K)) : Clb P w K mg base 2 "total" ["packs", "counts"] spTotal := by
  refine D.clb sc_total (fun vs H Q E h => ?_) bd_total (fun f cdv A outer s H vs Q E hr h => ?_)
  · obtain ⟨v, b, ps, cs, rfl, _⟩ := h
    rfl
  · obtain ⟨v, b, ps, cs, rfl, hps, hb, hl, hz, hg, hc, q⟩ := h
    refine ⟨_, (pss_one (ps_ret (pe_cal C_price_of (hr.mono (by decide)) (pa_cons (pe_cal C_offers_of (hr.mono (by decide)) (pa_cons (pv 0) pa_nil)) (pa_cons (pv 1) pa_nil))))), ?_⟩
    refine ⟨_, rfl, v, ps, rfl, hps.in, hz, fun v' H1 s1 ho => ?_⟩
    refine ⟨_, rfl, v', b, ps.map offOf, cs, rfl, ho, s1 _ _ hb, by rw [List.length_map]; exact hl, by rw [List.length_map]; exact hz, fun o ho => ?_, hc, fun H2 s2 => ?_⟩
    · obtain ⟨p, hp, rfl⟩ := List.mem_map.mp ho
      exact offOf_good (hg p hp)
    · rw [costOf_packs]
      exact q _ (s1.trans s2)
abbrev s_listed : Stmt := topS 6
theorem sc_listed : FnScope ["packs", "counts", "rows", "name", "size", "price", "last", "count"] ["packs", "counts"] (defScope s_listed) := ⟨rfl, rfl, rfl, by decide +kernel, rfl, by decide +kernel, by decide +kernel⟩
theorem bd_listed : ∀ (kV doc pm : Value) (an : Option Addr) (cdv ct : Value) (us : List Value), us.length = (["packs", "counts"] : List Str).length → bindArgs (PySem.W.fnOf "listed" "listed" (defArgs s_listed) (defBody s_listed) (defScope s_listed) .none kV doc pm an cdv ct) ⟨us, []⟩ = pure ((["packs", "counts"] : List Str).zip us) := fun _ _ _ _ _ _ us hl => match us, hl with | [_, _], _ => rfl
theorem ok_listed {P : Program} {w : World} {K : PySem.W.Frag} {mg : Str → Option Value} {base : Heap} (D : DefAt K mg "listed" s_listed) (m_zip : mg "zip" = none) (C_total : Clb P w K mg base 2 "total" ["packs", "counts"] spTotal) : Clb P w K mg base 3 "listed" ["packs", "counts"] spListed := by
  refine D.clb sc_listed (fun vs H Q E h => ?_) bd_listed (fun f cdv A outer s H vs Q E hr h => ?_)
  · obtain ⟨v, b, ps, cs, rfl, _⟩ := h
    rfl
  · obtain ⟨v, b, ps, cs, rfl, ⟨pa, pus, rfl, hpa, hph⟩, hb, hl, hz, hg, hc, q⟩ := h
    refine ⟨_, (pss_cons (ps_setLc (i := 2) (own := [("count", 7), ("name", 3), ("size", 4), ("price", 5), ("last", 6)])   rfl sc_listed.nd rfl rfl (sw_true rfl rfl rfl (by decide +kernel)) (kpi_zipA K (by rfl) m_zip (pa_cons (pv 0) (pa_cons (pv 1) pa_nil))) (blkOk_by (own := [("count", 7), ("name", 3), ("size", 4), ("price", 5), ("last", 6)]) (N := ["packs", "counts", "rows", "name", "size", "price", "last", "count"]) (sc := defScope s_listed) (by decide +kernel)) (fun _ _ _ _ _ => (kpg_tup K (n := 2) rfl (pgs_cons (kpg_tup K (n := 4) rfl (pgs_cons (pg_name (i := 3) sc_listed.nd rfl (.inl rfl)) (pgs_cons (pg_name (i := 4) sc_listed.nd rfl (.inl rfl)) (pgs_cons (pg_name (i := 5) sc_listed.nd rfl (.inl rfl)) (pgs_cons (pg_name (i := 6) sc_listed.nd rfl (.inl rfl)) pgs_nil))))) (pgs_cons (pg_name (i := 7) sc_listed.nd rfl (.inl rfl)) pgs_nil)))) (fun _ _ _ _ _ => (pts_one (pt_cmpR op_gt (pv 7) pe_int (nomark _)))) (fun _ _ _ _ _ => (kpe_joined (.cons (pe_fmt (pv 7)) (.cons pe_str (.cons (pe_fmt (pv 3)) (.cons pe_str (.cons (pe_fmt (pv 4)) (.cons pe_str (.cons (pe_fmt (pe_op op_mul (pv 7) (pv 5))) .nil))))))))))
    (pss_one (ps_ret (kpe_join K pe_str (pe_op op_cat (pv 2) (pe_lst (pa_cons (kpe_joined (.cons pe_str (.cons (pe_fmt (pe_cal C_total (hr.mono (by decide)) (pa_cons (pv 0) (pa_cons (pv 1) pa_nil)))) .nil))) pa_nil))))))), ?_⟩
    have hpl := hph.len
    have hbg : 1000 ≤ sizeLine := by decide
    have bit : ∀ p ∈ ps.zip cs, Bit p := fun p hp => by
      obtain ⟨i, hi, rfl⟩ := List.getElem_of_mem hp
      obtain ⟨h1, h2⟩ := ix_zip (List.getElem?_eq_getElem hi)
      exact ⟨hg _ (List.mem_of_getElem? h1), (hc _ (List.mem_of_getElem? h2)).1, (hc _ (List.mem_of_getElem? h2)).2⟩
    refine ⟨_, rfl, _, rfl, pa, b, pus, cs.map V.int, rfl, .inr ⟨sqT hpa, sqT hb, ?_⟩⟩
    refine fun D hD => lc_rel (walk_zipT (n := pus.length) (by rw [List.length_map]; omega)) (xs := ps.zip cs) (by rw [zip_len hl]; omega) (f := fun p => if 0 < p.2 then some (rowS p.1 p.2) else none) (R := fun _ v x => v = V.str x) mono_eq hD
      (fun H' s => ⟨s.seqT (sqT hpa), s.seqT (sqT hb)⟩) (by omega) (fun i v x H1 H2 Ky Kn hx sm hy h1 h2 => ?_) (fun H1 ys s1 hD' hd => ?_)
    · have bx := bit x (List.mem_of_getElem? hx)
      obtain ⟨ho, hci⟩ := ix_zip hx
      obtain ⟨T, y, z, rfl, hT, rfl, ey, ez⟩ := hy
      obtain ⟨t, rfl, ht⟩ := hph.all i _ _ ey ho
      have e2 := Option.some.inj ((ix_map (f := V.int) hci).symm.trans ez)
      subst e2
      have st := same_upd (o := .tup [V.ref t, V.int x.2]) hT
      obtain ⟨fp, x0, x2⟩ := id bx
      have f1 := fp.size1
      have f2 := fp.size2
      have f3 := fp.few
      have cst := bx.cost
      have a1 := num_len (k := 3) x0 (by decide) (by omega)
      have a3 := num_len (n := x.1.size) (k := 3) (by omega) (by decide) (by omega)
      have a4 := num_len (n := x.1.price * x.2) (k := 9) cst.1 (by decide) (by omega)
      have a5 : (" " : Str).length = 1 := rfl
      have a6 : Str.empty.length = 0 := rfl
      refine ⟨T, _, rfl, sqT upd_same, rfl, _, _, rfl, t, _, rfl, sqT (st _ _ (sm _ _ ht)), rfl, _, _, rfl, _, _, rfl, _, _, rfl, _, _, rfl, rfl, _, _, rfl, rfl, rfl, ?_⟩
      walk_at "rd"
      refine it_lt (fun e => ?_) (fun e => h2 _ (if_neg e) st)
      refine ⟨_, rfl, .inr ⟨_, rfl, log_small x0 (by omega), _, rfl, ?_, ?_⟩⟩
      · rw [app_len]; omega
      refine ⟨_, rfl, by rw [app_len, app_len]; omega, ?_⟩
      refine ⟨_, rfl, .inl ⟨_, rfl, by omega, _, rfl, by rw [app_len, app_len, app_len]; omega, ?_⟩⟩
      refine ⟨_, rfl, by rw [app_len, app_len, app_len, app_len]; omega, ?_⟩
      refine ⟨_, rfl, .inr ⟨_, rfl, log_small (by omega) (by omega), _, rfl, by rw [app_len, app_len, app_len, app_len, app_len]; omega, ?_⟩⟩
      refine ⟨_, rfl, by rw [app_len, app_len, app_len, app_len, app_len, app_len]; omega, ?_⟩
      refine ⟨_, rfl, _, rfl, _, _, rfl, rfl, .inl ⟨by omega, by omega⟩, ?_⟩
      refine .inr ⟨x.1.price * x.2, congrArg V.int (Int.mul_comm x.2 x.1.price), log_small cst.1 (by omega), _, rfl, by rw [app_len, app_len, app_len, app_len, app_len, app_len, app_len]; omega, ?_⟩
      exact h1 _ _ _ (if_pos e) st (by rw [rowS_eq])
    · have e := held_eq (f := V.str) hd
      have hzz : (ps.zip cs).length ≤ 60 := by rw [zip_len hl]; exact hz
      have tot := totalZ_few (ps.zip cs) bit
      rw [← totalP_z] at tot
      have a4 := num_len (n := totalP ps cs) (k := 11) tot.1 (by decide) (by omega)
      have a5 : ("total " : Str).length = 6 := rfl
      have a6 : Str.empty.length = 0 := rfl
      have a7 : ("\n" : Str).length = 1 := rfl
      have hrl := rowsL_len (ps.zip cs) bit
      have hrn : (rowsL (ps.zip cs)).length ≤ (ps.zip cs).length := List.length_filterMap_le _ _
      refine ⟨⟨_, rfl⟩, ?_⟩
      refine ⟨_, rfl, _, rfl, ?_, ?_⟩
      · rw [app_len]; omega
      refine ⟨_, rfl, _, rfl, .ref pa, b, ps, cs, rfl, ⟨pa, pus, rfl, s1 _ _ hpa, hph.mono PackAt.mono (SameT.of s1)⟩, s1 _ _ hb, hl, by omega, hg, fun c h => (hc c h).1, fun H2 s2 => ?_⟩
      refine .inr ⟨_, rfl, log_small tot.1 (by omega), _, rfl, by rw [app_len, app_len]; omega, ?_⟩
      refine ⟨small (by show 1 ≤ 100000; decide), fun l1 hl1 => ?_⟩
      have s3 := s2.new (o := .lst [V.str (Str.empty ++ "total " ++ Str.ofString (toString (totalP ps cs)))]) hl1
      rw [e] at hD'
      refine ⟨D, l1, _, _, rfl, rfl, s3 _ _ hD', upd_same, ?_, fun l2 hl2 => ?_⟩
      · rw [List.length_map]
        have : (List.filterMap (fun p : Pack × Int => if 0 < p.2 then some (rowS p.1 p.2) else none) (ps.zip cs)).length ≤ (ps.zip cs).length := List.length_filterMap_le _ _
        show _ + 1 ≤ sizeLine
        omega
      refine ⟨_, l2, rowsL (ps.zip cs) ++ [Str.empty ++ "total " ++ Str.ofString (toString (totalP ps cs))], rfl, rfl, .inl (sqL ?_), ?_, ?_⟩
      · rw [upd_same, List.map_append]; rfl
      · rw [List.map_append, List.sum_append, List.length_append, a7]
        simp only [List.map_cons, List.map_nil, List.sum_cons, List.sum_nil, List.length_cons, List.length_nil, app_len]
        omega
      · rw [listed_eq]
        exact q _ (s1.trans (s3.new hl2))
abbrev s_law : Stmt := topS 20
theorem sc_law : FnScope ["_law_script", "_law_cells", "_law_names_here", "_law_cell", "_law_larder_here", "_law_packs_here", "_law_counts", "_law_k", "_law_some", "_law_way", "_law_price_here", "_law_line", "_law_after", "_law_words", "_law_turn", "_law_found", "_law_told"] ["_law_script"] (defScope s_law) := ⟨rfl, rfl, rfl, by decide +kernel, rfl, by decide +kernel, by decide +kernel⟩
theorem bd_law : ∀ (kV doc pm : Value) (an : Option Addr) (cdv ct : Value) (us : List Value), us.length = (["_law_script"] : List Str).length → bindArgs (PySem.W.fnOf "law" "law" (defArgs s_law) (defBody s_law) (defScope s_law) .none kV doc pm an cdv ct) ⟨us, []⟩ = pure ((["_law_script"] : List Str).zip us) := fun _ _ _ _ _ _ us hl => match us, hl with | [_], _ => rfl
def spLaw (K : PySem.W.Frag) : Sp := fun vs H Q _ => ∃ (a : Addr) (ns : List Int), vs = [.ref a] ∧ SqL K H a (ns.map V.int) ∧ ns.length ≤ 63 ∧ ∀ H', Q (.bl true) H'
theorem ok_law {P : Program} {w : World} {K : PySem.W.Frag} {mg : Str → Option Value} {base : Heap} {f : Addr} {fd : FuncData} (F : Fun K "law" "law" s_law f fd) (m_range : mg "range" = none) (m_len : mg "len" = none) (m_int : mg "int" = none) (m_str : mg "str" = none) (m_tuple : mg "tuple" = none) (m_isinstance : mg "isinstance" = none)
    (C_mixed : Clb P w K mg base 1 "_law_mixed" ["_law_script"] (spMixed K)) (C_names : Clb P w K mg base 2 "_law_names" ["_law_cells"] (spNames K)) (C_cell_at : Clb P w K mg base 1 "_law_cell_at" ["_law_cells", "_law_k"] (spCellAt K)) (C_larder : Clb P w K mg base 2 "_law_larder" ["_law_cells", "_law_names_here", "_law_many_here"] (spLarder K)) (C_packs : Clb P w K mg base 2 "_law_packs" ["_law_cells", "_law_names_here", "_law_many_here"] (spPacks K)) (C_many : Clb P w K mg base 1 "_law_many" ["_law_cell", "_law_few", "_law_room"] spMany) (C_mix : Clb P w K mg base 1 "_law_mix" ["_law_cell", "_law_k"] spMix)
    (C_total : Clb P w K mg base 2 "total" ["packs", "counts"] spTotal) (C_whole : Clb P w K mg base 1 "_law_whole" ["_law_found"] spWhole) (C_stocked : Clb P w K mg base 1 "stocked" ["larder", "packs", "counts"] spStocked) (C_listed : Clb P w K mg base 3 "listed" ["packs", "counts"] spListed) :
    FnOk P w K mg base CX0 4 f fd ["_law_script"] (spLaw K) := by
  refine F.ok sc_law (fun vs H Q E h => ?_) (fun cdv A outer s H vs Q E hr h => ?_)
  · obtain ⟨a, ns, rfl, _⟩ := h
    rfl
  · obtain ⟨a, ns, rfl, hS, hl, q⟩ := h
    refine ⟨_, (pss_cons (ps_set (i := 1) sc_law.nd rfl (.inl rfl) (pe_cal C_mixed (hr.mono (by decide)) (pa_cons (pv 0) pa_nil)))
    (pss_cons (ps_set (i := 2) sc_law.nd rfl (.inl rfl) (pe_cal C_names (hr.mono (by decide)) (pa_cons (pv 1) pa_nil)))
    (pss_cons (ps_set (i := 3) sc_law.nd rfl (.inl rfl) (pe_cal C_cell_at (hr.mono (by decide)) (pa_cons (pv 1) (pa_cons pe_int pa_nil))))
    (pss_cons (ps_set (i := 4) sc_law.nd rfl (.inl rfl) (pe_cal C_larder (hr.mono (by decide)) (pa_cons (pv 1) (pa_cons (pv 2) (pa_cons (pe_op op_mod (pv 3) pe_int) pa_nil)))))
    (pss_cons (ps_set (i := 5) sc_law.nd rfl (.inl rfl) (pe_cal C_packs (hr.mono (by decide)) (pa_cons (pv 1) (pa_cons (pv 2) (pa_cons (pe_cal C_many (hr.mono (by decide)) (pa_cons (pe_op op_fdiv (pv 3) pe_int) (pa_cons pe_int (pa_cons pe_int pa_nil)))) pa_nil)))))
    (pss_cons (ps_set (i := 6) sc_law.nd rfl (.inl rfl) (pe_lst pa_nil))
    (pss_cons (ps_for PassesOwn.never rfl (pi_range1 (by rfl) m_range (pa_cons (pe_callB (kcall_len_seq K) (by rfl) m_len (by decide +kernel) (pa_cons (pv 5) pa_nil)) pa_nil)) (pg_name (i := 7) sc_law.nd rfl (.inl rfl))
      (pss_cons (ps_set (i := 8) sc_law.nd rfl (.inl rfl) (pe_cal C_mix (hr.mono (by decide)) (pa_cons (pe_cal C_cell_at (hr.mono (by decide)) (pa_cons (pv 1) (pa_cons pe_int pa_nil))) (pa_cons (pv 7) pa_nil))))
    (pss_cons (ps_set (i := 9) sc_law.nd rfl (.inl rfl) (pe_op op_add (pe_op op_mul (pe_callTy call_int1 (by rfl) m_int (by decide +kernel) (pa_cons (pe_cmpR op_eq (pe_op op_mod (pv 8) pe_int) pe_int (nomark _)) pa_nil)) pe_int) (pe_callTy call_int1 (by rfl) m_int (by decide +kernel) (pa_cons (pe_cmpR op_gt (pe_op op_mod (pv 8) pe_int) pe_int (nomark _)) pa_nil))))
    (pss_one (ps_expr (kpe_bm K PySem.F.plainAttrs_list PySem.F.slot_list_append PySem.F.type_list_append mt_append (pv 6) (pa_cons (pe_ix (kix_list K) (pe_lst (pa_cons (pe_op op_mod (pe_op op_fdiv (pv 8) pe_int) pe_int) (pa_cons (pe_op op_mod (pe_op op_fdiv (pv 8) pe_int) pe_int) (pa_cons (pe_op op_mod (pe_op op_fdiv (pv 8) pe_int) pe_int) pa_nil)))) (pv 9) (fun _ _ => rfl)) pa_nil)))))))
    (pss_cons (ps_set (i := 10) sc_law.nd rfl (.inl rfl) pe_int)
    (pss_cons (ps_set (i := 11) sc_law.nd rfl (.inl rfl) pe_str)
    (pss_cons (ps_set (i := 12) sc_law.nd rfl (.inl rfl) (pv 4))
    (pss_cons (ps_for PassesOwn.never rfl (pi_range1 (by rfl) m_range (pa_cons (pe_callB (kcall_len_seq K) (by rfl) m_len (by decide +kernel) (pa_cons (pv 5) pa_nil)) pa_nil)) (pg_name (i := 7) sc_law.nd rfl (.inl rfl))
      (pss_cons (ps_set (i := 10) sc_law.nd rfl (.inl rfl) (pe_op op_add (pv 10) (pe_op op_mul (pe_ix (kix_tup K) (pe_ix (kix_tup K) (pv 5) (pv 7) (fun _ _ => rfl)) pe_int (fun _ _ => rfl)) (pe_ix (kix_list K) (pv 6) (pv 7) (fun _ _ => rfl)))))
    (C8.pss_cut (ps_if (pt_cmpR op_gt (pe_ix (kix_list K) (pv 6) (pv 7) (fun _ _ => rfl)) pe_int (nomark _))
      (pss_cons (ps_set (i := 13) sc_law.nd rfl (.inl rfl) (pe_lst (pa_cons (pe_callTy call_str_int (by rfl) m_str (by decide +kernel) (pa_cons (pe_ix (kix_list K) (pv 6) (pv 7) (fun _ _ => rfl)) pa_nil)) (pa_cons (pe_ix (kix_tup K) (pe_ix (kix_tup K) (pv 5) (pv 7) (fun _ _ => rfl)) pe_int (fun _ _ => rfl)) (pa_cons (pe_callTy call_str_int (by rfl) m_str (by decide +kernel) (pa_cons (pe_ix (kix_tup K) (pe_ix (kix_tup K) (pv 5) (pv 7) (fun _ _ => rfl)) pe_int (fun _ _ => rfl)) pa_nil)) (pa_cons (pe_callTy call_str_int (by rfl) m_str (by decide +kernel) (pa_cons (pe_op op_mul (pe_ix (kix_tup K) (pe_ix (kix_tup K) (pv 5) (pv 7) (fun _ _ => rfl)) pe_int (fun _ _ => rfl)) (pe_ix (kix_list K) (pv 6) (pv 7) (fun _ _ => rfl))) pa_nil)) pa_nil))))))
    (pss_one (ps_set (i := 11) sc_law.nd rfl (.inl rfl) (pe_op op_add_str (pe_op op_add_str (pv 11) (kpe_join K pe_str (pv 13))) pe_str))))
      pss_nil)
    (pss_one (ps_for PassesOwn.never rfl (pi_range1 (by rfl) m_range (pa_cons (pe_ix (kix_list K) (pv 6) (pv 7) (fun _ _ => rfl)) pa_nil)) (pg_name (i := 14) sc_law.nd rfl (.inl rfl))
      (pss_one (ps_set (i := 12) sc_law.nd rfl (.inl rfl) (pe_op (kop_catA K) (pv 12) (pe_tup (pa_cons (pe_tup (pa_cons (pe_ix (kix_tup K) (pe_ix (kix_tup K) (pv 5) (pv 7) (fun _ _ => rfl)) pe_int (fun _ _ => rfl)) (pa_cons (pe_ix (kix_tup K) (pe_ix (kix_tup K) (pv 5) (pv 7) (fun _ _ => rfl)) pe_int (fun _ _ => rfl)) (pa_cons (pe_ix (kix_tup K) (pe_ix (kix_tup K) (pv 5) (pv 7) (fun _ _ => rfl)) pe_int (fun _ _ => rfl)) pa_nil)))) pa_nil))))))))))
    (pss_cons (ps_set (i := 15) sc_law.nd rfl (.inl rfl) (pe_cal C_total (hr.mono (by decide)) (pa_cons (pv 5) (pa_cons (pe_callTy (kcall_tuple_of K) (by rfl) m_tuple (by decide +kernel) (pa_cons (pv 6) pa_nil)) pa_nil))))
    (C8.pss_cut (ps_if (PW.pt (pw_or (pt_not (pt_val (pe_cal C_whole (hr.mono (by decide)) (pa_cons (pv 15) pa_nil)))) (pw_or (pt_cmpR op_ne (pv 15) (pv 10) (nomark _)) (pw_or1 (pt_cmpR (kop_neD K hr.units) (pe_cal C_stocked (hr.mono (by decide)) (pa_cons (pv 4) (pa_cons (pv 5) (pa_cons (pe_callTy (kcall_tuple_of K) (by rfl) m_tuple (by decide +kernel) (pa_cons (pv 6) pa_nil)) pa_nil)))) (pv 12) (nomark _))))))
      (pss_one (ps_ret pe_bl))
      pss_nil)
    (pss_cons (ps_set (i := 16) sc_law.nd rfl (.inl rfl) (pe_cal C_listed (hr.mono (by decide)) (pa_cons (pv 5) (pa_cons (pe_callTy (kcall_tuple_of K) (by rfl) m_tuple (by decide +kernel) (pa_cons (pv 6) pa_nil)) pa_nil))))
    (pss_one (ps_ret (pe_and (pe_callB (kcall_isi K) (by rfl) m_isinstance (by decide +kernel) (pa_cons (pv 16) (pa_cons (pe_bltn (v := .ty "str") (u := .type "str") (by rfl) m_str (by decide +kernel) rfl) pa_nil))) (pe_one (pe_cmpR op_eq (pv 16) (pe_op op_add_str (pe_op op_add_str (pv 11) pe_str) (pe_callTy call_str_int (by rfl) m_str (by decide +kernel) (pa_cons (pv 10) pa_nil))) (nomark _)))))))))))))))))))), ?_⟩
    refine ⟨_, rfl, a, ns, rfl, hS, hl, fun ca H1 s1 hc => ?_⟩
    refine ⟨_, rfl, ca, rfl, hc, fun na H2 seed many s2 hn => ?_⟩
    refine ⟨_, rfl, ca, 2, rfl, hc.same s2, by decide, by decide, fun cell z0 z1 => ?_⟩
    refine ⟨_, rfl, _, rfl, ?_⟩
    walk_at "rd"
    have w1 := Int.emod_nonneg cell (show (6 : Int) ≠ 0 by decide)
    have w2 := Int.emod_lt_of_pos cell (show (0 : Int) < 6 by decide)
    refine ⟨ca, na, _, seed, many, rfl, hc.same s2, hn, w1, by omega, fun v lar H3 s3 hlar ll lg => ?_⟩
    refine ⟨_, rfl, _, rfl, ?_⟩
    walk_at "rd"
    refine ⟨_, 6, 60, rfl, by decide, by decide, fun m m0 m1 => ?_⟩
    have hc3 := (hc.same s2).same s3
    refine ⟨ca, na, m, seed, many, rfl, hc3, hn.same s3, m0, m1, fun u ps H4 s4 hps pl pg => ?_⟩
    have hc4 := hc3.same s4
    have hlar4 := LarderAt.mono _ _ _ _ (SameT.of s4) hlar
    have pf : ∀ p ∈ ps, FinePack p := fun p hp => (pg p hp).fine
    have lok : ∀ b ∈ lar, OkS b.name := fun b hb => by obtain ⟨k, _, e⟩ := (lg b hb).name; rw [e]; exact nameBy_ok _ _
    obtain ⟨pa, pus, rfl, hpa, hph⟩ := hps
    have hpl60 : ps.length ≤ 60 := by omega
    have hpl : pus.length = ps.length := hph.len
    refine ⟨Nat.zero_le _, fun cp hcp => ?_⟩
    have s5 := same_upd (o := .lst []) hcp
    refine ⟨_, rfl, pa, pus, rfl, .inr (sqT (s5 _ _ hpa)), ?_⟩
    refine ⟨_, rfl, by omega, by omega, ?_⟩
    refine for_range (lo := 0) (fun i σ H' => ∃ (y7 y8 y9 : Option V) (cs : List Int), σ = [some (.ref a), some (.ref ca), some (.ref na), some (.int cell), some v, some (.ref pa), some (.ref cp), y7, y8, y9, none, none, none, none, none, none, none] ∧ Same H4 H' ∧ H' cp = some (.lst (cs.map V.int)) ∧ cs.length = i ∧ ∀ c ∈ cs, 0 ≤ c ∧ c ≤ 200)
      ⟨none, none, none, [], rfl, s5, upd_same, rfl, fun _ z => nomatch z⟩ (fun i σ H' hi h => ?_) (fun σ H' h => ?_)
    · obtain ⟨y7, y8, y9, cs, rfl, sm, hcl, hcn, hcb⟩ := h
      refine ⟨_, rfl, ca, 3, rfl, hc4.same sm, by decide, by decide, fun c1 _ _ => ?_⟩
      walk_at "rd"
      refine ⟨by omega, by omega, fun som x0 x1 => ?_⟩
      walk_at "rd"
      refine .inr ⟨_, rfl, ?_⟩
      walk_at "rd"
      refine .inr ⟨_, rfl, ?_⟩
      walk_at "rd"
      have hz : ∃ w : Int, (if decide (V.int (som % 9) = V.int 0) = true then 1 else 0) * 2 + (if decide (5 < som % 9) = true then (1 : Int) else 0) = w ∧ (w = 0 ∨ w = 1 ∨ w = 2) := by
        refine ⟨_, rfl, ?_⟩
        by_cases e1 : som % 9 = 0
        · rw [e1]; exact .inr (.inr rfl)
        · rw [if_neg (fun z => e1 (V.int.inj (of_decide_eq_true z)))]
          split
          · exact .inr (.inl rfl)
          · exact .inl rfl
      obtain ⟨w, ew, hw⟩ := hz
      simp only [ew]
      refine ⟨.inl ⟨rfl, _, sqL hcl⟩, ?_⟩
      walk_at "rd"
      refine ⟨small (by show 3 ≤ 100000; decide), fun r hr1 => ?_⟩
      have e1 := Int.emod_nonneg (som / 9) (show (7 : Int) ≠ 0 by decide)
      have e2 := Int.emod_lt_of_pos (som / 9) (show (0 : Int) < 7 by decide)
      have e3 := Int.emod_nonneg (som / 9) (show (2 : Int) ≠ 0 by decide)
      have e4 := Int.emod_lt_of_pos (som / 9) (show (0 : Int) < 2 by decide)
      have e5 := Int.emod_nonneg (som / 9) (show (201 : Int) ≠ 0 by decide)
      have e6 := Int.emod_lt_of_pos (som / 9) (show (0 : Int) < 201 by decide)
      have hn' : ∃ n : Int, atI [V.int (som / 9 % 7), V.int (som / 9 % 2), V.int (som / 9 % 201)] w = some (.int n) ∧ 0 ≤ n ∧ n ≤ 200 := by
        rcases hw with e | e | e <;> rw [e]
        · exact ⟨_, rfl, e1, by omega⟩
        · exact ⟨_, rfl, e3, by omega⟩
        · exact ⟨_, rfl, e5, by omega⟩
      obtain ⟨n, en, n0, n1⟩ := hn'
      refine ⟨_, rfl, r, _, _, _, rfl, rfl, sqL upd_same, en, ?_⟩
      have hcl2 : (upd H' r (.lst [V.int (som / 9 % 7), V.int (som / 9 % 2), V.int (som / 9 % 201)])) cp = some (.lst (cs.map V.int)) := by
        rw [upd_ne (ne_of_none hcl hr1)]
        exact hcl
      refine ⟨cp, _, _, rfl, rfl, hcl2, small' (by rw [List.length_map, hcn]; omega), ?_⟩
      exact ⟨_, _, _, cs ++ [n], rfl, (sm.new hr1).mut hcp, by rw [upd_same, List.map_append]; rfl, by rw [List.length_append, hcn]; rfl, fun c hc => by
        rcases List.mem_append.mp hc with z | z
        · exact hcb c z
        · rw [List.mem_singleton.mp z]; exact ⟨n0, n1⟩⟩
    · obtain ⟨y7, y8, y9, cs, rfl, sm, hcl, hcn, hcb⟩ := h
      have hcs : ps.length = cs.length := by rw [hcn, ← hpl]; rfl
      have hzl : (ps.zip cs).length = ps.length := zip_len hcs
      have bits : ∀ p ∈ ps.zip cs, Bit p := fun p hp => ⟨pf _ (List.of_mem_zip hp).1, hcb _ (List.of_mem_zip hp).2⟩
      have bitk : ∀ k, ∀ p ∈ (ps.zip cs).take k, Bit p := fun k p hp => bits p (List.mem_of_mem_take hp)
      have lar5 := LarderAt.mono _ _ _ _ (SameT.of sm) hlar4
      refine ⟨_, rfl, ?_⟩
      refine ⟨_, rfl, pa, pus, rfl, .inr (sqT (sm _ _ hpa)), ?_⟩
      refine ⟨_, rfl, by omega, by omega, ?_⟩
      refine for_range (lo := 0) (fun k σ H5 => ∃ (y7 y8 y9 y13 y14 : Option V) (af : V), σ = [some (.ref a), some (.ref ca), some (.ref na), some (.int cell), some v, some (.ref pa), some (.ref cp), y7, y8, y9, some (.int (totalZ ((ps.zip cs).take k))), some (.str (rowsS ((ps.zip cs).take k))), some af, y13, y14, none, none] ∧ Same H' H5 ∧
          LarderAt H5 af (lar ++ stockZ ((ps.zip cs).take k)) ∧ (stockZ ((ps.zip cs).take k)).length ≤ k * 200)
        ⟨y7, y8, y9, none, none, v, rfl, Same.refl _, by show LarderAt _ _ (lar ++ []); rw [List.append_nil]; exact lar5, by show 0 ≤ _; omega⟩ (fun k σ H5 hk h => ?_) (fun σ H5 h => ?_)
      · obtain ⟨y7, y8, y9, y13, y14, af, rfl, s6, haf, hsl⟩ := h
        have hkp : k < ps.length := by omega
        have ho := List.getElem?_eq_getElem hkp
        have hc := List.getElem?_eq_getElem (show k < cs.length by omega)
        have hu := List.getElem?_eq_getElem (show k < pus.length by omega)
        obtain ⟨t, ht, hto⟩ := hph.all k _ _ hu ho
        rw [ht] at hu
        have ez := zip_ix ho hc
        have hb := bits _ (List.mem_of_getElem? ez)
        have hcost := hb.cost
        obtain ⟨fp, c0, c1⟩ := hb
        generalize ps[k] = pk at *
        generalize cs[k]'(by omega) = ck at *
        replace hcost : 0 ≤ pk.price * ck ∧ pk.price * ck ≤ 200000000 := hcost
        replace fp : FinePack pk := fp
        replace c0 : 0 ≤ ck := c0
        replace c1 : ck ≤ 200 := c1
        have tot := totalZ_few _ (bitk k)
        have tk1 := take_succ' ez
        have rl := rowsS_len _ (bitk k)
        rw [List.length_take] at rl
        have sm5 := sm.trans s6
        have P1 := fp.price0
        have P2 := fp.price2
        -- the price
        refine ⟨_, rfl, _, rfl, _, rfl, pa, _, _, _, rfl, rfl, sqT (sm5 _ _ hpa), at_of (j := k) (by omega) hu, ?_⟩
        refine ⟨t, _, _, _, rfl, rfl, sqT (sm5 _ _ hto), rfl, ?_⟩
        refine ⟨_, rfl, _, rfl, cp, _, _, _, rfl, rfl, sqL (s6 _ _ hcl), at_of (j := k) (by omega) (ix_map hc), ?_⟩
        refine ⟨_, _, rfl, rfl, .inl ⟨by omega, by omega⟩, ?_⟩
        refine ⟨_, _, rfl, rfl, ?_⟩
        refine ⟨fun σ' H6 => ∃ y13, σ' = [some (.ref a), some (.ref ca), some (.ref na), some (.int cell), some v, some (.ref pa), some (.ref cp), some (.int (0 + (k : Nat))), y8, y9, some (.int (totalZ ((ps.zip cs).take (k + 1)))), some (.str (rowsS ((ps.zip cs).take (k + 1)))), some af, y13, y14, none, none] ∧ Same H5 H6, ?_, fun σ' H6 h => ?_⟩
        · refine ⟨_, rfl, _, rfl, cp, _, _, _, rfl, rfl, sqL (s6 _ _ hcl), at_of (j := k) (by omega) (ix_map hc), ?_⟩
          walk_at "rd"
          refine it_lt (fun e => ?_) (fun e => ?_)
          · refine ⟨_, rfl, _, rfl, cp, _, _, _, rfl, rfl, sqL (s6 _ _ hcl), at_of (j := k) (by omega) (ix_map hc), ?_⟩
            refine ⟨_, rfl, log_small (by omega) (by omega), ?_⟩
            refine ⟨_, rfl, _, rfl, pa, _, _, _, rfl, rfl, sqT (sm5 _ _ hpa), at_of (j := k) (by omega) hu, ?_⟩
            refine ⟨t, _, _, _, rfl, rfl, sqT (sm5 _ _ hto), rfl, ?_⟩
            refine ⟨_, rfl, _, rfl, pa, _, _, _, rfl, rfl, sqT (sm5 _ _ hpa), at_of (j := k) (by omega) hu, ?_⟩
            refine ⟨t, _, _, _, rfl, rfl, sqT (sm5 _ _ hto), rfl, ?_⟩
            have S1 := fp.size1
            have S2 := fp.size2
            refine ⟨_, rfl, log_small (by omega) (by omega), ?_⟩
            refine ⟨_, rfl, _, rfl, pa, _, _, _, rfl, rfl, sqT (sm5 _ _ hpa), at_of (j := k) (by omega) hu, ?_⟩
            refine ⟨t, _, _, _, rfl, rfl, sqT (sm5 _ _ hto), rfl, ?_⟩
            refine ⟨_, rfl, _, rfl, cp, _, _, _, rfl, rfl, sqL (s6 _ _ hcl), at_of (j := k) (by omega) (ix_map hc), ?_⟩
            refine ⟨_, _, rfl, rfl, .inl ⟨by omega, by omega⟩, ?_⟩
            refine ⟨_, rfl, log_small (by omega) (by omega), ?_⟩
            refine ⟨small (by show 4 ≤ 100000; decide), fun r1 hr1 => ?_⟩
            have jl := rowS_len (p := (pk, ck)) ⟨fp, c0, c1⟩
            have s8 := same_upd (o := .lst ([Str.ofString (toString ck), pk.name, Str.ofString (toString pk.size), Str.ofString (toString (pk.price * ck))].map V.str)) hr1
            refine ⟨_, rfl, ⟨_, rfl⟩, ?_⟩
            refine ⟨_, rfl, _, r1, [Str.ofString (toString ck), pk.name, Str.ofString (toString pk.size), Str.ofString (toString (pk.price * ck))], rfl, rfl, .inl (sqL upd_same), ?_, ?_⟩
            · have a1 := num_len (k := 3) c0 (by decide) (by omega)
              have a2 := fp.few
              have a3 := num_len (n := pk.size) (k := 3) (by omega) (by decide) (by omega)
              have a4 := num_len (n := pk.price * ck) (k := 9) hcost.1 (by decide) (by omega)
              have a5 : (" " : Str).length = 1 := rfl
              simp only [List.map_cons, List.map_nil, List.sum_cons, List.sum_nil, List.length_cons, List.length_nil, a5]
              omega
            refine ⟨_, _, rfl, rfl, small (by
              show (rowsS ((ps.zip cs).take k)).length + (rowS pk ck).length ≤ 100000
              have : (rowS pk ck).length ≤ 40 := jl
              omega), ?_⟩
            refine ⟨_, _, rfl, rfl, small (by
              rw [app_len]
              show (rowsS ((ps.zip cs).take k)).length + (rowS pk ck).length + ("\n" : Str).length ≤ 100000
              have : (rowS pk ck).length ≤ 40 := jl
              have a6 : ("\n" : Str).length = 1 := rfl
              omega), ?_⟩
            refine ⟨some (.ref r1), ?_, s8⟩
            rw [tk1, totalZ_snoc, rowsS_snoc, if_pos (show 0 < ck from e)]
            rfl
          · refine ⟨y13, ?_, Same.refl _⟩
            rw [tk1, totalZ_snoc, rowsS_snoc, if_neg (show ¬ 0 < ck from e)]
            rfl
        obtain ⟨y13, rfl, s7⟩ := h
        have s67 := s6.trans s7
        have af7 := LarderAt.mono _ _ _ _ (SameT.of s7) haf
        have sm7 := sm.trans s67
        refine ⟨_, rfl, _, rfl, cp, _, _, _, rfl, rfl, sqL (s67 _ _ hcl), at_of (j := k) (by omega) (ix_map hc), ?_⟩
        refine ⟨_, rfl, by omega, by omega, ?_⟩
        refine for_range (lo := 0) (fun j σ H8 => ∃ (y14 : Option V) (af : V), σ = [some (.ref a), some (.ref ca), some (.ref na), some (.int cell), some v, some (.ref pa), some (.ref cp), some (.int (0 + (k : Nat))), y8, y9, some (.int (totalZ ((ps.zip cs).take (k + 1)))), some (.str (rowsS ((ps.zip cs).take (k + 1)))), some af, y13, y14, none, none] ∧ Same H6 H8 ∧
            LarderAt H8 af (lar ++ stockZ ((ps.zip cs).take k) ++ List.replicate j (batchOf pk)) ∧ j ≤ 200)
          ⟨y14, af, rfl, Same.refl _, by rw [List.replicate_zero, List.append_nil]; exact af7, by decide⟩ (fun j σ H8 hj h => ?_) (fun σ H8 h => ?_)
        · obtain ⟨y14, af, rfl, s8, haf8, hj2⟩ := h
          obtain ⟨ta, tvs, rfl, hta, htv⟩ := haf8
          have smq := sm7.trans s8
          have tvl : tvs.length ≤ 20000 := by
            have := htv.len
            simp only [List.length_append, List.length_replicate] at this
            omega
          refine ⟨_, rfl, _, rfl, _, rfl, pa, _, _, _, rfl, rfl, sqT (smq _ _ hpa), at_of (j := k) (by omega) hu, ?_⟩
          refine ⟨t, _, _, _, rfl, rfl, sqT (smq _ _ hto), rfl, ?_⟩
          refine ⟨_, rfl, _, rfl, pa, _, _, _, rfl, rfl, sqT (smq _ _ hpa), at_of (j := k) (by omega) hu, ?_⟩
          refine ⟨t, _, _, _, rfl, rfl, sqT (smq _ _ hto), rfl, ?_⟩
          refine ⟨_, rfl, _, rfl, pa, _, _, _, rfl, rfl, sqT (smq _ _ hpa), at_of (j := k) (by omega) hu, ?_⟩
          refine ⟨t, _, _, _, rfl, rfl, sqT (smq _ _ hto), rfl, ?_⟩
          refine ⟨small (by show 3 ≤ 100000; decide), fun t1 ht1 => ?_⟩
          have s11 := same_upd (o := .tup [V.str pk.name, V.int pk.size, V.int pk.last]) ht1
          refine ⟨small (by show 1 ≤ 100000; decide), fun t2 ht2 => ?_⟩
          have s12 := same_upd (o := .tup [V.ref t1]) ht2
          have s112 := s11.trans s12
          refine cat_tup (sqT (s112 _ _ hta)) upd_same (small (by show tvs.length + 1 ≤ 100000; omega)) (by intro z; cases z) (fun p3 H13 s13 hp3 => ?_)
          have s113 := s112.trans s13
          refine ⟨_, .ref p3, rfl, s8.trans s113, ?_, by omega⟩
          rw [List.replicate_succ', ← List.append_assoc]
          exact ⟨p3, _, rfl, hp3, (htv.mono BatchAt.mono (SameT.of s113)).snoc ⟨t1, rfl, s13 _ _ (s12 _ _ upd_same)⟩⟩
        · obtain ⟨y14, af, rfl, s8, haf8, _⟩ := h
          refine ⟨_, _, _, _, _, af, rfl, s67.trans s8, ?_, ?_⟩
          · rw [tk1, stockZ_snoc, ← List.append_assoc]
            exact haf8
          · rw [tk1, stockZ_snoc, List.length_append, List.length_replicate]
            show _ + ck.toNat ≤ _
            omega
      · obtain ⟨y7, y8, y9, y13, y14, af, rfl, s6, haf, hsl⟩ := h
        have hf : (ps.zip cs).take ((pus.length : Int).toNat) = ps.zip cs := List.take_of_length_le (by rw [hzl, ← hpl]; exact Nat.le_refl _)
        rw [hf] at haf
        simp only [hf]
        have smq := sm.trans s6
        have psq : ∀ {Hx : Hp}, Same H5 Hx → PacksAt Hx (.ref pa) ps := fun s => ⟨pa, pus, rfl, (smq.trans s) _ _ hpa, hph.mono PackAt.mono (SameT.of (smq.trans s))⟩
        have cpq : ∀ {Hx : Hp}, Same H5 Hx → Hx cp = some (.lst (cs.map V.int)) := fun s => s _ _ (s6 _ _ hcl)
        have lrq : ∀ {Hx : Hp}, Same H5 Hx → LarderAt Hx v lar := fun s => LarderAt.mono _ _ _ _ (SameT.of (s6.trans s)) lar5
        have cnn : ∀ c ∈ cs, 0 ≤ c := fun c hc => (hcb c hc).1
        have tot := totalZ_few _ bits
        refine ⟨_, rfl, _, rfl, cp, _, rfl, .inl ⟨sqL (cpq (Same.refl _)), fun u1 hu1 => ?_⟩⟩
        have t1 := same_upd (o := .tup (cs.map V.int)) hu1
        refine ⟨.ref pa, u1, ps, cs, rfl, psq t1, upd_same, hcs, by omega, pf, cnn, fun H8 s8 => ?_⟩
        have t8 := t1.trans s8
        rw [totalP_z]
        refine ⟨fun σ' H9 => σ' = [some (.ref a), some (.ref ca), some (.ref na), some (.int cell), some v, some (.ref pa), some (.ref cp), y7, y8, y9, some (.int (totalZ (ps.zip cs))), some (.str (rowsS (ps.zip cs))), some af, y13, y14, some (.int (totalZ (ps.zip cs))), none] ∧ Same H8 H9, ?_, fun σ' H9 h => ?_⟩
        · refine ⟨_, rfl, _, rfl, _, rfl, iteF ?_⟩
          walk_at "rd"
          refine it_neI (fun z => absurd rfl z) (fun _ => ?_)
          refine ⟨_, rfl, _, rfl, _, rfl, cp, _, rfl, .inl ⟨sqL (cpq t8), fun u2 hu2 => ?_⟩⟩
          have t9 := same_upd (o := .tup (cs.map V.int)) hu2
          have t89 := t8.trans t9
          have sl := sumC_few 200 cs fun c hc => (hcb c hc).2
          refine ⟨v, .ref pa, u2, lar, ps, cs, rfl, lrq t89, psq t89, upd_same, hcs, by omega, pf, cnn, by omega, fun sv H10 s10 hsv => ?_⟩
          have t810 := t89.trans s10
          have okA : ∀ b ∈ lar ++ stockZ (ps.zip cs), OkS b.name := fun b hb => by
            rcases List.mem_append.mp hb with z | z
            · exact lok b z
            · obtain ⟨p, hp, hr⟩ := List.mem_flatMap.mp z
              rw [(List.mem_replicate.mp hr).2]
              exact (bits p hp).1.ok
          refine ⟨_, rfl, _, _, dp_larder hsv, dp_larder (LarderAt.mono _ _ _ _ (SameT.of t810) haf), larder_shaped okA, larder_shaped okA, ?_⟩
          have es : PyData.eqv (.tuple ((stockL lar ps cs).map batchD)) (.tuple ((lar ++ stockZ (ps.zip cs)).map batchD)) = true := larder_self okA
          rw [es]
          refine ⟨_, rfl, iteF ?_⟩
          exact ⟨rfl, t9.trans s10⟩
        obtain ⟨rfl, s9⟩ := h
        have t9 := t8.trans s9
        refine ⟨_, rfl, _, rfl, cp, _, rfl, .inl ⟨sqL (cpq t9), fun u2 hu2 => ?_⟩⟩
        have t10 := t9.trans (same_upd (o := .tup (cs.map V.int)) hu2)
        refine ⟨.ref pa, u2, ps, cs, rfl, psq t10, upd_same, hcs, hpl60, pf, hcb, fun H11 s11 => ?_⟩
        refine ⟨_, rfl, ?_⟩
        refine ⟨_, _, _, _, true, rfl, .ty _, .base (.str _), kit_ty (by decide +kernel), ?_⟩
        refine ⟨_, rfl, iteT ?_⟩
        have rl := rowsS_len _ bits
        have a6 : ("total " : Str).length = 6 := rfl
        refine ⟨_, rfl, _, rfl, _, _, rfl, rfl, small (by rw [a6]; omega), ?_⟩
        refine ⟨_, rfl, _, rfl, log_small tot.1 (by omega), ?_⟩
        have a7 := num_len (n := totalZ (ps.zip cs)) (k := 11) tot.1 (by decide) (by omega)
        refine ⟨_, _, rfl, rfl, small (by rw [app_len, a6]; omega), ?_⟩
        refine ⟨rfl, ?_⟩
        have : decide (V.str (listedS ps cs) = V.str (rowsS (ps.zip cs) ++ ("total " : Str) ++ Str.ofString (toString (totalZ (ps.zip cs))))) = true := decide_eq_true rfl
        rw [this]
        exact q _
/-! ### what the top has written -/
theorem all_mk {l : PySem.W.OpenLaw} {w : World} {K : PySem.W.Frag} {h : Heap} {mg : Str → Option Value} {fa : Addr} (X : K.In h) (G : h.Ns mainGlobals mg) (hfa : mg "law" = some (.ref fa))
    {f0 : Addr} {od0 an0 : Option Addr} {sl0 : Array (Option Value)} {oc0 kV0 dc0 pm0 cd0 ct0 : Value} (a0 : PySem.W.nsIn K mainGlobals "_law_cell_at" = some (some (.ref f0))) (l0 : K.lookup f0 = some ⟨oc0, od0, .func (PySem.W.fnOf "_law_cell_at" "_law_cell_at" (defArgs s_cell_at) (defBody s_cell_at) (defScope s_cell_at) .none kV0 dc0 pm0 an0 cd0 ct0), sl0⟩) (c0 : PySem.W.codeIn K cd0 "_law_cell_at" = true) (k0 : PySem.W.keepIn K (.ref f0) = true)
    {f1 : Addr} {od1 an1 : Option Addr} {sl1 : Array (Option Value)} {oc1 kV1 dc1 pm1 cd1 ct1 : Value} (a1 : PySem.W.nsIn K mainGlobals "_law_amount" = some (some (.ref f1))) (l1 : K.lookup f1 = some ⟨oc1, od1, .func (PySem.W.fnOf "_law_amount" "_law_amount" (defArgs s_amount) (defBody s_amount) (defScope s_amount) .none kV1 dc1 pm1 an1 cd1 ct1), sl1⟩) (c1 : PySem.W.codeIn K cd1 "_law_amount" = true) (k1 : PySem.W.keepIn K (.ref f1) = true)
    {f2 : Addr} {od2 an2 : Option Addr} {sl2 : Array (Option Value)} {oc2 kV2 dc2 pm2 cd2 ct2 : Value} (a2 : PySem.W.nsIn K mainGlobals "_law_last" = some (some (.ref f2))) (l2 : K.lookup f2 = some ⟨oc2, od2, .func (PySem.W.fnOf "_law_last" "_law_last" (defArgs s_last) (defBody s_last) (defScope s_last) .none kV2 dc2 pm2 an2 cd2 ct2), sl2⟩) (c2 : PySem.W.codeIn K cd2 "_law_last" = true) (k2 : PySem.W.keepIn K (.ref f2) = true)
    {f3 : Addr} {od3 an3 : Option Addr} {sl3 : Array (Option Value)} {oc3 kV3 dc3 pm3 cd3 ct3 : Value} (a3 : PySem.W.nsIn K mainGlobals "_law_mix" = some (some (.ref f3))) (l3 : K.lookup f3 = some ⟨oc3, od3, .func (PySem.W.fnOf "_law_mix" "_law_mix" (defArgs s_mix) (defBody s_mix) (defScope s_mix) .none kV3 dc3 pm3 an3 cd3 ct3), sl3⟩) (c3 : PySem.W.codeIn K cd3 "_law_mix" = true) (k3 : PySem.W.keepIn K (.ref f3) = true)
    {f4 : Addr} {od4 an4 : Option Addr} {sl4 : Array (Option Value)} {oc4 kV4 dc4 pm4 cd4 ct4 : Value} (a4 : PySem.W.nsIn K mainGlobals "_law_name_by" = some (some (.ref f4))) (l4 : K.lookup f4 = some ⟨oc4, od4, .func (PySem.W.fnOf "_law_name_by" "_law_name_by" (defArgs s_name_by) (defBody s_name_by) (defScope s_name_by) .none kV4 dc4 pm4 an4 cd4 ct4), sl4⟩) (c4 : PySem.W.codeIn K cd4 "_law_name_by" = true) (k4 : PySem.W.keepIn K (.ref f4) = true)
    {f5 : Addr} {od5 an5 : Option Addr} {sl5 : Array (Option Value)} {oc5 kV5 dc5 pm5 cd5 ct5 : Value} (a5 : PySem.W.nsIn K mainGlobals "_law_larder" = some (some (.ref f5))) (l5 : K.lookup f5 = some ⟨oc5, od5, .func (PySem.W.fnOf "_law_larder" "_law_larder" (defArgs s_larder) (defBody s_larder) (defScope s_larder) .none kV5 dc5 pm5 an5 cd5 ct5), sl5⟩) (c5 : PySem.W.codeIn K cd5 "_law_larder" = true) (k5 : PySem.W.keepIn K (.ref f5) = true)
    {f6 : Addr} {od6 an6 : Option Addr} {sl6 : Array (Option Value)} {oc6 kV6 dc6 pm6 cd6 ct6 : Value} (a6 : PySem.W.nsIn K mainGlobals "_law_many" = some (some (.ref f6))) (l6 : K.lookup f6 = some ⟨oc6, od6, .func (PySem.W.fnOf "_law_many" "_law_many" (defArgs s_many) (defBody s_many) (defScope s_many) .none kV6 dc6 pm6 an6 cd6 ct6), sl6⟩) (c6 : PySem.W.codeIn K cd6 "_law_many" = true) (k6 : PySem.W.keepIn K (.ref f6) = true)
    {f7 : Addr} {od7 an7 : Option Addr} {sl7 : Array (Option Value)} {oc7 kV7 dc7 pm7 cd7 ct7 : Value} (a7 : PySem.W.nsIn K mainGlobals "_law_mixed" = some (some (.ref f7))) (l7 : K.lookup f7 = some ⟨oc7, od7, .func (PySem.W.fnOf "_law_mixed" "_law_mixed" (defArgs s_mixed) (defBody s_mixed) (defScope s_mixed) .none kV7 dc7 pm7 an7 cd7 ct7), sl7⟩) (c7 : PySem.W.codeIn K cd7 "_law_mixed" = true) (k7 : PySem.W.keepIn K (.ref f7) = true)
    {f8 : Addr} {od8 an8 : Option Addr} {sl8 : Array (Option Value)} {oc8 kV8 dc8 pm8 cd8 ct8 : Value} (a8 : PySem.W.nsIn K mainGlobals "_law_names" = some (some (.ref f8))) (l8 : K.lookup f8 = some ⟨oc8, od8, .func (PySem.W.fnOf "_law_names" "_law_names" (defArgs s_names) (defBody s_names) (defScope s_names) .none kV8 dc8 pm8 an8 cd8 ct8), sl8⟩) (c8 : PySem.W.codeIn K cd8 "_law_names" = true) (k8 : PySem.W.keepIn K (.ref f8) = true)
    {f9 : Addr} {od9 an9 : Option Addr} {sl9 : Array (Option Value)} {oc9 kV9 dc9 pm9 cd9 ct9 : Value} (a9 : PySem.W.nsIn K mainGlobals "_law_price" = some (some (.ref f9))) (l9 : K.lookup f9 = some ⟨oc9, od9, .func (PySem.W.fnOf "_law_price" "_law_price" (defArgs s_price) (defBody s_price) (defScope s_price) .none kV9 dc9 pm9 an9 cd9 ct9), sl9⟩) (c9 : PySem.W.codeIn K cd9 "_law_price" = true) (k9 : PySem.W.keepIn K (.ref f9) = true)
    {f10 : Addr} {od10 an10 : Option Addr} {sl10 : Array (Option Value)} {oc10 kV10 dc10 pm10 cd10 ct10 : Value} (a10 : PySem.W.nsIn K mainGlobals "_law_packs" = some (some (.ref f10))) (l10 : K.lookup f10 = some ⟨oc10, od10, .func (PySem.W.fnOf "_law_packs" "_law_packs" (defArgs s_packs) (defBody s_packs) (defScope s_packs) .none kV10 dc10 pm10 an10 cd10 ct10), sl10⟩) (c10 : PySem.W.codeIn K cd10 "_law_packs" = true) (k10 : PySem.W.keepIn K (.ref f10) = true)
    {f11 : Addr} {od11 an11 : Option Addr} {sl11 : Array (Option Value)} {oc11 kV11 dc11 pm11 cd11 ct11 : Value} (a11 : PySem.W.nsIn K mainGlobals "_law_whole" = some (some (.ref f11))) (l11 : K.lookup f11 = some ⟨oc11, od11, .func (PySem.W.fnOf "_law_whole" "_law_whole" (defArgs s_whole) (defBody s_whole) (defScope s_whole) .none kV11 dc11 pm11 an11 cd11 ct11), sl11⟩) (c11 : PySem.W.codeIn K cd11 "_law_whole" = true) (k11 : PySem.W.keepIn K (.ref f11) = true)
    {f12 : Addr} {od12 an12 : Option Addr} {sl12 : Array (Option Value)} {oc12 kV12 dc12 pm12 cd12 ct12 : Value} (a12 : PySem.W.nsIn K mainGlobals "offers_of" = some (some (.ref f12))) (l12 : K.lookup f12 = some ⟨oc12, od12, .func (PySem.W.fnOf "offers_of" "offers_of" (defArgs s_offers_of) (defBody s_offers_of) (defScope s_offers_of) .none kV12 dc12 pm12 an12 cd12 ct12), sl12⟩) (c12 : PySem.W.codeIn K cd12 "offers_of" = true) (k12 : PySem.W.keepIn K (.ref f12) = true)
    {f13 : Addr} {od13 an13 : Option Addr} {sl13 : Array (Option Value)} {oc13 kV13 dc13 pm13 cd13 ct13 : Value} (a13 : PySem.W.nsIn K mainGlobals "price_of" = some (some (.ref f13))) (l13 : K.lookup f13 = some ⟨oc13, od13, .func (PySem.W.fnOf "price_of" "price_of" (defArgs s_price_of) (defBody s_price_of) (defScope s_price_of) .none kV13 dc13 pm13 an13 cd13 ct13), sl13⟩) (c13 : PySem.W.codeIn K cd13 "price_of" = true) (k13 : PySem.W.keepIn K (.ref f13) = true)
    {f14 : Addr} {od14 an14 : Option Addr} {sl14 : Array (Option Value)} {oc14 kV14 dc14 pm14 cd14 ct14 : Value} (a14 : PySem.W.nsIn K mainGlobals "total" = some (some (.ref f14))) (l14 : K.lookup f14 = some ⟨oc14, od14, .func (PySem.W.fnOf "total" "total" (defArgs s_total) (defBody s_total) (defScope s_total) .none kV14 dc14 pm14 an14 cd14 ct14), sl14⟩) (c14 : PySem.W.codeIn K cd14 "total" = true) (k14 : PySem.W.keepIn K (.ref f14) = true)
    {f15 : Addr} {od15 an15 : Option Addr} {sl15 : Array (Option Value)} {oc15 kV15 dc15 pm15 cd15 ct15 : Value} (a15 : PySem.W.nsIn K mainGlobals "listed" = some (some (.ref f15))) (l15 : K.lookup f15 = some ⟨oc15, od15, .func (PySem.W.fnOf "listed" "listed" (defArgs s_listed) (defBody s_listed) (defScope s_listed) .none kV15 dc15 pm15 an15 cd15 ct15), sl15⟩) (c15 : PySem.W.codeIn K cd15 "listed" = true) (k15 : PySem.W.keepIn K (.ref f15) = true)
    {f16 : Addr} {od16 an16 : Option Addr} {sl16 : Array (Option Value)} {oc16 kV16 dc16 pm16 cd16 ct16 : Value} (a16 : PySem.W.nsIn K mainGlobals "stocked" = some (some (.ref f16))) (l16 : K.lookup f16 = some ⟨oc16, od16, .func (PySem.W.fnOf "stocked" "stocked" (defArgs s_stocked) (defBody s_stocked) (defScope s_stocked) .none kV16 dc16 pm16 an16 cd16 ct16), sl16⟩) (c16 : PySem.W.codeIn K cd16 "stocked" = true) (k16 : PySem.W.keepIn K (.ref f16) = true)
    {f17 : Addr} {od17 an17 : Option Addr} {sl17 : Array (Option Value)} {oc17 kV17 dc17 pm17 cd17 ct17 : Value} (a17 : PySem.W.nsIn K mainGlobals "law" = some (some (.ref f17))) (l17 : K.lookup f17 = some ⟨oc17, od17, .func (PySem.W.fnOf "law" "law" (defArgs s_law) (defBody s_law) (defScope s_law) .none kV17 dc17 pm17 an17 cd17 ct17), sl17⟩) (c17 : PySem.W.codeIn K cd17 "law" = true) (k17 : PySem.W.keepIn K (.ref f17) = true)
    (z0 : PySem.W.nsIn K mainGlobals "bool" = some none)
    (z1 : PySem.W.nsIn K mainGlobals "int" = some none)
    (z2 : PySem.W.nsIn K mainGlobals "isinstance" = some none)
    (z3 : PySem.W.nsIn K mainGlobals "len" = some none)
    (z4 : PySem.W.nsIn K mainGlobals "min" = some none)
    (z5 : PySem.W.nsIn K mainGlobals "range" = some none)
    (z6 : PySem.W.nsIn K mainGlobals "str" = some none)
    (z7 : PySem.W.nsIn K mainGlobals "sum" = some none)
    (z8 : PySem.W.nsIn K mainGlobals "tuple" = some none)
    (z9 : PySem.W.nsIn K mainGlobals "zip" = some none) :
    ∃ fd : FuncData, (∀ (s : Shared) (v : Value), BindsTo s fd ⟨[v], []⟩ [("_law_script", v)]) ∧ ∀ base : Heap, K.In base → base.Ns mainGlobals mg → FnOk l.prog w K mg base CX0 4 fa fd ["_law_script"] (spLaw K) := by
  have e := hfa.symm.trans (PySem.W.mg_of X G a17)
  cases e
  have F_cell_at := fun_mk (st := s_cell_at) l0 c0 k0
  have D_cell_at : DefAt K mg "_law_cell_at" s_cell_at := ⟨f0, _, F_cell_at, PySem.W.mg_of X G a0⟩
  have F_amount := fun_mk (st := s_amount) l1 c1 k1
  have D_amount : DefAt K mg "_law_amount" s_amount := ⟨f1, _, F_amount, PySem.W.mg_of X G a1⟩
  have F_last := fun_mk (st := s_last) l2 c2 k2
  have D_last : DefAt K mg "_law_last" s_last := ⟨f2, _, F_last, PySem.W.mg_of X G a2⟩
  have F_mix := fun_mk (st := s_mix) l3 c3 k3
  have D_mix : DefAt K mg "_law_mix" s_mix := ⟨f3, _, F_mix, PySem.W.mg_of X G a3⟩
  have F_name_by := fun_mk (st := s_name_by) l4 c4 k4
  have D_name_by : DefAt K mg "_law_name_by" s_name_by := ⟨f4, _, F_name_by, PySem.W.mg_of X G a4⟩
  have F_larder := fun_mk (st := s_larder) l5 c5 k5
  have D_larder : DefAt K mg "_law_larder" s_larder := ⟨f5, _, F_larder, PySem.W.mg_of X G a5⟩
  have F_many := fun_mk (st := s_many) l6 c6 k6
  have D_many : DefAt K mg "_law_many" s_many := ⟨f6, _, F_many, PySem.W.mg_of X G a6⟩
  have F_mixed := fun_mk (st := s_mixed) l7 c7 k7
  have D_mixed : DefAt K mg "_law_mixed" s_mixed := ⟨f7, _, F_mixed, PySem.W.mg_of X G a7⟩
  have F_names := fun_mk (st := s_names) l8 c8 k8
  have D_names : DefAt K mg "_law_names" s_names := ⟨f8, _, F_names, PySem.W.mg_of X G a8⟩
  have F_price := fun_mk (st := s_price) l9 c9 k9
  have D_price : DefAt K mg "_law_price" s_price := ⟨f9, _, F_price, PySem.W.mg_of X G a9⟩
  have F_packs := fun_mk (st := s_packs) l10 c10 k10
  have D_packs : DefAt K mg "_law_packs" s_packs := ⟨f10, _, F_packs, PySem.W.mg_of X G a10⟩
  have F_whole := fun_mk (st := s_whole) l11 c11 k11
  have D_whole : DefAt K mg "_law_whole" s_whole := ⟨f11, _, F_whole, PySem.W.mg_of X G a11⟩
  have F_offers_of := fun_mk (st := s_offers_of) l12 c12 k12
  have D_offers_of : DefAt K mg "offers_of" s_offers_of := ⟨f12, _, F_offers_of, PySem.W.mg_of X G a12⟩
  have F_price_of := fun_mk (st := s_price_of) l13 c13 k13
  have D_price_of : DefAt K mg "price_of" s_price_of := ⟨f13, _, F_price_of, PySem.W.mg_of X G a13⟩
  have F_total := fun_mk (st := s_total) l14 c14 k14
  have D_total : DefAt K mg "total" s_total := ⟨f14, _, F_total, PySem.W.mg_of X G a14⟩
  have F_listed := fun_mk (st := s_listed) l15 c15 k15
  have D_listed : DefAt K mg "listed" s_listed := ⟨f15, _, F_listed, PySem.W.mg_of X G a15⟩
  have F_stocked := fun_mk (st := s_stocked) l16 c16 k16
  have D_stocked : DefAt K mg "stocked" s_stocked := ⟨f16, _, F_stocked, PySem.W.mg_of X G a16⟩
  have F_law := fun_mk (st := s_law) l17 c17 k17
  have m_bool := PySem.W.mg_none_of X G z0
  have m_int := PySem.W.mg_none_of X G z1
  have m_isinstance := PySem.W.mg_none_of X G z2
  have m_len := PySem.W.mg_none_of X G z3
  have m_min := PySem.W.mg_none_of X G z4
  have m_range := PySem.W.mg_none_of X G z5
  have m_str := PySem.W.mg_none_of X G z6
  have m_sum := PySem.W.mg_none_of X G z7
  have m_tuple := PySem.W.mg_none_of X G z8
  have m_zip := PySem.W.mg_none_of X G z9
  refine ⟨PySem.W.fnOf "law" "law" (defArgs s_law) (defBody s_law) (defScope s_law) .none kV17 dc17 pm17 an17 cd17 ct17, fun s v => .of_eq rfl, fun base _ _ => ?_⟩
  have C_cell_at := ok_cell_at (P := l.prog) (w := w) (base := base) D_cell_at m_len
  have C_amount := ok_amount (P := l.prog) (w := w) (base := base) D_amount
  have C_last := ok_last (P := l.prog) (w := w) (base := base) D_last
  have C_mix := ok_mix (P := l.prog) (w := w) (base := base) D_mix
  have C_name_by := ok_name_by (P := l.prog) (w := w) (base := base) D_name_by m_len m_min m_range
  have C_larder := ok_larder (P := l.prog) (w := w) (base := base) D_larder m_range m_tuple C_mix C_cell_at C_amount C_last C_name_by
  have C_many := ok_many (P := l.prog) (w := w) (base := base) D_many
  have C_mixed := ok_mixed (P := l.prog) (w := w) (base := base) D_mixed
  have C_names := ok_names (P := l.prog) (w := w) (base := base) D_names C_cell_at
  have C_price := ok_price (P := l.prog) (w := w) (base := base) D_price
  have C_packs := ok_packs (P := l.prog) (w := w) (base := base) D_packs m_range m_tuple C_mix C_cell_at C_amount C_last C_price C_name_by
  have C_whole := ok_whole (P := l.prog) (w := w) (base := base) D_whole m_isinstance m_int m_bool
  have C_offers_of := ok_offers_of (P := l.prog) (w := w) (base := base) D_offers_of m_tuple
  have C_price_of := ok_price_of (P := l.prog) (w := w) (base := base) D_price_of m_sum m_zip
  have C_total := ok_total (P := l.prog) (w := w) (base := base) D_total C_price_of C_offers_of
  have C_listed := ok_listed (P := l.prog) (w := w) (base := base) D_listed m_zip C_total
  have C_stocked := ok_stocked (P := l.prog) (w := w) (base := base) D_stocked m_zip m_tuple
  exact ok_law F_law m_range m_len m_int m_str m_tuple m_isinstance C_mixed C_names C_cell_at C_larder C_packs C_many C_mix C_total C_whole C_stocked C_listed
end Lar
open PySem PySem.W PyProof.Rows
set_option maxHeartbeats 0 in
theorem PySem.Challenge.cw_larderlist_k14_listed_holds : PySem.Challenge.rw_larderlist_k14_listed.Holds := by
  w_on; o_law; k_head; (case hw => w_witness2)
  k_fill
  refine L2.walk_of (l := PySem.Challenge.rw_larderlist_k14_listed) (n := 63) (k := 4) (x := "_law_script") (CX := fun _ => L2.CX0) (sp := fun w => Lar.spLaw _) rfl (by decide) rfl ⟨rfl, by decide, by decide⟩ (fun w h Y => PySem.W.kIn_of Y) ?F (fun _ _ a ns hl _ hS => ⟨a, ns, rfl, hS, hl, fun _ => rfl⟩) (fun _ _ _ _ _ h => h)
  case F =>
    intro w mg fa h KX G hmg
    refine' Lar.all_mk KX G hmg ?a0 ?l0 ?c0 ?k0 ?a1 ?l1 ?c1 ?k1 ?a2 ?l2 ?c2 ?k2 ?a3 ?l3 ?c3 ?k3 ?a4 ?l4 ?c4 ?k4 ?a5 ?l5 ?c5 ?k5 ?a6 ?l6 ?c6 ?k6 ?a7 ?l7 ?c7 ?k7 ?a8 ?l8 ?c8 ?k8 ?a9 ?l9 ?c9 ?k9 ?a10 ?l10 ?c10 ?k10 ?a11 ?l11 ?c11 ?k11 ?a12 ?l12 ?c12 ?k12 ?a13 ?l13 ?c13 ?k13 ?a14 ?l14 ?c14 ?k14 ?a15 ?l15 ?c15 ?k15 ?a16 ?l16 ?c16 ?k16 ?a17 ?l17 ?c17 ?k17 ?z0 ?z1 ?z2 ?z3 ?z4 ?z5 ?z6 ?z7 ?z8 ?z9
    (case a0 => k_is); (case l0 => k_is); (case c0 => k_is); (case k0 => k_is); (case a1 => k_is); (case l1 => k_is); (case c1 => k_is); (case k1 => k_is); (case a2 => k_is); (case l2 => k_is); (case c2 => k_is); (case k2 => k_is); (case a3 => k_is); (case l3 => k_is); (case c3 => k_is); (case k3 => k_is); (case a4 => k_is); (case l4 => k_is); (case c4 => k_is); (case k4 => k_is); (case a5 => k_is); (case l5 => k_is); (case c5 => k_is); (case k5 => k_is); (case a6 => k_is); (case l6 => k_is); (case c6 => k_is); (case k6 => k_is); (case a7 => k_is); (case l7 => k_is); (case c7 => k_is); (case k7 => k_is); (case a8 => k_is); (case l8 => k_is); (case c8 => k_is); (case k8 => k_is); (case a9 => k_is); (case l9 => k_is); (case c9 => k_is); (case k9 => k_is); (case a10 => k_is); (case l10 => k_is); (case c10 => k_is); (case k10 => k_is); (case a11 => k_is); (case l11 => k_is); (case c11 => k_is); (case k11 => k_is); (case a12 => k_is); (case l12 => k_is); (case c12 => k_is); (case k12 => k_is); (case a13 => k_is); (case l13 => k_is); (case c13 => k_is); (case k13 => k_is); (case a14 => k_is); (case l14 => k_is); (case c14 => k_is); (case k14 => k_is); (case a15 => k_is); (case l15 => k_is); (case c15 => k_is); (case k15 => k_is); (case a16 => k_is); (case l16 => k_is); (case c16 => k_is); (case k16 => k_is); (case a17 => k_is); (case l17 => k_is); (case c17 => k_is); (case k17 => k_is); (case z0 => k_is); (case z1 => k_is); (case z2 => k_is); (case z3 => k_is); (case z4 => k_is); (case z5 => k_is); (case z6 => k_is); (case z7 => k_is); (case z8 => k_is); (case z9 => k_is)
