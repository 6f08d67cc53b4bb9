import PyProof.Rows.All
import Wide.All
import OpenK.AllK
import Wide.FinOn
import HandS.ForMost
import HandS.IsInst
import HandS.Zip
import HandS.TupAny
import HandS.Walk
import HandS.More
import HandS.Codes
import KE.KTupSum
import HandS.TupMul
import HandS.Style
import KE.GoesEnumKw
import HandS.TupSets
import HandS.WordsDict
import PySem.Challenge.RW_larderlist_k09_ends
set_option Elab.async false
set_option linter.all false
set_option maxRecDepth 100000
set_option maxHeartbeats 4000000
namespace Lar
open PySem PySem.Spec PyProof.Rows L2

/-! ### defs of the text, as they are called -/
structure DefAt (K : PySem.W.Frag) (mg : Str → Option Value) (x : Str) (st : Stmt) : Prop where
  ex : ∃ f fd, Fun K x x st f fd ∧ mg x = some (.ref f)
structure Clb (P : Program) (w : World) (K : PySem.W.Frag) (mg : Str → Option Value) (base : Heap) (k : Nat) (x : Str) (ps : List Str) (sp : Sp) : Prop where
  ex : ∃ f fd, FnOk P w K mg base CX0 k f fd ps sp ∧ mg x = some (.ref f) ∧ PySem.W.keepIn K (.ref f) = true ∧ Binds K fd ps []
theorem DefAt.clb {P : Program} {w : World} {K : PySem.W.Frag} {mg : Str → Option Value} {base : Heap} {x : Str} {st : Stmt} {N ps : List Str} {k : Nat} {sp : Sp} (D : DefAt K mg x st)
    (S : FnScope N ps (defScope st)) (len : ∀ vs H Q E, sp vs H Q E → vs.length = ps.length)
    (hb : ∀ (kV doc pm : Value) (an : Option Addr) (cdv ct : Value) (us : List Value), us.length = ps.length → bindArgs (PySem.W.fnOf x x (defArgs st) (defBody st) (defScope st) .none kV doc pm an cdv ct) ⟨us, []⟩ = pure (ps.zip us))
    (hbody : ∀ (f : Addr) (cdv : Value) (A : Around) (outer : List Env) (s : Shared) (H : Hp) (vs : List V) (Q : VK) (E : XK), Room k (A.deeper (envOfC x (defScope st) s.heap.objs.size f cdv)) → sp vs H Q E →
      ∃ t, PSs (cxOf CX0 P w K mg base N x (defScope st) f cdv A outer s H E).nox (defBody st) t ∧ t { nx := fun _ H' => Q .non H', rt := Q } (start N vs) H) : Clb P w K mg base (k + 1) x ps sp := by
  obtain ⟨f, fd, F, hm⟩ := D.ex
  exact ⟨f, fd, F.ok S len (fun cdv A outer s H vs Q E hr h => hbody f cdv A outer s H vs Q E hr h), hm, F.kp, F.binds hb⟩
theorem pe_cal {X : Cx} {k : Nat} {x : Str} {ps : List Str} {sp : Sp} {e : Expr} {es : List Expr} {t : TA} {p pos : Pos} (C : Clb X.prog X.w X.K X.mg X.base k x ps sp) (hr : Room k X.A) (ha : PA X (e :: es) t) (hg : Gl X x := by rfl)
    (hdb : (x == ("__debug__" : Str)) = false := by decide) (he : starEach (e :: es) X.env = (false, eval e X.env) :: starEach es X.env := by rfl) (hpl : (backTo pos (starEach es X.env)).any (·.1) = false := by rfl) :
    PE X (.Call (.Name x p) (e :: es) [] pos) (tCall sp [] E0 t) := by
  obtain ⟨f, fd, F, hm, hk, hb⟩ := C.ex
  exact pe_call F hr hg hm hk hb .nil pass0 ha hdb he hpl

/-! ### heaps -/
theorem same_upd {H : Hp} {p : Addr} {o : HO} (h : H p = none) : Same H (upd H p o) := fun b x e => by
  rw [upd_ne (ne_of_none e h)]
  exact e
theorem _root_.L2.Same.new {H H' : Hp} {p : Addr} {o : HO} (e : Same H H') (h : H' p = none) : Same H (upd H' p o) := e.trans (same_upd h)
/-- what H did not know may change -/
theorem _root_.L2.Same.mut {H H' : Hp} {p : Addr} {o : HO} (e : Same H H') (h : H p = none) : Same H (upd H' p o) := fun a u ha => by
  rw [upd_ne (ne_of_none ha h)]
  exact e a u ha
theorem _root_.L2.Same.seqT {K : PySem.W.Frag} {H H' : Hp} {a : Addr} {xs : List V} (e : Same H H') (h : SqT K H a xs) : SqT K H' a xs := by
  rcases h with (h | ⟨o, h⟩) | h
  · exact .inl (.inl (e _ _ h))
  · exact .inl (.inr ⟨o, e _ _ h⟩)
  · exact .inr h
theorem sqL {K : PySem.W.Frag} {H : Hp} {a : Addr} {xs : List V} (h : H a = some (.lst xs)) : SqL K H a xs := .inl (.inl h)
theorem sqT {K : PySem.W.Frag} {H : Hp} {a : Addr} {xs : List V} (h : H a = some (.tup xs)) : SqT K H a xs := .inl (.inl h)
theorem small {n : Nat} (h : n ≤ 100000) : n ≤ sizeLine := Nat.le_trans h (by decide)
theorem small' {n : Nat} (h : n < 100000) : n < sizeLine := Nat.lt_of_lt_of_le h (by decide)
theorem map_ix {α : Type} {f : α → V} {xs : List α} {i : Nat} {v : V} (h : (xs.map f)[i]? = some v) : ∃ x, xs[i]? = some x ∧ v = f x := by
  rw [List.getElem?_map] at h
  cases e : xs[i]? with
  | none => rw [e] at h; cases h
  | some x => rw [e] at h; exact ⟨x, rfl, (Option.some.inj h).symm⟩
theorem ix_map {α : Type} {f : α → V} {xs : List α} {i : Nat} {x : α} (h : xs[i]? = some x) : (xs.map f)[i]? = some (f x) := by
  rw [List.getElem?_map, h]; rfl
theorem take_succ' {α : Type} {xs : List α} {i : Nat} {x : α} (h : xs[i]? = some x) : xs.take (i + 1) = xs.take i ++ [x] := by
  rw [List.take_add_one, h]; rfl

/-! ### tests -/
section
variable {A B : Prop} {i j : Int} {x y : Str}
theorem it_lt (h1 : i < j → A) (h2 : ¬ i < j → B) : if decide (i < j) = true then A else B := ite2 (fun h => h1 (of_decide_eq_true h)) (fun h => h2 fun z => h (decide_eq_true z))
theorem it_le (h1 : i ≤ j → A) (h2 : ¬ i ≤ j → B) : if decide (i ≤ j) = true then A else B := ite2 (fun h => h1 (of_decide_eq_true h)) (fun h => h2 fun z => h (decide_eq_true z))
theorem it_eqI (h1 : i = j → A) (h2 : ¬ i = j → B) : if decide (V.int i = V.int j) = true then A else B := ite2 (fun h => h1 (V.int.inj (of_decide_eq_true h))) (fun h => h2 fun z => h (decide_eq_true (congrArg V.int z)))
theorem it_eqS (h1 : x = y → A) (h2 : ¬ x = y → B) : if decide (V.str x = V.str y) = true then A else B := ite2 (fun h => h1 (V.str.inj (of_decide_eq_true h))) (fun h => h2 fun z => h (decide_eq_true (congrArg V.str z)))
theorem it_neI (h1 : ¬ i = j → A) (h2 : i = j → B) : if (!decide (V.int i = V.int j)) = true then A else B := by
  by_cases e : i = j
  · subst e
    rw [decide_eq_true rfl]
    exact iteF (h2 rfl)
  · rw [decide_eq_false (fun z => e (V.int.inj z))]
    exact iteT (h1 e)
end
/-! ### the rules that speak of the written part, with it said -/
section
variable {X : Cx} {K : PySem.W.Frag}
theorem kpg_tup (K : PySem.W.Frag) {es : List Expr} {k : Nat} {t : TGs} {n : Nat} {pos : Pos} (hc : X.calm = true) (h : PGs X es t) (hK : X.K = K := by rfl) (hn : (assignEach es X.env).length = n := by rfl) (hst : (assignEach es X.env).findIdx? (·.1) = none := by rfl) :
    PG X (.Tuple es k pos) (gTup K n t) := by subst hK; exact pg_tup hc h hn hst
theorem kpi_list (K : PySem.W.Frag) {tg l : Expr} {tl : TE} (h : PE X l tl) (hK : X.K = K := by rfl) : PI X tg l (iList K tl) := by subst hK; exact pi_list h
theorem kpi_tup (K : PySem.W.Frag) {tg l : Expr} {tl : TE} (h : PE X l tl) (hK : X.K = K := by rfl) : PI X tg l (iTup K tl) := by subst hK; exact pi_tup h
theorem kix_list (K : PySem.W.Frag) (hK : X.K = K := by rfl) : IxR X (rIxL K) := by subst hK; exact ix_list
theorem kix_tup (K : PySem.W.Frag) (hK : X.K = K := by rfl) : IxR X (rIxT K) := by subst hK; exact ix_tup
theorem ksl_list (K : PySem.W.Frag) (hK : X.K = K := by rfl) : SlR X (rSlL K) := by subst hK; exact sl_list
theorem ksl_tupA (K : PySem.W.Frag) (hK : X.K = K := by rfl) : SlR X (rSlA K) := by subst hK; exact sl_tupA
theorem kcall_len_seq (K : PySem.W.Frag) (hK : X.K = K := by rfl) : CallR X (.builtin "len") (fun xs H Q => ∃ p ys, xs = [.ref p] ∧ (SqL K H p ys ∨ SqT K H p ys) ∧ Q (.int ys.length) H) := by subst hK; exact call_len_seq
theorem kcr_sum (K : PySem.W.Frag) (hc : X.calm = true) (hK : X.K = K := by rfl) : CallR X (.builtin "sum") (rSum K) := by subst hK; exact cr_sum hc
theorem kcr_max (K : PySem.W.Frag) (hc : X.calm = true) (hK : X.K = K := by rfl) : CallR X (.builtin "max") (rMax K) := by subst hK; exact cr_max hc
theorem kcr_min (K : PySem.W.Frag) (hc : X.calm = true) (hK : X.K = K := by rfl) : CallR X (.builtin "min") (rMin K) := by subst hK; exact cr_min hc
theorem kcall_tuple_of (K : PySem.W.Frag) (hK : X.K = K := by rfl) : CallR X (.type "tuple") (fun xs H Q => ∃ p ys, xs = [.ref p] ∧ ((SqL K H p ys ∧ ∀ l, H l = none → Q (.ref l) (upd H l (.tup ys))) ∨ (SqT K H p ys ∧ Q (.ref p) H))) := by subst hK; exact call_tuple_of
theorem kcall_list_of (K : PySem.W.Frag) (hK : X.K = K := by rfl) : CallR X (.type "list") (fun xs H Q => ∃ p ys, xs = [.ref p] ∧ (SqL K H p ys ∨ SqT K H p ys) ∧ ∀ l, H l = none → Q (.ref l) (upd H l (.lst ys))) := by subst hK; exact call_list_of
theorem kcall_isi (K : PySem.W.Frag) (hK : X.K = K := by rfl) : CallR X (.builtin "isinstance") (rIsi K) := by subst hK; exact call_isi
theorem kop_eqD (K : PySem.W.Frag) (hu : X.A.units + 64 < cLine) (hK : X.K = K := by rfl) : OpR X (compareOp .Eq) (rEqD K) := by subst hK; exact op_eqD hu
theorem kop_neD (K : PySem.W.Frag) (hu : X.A.units + 64 < cLine) (hK : X.K = K := by rfl) : OpR X (compareOp .NotEq) (rNeD K) := by subst hK; exact op_neD hu
theorem kop_catA (K : PySem.W.Frag) (hK : X.K = K := by rfl) : OpR X (binaryOp .Add) (rCatA K) := by subst hK; exact op_catA
theorem kpi_zipA (K : PySem.W.Frag) {e e2 : Expr} {ta : TA} {p pos tpos : Pos} {elts : List Expr} {kk : Nat} (hg : Gl X "zip") (hm : X.mg "zip" = none) (ha : PA X [e, e2] ta) (hK : X.K = K := by rfl)
    (hs : starEach [e, e2] X.env = (false, eval e X.env) :: starEach [e2] X.env := by rfl) (hpl : (backTo pos (starEach [e2] X.env)).any (·.1) = false := by rfl) :
    PI X (.Tuple elts kk tpos) (.Call (.Name "zip" p) [e, e2] [] pos) (RZ.iZipA K ta) := by subst hK; exact RZ.pi_zipA hg hm ha hs hpl
theorem kpi_enum (K : PySem.W.Frag) {e : Expr} {ta : TA} {p pos tpos : Pos} {elts : List Expr} {kk : Nat} (hg : Gl X "enumerate") (hm : X.mg "enumerate" = none) (ha : PA X [e] ta) (hK : X.K = K := by rfl)
    (hs : starEach [e] X.env = [(false, eval e X.env)] := by rfl) :
    PI X (.Tuple elts kk tpos) (.Call (.Name "enumerate" p) [e] [] pos) (iEnum K ta) := by subst hK; exact pi_enum hg hm ha hs
theorem kpe_bm (K : PySem.W.Frag) {T name id : String} {r : V → List V → Hp → VK → Prop} {o e : Expr} {es : List Expr} {to : TE} {t : TA} {apos cpos : Pos} (pa : PlainAttrs T) (slot : Slot T name id) (hty : typeOf (.builtin id) = pure (.type "method_descriptor")) (hm : MtR X id r) (ho : PE X o to) (ha : PA X (e :: es) t) (hK : X.K = K := by rfl)
    (hbase : attributeBase o name X.env (eval o X.env) = eval o X.env := by rfl)
    (hfew : ((backTo cpos (starEach (e :: es) X.env)).all (fun x => !x.1) && (backToKw cpos (keywordEach [] X.env)).all (fun x => x.1.isSome)
      && decide ((e :: es).length + ([] : List Keyword).length + (if ([] : List Keyword).isEmpty then 0 else 1) < 30)) = true := by rfl)
    (hline : (apos.endLine == cpos.line) = true := by rfl) (hs : starEach (e :: es) X.env = (false, eval e X.env) :: starEach es X.env := by rfl) (hplain : (backTo cpos (starEach es X.env)).any (·.1) = false := by rfl) :
    PE X (.Call (.Attribute o name apos) (e :: es) [] cpos) (tBM K T r to t) := by subst hK; exact pe_bm pa slot hty hm ho ha hbase hfew hline hs hplain
end
/-! ### sum of a tuple of ints -/
section
variable {X : Cx} {K : PySem.W.Frag}
def rSumT (K : PySem.W.Frag) : List V → Hp → VK → Prop := fun vs H Q => ∃ (a : Addr) (ns : List Int), vs = [V.ref a] ∧ SqT K H a (ns.map V.int) ∧ Q (.int ns.sum) H
theorem kcr_sumT (K : PySem.W.Frag) (hc : X.calm = true) (hK : X.K = K := by rfl) : CallR X (.builtin "sum") (rSumT K) := by
  subst hK
  intro pins s σ H vs us Q I r h
  obtain ⟨a, ns, rfl, hs, q⟩ := h
  obtain ⟨its, rv, hl, _⟩ := I.tuple hs
  rw [Vals.ref1 r]
  have hi : IntsAre its ns := rv.ints
  obtain ⟨xs, e⟩ := hi.allInts.items
  have hn : numsOf (intItems xs).toList = ns := by rw [← e]; exact hi.numsOf
  rw [nums_intItems] at hn
  rw [e] at hl
  refine PySem.W.ktm_sumG (I.ok.hd hc) hl fun h' tk t' hk => ?_
  rw [preSum_eq, List.take_of_length_le (by simp), hn]
  exact ⟨.int _, H, I.kept hk, ⟨_, rfl⟩, q⟩
end
end Lar
namespace Lar
open PySem PySem.Spec PyProof.Rows L2
/-! ### the names -/
abbrev sgn : Str := "abcdefghijklmnopqrstuvwxyz"
def sg (i : Int) : Str := ⟨#[sgn.cps.toList.getD (i % 26).toNat 0]⟩
theorem sgn_len : sgn.cps.toList.length = 26 := by decide +kernel
theorem sgn_len' : sgn.length = 26 := by decide +kernel
theorem sg_at (i : Int) : atI sgn.cps.toList (i % 26) = some (sgn.cps.toList.getD (i % 26).toNat 0) := by
  have h1 := Int.emod_nonneg i (show (26 : Int) ≠ 0 by decide)
  have h2 := Int.emod_lt_of_pos i (show (0 : Int) < 26 by decide)
  have hl : (i % 26).toNat < sgn.cps.toList.length := by rw [sgn_len]; omega
  have e : sgn.cps.toList[(i % 26).toNat]? = some (sgn.cps.toList.getD (i % 26).toNat 0) := by
    rw [List.getD_eq_getElem?_getD, List.getElem?_eq_getElem hl]; rfl
  have q := atI_nat e
  rw [Int.toNat_of_nonneg h1] at q
  exact q
theorem sg_len (i : Int) : (sg i).length = 1 := rfl
def nmAt (more : Int) : Nat → Int
  | 0 => more / 7
  | t + 1 => nmAt more t + 1 + more / 182 % 25
def nmNm (more : Int) : Nat → Str
  | 0 => ""
  | t + 1 => nmNm more t ++ sg (nmAt more (t + 1))
theorem app_len (x y : Str) : (x ++ y).length = x.length + y.length := by
  show (x.cps ++ y.cps).size = x.cps.size + y.cps.size
  exact Array.size_append
theorem nmNm_len (more : Int) : ∀ t, (nmNm more t).length = t
  | 0 => rfl
  | t + 1 => by
    show (nmNm more t ++ sg _).length = t + 1
    rw [app_len, nmNm_len more t]; rfl
def words : List Str := ["total", "day", "flour", "salt", "left", "used", "short", "salts", "a", "z", "oil"]
def min6 (i : Int) : Int := if 6 < i then 6 else i
def nameBy (seed k : Int) : Str :=
  if seed % 6 = 0 ∧ k < 4 then words.getD ((seed / 6 + k) % 11).toNat ""
  else
    let more := seed / 6
    let n := (1 + more % 7).toNat
    let nm := nmNm more n
    let at' := nmAt more n
    let spot := more / 4550 % (n : Int)
    if 3 < k then cutS nm none (some (min6 spot)) ++ (sg (at' + k / 26) ++ sg k) ++ cutS nm (some (min6 spot)) (some 6)
    else if 3 < seed % 6 then sg (more / 7 + k) ++ nm
    else if k = 1 then cutS nm none (some spot) ++ sg (Txt.find sgn ⟨#[nm.cps.toList.getD spot.toNat 0]⟩ + 1) ++ cutS nm (some (spot + 1)) none
    else nm ++ [("" : Str), "", sg at', sg (at' + 1)].getD k.toNat ""
/-! ### data of tuples in the heap -/
/-- the tuples stand as they stood -/
def SameT (H H' : Hp) : Prop := ∀ b xs, H b = some (.tup xs) → H' b = some (.tup xs)
theorem SameT.refl (H : Hp) : SameT H H := fun _ _ h => h
theorem SameT.trans {H H1 H2 : Hp} (a : SameT H H1) (b : SameT H1 H2) : SameT H H2 := fun c o h => b c o (a c o h)
theorem SameT.of {H H' : Hp} (e : Same H H') : SameT H H' := fun b xs h => e b _ h
theorem SameT.lst {H : Hp} {p : Addr} {xs : List V} {o : HO} (h : H p = some (.lst xs)) : SameT H (upd H p o) := fun b ys hb => by
  rw [upd_ne (fun z => by subst z; rw [h] at hb; cases hb)]
  exact hb
theorem SameT.dict {H : Hp} {p : Addr} {kvs : List (Key × V)} {o : HO} (h : H p = some (.dK kvs)) : SameT H (upd H p o) := fun b ys hb => by
  rw [upd_ne (fun z => by subst z; rw [h] at hb; cases hb)]
  exact hb
theorem SameT.new {H : Hp} {p : Addr} {o : HO} (h : H p = none) : SameT H (upd H p o) := SameT.of (same_upd h)
section
variable {α : Type}
/-- vs tell xs, one by one -/
structure Held (R : Hp → V → α → Prop) (H : Hp) (vs : List V) (xs : List α) : Prop where
  len : vs.length = xs.length
  all : ∀ (i : Nat) (v : V) (x : α), vs[i]? = some v → xs[i]? = some x → R H v x
def MonoT (R : Hp → V → α → Prop) : Prop := ∀ H H' v x, SameT H H' → R H v x → R H' v x
theorem Held.nil {R : Hp → V → α → Prop} {H : Hp} : Held R H [] [] := ⟨rfl, fun i v x h => by simp at h⟩
theorem Held.mono {R : Hp → V → α → Prop} (m : MonoT R) {H H' : Hp} {vs : List V} {xs : List α} (e : SameT H H') (h : Held R H vs xs) : Held R H' vs xs := ⟨h.len, fun i v x a b => m _ _ _ _ e (h.all i v x a b)⟩
theorem Held.snoc {R : Hp → V → α → Prop} {H : Hp} {vs : List V} {xs : List α} {v : V} {x : α} (h : Held R H vs xs) (r : R H v x) : Held R H (vs ++ [v]) (xs ++ [x]) := by
  refine ⟨by rw [List.length_append, List.length_append, h.len]; rfl, fun i v' x' hv hx => ?_⟩
  by_cases hi : i < vs.length
  · rw [List.getElem?_append_left hi] at hv
    rw [List.getElem?_append_left (by rw [← h.len]; exact hi)] at hx
    exact h.all i _ _ hv hx
  · rw [List.getElem?_append_right (by omega)] at hv
    rw [List.getElem?_append_right (by have := h.len; omega)] at hx
    have e : i - vs.length = 0 := by
      have := (List.getElem?_eq_some_iff.mp hv).1
      simp at this
      omega
    rw [e] at hv
    rw [← h.len, e] at hx
    have e1 : v = v' := Option.some.inj hv
    have e2 : x = x' := Option.some.inj hx
    rw [← e1, ← e2]
    exact r
theorem Held.get {R : Hp → V → α → Prop} {H : Hp} {vs : List V} {xs : List α} {i : Nat} {v : V} (h : Held R H vs xs) (hv : vs[i]? = some v) : ∃ x, xs[i]? = some x ∧ R H v x := by
  have hi : i < xs.length := by rw [← h.len]; exact (List.getElem?_eq_some_iff.mp hv).1
  exact ⟨xs[i], List.getElem?_eq_getElem hi, h.all i v _ hv (List.getElem?_eq_getElem hi)⟩
/-- a tuple of things -/
def TupAll (R : Hp → V → α → Prop) (H : Hp) (v : V) (xs : List α) : Prop := ∃ t vs, v = .ref t ∧ H t = some (.tup vs) ∧ Held R H vs xs
theorem TupAll.mono {R : Hp → V → α → Prop} (m : MonoT R) : MonoT (TupAll R) := fun H H' v xs e ⟨t, vs, h1, h2, h3⟩ => ⟨t, vs, h1, e _ _ h2, h3.mono m e⟩
end
abbrev Need := Str × Int
abbrev Dish := Int × List Need
structure Batch where
  name : Str
  amount : Int
  last : Int
def NeedAt (H : Hp) (v : V) (x : Need) : Prop := ∃ t, v = .ref t ∧ H t = some (.tup [.str x.1, .int x.2])
theorem NeedAt.mono : MonoT NeedAt := fun _ _ _ _ e ⟨t, h1, h2⟩ => ⟨t, h1, e _ _ h2⟩
def DishAt (H : Hp) (v : V) (d : Dish) : Prop := ∃ t u, v = .ref t ∧ H t = some (.tup [.int d.1, u]) ∧ TupAll NeedAt H u d.2
theorem DishAt.mono : MonoT DishAt := fun _ _ _ _ e ⟨t, u, h1, h2, h3⟩ => ⟨t, u, h1, e _ _ h2, TupAll.mono NeedAt.mono _ _ _ _ e h3⟩
abbrev DishesAt : Hp → V → List Dish → Prop := TupAll DishAt
theorem DishesAt.mono : MonoT DishesAt := TupAll.mono DishAt.mono
def BatchAt (H : Hp) (v : V) (b : Batch) : Prop := ∃ t, v = .ref t ∧ H t = some (.tup [.str b.name, .int b.amount, .int b.last])
theorem BatchAt.mono : MonoT BatchAt := fun _ _ _ _ e ⟨t, h1, h2⟩ => ⟨t, h1, e _ _ h2⟩
abbrev LarderAt : Hp → V → List Batch → Prop := TupAll BatchAt
theorem LarderAt.mono : MonoT LarderAt := TupAll.mono BatchAt.mono
def NameOf (seed : Int) (x : Str) : Prop := ∃ k : Nat, k < 12 ∧ x = nameBy seed k
structure GoodDish (seed : Int) (d : Dish) : Prop where
  day1 : 1 ≤ d.1
  day7 : d.1 ≤ 7
  many : d.2.length ≤ 20
  need : ∀ x ∈ d.2, (1 ≤ x.2 ∧ x.2 ≤ 200) ∧ NameOf seed x.1
structure GoodBatch (seed : Int) (b : Batch) : Prop where
  am1 : 1 ≤ b.amount
  am2 : b.amount ≤ 200
  la1 : 1 ≤ b.last
  la2 : b.last ≤ 99
  name : NameOf seed b.name
/-! ### comprehensions, by filterMap -/
section
variable {α β γ : Type} {J : It} {n : Nat} {G : Hp → Prop} {Y : Nat → Hp → V → Hp → Prop}
theorem held_eq {f : α → V} {H : Hp} {vs : List V} {xs : List α} (h : Held (fun _ v x => v = f x) H vs xs) : vs = xs.map f := by
  apply List.ext_getElem?
  intro i
  rw [List.getElem?_map]
  cases e : vs[i]? with
  | none =>
    have : xs[i]? = none := by
      rw [List.getElem?_eq_none_iff, ← h.len]
      exact List.getElem?_eq_none_iff.mp e
    rw [this]; rfl
  | some v =>
    obtain ⟨x, hx, rx⟩ := h.get e
    rw [hx, rx]; rfl
theorem mono_eq {f : α → V} : MonoT (fun (_ : Hp) (v : V) (x : α) => v = f x) := fun _ _ _ _ _ h => h
/-- a comprehension over what walks: the new list tells (xs.filterMap f) -/
theorem lc_rel (w : Walk J n G Y) {xs : List α} (hn : xs.length = n) {f : α → Option β} {R : Hp → V → β → Prop} (mR : MonoT R) {g : TG} {tt : TT} {te : TE} {ws : List Nat} {σ : L2.St} {H1 : Hp} {D : Addr} {Qd : Hp → Prop}
    (hD : H1 D = none) (hG : ∀ H, Same H1 H → G H) (hz : n ≤ 100000)
    (hs : ∀ (i : Nat) (v : V) (x : α) (H H' : Hp) (Ky : V → Hp → Prop) (Kn : Hp → Prop), xs[i]? = some x → Same H1 H → Y i H v H' → (∀ y b H4, f x = some b → Same H H4 → R H4 y b → Ky y H4) → (∀ H3, f x = none → Same H H3 → Kn H3) →
      g v (wipe σ ws) H' fun σ2 H2 => wipe σ2 ws = wipe σ ws ∧ tt σ2 H2 fun b H3 => if b = true then te σ2 H3 Ky else Kn H3)
    (hd : ∀ H' ys, Same H1 H' → H' D = some (.lst ys) → Held R H' ys (xs.filterMap f) → Qd H') :
    ∃ W : Nat → Nat → Hp → Prop, (∃ m, W 0 m (upd H1 D (.lst []))) ∧ ∀ i m H, W i m H →
      (J.stop i H ∧ Qd H) ∨ (J.go i H ∧ ∃ Nx : Hp → Prop, (∀ H', Nx H' → ∃ m', m' < m ∧ W (i + 1) m' H') ∧ ∀ x H', J.yld i H x H' → g x (wipe σ ws) H' fun σ2 H2 => wipe σ2 ws = wipe σ ws ∧ tt σ2 H2 fun b H3 =>
        if b = true then te σ2 H3 fun y H4 => ∃ acc, H4 D = some (.lst acc) ∧ acc.length < sizeLine ∧ Nx (upd H4 D (.lst (acc ++ [y]))) else Nx H3) := by
  refine lc_it w (fun i H => Same H1 H ∧ ∃ ys, H D = some (.lst ys) ∧ Held R H ys ((xs.take i).filterMap f)) ⟨same_upd hD, [], upd_same, Held.nil⟩ (fun i H _ p => hG H p.1) (fun i v H H' hi p y => ?_) (fun H p => ?_)
  · obtain ⟨sm, ys, hDl, hh⟩ := p
    have hx : xs[i]? = some (xs[i]'(by omega)) := List.getElem?_eq_getElem (by omega)
    refine hs i v _ H H' _ _ hx sm y (fun y b H4 e s4 r => ?_) (fun H3 e s3 => ?_)
    · refine ⟨_, s4 _ _ hDl, ?_, (sm.trans s4).mut hD, ys ++ [y], upd_same, ?_⟩
      · have h1 := List.length_filterMap_le f (xs.take i)
        rw [List.length_take] at h1
        exact small' (by rw [hh.len]; omega)
      · have st := SameT.lst (o := .lst (ys ++ [y])) (s4 _ _ hDl)
        rw [take_succ' hx, List.filterMap_append]
        have e2 : List.filterMap f [xs[i]'(by omega)] = [b] := by rw [List.filterMap_cons_some e]; rfl
        rw [e2]
        exact (hh.mono mR ((SameT.of s4).trans st)).snoc (mR _ _ _ _ st r)
    · refine ⟨sm.trans s3, ys, s3 _ _ hDl, ?_⟩
      rw [take_succ' hx, List.filterMap_append]
      have e2 : List.filterMap f [xs[i]'(by omega)] = [] := by rw [List.filterMap_cons_none e]; rfl
      rw [e2, List.append_nil]
      exact hh.mono mR (SameT.of s3)
  · obtain ⟨sm, ys, hDl, hh⟩ := p
    rw [← hn, List.take_length] at hh
    exact hd H ys sm hDl hh
/-- .. of two clauses: the outer one -/
theorem lc2_out (w : Walk J n G Y) {xs : List α} (hn : xs.length = n) {F : α → List γ} {R : Hp → V → γ → Prop} {g : TG} {te : L2.St → Hp → (Hp → Prop) → Prop} {ws : List Nat} {σ : L2.St} {H1 : Hp} {D : Addr} {Qd : Hp → Prop}
    (hD : H1 D = none) (hG : ∀ H, Same H1 H → G H)
    (hs : ∀ (i : Nat) (v : V) (x : α) (H H' : Hp) (ys : List V) (Nx : Hp → Prop), xs[i]? = some x → Same H1 H → Y i H v H' → H D = some (.lst ys) → Held R H ys ((xs.take i).flatMap F) →
      (∀ H3 ys, Same H1 H3 → H3 D = some (.lst ys) → Held R H3 ys ((xs.take i).flatMap F ++ F x) → Nx H3) →
      g v (wipe σ ws) H' fun σ2 H2 => wipe σ2 ws = wipe σ ws ∧ te σ2 H2 Nx)
    (hd : ∀ H' ys, Same H1 H' → H' D = some (.lst ys) → Held R H' ys (xs.flatMap F) → Qd H') :
    ∃ W : Nat → Nat → Hp → Prop, (∃ m, W 0 m (upd H1 D (.lst []))) ∧ ∀ i m H, W i m H →
      (J.stop i H ∧ Qd H) ∨ (J.go i H ∧ ∃ Nx : Hp → Prop, (∀ H', Nx H' → ∃ m', m' < m ∧ W (i + 1) m' H') ∧ ∀ x H', J.yld i H x H' → g x (wipe σ ws) H' fun σ2 H2 => wipe σ2 ws = wipe σ ws ∧ te σ2 H2 Nx) := by
  refine ⟨fun i m H => m = n - i ∧ i ≤ n ∧ Same H1 H ∧ ∃ ys, H D = some (.lst ys) ∧ Held R H ys ((xs.take i).flatMap F), ⟨n, by simp, Nat.zero_le _, same_upd hD, [], upd_same, Held.nil⟩, ?_⟩
  rintro i m H ⟨rfl, hi, sm, ys, hDl, hh⟩
  by_cases hlt : i < n
  · refine .inr ⟨w.goes i H hlt (hG H sm), fun H' => Same H1 H' ∧ ∃ ys, H' D = some (.lst ys) ∧ Held R H' ys ((xs.take (i + 1)).flatMap F), fun H' p' => ⟨n - (i + 1), by omega, rfl, hlt, p'⟩, fun v H' y => ?_⟩
    have hx : xs[i]? = some (xs[i]'(by omega)) := List.getElem?_eq_getElem (by omega)
    refine hs i v _ H H' ys _ hx sm (w.yields i H v H' hlt (hG H sm) y) hDl hh (fun H3 ys' s3 hD3 h3 => ⟨s3, ys', hD3, ?_⟩)
    rw [take_succ' hx, List.flatMap_append]
    have e2 : List.flatMap F [xs[i]'(by omega)] = F (xs[i]'(by omega)) := by simp
    rw [e2]
    exact h3
  · have e : i = n := by omega
    subst e
    rw [← hn, List.take_length] at hh
    exact .inl ⟨w.stops H (hG H sm), hd H ys sm hDl hh⟩
/-- .. the inner one -/
theorem lc2_in (w : Walk J n G Y) {xs : List α} (hn : xs.length = n) {f : α → Option γ} {R : Hp → V → γ → Prop} (mR : MonoT R) {g : TG} {tt : TT} {te : TE} {ws : List Nat} {σ : L2.St} {H0 H1 : Hp} {D : Addr} {ys0 : List V} {zs : List γ} {Qd : Hp → Prop}
    (hD : H0 D = none) (s1 : Same H0 H1) (hD1 : H1 D = some (.lst ys0)) (h1 : Held R H1 ys0 zs) (hG : ∀ H, Same H0 H → SameT H1 H → G H) (hz : zs.length + n ≤ 100000)
    (hs : ∀ (i : Nat) (v : V) (x : α) (H H' : Hp) (Ky : V → Hp → Prop) (Kn : Hp → Prop), xs[i]? = some x → Same H0 H → SameT H1 H → Y i H v H' → (∀ y b H4, f x = some b → Same H H4 → R H4 y b → Ky y H4) → (∀ H3, f x = none → Same H H3 → Kn H3) →
      g v (wipe σ ws) H' fun σ2 H2 => wipe σ2 ws = wipe σ ws ∧ tt σ2 H2 fun b H3 => if b = true then te σ2 H3 Ky else Kn H3)
    (hd : ∀ H' ys, Same H0 H' → H' D = some (.lst ys) → Held R H' ys (zs ++ xs.filterMap f) → Qd H') :
    ∃ W : Nat → Nat → Hp → Prop, (∃ m, W 0 m H1) ∧ ∀ i m H, W i m H →
      (J.stop i H ∧ Qd H) ∨ (J.go i H ∧ ∃ Nx : Hp → Prop, (∀ H', Nx H' → ∃ m', m' < m ∧ W (i + 1) m' H') ∧ ∀ x H', J.yld i H x H' → g x (wipe σ ws) H' fun σ2 H2 => wipe σ2 ws = wipe σ ws ∧ tt σ2 H2 fun b H3 =>
        if b = true then te σ2 H3 fun y H4 => ∃ acc, H4 D = some (.lst acc) ∧ acc.length < sizeLine ∧ Nx (upd H4 D (.lst (acc ++ [y]))) else Nx H3) := by
  refine ⟨fun i m H => m = n - i ∧ i ≤ n ∧ Same H0 H ∧ SameT H1 H ∧ ∃ ys, H D = some (.lst ys) ∧ Held R H ys (zs ++ (xs.take i).filterMap f), ⟨n, by simp, Nat.zero_le _, s1, SameT.refl _, ys0, hD1, by simpa using h1⟩, ?_⟩
  rintro i m H ⟨rfl, hi, sm, st, ys, hDl, hh⟩
  by_cases hlt : i < n
  · refine .inr ⟨w.goes i H hlt (hG H sm st), fun H' => Same H0 H' ∧ SameT H1 H' ∧ ∃ ys, H' D = some (.lst ys) ∧ Held R H' ys (zs ++ (xs.take (i + 1)).filterMap f), fun H' p' => ⟨n - (i + 1), by omega, rfl, hlt, p'⟩, fun v H' y => ?_⟩
    have hx : xs[i]? = some (xs[i]'(by omega)) := List.getElem?_eq_getElem (by omega)
    refine hs i v _ H H' _ _ hx sm st (w.yields i H v H' hlt (hG H sm st) y) (fun y b H4 e s4 r => ?_) (fun H3 e s3 => ?_)
    · have su := SameT.lst (o := .lst (ys ++ [y])) (s4 _ _ hDl)
      refine ⟨_, s4 _ _ hDl, ?_, (sm.trans s4).mut hD, (st.trans (SameT.of s4)).trans su, ys ++ [y], upd_same, ?_⟩
      · have h2 := List.length_filterMap_le f (xs.take i)
        rw [List.length_take] at h2
        exact small' (by rw [hh.len, List.length_append]; omega)
      · rw [take_succ' hx, List.filterMap_append]
        have e2 : List.filterMap f [xs[i]'(by omega)] = [b] := by rw [List.filterMap_cons_some e]; rfl
        rw [e2, ← List.append_assoc]
        exact (hh.mono mR ((SameT.of s4).trans su)).snoc (mR _ _ _ _ su r)
    · refine ⟨sm.trans s3, st.trans (SameT.of s3), ys, s3 _ _ hDl, ?_⟩
      rw [take_succ' hx, List.filterMap_append]
      have e2 : List.filterMap f [xs[i]'(by omega)] = [] := by rw [List.filterMap_cons_none e]; rfl
      rw [e2, List.append_nil]
      exact hh.mono mR (SameT.of s3)
  · have e : i = n := by omega
    subst e
    rw [← hn, List.take_length] at hh
    exact .inl ⟨w.stops H (hG H sm st), hd H ys sm hDl hh⟩
end
/-- the walk over two tuples -/
theorem walk_zipT {K : PySem.W.Frag} {a b : Addr} {xs ys : List V} {n : Nat} (hn : n = min xs.length ys.length) : Walk (RZ.ItzT K a b) n (fun H => SqT K H a xs ∧ SqT K H b ys) (YPair (fun i => xs[i]?) (fun i => ys[i]?)) := by
  subst hn
  refine ⟨fun i _ hi q => ?_, fun _ q => ⟨xs, ys, q.1, q.2, by omega⟩, fun i H v H' _ q y => ?_⟩
  · have h1 : i < xs.length := by omega
    have h2 : i < ys.length := by omega
    exact ⟨xs, ys, xs[i], ys[i], q.1, q.2, by simp [h1], by simp [h2]⟩
  · obtain ⟨T, x, z, h1, h2, h3, h4, h5⟩ := y
    exact ⟨T, x, z, h1, h2, h3, h4 xs q.1, h5 ys q.2⟩
/-- the turns of a range -/
theorem range_ix {n i k : Nat} (h : (List.range n)[i]? = some k) : k = i ∧ i < n := by
  obtain ⟨h1, h2⟩ := List.getElem?_eq_some_iff.mp h
  rw [List.getElem_range] at h2
  exact ⟨h2.symm, by simpa using h1⟩
/-! ### what is needed, kept, lacking -/
def PairAt (H : Hp) (v : V) (x : Int × Int) : Prop := ∃ t, v = .ref t ∧ H t = some (.tup [.int x.1, .int x.2])
theorem PairAt.mono : MonoT PairAt := fun _ _ _ _ e ⟨t, h1, h2⟩ => ⟨t, h1, e _ _ h2⟩
def onDay (ps : List (Int × Int)) (day : Int) : Int := (ps.filterMap fun x => if x.1 = day then some x.2 else none).sum
def toDay (ps : List (Int × Int)) (day : Int) : Int := (ps.filterMap fun x => if day ≤ x.2 then some x.1 else none).sum
def pairsOf (ds : List Dish) (nm : Str) : List (Int × Int) := ds.flatMap fun d => d.2.filterMap fun x => if x.1 = nm then some (d.1, x.2) else none
def neededL (ds : List Dish) (nm : Str) : List Int := (List.range 7).map fun i => onDay (pairsOf ds nm) (1 + (i : Nat))
def fromL (xs : List Int) : List Int := (List.range 7).map fun i => (xs.drop i).sum
def keptPairs (lar : List Batch) (nm : Str) : List (Int × Int) := lar.filterMap fun b => if b.name = nm then some (b.amount, b.last) else none
def keptL (lar : List Batch) (nm : Str) : List Int := (List.range 7).map fun i => toDay (keptPairs lar nm) (1 + (i : Nat))
def mx0 (x : Int) : Int := if x > 0 then x else 0
def lackL (ds : List Dish) (lar : List Batch) (nm : Str) : List Int := (List.range 7).map fun i => mx0 ((fromL (neededL ds nm)).getD i 0 - (keptL lar nm).getD i 0)
theorem neededL_len (ds : List Dish) (nm : Str) : (neededL ds nm).length = 7 := by unfold neededL; simp
theorem fromL_len (xs : List Int) : (fromL xs).length = 7 := by unfold fromL; simp
theorem keptL_len (lar : List Batch) (nm : Str) : (keptL lar nm).length = 7 := by unfold keptL; simp
theorem lackL_len (ds : List Dish) (lar : List Batch) (nm : Str) : (lackL ds lar nm).length = 7 := by unfold lackL; simp
theorem fm_some {α β : Type} (f : α → β) (xs : List α) : xs.filterMap (fun x => some (f x)) = xs.map f := by
  induction xs with
  | nil => rfl
  | cons x r ih =>
    show f x :: List.filterMap (fun x => some (f x)) r = _
    rw [ih]; rfl
theorem pairsOf_len {n : Nat} : ∀ (ds : List Dish) (nm : Str), (∀ d ∈ ds, d.2.length ≤ n) → (pairsOf ds nm).length ≤ ds.length * n
  | [], _, _ => by simp [pairsOf]
  | d :: r, nm, h => by
    have ih := pairsOf_len r nm fun d hd => h d (List.mem_cons_of_mem _ hd)
    have h1 := List.length_filterMap_le (fun x : Need => if x.1 = nm then some (d.1, x.2) else none) d.2
    have h2 := h d List.mem_cons_self
    unfold pairsOf at ih ⊢
    rw [List.flatMap_cons, List.length_append, List.length_cons, Nat.succ_mul]
    omega
/-! ### the law's own reckoning of what lacks -/
def needOf (d : Dish) (nm : Str) : Int := (d.2.filterMap fun x => if x.1 = nm then some x.2 else none).sum
def needFrom (ds : List Dish) (nm : Str) (day : Int) : Int := (ds.map fun d => if day ≤ d.1 then needOf d nm else 0).sum
def keptTo (lar : List Batch) (nm : Str) (day : Int) : Int := (lar.map fun b => if b.name = nm ∧ day ≤ b.last then b.amount else 0).sum
def lackDay (ds : List Dish) (lar : List Batch) (nm : Str) (day : Int) : Int := mx0 (needFrom ds nm day - keptTo lar nm day)
def lackW (ds : List Dish) (lar : List Batch) (nm : Str) : List Int := (List.range 7).map fun i => lackDay ds lar nm (1 + (i : Nat))
theorem toDay_kept (nm : Str) (day : Int) : ∀ lar : List Batch, toDay (keptPairs lar nm) day = keptTo lar nm day
  | [] => rfl
  | b :: r => by
    have ih := toDay_kept nm day r
    unfold toDay keptPairs keptTo at ih ⊢
    rw [List.map_cons, List.sum_cons, ← ih]
    by_cases e : b.name = nm
    · by_cases l : day ≤ b.last
      · simp only [List.filterMap_cons, if_pos e, if_pos l, if_pos (And.intro e l), List.sum_cons]
      · simp only [List.filterMap_cons, if_pos e, if_neg l, if_neg (fun z : b.name = nm ∧ day ≤ b.last => l z.2)]
        omega
    · simp only [List.filterMap_cons, if_neg e, if_neg (fun z : b.name = nm ∧ day ≤ b.last => e z.1)]
      omega
theorem onDay_app (xs ys : List (Int × Int)) (day : Int) : onDay (xs ++ ys) day = onDay xs day + onDay ys day := by
  unfold onDay
  rw [List.filterMap_append, List.sum_append]
theorem onDay_one (k day : Int) (nm : Str) : ∀ ns : List Need, onDay (ns.filterMap fun x => if x.1 = nm then some (k, x.2) else none) day = if k = day then (ns.filterMap fun x => if x.1 = nm then some x.2 else none).sum else 0
  | [] => by unfold onDay; simp
  | x :: r => by
    have ih := onDay_one k day nm r
    unfold onDay at ih ⊢
    by_cases e : x.1 = nm
    · by_cases d : k = day
      · simp only [List.filterMap_cons, if_pos e, if_pos d, List.sum_cons] at ih ⊢
        rw [ih]
      · simp only [List.filterMap_cons, if_pos e, if_neg d] at ih ⊢
        exact ih
    · simp only [List.filterMap_cons, if_neg e]
      exact ih
theorem onDay_cons (d : Dish) (r : List Dish) (nm : Str) (day : Int) : onDay (pairsOf (d :: r) nm) day = (if d.1 = day then needOf d nm else 0) + onDay (pairsOf r nm) day := by
  unfold pairsOf
  rw [List.flatMap_cons, onDay_app, onDay_one]; rfl
theorem seven (f : Nat → Int) : (List.range 7).map f = [f 0, f 1, f 2, f 3, f 4, f 5, f 6] := rfl
theorem from_needed (nm : Str) : ∀ (ds : List Dish), (∀ d ∈ ds, 1 ≤ d.1 ∧ d.1 ≤ 7) → ∀ i : Nat, i < 7 → ((neededL ds nm).drop i).sum = needFrom ds nm (1 + (i : Nat))
  | [], _, i, hi => by
    have h : i = 0 ∨ i = 1 ∨ i = 2 ∨ i = 3 ∨ i = 4 ∨ i = 5 ∨ i = 6 := by omega
    rcases h with e | e | e | e | e | e | e <;> subst e <;> rfl
  | d :: r, hd, i, hi => by
    have ih := from_needed nm r (fun x hx => hd x (List.mem_cons_of_mem _ hx)) i hi
    have hd1 := hd d List.mem_cons_self
    unfold neededL at ih ⊢
    unfold needFrom at ih ⊢
    rw [List.map_cons, List.sum_cons, ← ih, seven, seven]
    simp only [onDay_cons]
    generalize needOf d nm = z
    have h : i = 0 ∨ i = 1 ∨ i = 2 ∨ i = 3 ∨ i = 4 ∨ i = 5 ∨ i = 6 := by omega
    have h2 : d.1 = 1 ∨ d.1 = 2 ∨ d.1 = 3 ∨ d.1 = 4 ∨ d.1 = 5 ∨ d.1 = 6 ∨ d.1 = 7 := by omega
    rcases h2 with e2 | e2 | e2 | e2 | e2 | e2 | e2 <;> rw [e2] <;> rcases h with e | e | e | e | e | e | e <;> subst e <;> simp <;> omega
theorem lack_eq (ds : List Dish) (lar : List Batch) (nm : Str) (hd : ∀ d ∈ ds, 1 ≤ d.1 ∧ d.1 ≤ 7) : lackL ds lar nm = lackW ds lar nm := by
  unfold lackL lackW
  apply List.map_congr_left
  intro i hi
  have hi7 : i < 7 := List.mem_range.mp hi
  unfold lackDay
  have e1 : (fromL (neededL ds nm)).getD i 0 = needFrom ds nm (1 + (i : Nat)) := by
    unfold fromL
    rw [List.getD_eq_getElem?_getD, List.getElem?_map, List.getElem?_eq_getElem (by simpa using hi7), List.getElem_range]
    exact from_needed nm ds hd i hi7
  have e2 : (keptL lar nm).getD i 0 = keptTo lar nm (1 + (i : Nat)) := by
    unfold keptL
    rw [List.getD_eq_getElem?_getD, List.getElem?_map, List.getElem?_eq_getElem (by simpa using hi7), List.getElem_range]
    exact toDay_kept nm _ lar
  rw [e1, e2]
theorem needFrom_snoc (ds : List Dish) (d : Dish) (nm : Str) (day : Int) : needFrom (ds ++ [d]) nm day = needFrom ds nm day + if day ≤ d.1 then needOf d nm else 0 := by
  unfold needFrom
  rw [List.map_append, List.sum_append]; simp
theorem keptTo_snoc (lar : List Batch) (b : Batch) (nm : Str) (day : Int) : keptTo (lar ++ [b]) nm day = keptTo lar nm day + if b.name = nm ∧ day ≤ b.last then b.amount else 0 := by
  unfold keptTo
  rw [List.map_append, List.sum_append]; simp
/-- what is kept, as the law reckons it -/
def dueK (lar : List Batch) (nm : Str) (i : Int) : Int := (lar.filterMap fun b => if b.name = nm ∧ i < b.last then some b.amount else none).sum
theorem dueK_eq (nm : Str) (i : Int) : ∀ lar : List Batch, dueK lar nm i = keptTo lar nm (1 + i)
  | [] => rfl
  | b :: r => by
    have ih := dueK_eq nm i r
    unfold dueK keptTo at ih ⊢
    rw [List.map_cons, List.sum_cons, ← ih]
    by_cases e : b.name = nm ∧ i < b.last
    · have e2 : b.name = nm ∧ 1 + i ≤ b.last := ⟨e.1, by omega⟩
      simp only [List.filterMap_cons, if_pos e, if_pos e2, List.sum_cons]
    · have e2 : ¬ (b.name = nm ∧ 1 + i ≤ b.last) := fun z => e ⟨z.1, by omega⟩
      simp only [List.filterMap_cons, if_neg e, if_neg e2]
      omega
theorem keptL_eq (lar : List Batch) (nm : Str) : keptL lar nm = (List.range 7).map fun i => dueK lar nm (i : Nat) := by
  unfold keptL
  apply List.map_congr_left
  intro i _
  rw [toDay_kept, dueK_eq]
end Lar
namespace Lar
open PySem PySem.Spec PyProof.Rows L2
/-! ### the greatest of a tuple of ints -/
section
variable {prog : Program} {w : World} {A : Around} {E : Value → Shared → Prop} {s : Shared} {t : Addr}
theorem max_tupI {xs : Array (Int × Tok)} {Q : Value → Shared → Prop} (hh : A.handled = none) (ht : s.heap.IsTuple t (intItems xs)) (h0 : 0 < xs.size)
    (h : ∀ v h' tk, (intItems xs)[argBest (fun i j => decide (numAt xs i > numAt xs j)) (xs.size - 1)]? = some v → (∀ b o, s.heap.get? b = some o → h'.get? b = some o) → Q v { s with heap := h', toks := tk }) :
    wpAny (model prog w) A (call (.builtin "max") [.ref t]) Q E s := by
  obtain ⟨o, ho, hc, n, hd⟩ := id ht
  have hne : t ≠ s.heap.objs.size := Nat.ne_of_lt (Heap.lt_size ho)
  have hsz : (intItems xs).size = xs.size := by simp [intItems]
  have W := (Walks.tuple (prog := prog) (w := w) (A := A.in1) hh s.heap.objs.size t hne (intItems xs)).toS
  rw [hsz] at W
  refine call_max_walkS (wpAny_pyIter_tuple ht ?_)
  refine ⟨s.heap.objs.size, _, _, _, _, _, _, _, rfl, W, ⟨⟨_, Heap.get?_push_size _ rfl, rfl, rfl⟩, ht.at fun o e => Heap.get?_push_of_some _ e⟩, fun b hb => ?_, h0, CmpOf.ints_gt (numAt xs) (fun i v hP => intItems_at hP), fun v s' hP hm => ?_⟩
  · rcases List.mem_cons.mp hb with rfl | hb
    · exact Heap.lt_size (Heap.get?_push_size _ rfl)
    · obtain rfl := List.mem_singleton.mp hb
      exact Heap.lt_size (Heap.get?_push_of_some _ ho)
  · obtain ⟨h', g', d', tk', os'⟩ := s'
    have e1 : g' = s.gens := hm.gens
    have e2 : d' = s.drawn := hm.drawn
    have e3 : os' = s.os := hm.os
    subst e1 e2 e3
    exact h v h' tk' hP fun b o e => hm.heap b o (fun hb => absurd (Heap.lt_size e) ((List.mem_singleton.mp hb) ▸ Nat.lt_irrefl _)) (Heap.get?_push_of_some _ e)
end
section
variable {X : Cx}
/-- max(xs), xs a list or a tuple of ints -/
def rMaxA (K : PySem.W.Frag) : List V → Hp → VK → Prop := fun vs H Q => ∃ (a : Addr) (ns : List Int), vs = [V.ref a] ∧ (SqL K H a (ns.map V.int) ∨ SqT K H a (ns.map V.int)) ∧ 0 < ns.length ∧ ∀ m, m ∈ ns → (∀ y, y ∈ ns → y ≤ m) → Q (.int m) H
theorem kcr_maxA (K : PySem.W.Frag) (hc : X.calm = true) (hK : X.K = K := by rfl) : CallR X (.builtin "max") (rMaxA K) := by
  subst hK
  intro pins s σ H vs us Q I r h
  obtain ⟨a, ns, rfl, hs, hne, q⟩ := h
  rw [Vals.ref1 r]
  rcases hs with hs | hs
  · obtain ⟨its, rv, hl, _⟩ := I.list hs
    exact max_raw (I.ok.hd hc) hl.isList rv.ints hne fun h' tk m t' hk h1 h2 => ⟨.int _, H, I.kept hk, ⟨_, rfl⟩, q m h1 h2⟩
  · obtain ⟨its, rv, hl, _⟩ := I.tuple hs
    have hi : IntsAre its ns := rv.ints
    obtain ⟨xs, e⟩ := hi.allInts.items
    have hn : numsOf (intItems xs).toList = ns := by rw [← e]; exact hi.numsOf
    rw [nums_intItems] at hn
    rw [e] at hl
    have hsz : 0 < xs.size := by rw [← hn] at hne; simpa using hne
    refine max_tupI (I.ok.hd hc) hl hsz fun v h' tk hv hk => ?_
    obtain ⟨t', rfl⟩ := intItems_at hv
    obtain ⟨h1, h2⟩ := argBest_gt (numAt xs) (xs.size - 1)
    refine ⟨.int _, H, I.kept hk, ⟨_, rfl⟩, q _ ?_ fun y hy => ?_⟩
    · rw [numAt_eq, hn]; exact PySem.getD_mem (by rw [← hn, List.length_map, Array.length_toList]; omega)
    · rw [← hn] at hy
      obtain ⟨j, hj, rfl⟩ := mem_getD hy
      rw [List.length_map, Array.length_toList] at hj
      rw [← numAt_eq]; exact h2 j (by omega)
/-- a list's or a tuple's item -/
def rIxA (K : PySem.W.Frag) : R2 := fun x y H Q => ∃ p xs i v, x = .ref p ∧ y = .int i ∧ (SqL K H p xs ∨ SqT K H p xs) ∧ atI xs i = some v ∧ Q v H
theorem kix_seq (K : PySem.W.Frag) (hK : X.K = K := by rfl) : IxR X (rIxA K) := by
  subst hK
  intro value slice pins s σ H x y v u Q I rx ry h hs
  obtain ⟨p, xs, i, z, hx, hy, hq, he, q⟩ := h
  refine (IxR.or ix_list ix_tup) value slice pins s σ H x y v u Q I rx ry ?_ hs
  rcases hq with hq | hq
  · exact .inl ⟨p, xs, i, z, hx, hy, hq, he, q⟩
  · exact .inr ⟨p, xs, i, z, hx, hy, hq, he, q⟩
theorem kop_repT (K : PySem.W.Frag) (hK : X.K = K := by rfl) : OpR X (binaryOp .Mult) (rRepT K) := by subst hK; exact op_repT
end
theorem ixN_of {n j : Nat} {k : Int} (h : k = j) (hj : j < n) : ixN n k = some j := by
  subst h
  unfold ixN
  rw [if_pos (by omega), if_pos (by omega)]; simp
theorem same_none {H H' : Hp} {a : Addr} (s : Same H H') (h : H' a = none) : H a = none := by
  cases e : H a with
  | none => rfl
  | some x => rw [s _ _ e] at h; cases h
/-! ### offers -/
structure Offer where
  size : Int
  price : Int
  last : Int
def OfferAt (H : Hp) (v : V) (o : Offer) : Prop := ∃ t, v = .ref t ∧ H t = some (.tup [.int o.size, .int o.price, .int o.last])
theorem OfferAt.mono : MonoT OfferAt := fun _ _ _ _ e ⟨t, h1, h2⟩ => ⟨t, h1, e _ _ h2⟩
structure GoodOffer (o : Offer) : Prop where
  size1 : 1 ≤ o.size
  size2 : o.size ≤ 200
  price0 : 0 ≤ o.price
  price2 : o.price ≤ 1000000
  last1 : 1 ≤ o.last
  last2 : o.last ≤ 99
/-- a list or a tuple -/
def SqA (K : PySem.W.Frag) (H : Hp) (a : Addr) (xs : List V) : Prop := SqL K H a xs ∨ SqT K H a xs
theorem SqA.l {K : PySem.W.Frag} {H : Hp} {a : Addr} {xs : List V} (h : H a = some (.lst xs)) : SqA K H a xs := .inl (sqL h)
theorem SqA.t {K : PySem.W.Frag} {H : Hp} {a : Addr} {xs : List V} (h : H a = some (.tup xs)) : SqA K H a xs := .inr (sqT h)
theorem SqA.same {K : PySem.W.Frag} {H H' : Hp} {a : Addr} {xs : List V} (h : SqA K H a xs) (e : Same H H') : SqA K H' a xs := by
  rcases h with h | h
  · exact .inl (e.seq h)
  · exact .inr (e.seqT h)
def OffersIn (K : PySem.W.Frag) (H : Hp) (v : V) (os : List Offer) : Prop := ∃ a us, v = .ref a ∧ SqA K H a us ∧ Held OfferAt H us os
theorem OffersIn.same {K : PySem.W.Frag} {H H' : Hp} {v : V} {os : List Offer} (h : OffersIn K H v os) (e : Same H H') : OffersIn K H' v os := by
  obtain ⟨a, us, h1, h2, h3⟩ := h
  exact ⟨a, us, h1, h2.same e, h3.mono OfferAt.mono (SameT.of e)⟩
def IntsIn (K : PySem.W.Frag) (H : Hp) (v : V) (ns : List Int) : Prop := ∃ a, v = .ref a ∧ SqA K H a (ns.map V.int)
theorem IntsIn.same {K : PySem.W.Frag} {H H' : Hp} {v : V} {ns : List Int} (h : IntsIn K H v ns) (e : Same H H') : IntsIn K H' v ns := by
  obtain ⟨a, h1, h2⟩ := h
  exact ⟨a, h1, h2.same e⟩
/-- a tuple of offers -/
abbrev OffersAt : Hp → V → List Offer → Prop := TupAll OfferAt
theorem OffersAt.mono : MonoT OffersAt := TupAll.mono OfferAt.mono
theorem OffersAt.in {K : PySem.W.Frag} {H : Hp} {v : V} {os : List Offer} (h : OffersAt H v os) : OffersIn K H v os := by
  obtain ⟨a, us, h1, h2, h3⟩ := h
  exact ⟨a, us, h1, SqA.t h2, h3⟩
/-! ### plain sums over what is bought -/
def costOf (os : List Offer) (cs : List Int) : Int := ((os.zip cs).map fun p => p.1.price * p.2).sum
def heldZ (zs : List (Offer × Int)) (day : Int) : Int := (zs.map fun p => if day ≤ p.1.last then p.1.size * p.2 else 0).sum
def heldOn (os : List Offer) (cs : List Int) (day : Int) : Int := heldZ (os.zip cs) day
def servesB (os : List Offer) (cs : List Int) (ls : List Int) : Bool := (List.range 7).all fun i => decide (ls.getD i 0 ≤ heldOn os cs (1 + (i : Nat)))
theorem heldZ_snoc (zs : List (Offer × Int)) (p : Offer × Int) (day : Int) : heldZ (zs ++ [p]) day = heldZ zs day + if day ≤ p.1.last then p.1.size * p.2 else 0 := by
  unfold heldZ
  rw [List.map_append, List.sum_append]; simp
theorem heldZ_fm (zs : List (Offer × Int)) (day : Int) : (zs.filterMap fun p => if day ≤ p.1.last then some (p.1.size * p.2) else none).sum = heldZ zs day := by
  unfold heldZ
  induction zs with
  | nil => rfl
  | cons p r ih =>
    rw [List.map_cons, List.sum_cons, ← ih]
    by_cases e : day ≤ p.1.last
    · simp only [List.filterMap_cons, if_pos e, List.sum_cons]
    · simp only [List.filterMap_cons, if_neg e]; omega
theorem zip_ix {α β : Type} {xs : List α} {ys : List β} {i : Nat} {x : α} {y : β} (h1 : xs[i]? = some x) (h2 : ys[i]? = some y) : (xs.zip ys)[i]? = some (x, y) := by
  rw [List.getElem?_zip_eq_some]; exact ⟨h1, h2⟩
theorem ix_zip {α β : Type} {xs : List α} {ys : List β} {i : Nat} {p : α × β} (h : (xs.zip ys)[i]? = some p) : xs[i]? = some p.1 ∧ ys[i]? = some p.2 := by
  rwa [List.getElem?_zip_eq_some] at h
theorem zip_len {α β : Type} {xs : List α} {ys : List β} (h : xs.length = ys.length) : (xs.zip ys).length = xs.length := by
  rw [List.length_zip]; omega
def GoodLs (ls : List Int) : Prop := ls.length = 7 ∧ ∀ x ∈ ls, 0 ≤ x ∧ x ≤ 200
theorem GoodLs.set {ls : List Int} {i : Nat} {z : Int} (h : GoodLs ls) (h0 : 0 ≤ z) (h1 : z ≤ 200) : GoodLs (ls.set i z) := ⟨by rw [List.length_set]; exact h.1, fun x hx => by
  rcases List.mem_or_eq_of_mem_set hx with y | y
  · exact h.2 x y
  · subst y; exact ⟨h0, h1⟩⟩
/-! ### what the program's functions promise -/
def spPriceOf : Sp := fun vs H Q _ => ∃ (v : V) (b : Addr) (os : List Offer) (cs : List Int), vs = [v, .ref b] ∧ OffersAt H v os ∧ H b = some (.tup (cs.map V.int)) ∧ os.length = cs.length ∧ os.length ≤ 1000 ∧ (∀ o ∈ os, GoodOffer o) ∧ (∀ c ∈ cs, 0 ≤ c) ∧
  ∀ H', Same H H' → Q (.int (costOf os cs)) H'
def spServes : Sp := fun vs H Q _ => ∃ (v : V) (b c : Addr) (os : List Offer) (cs ls : List Int), vs = [v, .ref b, .ref c] ∧ OffersAt H v os ∧ H b = some (.tup (cs.map V.int)) ∧ H c = some (.tup (ls.map V.int)) ∧ os.length = cs.length ∧ os.length ≤ 1000 ∧ (∀ o ∈ os, GoodOffer o) ∧ (∀ c ∈ cs, 0 ≤ c) ∧ GoodLs ls ∧
  ∀ H', Same H H' → Q (.bl (servesB os cs ls)) H'
end Lar
namespace Lar
open PySem PySem.Spec PyProof.Rows L2
section
theorem meets_enum1B {v : Value} {o : Obj} {H : Heap → Prop} (B : Begins v o H) :
    Meets (Builtin.«enumerate.__new__» ⟨[.type "enumerate", v], []⟩) (fun _ R s => H s.heap ∧
      R (.ok (.ret (.ref (s.heap.push o).objs.size))) { s with heap := (s.heap.push o).push { cls := .type "enumerate", data := .fields #[.none, .bool false, .ref s.heap.objs.size, rawInt 0, .none, .none] } }) :=
  .of_wp fun prog w A R s h => by
    obtain ⟨hp, g, d, tk, os⟩ := s; obtain ⟨h1, h⟩ := h
    have hsub := sub_enumerate
    have q1 : ∀ {A' : Around} {E : Value → Shared → Prop} {Q : Value → Shared → Prop}, Q (.ref hp.objs.size) ⟨hp.push o, g, d, tk, os⟩ → wpAny (model prog w) A' (pyIter v) Q E ⟨hp, g, d, tk, os⟩ :=
      fun q => B.iter prog w _ _ ⟨hp, g, d, tk, os⟩ _ h1 q
    wp_walk using q1
    refine wpAny_stack_any fun st => wpAny_pure ?_
    split
    · rename_i c _ _ _ _ _
      cases (c == Value.type "enumerate")
      · wp_walk using q1
        exact ⟨_, rfl, h⟩
      · wp_walk using q1
        exact ⟨_, rfl, h⟩
    · wp_walk using q1
      exact ⟨_, rfl, h⟩
end
end Lar
namespace Lar
open PySem PySem.Spec PyProof.Rows L2
/-! ### enumerate over a tuple, from a number on -/
section
variable {prog : Program} {w : World} {A : Around} {E : Value → Shared → Prop} {s : Shared}
theorem enum_begins1 {v : Value} {o : Obj} {H : Heap → Prop} {Q : Value → Shared → Prop} (B : Begins v o H) (h1 : H s.heap)
    (h : ∀ h', IsEnum h' (s.heap.objs.size + 1) s.heap.objs.size 0 .none → h'.get? s.heap.objs.size = some o → h'.objs.size = s.heap.objs.size + 2 →
      (∀ b o, s.heap.get? b = some o → h'.get? b = some o) → Q (.ref (s.heap.objs.size + 1)) { s with heap := h' }) :
    wpAny (model prog w) A (call (.type "enumerate") [v]) Q E s := by
  refine callType_new F.called_enumerate (by decide) (F.typeCall_enumerate_1 _) (F.newCall_enumerate_1 _) (fun obj => F.args_object_init_2 obj _) F.entry_enumerate_new
    (meets_enum1B B) ⟨h1, ?_⟩
  have hz : (s.heap.push o).objs.size = s.heap.objs.size + 1 := Heap.size_push ..
  show _ ∧ _
  rw [hz]
  have he : IsEnum ((s.heap.push o).push { cls := .type "enumerate", data := .fields #[.none, .bool false, .ref s.heap.objs.size, rawInt 0, .none, .none] }) (s.heap.objs.size + 1) s.heap.objs.size 0 .none := by
    have := Heap.get?_push_size (s.heap.push o) (o := { cls := .type "enumerate", data := .fields #[.none, .bool false, .ref s.heap.objs.size, rawInt 0, .none, .none] }) rfl
    rw [hz] at this; exact this
  refine ⟨⟨_, he, rfl⟩, h _ he (Heap.get?_push_of_some _ (Heap.get?_push_size _ B.free)) (by rw [Heap.size_push, hz]) fun b o x => Heap.get?_push_of_some _ (Heap.get?_push_of_some _ x)⟩
theorem callWith_typeKw {M : Model} {E : Value → Shared → Prop} {env : Env} {pos : Pos} {T : String} {e : Expr} {rest : List Expr} {kws : List Keyword} {Q : Value → Shared → Prop}
    (h : wpAny M A (spliced (backTo pos (starEach (e :: rest) env))) (fun vs s₁ => wpAny M A (evalAll ((backToKw pos (keywordEach kws env)).map (·.2)))
      (fun kvs s₂ => wpAny M A (call (.type T) vs (((backToKw pos (keywordEach kws env)).filterMap (·.1)).zip kvs)) Q E s₂) E s₁) E s)
    (he : backTo pos (starEach (e :: rest) env) = (false, eval e env) :: backTo pos (starEach rest env) := by rfl)
    (hplain : (backTo pos (starEach (e :: rest) env)).any (·.1) = false := by rfl)
    (hall : (backToKw pos (keywordEach kws env)).all (·.1.isSome) = true := by rfl)
    (hkw : (backToKw pos (keywordEach kws env)).any (·.1.isNone) = false := by rfl) :
    wpAny M A (callWith pos (.type T) [] (backTo pos (starEach (e :: rest) env)) (backToKw pos (keywordEach kws env))) Q E s := by
  have h2 : wpAny M A (evalArgs (.type T) true (backTo pos (starEach (e :: rest) env)) (backToKw pos (keywordEach kws env))) (fun a s₁ => wpAny M A (call (.type T) ([] ++ a.pos) a.kw) Q E s₁) E s := by
    rw [he] at h ⊢
    exact evalArgs_kwB hall h
  unfold callWith
  refine wpAny_bind (wpAny_holding (wpAny_mono h2 (fun a s₁ h₁ => wpAny_bind (wpAny_standAt ?_)) fun _ _ x => x))
  simp only [hplain, hkw, Bool.or_false]
  refine wpAny_bind (wpAny_pure ?_)
  exact wpAny_bind (wpAny_mono h₁ (fun r s₂ hr => wpAny_bind (wpAny_holding (wpAny_point (wpAny_pure hr)))) fun _ _ x => x)
end
/-- the tuple at a, each item in a new pair behind its number, from lo on -/
def IteT (K : PySem.W.Frag) (lo : Int) (a : Addr) : It :=
  ⟨fun i H => ∃ (xs : List V) (x : V), SqT K H a xs ∧ xs[i]? = some x, fun i H v H' => ∃ T x, v = .ref T ∧ H T = none ∧ H' = upd H T (.tup [.int (lo + (i : Nat)), x]) ∧ ∀ xs, SqT K H a xs → xs[i]? = some x, fun i H => ∃ xs : List V, SqT K H a xs ∧ xs.length = i⟩
theorem tup_ne {h : Heap} {a e : Addr} {its : Array Value} {o : Obj} (p : h.IsTuple a its) (he : h.get? e = some o) (hc : o.cls ≠ .type "tuple") : e ≠ a := by
  rintro rfl
  obtain ⟨o', ho, c, _⟩ := p
  rw [he] at ho
  cases ho
  exact hc c
theorem turn_enumT {P : Program} {w : World} {K : PySem.W.Frag} {elts : List Expr} {kk : Nat} {tpos : Pos} (lo : Int) (a e it : Addr) :
    Turn P w K (.Tuple elts kk tpos) (IteT K lo a) [e, it] e (fun i h => (∃ old, IsEnum h e it (lo + (i : Nat)) old) ∧ h.IsTupleIter it a i ∧ e ≠ it) where
  mem := by simp
  obj := fun i h st b hb => by
    obtain ⟨⟨old, he⟩, ⟨o, ho, hc, hd⟩, _⟩ := st
    have e' : b = e ∨ b = it := by simpa using hb
    rcases e' with z | z
    · rw [z]; exact ⟨_, he, fun v q => nomatch q⟩
    · rw [z]; exact ⟨o, ho, fun v q => by rw [hd] at q; cases q⟩
  keep := fun i h h' st k => let ⟨⟨old, he⟩, hi, hne⟩ := st; ⟨⟨old, k e (by simp) _ he⟩, hi.at fun o q => k it (by simp) o q, hne⟩
  item := by
    intro X hP hw hK hc i pins s σ H E I hf st hg
    subst hP hw hK
    obtain ⟨⟨old, he⟩, hit, hne⟩ := st
    obtain ⟨xs, x, hq, hx⟩ := hg
    obtain ⟨its, rv, p, hz⟩ := I.tuple hq
    have pT : s.heap.IsTuple a its.toArray := p
    obtain ⟨u, hu, ru⟩ := rv.get hx
    have hel : e < s.heap.objs.size := Heap.lt_size he
    have hil : it < s.heap.objs.size := by obtain ⟨_, q, _⟩ := hit; exact Heap.lt_size q
    have hea : e ≠ a := tup_ne pT he (fun z => absurd z (by simp))
    have hia : it ≠ a := by
      obtain ⟨o, ho, hcl, _⟩ := id hit
      exact tup_ne pT ho (fun z => by rw [hcl] at z; simp at z)
    have hin : i < its.toArray.size := by
      have := (List.getElem?_eq_some_iff.mp hu).1
      simpa using this
    refine wpAny_pyNext_enum_itemC (Draws.tuple (A := X.A.in1) (show X.A.in1.handled = none from I.ok.hd hc) it a (Ne.symm hia) its.toArray) he ⟨hit, pT⟩ hin hne (by simp [hne, hea]) fun y h' tk hy ho hst hT hsz hk => ?_
    have ey : y = u := by
      have h1 : its.toArray[i]? = some u := by simpa using hu
      rw [h1] at hy
      exact (Option.some.inj hy).symm
    subst ey
    refine ⟨_, rfl, wpAny_letOwnedTupleGo_enum (s := { s with heap := h', toks := tk + 1 }) ho fun h'' he' sb => ?_⟩
    have hT2 : h''.get? s.heap.objs.size = some { cls := .type "tuple", data := .seq #[.int (lo + (i : Nat)) tk, y] } := (sb.2 _ (Nat.ne_of_gt hel)).trans hT
    have new : ObjOk X.prog X.w (upd H s.heap.objs.size (.tup [.int (lo + (i : Nat)), x])) h'' s.heap.objs.size (.tup [.int (lo + (i : Nat)), x]) :=
      ⟨by show 2 ≤ sizeLine; decide, [.int (lo + (i : Nat)) tk, y], .cons ⟨_, rfl⟩ (.cons ru .nil), ⟨_, hT2, rfl, _, rfl⟩⟩
    have I1 : Inv X pins σ (upd H s.heap.objs.size (.tup [.int (lo + (i : Nat)), x])) { s with heap := h'', toks := tk + 1 } :=
      I.turnedNew (ch := [e, it]) (fun b ob hb q => (sb.2 b (fun z => hb (by simp [z]))).trans (hk b ob (fun z => hb (by simp [z])) (fun z => hb (by simp [z])) q)) hf (Nat.le_refl _) new
    refine ⟨.ref s.heap.objs.size, _, I1, rfl, ⟨_, x, rfl, I.hok.fresh (Nat.le_refl _), rfl, fun ys hy => by rw [I.tuple_inj hy hq]; exact hx⟩, ⟨⟨y, ?_⟩, hst.1.at fun o q => (sb.2 it (Ne.symm hne)).trans q, hne⟩, fun b hb => ?_⟩
    · have e1 : lo + ((i + 1 : Nat) : Int) = lo + (i : Int) + 1 := by omega
      rw [e1]; exact he'
    · have hb' : b < s.heap.objs.size := by
        have e' : b = e ∨ b = it := by simpa using hb
        rcases e' with z | z
        · rw [z]; exact hel
        · rw [z]; exact hil
      rw [upd_ne (Nat.ne_of_lt hb')]
      exact (hf b hb).1
  done := by
    intro X hP hw hK hc i pins s σ H E I hf st hg
    subst hP hw hK
    obtain ⟨⟨old, he⟩, hit, hne⟩ := st
    obtain ⟨xs, hq, hx⟩ := hg
    obtain ⟨its, rv, p, hz⟩ := I.tuple hq
    have pT : s.heap.IsTuple a its.toArray := p
    obtain ⟨f0, f1, f2, f3, f4, f5⟩ := hf it (by simp)
    have hl := rv.length
    have hia : it ≠ a := by
      obtain ⟨o, ho, hcl, _⟩ := id hit
      exact tup_ne pT ho (fun z => by rw [hcl] at z; simp at z)
    have en : i = its.toArray.size := by simp; omega
    refine wpAny_pyNext_enum_endD (Draws.tuple (A := X.A.in1) (show X.A.in1.handled = none from I.ok.hd hc) it a (Ne.symm hia) its.toArray) he (by rw [← en]; exact ⟨hit, pT⟩) fun h' eb => ⟨rfl, I.turned (t' := s.toks) (fun b o hb q => eb b o hb q) f0 f1 f3 f4 f5⟩
  self := fun A i s Q E st h => let ⟨⟨_, he⟩, _⟩ := st; wpAny_pyIter_enum he h
def iEnumT (K : PySem.W.Frag) (ta : TA) : TI := fun σ H R => ta σ H fun vs H1 => ∃ a xs, vs = [.ref a] ∧ SqT K H1 a xs ∧ R (IteT K 0 a) H1
theorem kpi_enumT {X : Cx} (K : PySem.W.Frag) {e : Expr} {ta : TA} {p pos tpos : Pos} {elts : List Expr} {kk : Nat} (hg : Gl X "enumerate") (hm : X.mg "enumerate" = none) (ha : PA X [e] ta) (hK : X.K = K := by rfl) (hs : starEach [e] X.env = [(false, eval e X.env)] := by rfl) :
    PI X (.Tuple elts kk tpos) (.Call (.Name "enumerate" p) [e] [] pos) (iEnumT K ta) := by
  subst hK
  refine ⟨fun pins s σ H R I h => ?_⟩
  refine Call_ (ld_blt I hg hm boot_enumerate (PyProof.Rows.callWith_type1 (thn (ha.run pos pins s σ H _ I h) fun us s1 ⟨vs, H1, I1, r1, q1⟩ => ?_) hs rfl))
  obtain ⟨a, xs, ex, hq, q⟩ := q1
  subst ex
  cases r1 with
  | cons r rr =>
    cases rr
    cases r
    obtain ⟨its, rv, p', hz⟩ := I1.tuple hq
    have pT : s1.heap.IsTuple a its.toArray := p'
    refine enum_begins1 (begins_tuple a its.toArray) pT fun h' he hit hsz hk => wpAny_pyIter_enum he ?_
    have I2 : Inv X pins σ H1 { s1 with heap := h' } := I1.kept (t' := s1.toks) hk
    refine ⟨s1.heap.objs.size + 1, [s1.heap.objs.size + 1, s1.heap.objs.size], _, _, H1, rfl, I2, turn_enumT 0 a (s1.heap.objs.size + 1) s1.heap.objs.size, ⟨⟨.none, he⟩, ⟨_, hit, rfl, rfl⟩, Nat.succ_ne_self _⟩, fun b hb => ?_, q⟩
    have e' : b = s1.heap.objs.size + 1 ∨ b = s1.heap.objs.size := by simpa using hb
    have hle : s1.heap.objs.size ≤ b := by
      rcases e' with z | z
      · rw [z]; exact Nat.le_add_right _ _
      · rw [z]; exact Nat.le_refl _
    exact I1.fpOk hle (I1.hok.fresh hle)
/-- enumerate(e, start=n) -/
def iEnumS (K : PySem.W.Frag) (n : Int) (ta : TA) : TI := fun σ H R => ta σ H fun vs H1 => ∃ a xs, vs = [.ref a] ∧ SqT K H1 a xs ∧ R (IteT K n a) H1
theorem kpi_enumS {X : Cx} (K : PySem.W.Frag) {e : Expr} {ta : TA} {p pos tpos kpos npos : Pos} {knd : Nat} {elts : List Expr} {kk : Nat} {n : Int} (hg : Gl X "enumerate") (hm : X.mg "enumerate" = none) (ha : PA X [e] ta) (h0 : -(2 ^ 63) ≤ n) (h1 : n < 2 ^ 63) (hK : X.K = K := by rfl)
    (he : backTo pos (starEach [e] X.env) = (false, eval e X.env) :: backTo pos (starEach [] X.env) := by rfl) (hpl : (backTo pos (starEach [e] X.env)).any (·.1) = false := by rfl) :
    PI X (.Tuple elts kk tpos) (.Call (.Name "enumerate" p) [e] [⟨some "start", .Constant (.int n) knd npos, kpos⟩] pos) (iEnumS K n ta) := by
  subst hK
  refine ⟨fun pins s σ H R I h => ?_⟩
  refine wpAny_Call_Name_kw (ld_blt I hg hm boot_enumerate (callWith_typeKw (T := "enumerate") (thn (ha.run pos pins s σ H _ I h) fun us s1 ⟨vs, H1, I1, r1, q1⟩ => ?_) he hpl))
  obtain ⟨a, xs, ex, hq, q⟩ := q1
  subst ex
  cases r1 with
  | cons r rr =>
    cases rr
    cases r
    obtain ⟨its, rv, p', hz⟩ := I1.tuple hq
    have pT : s1.heap.IsTuple a its.toArray := p'
    refine kws_cons (wpAny_Constant_int (kws_nil ?_))
    refine enum_begins_start (s := { s1 with toks := _ }) (begins_tuple a its.toArray) pT h0 h1 fun h' he hit hsz hk => wpAny_pyIter_enum he ?_
    have I2 : Inv X pins σ H1 { s1 with heap := h', toks := _ } := I1.kept (t' := s1.toks + 1) hk
    refine ⟨s1.heap.objs.size + 1, [s1.heap.objs.size + 1, s1.heap.objs.size], _, _, H1, rfl, I2, turn_enumT n a (s1.heap.objs.size + 1) s1.heap.objs.size, ⟨⟨.none, ?_⟩, ⟨_, hit, rfl, rfl⟩, Nat.succ_ne_self _⟩, fun b hb => ?_, q⟩
    · have e1 : n + ((0 : Nat) : Int) = n := by simp
      rw [e1]; exact he
    have e' : b = s1.heap.objs.size + 1 ∨ b = s1.heap.objs.size := by simpa using hb
    have hle : s1.heap.objs.size ≤ b := by
      rcases e' with z | z
      · rw [z]; exact Nat.le_add_right _ _
      · rw [z]; exact Nat.le_refl _
    exact I1.fpOk hle (I1.hok.fresh hle)
/-- its walk -/
theorem walk_enumT {K : PySem.W.Frag} {lo : Int} {a : Addr} {xs : List V} : Walk (IteT K lo a) xs.length (fun H => SqT K H a xs) (YPair (fun i => some (.int (lo + (i : Nat)))) (fun i => xs[i]?)) := by
  refine ⟨fun i _ hi q => ⟨xs, xs[i], q, by simp [hi]⟩, fun _ q => ⟨xs, q, rfl⟩, fun i H v H' _ q y => ?_⟩
  obtain ⟨T, x, h1, h2, h3, h4⟩ := y
  exact ⟨T, .int (lo + (i : Nat)), x, h1, h2, h3, rfl, h4 xs q⟩
end Lar
namespace Lar
/-! ### sums weighed by counts -/
def wsum (f : Offer → Int) (os : List Offer) (cs : List Int) : Int := ((os.zip cs).map fun p => f p.1 * p.2).sum
theorem wsum_nil (f : Offer → Int) (cs : List Int) : wsum f [] cs = 0 := by simp [wsum]
theorem wsum_cons (f : Offer → Int) (o : Offer) (os : List Offer) (c : Int) (cs : List Int) : wsum f (o :: os) (c :: cs) = f o * c + wsum f os cs := by simp [wsum]
theorem costOf_w (os : List Offer) (cs : List Int) : costOf os cs = wsum Offer.price os cs := rfl
def onto (day : Int) (o : Offer) : Int := if day ≤ o.last then o.size else 0
theorem heldOn_w (os : List Offer) (cs : List Int) (day : Int) : heldOn os cs day = wsum (onto day) os cs := by
  unfold heldOn heldZ wsum
  congr 1
  apply List.map_congr_left
  intro p _
  unfold onto
  split
  · rfl
  · simp
/-- one more of the k-th -/
theorem wsum_set (f : Offer → Int) (z : Int) : ∀ (os : List Offer) (cs : List Int) (k : Nat) (o : Offer) (c : Int), os[k]? = some o → cs[k]? = some c → wsum f os (cs.set k (c + z)) = wsum f os cs + f o * z
  | [], _, k, _, _, h, _ => by simp at h
  | _ :: _, [], k, _, _, _, h => by simp at h
  | o' :: os, c' :: cs, 0, o, c, h1, h2 => by
    have e1 : o' = o := by simpa using h1
    have e2 : c' = c := by simpa using h2
    subst e1 e2
    rw [List.set_cons_zero, wsum_cons, wsum_cons, Int.mul_add]
    omega
  | o' :: os, c' :: cs, k + 1, o, c, h1, h2 => by
    rw [List.set_cons_succ, wsum_cons, wsum_cons, wsum_set f z os cs k o c (by simpa using h1) (by simpa using h2)]
    omega
theorem wsum_nonneg (f : Offer → Int) : ∀ (os : List Offer) (cs : List Int), (∀ o ∈ os, 0 ≤ f o) → (∀ c ∈ cs, 0 ≤ c) → 0 ≤ wsum f os cs
  | [], cs, _, _ => by rw [wsum_nil]; decide
  | _ :: _, [], _, _ => by simp [wsum]
  | o :: os, c :: cs, h1, h2 => by
    rw [wsum_cons]
    have a := wsum_nonneg f os cs (fun x hx => h1 x (List.mem_cons_of_mem _ hx)) (fun x hx => h2 x (List.mem_cons_of_mem _ hx))
    have b := Int.mul_nonneg (h1 o List.mem_cons_self) (h2 c List.mem_cons_self)
    omega
/-- where no counted one tells f and g apart -/
theorem wsum_congr (f g : Offer → Int) : ∀ (os : List Offer) (cs : List Int), (∀ (k : Nat) o c, os[k]? = some o → cs[k]? = some c → c ≠ 0 → f o = g o) → wsum f os cs = wsum g os cs
  | [], cs, _ => by rw [wsum_nil, wsum_nil]
  | _ :: _, [], _ => by simp [wsum]
  | o :: os, c :: cs, h => by
    rw [wsum_cons, wsum_cons, wsum_congr f g os cs (fun k o' c' h1 h2 => h (k + 1) o' c' (by simpa using h1) (by simpa using h2))]
    by_cases e : c = 0
    · subst e; simp
    · rw [h 0 o c rfl rfl e]
theorem wsum_zero (f : Offer → Int) : ∀ (os : List Offer) (cs : List Int), (∀ (k : Nat) o c, os[k]? = some o → cs[k]? = some c → c ≠ 0 → f o = 0) → wsum f os cs = 0
  | [], cs, _ => wsum_nil _ _
  | _ :: _, [], _ => by simp [wsum]
  | o :: os, c :: cs, h => by
    rw [wsum_cons, wsum_zero f os cs (fun k o' c' h1 h2 => h (k + 1) o' c' (by simpa using h1) (by simpa using h2))]
    by_cases e : c = 0
    · subst e; simp
    · rw [h 0 o c rfl rfl e]; simp
theorem wsum_zeros (f : Offer → Int) (os : List Offer) (n : Nat) : wsum f os (List.replicate n 0) = 0 := wsum_zero f _ _ fun k o c _ h2 hc => by
  rw [List.getElem?_replicate] at h2
  split at h2
  · exact absurd (Option.some.inj h2).symm hc
  · cases h2
/-! ### what a table is -/
def dayOf (o : Offer) : Int := if o.last < 7 then o.last else 7
def lackAt (ls : List Int) (d : Nat) : Nat := (ls.getD (d - 1) 0).toNat
def cellT (rows : List (List (Option Int))) (d a : Nat) : Option Int := (rows.getD (d - 1) []).getD a none
def goT (ls : List Int) (rows : List (List (Option Int))) (d a : Nat) : Option Int := if d < 7 then cellT rows (d + 1) (max a (lackAt ls (d + 1))) else if a = 0 then some 0 else none
structure IsTable (os : List Offer) (ls : List Int) (M : Nat) (rows : List (List (Option Int))) : Prop where
  len : rows.length = 7
  each : ∀ r ∈ rows, r.length = M + 1
  most : ∀ d : Nat, lackAt ls d ≤ M
  from_ : ∀ (d a : Nat) (c : Int), 1 ≤ d → d ≤ 7 → a ≤ M → cellT rows d a = some c → goT ls rows d a = some c ∨ (0 < a ∧ ∃ o r, o ∈ os ∧ dayOf o = d ∧ cellT rows d (a - o.size.toNat) = some r ∧ c = r + o.price)
  go : ∀ (d a : Nat) (g : Int), 1 ≤ d → d ≤ 7 → a ≤ M → goT ls rows d a = some g → ∃ c, cellT rows d a = some c ∧ c ≤ g
  take : ∀ (d a : Nat) (o : Offer) (r : Int), 1 ≤ d → d ≤ 7 → a ≤ M → 0 < a → o ∈ os → dayOf o = d → cellT rows d (a - o.size.toNat) = some r → ∃ c, cellT rows d a = some c ∧ c ≤ r + o.price
theorem day_on {o : Offer} {d : Nat} (h : dayOf o = d) (h1 : 1 ≤ d) : ∀ e : Nat, e ≤ d → onto e o = o.size := fun e he => by
  unfold onto
  rw [if_pos]
  unfold dayOf at h
  split at h <;> omega
theorem onto_next {o : Offer} {d : Nat} (h : dayOf o ≠ d) (hd : d < 7) : onto d o = onto ((d + 1 : Nat) : Int) o := by
  unfold onto
  unfold dayOf at h
  have : ((d : Int) ≤ o.last) ↔ (((d + 1 : Nat) : Int) ≤ o.last) := by
    split at h <;> omega
  by_cases e : (d : Int) ≤ o.last
  · rw [if_pos e, if_pos (this.mp e)]
  · rw [if_neg e, if_neg (fun z => e (this.mpr z))]
theorem onto_last {o : Offer} (h : dayOf o ≠ (7 : Nat)) : onto ((7 : Nat) : Int) o = 0 := by
  unfold onto
  unfold dayOf at h
  rw [if_neg]
  split at h <;> omega
theorem onto_nonneg {o : Offer} (g : GoodOffer o) (e : Int) : 0 ≤ onto e o := by
  unfold onto
  split
  · have := g.size1; omega
  · decide
theorem ix_mem {α : Type} {xs : List α} {k : Nat} {x : α} (h : xs[k]? = some x) : x ∈ xs := List.mem_of_getElem? h
section
variable {os : List Offer} {ls : List Int} {M : Nat} {rows : List (List (Option Int))}
/-- the sum of the counts -/
def sumC (cs : List Int) : Nat := (cs.map Int.toNat).sum
theorem sumC_set : ∀ (cs : List Int) (k : Nat) (c : Int), cs[k]? = some c → 0 < c → sumC (cs.set k (c + -1)) + 1 = sumC cs
  | [], k, c, h, _ => by simp at h
  | c' :: cs, 0, c, h, hc => by
    have e : c' = c := by simpa using h
    subst e
    unfold sumC
    rw [List.set_cons_zero, List.map_cons, List.sum_cons, List.map_cons, List.sum_cons]
    omega
  | c' :: cs, k + 1, c, h, hc => by
    have ih := sumC_set cs k c (by simpa using h) hc
    unfold sumC at ih ⊢
    rw [List.set_cons_succ, List.map_cons, List.sum_cons, List.map_cons, List.sum_cons]
    omega
theorem nn_set {cs : List Int} {k : Nat} {z : Int} (h : ∀ c ∈ cs, 0 ≤ c) (hz : 0 ≤ z) : ∀ c ∈ cs.set k z, 0 ≤ c := fun c hc => by
  rcases List.mem_or_eq_of_mem_set hc with y | y
  · exact h c y
  · omega
/-- no buying undercuts a cell -/
theorem under (T : IsTable os ls M rows) (hg : ∀ o ∈ os, GoodOffer o) {fs : List Offer} (hf : ∀ o ∈ fs, o ∈ os) :
    ∀ (j n d a : Nat) (cs : List Int), d + j = 7 → 1 ≤ d → sumC cs = n → (∀ c ∈ cs, 0 ≤ c) → a ≤ M → (a : Int) ≤ heldOn fs cs d → (∀ e : Nat, d < e → e ≤ 7 → (lackAt ls e : Int) ≤ heldOn fs cs e) →
      ∃ c, cellT rows d a = some c ∧ c ≤ costOf fs cs := by
  intro j
  induction j with
  | zero =>
    intro n
    induction n with
    | zero =>
      intro d a cs hd h1 hs hn ha hh hb
      have hd7 : d = 7 := by omega
      subst hd7
      have z : ∀ (k : Nat) o c, fs[k]? = some o → cs[k]? = some c → c ≠ 0 → onto ((7 : Nat) : Int) o = 0 := fun k o c _ h2 hc => by
        exfalso
        have hpos : 0 < c := by have := hn c (ix_mem h2); omega
        have := sumC_set cs k c h2 hpos
        omega
      rw [heldOn_w, wsum_zero _ _ _ z] at hh
      have ha0 : a = 0 := by omega
      subst ha0
      obtain ⟨c, e, l⟩ := T.go 7 0 0 (by decide) (by decide) (Nat.zero_le _) rfl
      refine ⟨c, e, Int.le_trans l ?_⟩
      rw [costOf_w]
      exact wsum_nonneg _ _ _ (fun o ho => (hg o (hf o ho)).price0) hn
    | succ n ih =>
      intro d a cs hd h1 hs hn ha hh hb
      have hd7 : d = 7 := by omega
      subst hd7
      by_cases ex : ∃ (k : Nat) (o : Offer) (c : Int), fs[k]? = some o ∧ cs[k]? = some c ∧ 0 < c ∧ dayOf o = (7 : Nat)
      · obtain ⟨k, o, c, ho, hc, hp, hdo⟩ := ex
        have g := hg o (hf o (ix_mem ho))
        have hs' := sumC_set cs k c hc hp
        have hheld := wsum_set (onto ((7 : Nat) : Int)) (-1) fs cs k o c ho hc
        have hcost := wsum_set Offer.price (-1) fs cs k o c ho hc
        rw [day_on hdo (by decide) 7 (Nat.le_refl _)] at hheld
        have hw0 := wsum_nonneg (onto ((7 : Nat) : Int)) fs (cs.set k (c + -1)) (fun x hx => onto_nonneg (hg x (hf x hx)) _) (nn_set hn (by omega))
        have g1 := g.size1
        have g0 := g.price0
        obtain ⟨r, er, lr⟩ := ih 7 (a - o.size.toNat) (cs.set k (c + -1)) hd h1 (by omega) (nn_set hn (by omega)) (by omega) (by rw [heldOn_w, hheld]; rw [heldOn_w] at hh; omega) (fun e h7 h8 => by omega)
        rw [costOf_w, hcost] at lr
        by_cases ha0 : a = 0
        · subst ha0
          rw [Nat.zero_sub] at er
          refine ⟨r, er, ?_⟩
          rw [costOf_w]
          omega
        · obtain ⟨c', e', l'⟩ := T.take 7 a o r (by decide) (by decide) ha (by omega) (hf o (ix_mem ho)) hdo er
          refine ⟨c', e', ?_⟩
          rw [costOf_w]
          omega
      · have z : ∀ (k : Nat) o c, fs[k]? = some o → cs[k]? = some c → c ≠ 0 → onto ((7 : Nat) : Int) o = 0 := fun k o c h1 h2 hc => by
          have hpos : 0 < c := by have := hn c (ix_mem h2); omega
          exact onto_last fun e => ex ⟨k, o, c, h1, h2, hpos, e⟩
        rw [heldOn_w, wsum_zero _ _ _ z] at hh
        have ha0 : a = 0 := by omega
        subst ha0
        obtain ⟨c, e, l⟩ := T.go 7 0 0 (by decide) (by decide) (Nat.zero_le _) rfl
        refine ⟨c, e, Int.le_trans l ?_⟩
        rw [costOf_w]
        exact wsum_nonneg _ _ _ (fun o ho => (hg o (hf o ho)).price0) hn
  | succ j jh =>
    intro n
    induction n with
    | zero =>
      intro d a cs hd h1 hs hn ha hh hb
      have z : ∀ (k : Nat) o c, fs[k]? = some o → cs[k]? = some c → c ≠ 0 → onto (d : Int) o = onto ((d + 1 : Nat) : Int) o := fun k o c _ h2 hc => by
        exfalso
        have hpos : 0 < c := by have := hn c (ix_mem h2); omega
        have := sumC_set cs k c h2 hpos
        omega
      rw [heldOn_w, wsum_congr _ _ _ _ z, ← heldOn_w] at hh
      have hl := hb (d + 1) (by omega) (by omega)
      have hm := T.most (d + 1)
      obtain ⟨c, e, l⟩ := jh 0 (d + 1) (max a (lackAt ls (d + 1))) cs (by omega) (by omega) hs hn (by omega) (by omega) (fun e h7 h8 => hb e (by omega) h8)
      have eg : goT ls rows d a = some c := by unfold goT; rw [if_pos (by omega)]; exact e
      obtain ⟨c', e', l'⟩ := T.go d a c h1 (by omega) ha eg
      exact ⟨c', e', by omega⟩
    | succ n ih =>
      intro d a cs hd h1 hs hn ha hh hb
      by_cases ex : ∃ (k : Nat) (o : Offer) (c : Int), fs[k]? = some o ∧ cs[k]? = some c ∧ 0 < c ∧ dayOf o = d
      · obtain ⟨k, o, c, ho, hc, hp, hdo⟩ := ex
        have g := hg o (hf o (ix_mem ho))
        have hs' := sumC_set cs k c hc hp
        have hheld := wsum_set (onto (d : Int)) (-1) fs cs k o c ho hc
        have hcost := wsum_set Offer.price (-1) fs cs k o c ho hc
        rw [day_on hdo h1 d (Nat.le_refl _)] at hheld
        have hw0 := wsum_nonneg (onto (d : Int)) fs (cs.set k (c + -1)) (fun x hx => onto_nonneg (hg x (hf x hx)) _) (nn_set hn (by omega))
        have g1 := g.size1
        have g0 := g.price0
        obtain ⟨r, er, lr⟩ := ih d (a - o.size.toNat) (cs.set k (c + -1)) hd h1 (by omega) (nn_set hn (by omega)) (by omega) (by rw [heldOn_w, hheld]; rw [heldOn_w] at hh; omega) (fun e h7 h8 => by
          have hb' := hb e h7 h8
          have hx := wsum_set (onto (e : Int)) (-1) fs cs k o c ho hc
          have : onto (e : Int) o = 0 := by
            unfold onto
            rw [if_neg]
            unfold dayOf at hdo
            split at hdo <;> omega
          rw [this] at hx
          rw [heldOn_w, hx]
          rw [heldOn_w] at hb'
          omega)
        rw [costOf_w, hcost] at lr
        by_cases ha0 : a = 0
        · subst ha0
          rw [Nat.zero_sub] at er
          refine ⟨r, er, ?_⟩
          rw [costOf_w]
          omega
        · obtain ⟨c', e', l'⟩ := T.take d a o r h1 (by omega) ha (by omega) (hf o (ix_mem ho)) hdo er
          refine ⟨c', e', ?_⟩
          rw [costOf_w]
          omega
      · have z : ∀ (k : Nat) o c, fs[k]? = some o → cs[k]? = some c → c ≠ 0 → onto (d : Int) o = onto ((d + 1 : Nat) : Int) o := fun k o c h1 h2 hc => by
          have hpos : 0 < c := by have := hn c (ix_mem h2); omega
          exact onto_next (fun e => ex ⟨k, o, c, h1, h2, hpos, e⟩) (by omega)
        rw [heldOn_w, wsum_congr _ _ _ _ z, ← heldOn_w] at hh
        have hl := hb (d + 1) (by omega) (by omega)
        have hm := T.most (d + 1)
        obtain ⟨c, e, l⟩ := jh (n + 1) (d + 1) (max a (lackAt ls (d + 1))) cs (by omega) (by omega) hs hn (by omega) (by omega) (fun e h7 h8 => hb e (by omega) h8)
        have eg : goT ls rows d a = some c := by unfold goT; rw [if_pos (by omega)]; exact e
        obtain ⟨c', e', l'⟩ := T.go d a c h1 (by omega) ha eg
        exact ⟨c', e', by omega⟩
end
end Lar
namespace Lar
section
variable {os : List Offer} {ls : List Int} {M : Nat} {rows rows2 : List (List (Option Int))}
/-! ### one table alone -/
theorem tab_le (T : IsTable os ls M rows) (U : IsTable os ls M rows2) (hg : ∀ o ∈ os, GoodOffer o) :
    ∀ (j d : Nat), d + j = 7 → 1 ≤ d → ∀ (n a : Nat) (c : Int), a ≤ n → a ≤ M → cellT rows d a = some c → ∃ c', cellT rows2 d a = some c' ∧ c' ≤ c := by
  intro j
  induction j with
  | zero =>
    intro d hd h1 n
    induction n with
    | zero =>
      intro a c hn ha hc
      have hd7 : d = 7 := by omega
      have ha0 : a = 0 := by omega
      subst hd7 ha0
      rcases T.from_ 7 0 c (by decide) (by decide) ha hc with e | ⟨h, _⟩
      · exact U.go 7 0 c (by decide) (by decide) ha e
      · omega
    | succ n ih =>
      intro a c hn ha hc
      have hd7 : d = 7 := by omega
      subst hd7
      rcases T.from_ 7 a c (by decide) (by decide) ha hc with e | ⟨h, o, r, ho, hdo, hr, rfl⟩
      · exact U.go 7 a c (by decide) (by decide) ha e
      · have := (hg o ho).size1
        obtain ⟨r', er, lr⟩ := ih (a - o.size.toNat) r (by omega) (by omega) hr
        obtain ⟨c', e', l'⟩ := U.take 7 a o r' (by decide) (by decide) ha h ho hdo er
        exact ⟨c', e', by omega⟩
  | succ j jh =>
    intro d hd h1 n
    have GO : ∀ (a : Nat) (c : Int), a ≤ M → goT ls rows d a = some c → ∃ c', cellT rows2 d a = some c' ∧ c' ≤ c := fun a c ha e => by
      unfold goT at e
      rw [if_pos (by omega)] at e
      have hm := T.most (d + 1)
      obtain ⟨r, er, lr⟩ := jh (d + 1) (by omega) (by omega) _ _ c (Nat.le_refl _) (by omega) e
      obtain ⟨c', e', l'⟩ := U.go d a r h1 (by omega) ha (by unfold goT; rw [if_pos (by omega)]; exact er)
      exact ⟨c', e', by omega⟩
    induction n with
    | zero =>
      intro a c hn ha hc
      have ha0 : a = 0 := by omega
      subst ha0
      rcases T.from_ d 0 c h1 (by omega) ha hc with e | ⟨h, _⟩
      · exact GO 0 c ha e
      · omega
    | succ n ih =>
      intro a c hn ha hc
      rcases T.from_ d a c h1 (by omega) ha hc with e | ⟨h, o, r, ho, hdo, hr, rfl⟩
      · exact GO a c ha e
      · have := (hg o ho).size1
        obtain ⟨r', er, lr⟩ := ih (a - o.size.toNat) r (by omega) (by omega) hr
        obtain ⟨c', e', l'⟩ := U.take d a o r' h1 (by omega) ha h ho hdo er
        exact ⟨c', e', by omega⟩
theorem tab_cell (T : IsTable os ls M rows) (U : IsTable os ls M rows2) (hg : ∀ o ∈ os, GoodOffer o) (d a : Nat) (h1 : 1 ≤ d) (h7 : d ≤ 7) (ha : a ≤ M) : cellT rows d a = cellT rows2 d a := by
  have A := tab_le T U hg (7 - d) d (by omega) h1 a a
  have B := tab_le U T hg (7 - d) d (by omega) h1 a a
  cases e : cellT rows d a with
  | none =>
    cases e2 : cellT rows2 d a with
    | none => rfl
    | some c2 =>
      obtain ⟨c, z, _⟩ := B c2 (Nat.le_refl _) ha e2
      rw [e] at z; cases z
  | some c =>
    obtain ⟨c2, z, l⟩ := A c (Nat.le_refl _) ha e
    obtain ⟨c3, z3, l3⟩ := B c2 (Nat.le_refl _) ha z
    rw [e] at z3
    have e4 := Option.some.inj z3
    rw [z]
    congr 1
    omega
theorem tab_one (T : IsTable os ls M rows) (U : IsTable os ls M rows2) (hg : ∀ o ∈ os, GoodOffer o) : rows = rows2 := by
  have hl : rows.length = rows2.length := by rw [T.len, U.len]
  refine List.ext_getElem hl fun i h1 h2 => ?_
  have e1 := T.each _ (List.getElem_mem h1)
  have e2 := U.each _ (List.getElem_mem h2)
  refine List.ext_getElem (by rw [e1, e2]) fun a h3 h4 => ?_
  have i7 : i < 7 := by rw [← T.len]; exact h1
  have := tab_cell T U hg (i + 1) a (by omega) (by omega) (by omega)
  unfold cellT at this
  rw [Nat.add_sub_cancel, List.getD_eq_getElem?_getD, List.getD_eq_getElem?_getD, List.getD_eq_getElem?_getD, List.getD_eq_getElem?_getD, List.getElem?_eq_getElem h1, List.getElem?_eq_getElem h2] at this
  simp only [Option.getD_some] at this
  rw [List.getElem?_eq_getElem h3, List.getElem?_eq_getElem h4] at this
  simpa using this
/-! ### the greatest lack behind a day -/
def mxA (ls : List Int) : Nat → Nat
  | 0 => 0
  | j + 1 => max (lackAt ls (7 - j)) (mxA ls j)
theorem mxA_le (T : IsTable os ls M rows) : ∀ j, mxA ls j ≤ M
  | 0 => Nat.zero_le _
  | j + 1 => by
    have := T.most (7 - j)
    have := mxA_le T j
    unfold mxA
    omega
/-- a lesser amount costs no more; nor does one that lacks behind all the same -/
theorem tab_mono (T : IsTable os ls M rows) (hg : ∀ o ∈ os, GoodOffer o) :
    ∀ (j d : Nat), d + j = 7 → 1 ≤ d → ∀ (n a a' : Nat) (c : Int), a ≤ n → a ≤ M → a' ≤ max a (mxA ls j) → cellT rows d a = some c → ∃ c', cellT rows d a' = some c' ∧ c' ≤ c := by
  intro j
  induction j with
  | zero =>
    intro d hd h1 n
    have hd7 : d = 7 := by omega
    subst hd7
    induction n with
    | zero =>
      intro a a' c hn ha h' hc
      have : a = 0 := by omega
      subst this
      have : a' = 0 := by unfold mxA at h'; omega
      subst this
      exact ⟨c, hc, Int.le_refl _⟩
    | succ n ih =>
      intro a a' c hn ha h' hc
      unfold mxA at h'
      rcases T.from_ 7 a c (by decide) (by decide) ha hc with e | ⟨h, o, r, ho, hdo, hr, rfl⟩
      · unfold goT at e
        rw [if_neg (by decide)] at e
        split at e
        · rename_i a0
          subst a0
          have : a' = 0 := by omega
          subst this
          exact ⟨c, hc, Int.le_refl _⟩
        · cases e
      · have g := hg o ho
        have := g.size1
        have := g.price0
        obtain ⟨r', er, lr⟩ := ih (a - o.size.toNat) (a' - o.size.toNat) r (by omega) (by omega) (by unfold mxA; omega) hr
        by_cases a0 : a' = 0
        · subst a0
          rw [Nat.zero_sub] at er
          exact ⟨r', er, by omega⟩
        · obtain ⟨c', e', l'⟩ := T.take 7 a' o r' (by decide) (by decide) (by omega) (by omega) ho hdo er
          exact ⟨c', e', by omega⟩
  | succ j jh =>
    intro d hd h1 n
    have hmx := mxA_le T (j + 1)
    have hL : lackAt ls (7 - j) = lackAt ls (d + 1) := by congr 1; omega
    have hlm := T.most (d + 1)
    have GO : ∀ (a a' : Nat) (c : Int), a ≤ M → a' ≤ max a (mxA ls (j + 1)) → goT ls rows d a = some c → ∃ c', cellT rows d a' = some c' ∧ c' ≤ c := fun a a' c ha h' e => by
      unfold mxA at h'
      rw [hL] at h'
      unfold mxA at hmx
      rw [hL] at hmx
      unfold goT at e
      rw [if_pos (by omega)] at e
      obtain ⟨r, er, lr⟩ := jh (d + 1) (by omega) (by omega) _ _ (max a' (lackAt ls (d + 1))) c (Nat.le_refl _) (by omega) (by omega) e
      obtain ⟨c', e', l'⟩ := T.go d a' r h1 (by omega) (by omega) (by unfold goT; rw [if_pos (by omega)]; exact er)
      exact ⟨c', e', by omega⟩
    induction n with
    | zero =>
      intro a a' c hn ha h' hc
      have ha0 : a = 0 := by omega
      subst ha0
      rcases T.from_ d 0 c h1 (by omega) ha hc with e | ⟨h, _⟩
      · exact GO 0 a' c ha h' e
      · omega
    | succ n ih =>
      intro a a' c hn ha h' hc
      rcases T.from_ d a c h1 (by omega) ha hc with e | ⟨h, o, r, ho, hdo, hr, rfl⟩
      · exact GO a a' c ha h' e
      · have g := hg o ho
        have := g.size1
        have := g.price0
        obtain ⟨r', er, lr⟩ := ih (a - o.size.toNat) (a' - o.size.toNat) r (by omega) (by omega) (by omega) hr
        by_cases a0 : a' = 0
        · subst a0
          rw [Nat.zero_sub] at er
          exact ⟨r', er, by omega⟩
        · obtain ⟨c', e', l'⟩ := T.take d a' o r' h1 (by omega) (by omega) (by omega) ho hdo er
          exact ⟨c', e', by omega⟩
/-- where no more is asked than lacks behind, the walk goes on -/
theorem tab_stay (T : IsTable os ls M rows) (hg : ∀ o ∈ os, GoodOffer o) {j d : Nat} (hd : d + j = 7) (h1 : 1 ≤ d) :
    ∀ (n a : Nat) (c : Int), a ≤ n → a ≤ mxA ls j → cellT rows d a = some c → goT ls rows d a = some c := by
  have hmx := mxA_le T j
  intro n
  induction n with
  | zero =>
    intro a c hn ha hc
    rcases T.from_ d a c h1 (by omega) (by omega) hc with e | ⟨h, _⟩
    · exact e
    · omega
  | succ n ih =>
    intro a c hn ha hc
    rcases T.from_ d a c h1 (by omega) (by omega) hc with e | ⟨h, o, r, ho, hdo, hr, rfl⟩
    · exact e
    · have g := hg o ho
      have := g.size1
      have := g.price0
      have e2 := ih (a - o.size.toNat) r (by omega) (by omega) hr
      cases j with
      | zero => unfold mxA at ha; omega
      | succ j =>
        have hL : lackAt ls (7 - j) = lackAt ls (d + 1) := by congr 1; omega
        unfold mxA at ha
        rw [hL] at ha
        unfold mxA at hmx
        rw [hL] at hmx
        unfold goT at e2
        rw [if_pos (by omega)] at e2
        obtain ⟨r', er, lr⟩ := tab_mono T hg j (d + 1) (by omega) (by omega) _ _ (max a (lackAt ls (d + 1))) r (Nat.le_refl _) (by omega) (by omega) e2
        have eg : goT ls rows d a = some r' := by unfold goT; rw [if_pos (by omega)]; exact er
        obtain ⟨c', e', l'⟩ := T.go d a r' h1 (by omega) (by omega) eg
        rw [hc] at e'
        have := Option.some.inj e'
        rw [eg]
        congr 1
        omega
/-! ### the walk -/
def fits (rows : List (List (Option Int))) (d a : Nat) (o : Offer) : Bool := decide (dayOf o = d) && (match cellT rows d (a - o.size.toNat) with | none => false | some r => decide (some (r + o.price) = cellT rows d a))
theorem fits_iff {d a : Nat} {o : Offer} : fits rows d a o = true ↔ dayOf o = d ∧ ∃ r, cellT rows d (a - o.size.toNat) = some r ∧ some (r + o.price) = cellT rows d a := by
  unfold fits
  cases e : cellT rows d (a - o.size.toNat) with
  | none => simp
  | some r => simp
def firstT (os : List Offer) (rows : List (List (Option Int))) (d a : Nat) : Option Nat := os.findIdx? (fits rows d a)
def walkT (os : List Offer) (ls : List Int) (rows : List (List (Option Int))) : Nat → Nat → Nat → List Int → Option (List Int)
  | 0, _, _, _ => none
  | t + 1, d, a, cs =>
    if cellT rows d a = goT ls rows d a then
      if d = 7 then some cs else walkT os ls rows t (d + 1) (max a (lackAt ls (d + 1))) cs
    else
      match firstT os rows d a with
      | none => none
      | some k => walkT os ls rows t d (a - ((os.getD k ⟨0, 0, 0⟩).size.toNat)) (cs.set k (cs.getD k 0 + 1))
structure Walked (os : List Offer) (ls : List Int) (d a : Nat) (c : Int) (cs cs' : List Int) : Prop where
  len : cs'.length = cs.length
  nn : ∀ x ∈ cs', 0 ≤ x
  cost : costOf os cs' = costOf os cs + c
  here : heldOn os cs d + a ≤ heldOn os cs' d
  behind : ∀ e : Nat, d < e → e ≤ 7 → heldOn os cs e + lackAt ls e ≤ heldOn os cs' e
  ahead : ∀ e : Nat, e ≤ d → heldOn os cs' d - heldOn os cs d = heldOn os cs' e - heldOn os cs e
theorem walk_ok (T : IsTable os ls M rows) (hg : ∀ o ∈ os, GoodOffer o) :
    ∀ (t j d a : Nat) (c : Int) (cs : List Int), d + j = 7 → 1 ≤ d → a ≤ M → max a (mxA ls j) + j + 1 ≤ t → cs.length = os.length → (∀ x ∈ cs, 0 ≤ x) → cellT rows d a = some c →
      ∃ cs', walkT os ls rows t d a cs = some cs' ∧ Walked os ls d a c cs cs' := by
  intro t
  induction t with
  | zero => intro j d a c cs _ _ _ h; omega
  | succ t ih =>
    intro j d a c cs hd h1 ha ht hlen hn hc
    unfold walkT
    by_cases eg : cellT rows d a = goT ls rows d a
    · rw [if_pos eg]
      rw [hc] at eg
      by_cases d7 : d = 7
      · rw [if_pos d7]
        subst d7
        unfold goT at eg
        rw [if_neg (by decide)] at eg
        split at eg
        · rename_i a0
          subst a0
          have := Option.some.inj eg
          subst this
          exact ⟨cs, rfl, rfl, hn, by omega, by omega, fun e h h' => by omega, fun e _ => by omega⟩
        · cases eg
      · rw [if_neg d7]
        cases j with
        | zero => omega
        | succ j =>
          have hL : lackAt ls (7 - j) = lackAt ls (d + 1) := by congr 1; omega
          unfold goT at eg
          rw [if_pos (by omega)] at eg
          have hm := T.most (d + 1)
          unfold mxA at ht
          rw [hL] at ht
          obtain ⟨cs', e', W⟩ := ih j (d + 1) (max a (lackAt ls (d + 1))) c cs (by omega) (by omega) (by omega) (by omega) hlen hn eg.symm
          have w1 := W.here
          refine ⟨cs', e', W.len, W.nn, W.cost, ?_, fun e h h' => ?_, fun e h => ?_⟩
          · have := W.ahead d (by omega)
            omega
          · by_cases e1 : e = d + 1
            · subst e1; omega
            · exact W.behind e (by omega) h'
          · -- of those of a later day each holds on all days up to d alike
            have a1 := W.ahead e (by omega)
            have a2 := W.ahead d (by omega)
            omega
    · rw [if_neg eg]
      rcases T.from_ d a c h1 (by omega) ha hc with e | ⟨h0, o, r, ho, hdo, hr, rfl⟩
      · rw [hc, e] at eg; exact absurd rfl eg
      · have ff : fits rows d a o = true := fits_iff.mpr ⟨hdo, r, hr, hc.symm⟩
        cases ef : firstT os rows d a with
        | none =>
          have := List.findIdx?_eq_none_iff.mp ef o ho
          rw [ff] at this; cases this
        | some k =>
          obtain ⟨hk, fk, _⟩ := List.findIdx?_eq_some_iff_getElem.mp ef
          obtain ⟨hdk, r', hr', hs⟩ := fits_iff.mp fk
          have eo : os.getD k ⟨0, 0, 0⟩ = os[k] := by rw [List.getD_eq_getElem?_getD, List.getElem?_eq_getElem hk]; rfl
          have ec : cs.getD k 0 = cs[k]'(by omega) := by rw [List.getD_eq_getElem?_getD, List.getElem?_eq_getElem (by omega)]; rfl
          rw [hc] at hs
          have hs' := Option.some.inj hs
          have gk := hg _ (List.getElem_mem hk)
          have g1 := gk.size1
          have hst : mxA ls j < a := by
            by_cases z : a ≤ mxA ls j
            · have := tab_stay T hg hd h1 a a _ (Nat.le_refl _) z hc
              rw [hc, this] at eg
              exact absurd rfl eg
            · omega
          show ∃ cs', walkT os ls rows t d (a - ((os.getD k ⟨0, 0, 0⟩).size.toNat)) (cs.set k (cs.getD k 0 + 1)) = some cs' ∧ _
          rw [eo, ec]
          have hco := List.getElem?_eq_getElem (show k < cs.length by omega)
          have hoo := List.getElem?_eq_getElem hk
          have c0 := hn _ (List.getElem_mem (show k < cs.length by omega))
          obtain ⟨cs', e', W⟩ := ih j d (a - os[k].size.toNat) r' (cs.set k (cs[k]'(by omega) + 1)) hd h1 (by omega) (by omega) (by rw [List.length_set]; exact hlen) (nn_set hn (by omega)) hr'
          have wc := wsum_set Offer.price 1 os cs k _ _ hoo hco
          have wh : ∀ e : Int, heldOn os (cs.set k (cs[k]'(by omega) + 1)) e = heldOn os cs e + onto e os[k] * 1 := fun e => by
            rw [heldOn_w, heldOn_w]
            exact wsum_set (onto e) 1 os cs k _ _ hoo hco
          have on : ∀ e : Nat, e ≤ d → onto e os[k] = os[k].size := day_on hdk h1
          refine ⟨cs', e', by rw [W.len, List.length_set], W.nn, ?_, ?_, fun e h h' => ?_, fun e h => ?_⟩
          · rw [W.cost, costOf_w, wc, ← costOf_w]; omega
          · have := W.here
            rw [wh, on d (Nat.le_refl _)] at this
            omega
          · have b := W.behind e h h'
            rw [wh] at b
            have := onto_nonneg gk e
            omega
          · have b := W.ahead e h
            rw [wh, wh, on e h, on d (Nat.le_refl _)] at b
            omega
end
end Lar
namespace Lar
open PySem PySem.Spec PyProof.Rows L2
theorem min7 (o : Offer) : (if (7 : Int) < o.last then (7 : Int) else o.last) = dayOf o := by
  unfold dayOf
  split <;> split <;> omega
def cellV : Option Int → V
  | none => .non
  | some x => .int x
theorem cellV_inj {x y : Option Int} (h : cellV x = cellV y) : x = y := by
  cases x with
  | none => cases y with
    | none => rfl
    | some y => cases h
  | some x => cases y with
    | none => cases h
    | some y => rw [V.int.inj h]
theorem cellV_scal (x y : Option Int) : scal (cellV x) (cellV y) = true := by cases x <;> cases y <;> rfl
theorem it_some {A B : Prop} {x : Option Int} (h1 : ∀ z, x = some z → A) (h2 : x = none → B) : if (!decide (cellV x = V.non)) = true then A else B := by
  cases x with
  | none => exact iteF (h2 rfl)
  | some z => exact iteT (h1 z rfl)
theorem it_none {A B : Prop} {x : Option Int} (h1 : x = none → A) (h2 : ∀ z, x = some z → B) : if decide (cellV x = V.non) = true then A else B := by
  cases x with
  | none => exact iteT (h1 rfl)
  | some z => exact iteF (h2 z rfl)
theorem dp_ints {K : PySem.W.Frag} {H : Hp} : ∀ zs : List Int, DpAll K H (zs.map V.int) (zs.map PyData.int)
  | [] => .nil
  | z :: r => .cons (.int z) (dp_ints r)
theorem int_lay : ∀ zs : List Int, PyData.canLayAll0 (zs.map PyData.int) = true
  | [] => by simp [PyData.canLayAll0]
  | z :: r => by
    rw [List.map_cons, PyData.canLayAll0, int_lay r]
    simp [PyData.canLay0]
theorem int_deep : ∀ zs : List Int, PyData.depthAll (zs.map PyData.int) = 0
  | [] => by simp [PyData.depthAll]
  | z :: r => by
    rw [List.map_cons, PyData.depthAll, int_deep r]
    simp [PyData.depth]
theorem int_shaped (zs : List Int) : SeqAt.shaped (.list (zs.map PyData.int)) = true := by
  unfold SeqAt.shaped
  rw [PyData.canLay0, int_lay, PyData.depth, int_deep]
  rfl
theorem nil_eqv (zs : List Int) : PyData.eqv (.list (zs.map PyData.int)) (.list []) = zs.isEmpty := by
  rw [PyData.eqv]
  cases zs with
  | nil => simp [PyData.eqvAll]
  | cons z r => simp [PyData.eqvAll]
def RowAt (H : Hp) (v : V) (r : List (Option Int)) : Prop := ∃ t, v = .ref t ∧ H t = some (.tup (r.map cellV))
theorem RowAt.mono : MonoT RowAt := fun _ _ _ _ e ⟨t, h1, h2⟩ => ⟨t, h1, e _ _ h2⟩
abbrev RowsAt : Hp → V → List (List (Option Int)) → Prop := TupAll RowAt
theorem RowsAt.mono : MonoT RowsAt := TupAll.mono RowAt.mono
/-- the greatest -/
def mostL (ls : List Int) : Nat := (ls.map Int.toNat).foldr max 0
theorem mostL_ge : ∀ (ls : List Int) (x : Int), x ∈ ls → x.toNat ≤ mostL ls
  | [], x, h => nomatch h
  | y :: r, x, h => by
    unfold mostL
    rw [List.map_cons, List.foldr_cons]
    rcases List.mem_cons.mp h with e | e
    · subst e; omega
    · have := mostL_ge r x e
      unfold mostL at this
      omega
theorem mostL_mem : ∀ (ls : List Int), ls ≠ [] → ∃ x ∈ ls, x.toNat = mostL ls
  | [], h => absurd rfl h
  | [y], _ => ⟨y, List.mem_singleton.mpr rfl, by unfold mostL; simp⟩
  | y :: z :: r, _ => by
    obtain ⟨x, hx, e⟩ := mostL_mem (z :: r) (by simp)
    unfold mostL at e ⊢
    rw [List.map_cons, List.foldr_cons]
    by_cases h : y.toNat ≤ ((z :: r).map Int.toNat).foldr max 0
    · exact ⟨x, List.mem_cons_of_mem _ hx, by rw [e]; omega⟩
    · exact ⟨y, List.mem_cons_self, by omega⟩
theorem mostL_eq {ls : List Int} (g : GoodLs ls) {m : Int} (h1 : m ∈ ls) (h2 : ∀ y ∈ ls, y ≤ m) : m = mostL ls := by
  have a := mostL_ge ls m h1
  obtain ⟨x, hx, e⟩ := mostL_mem ls (List.ne_nil_of_mem h1)
  have b := h2 x hx
  have c := (g.2 m h1).1
  have d := (g.2 x hx).1
  omega
theorem GoodLs.most {ls : List Int} (g : GoodLs ls) : mostL ls ≤ 200 := by
  obtain ⟨x, hx, e⟩ := mostL_mem ls (by intro z; have := g.1; rw [z] at this; cases this)
  have := g.2 x hx
  omega
theorem GoodLs.lack {ls : List Int} (g : GoodLs ls) (d : Nat) : lackAt ls d ≤ mostL ls := by
  unfold lackAt
  rw [List.getD_eq_getElem?_getD]
  cases e : ls[d - 1]? with
  | none => exact Nat.zero_le _
  | some x => exact mostL_ge ls x (List.mem_of_getElem? e)
theorem GoodLs.at {ls : List Int} (g : GoodLs ls) {d : Nat} (h1 : 1 ≤ d) (h7 : d ≤ 7) : ls[d - 1]? = some (lackAt ls d : Int) := by
  have hl : d - 1 < ls.length := by rw [g.1]; omega
  have e := List.getElem?_eq_getElem hl
  rw [e]
  congr 1
  unfold lackAt
  rw [List.getD_eq_getElem?_getD, e]
  have := (g.2 _ (List.getElem_mem hl)).1
  show _ = ((ls[d - 1].toNat : Nat) : Int)
  omega
theorem cell_at' {rows : List (List (Option Int))} {M d a : Nat} (hl : rows.length = 7) (he : ∀ r ∈ rows, r.length = M + 1) (h1 : 1 ≤ d) (h7 : d ≤ 7) (ha : a ≤ M) : ∃ r, rows[d - 1]? = some r ∧ r[a]? = some (cellT rows d a) := by
  have h : d - 1 < rows.length := by omega
  have e := List.getElem?_eq_getElem h
  refine ⟨_, e, ?_⟩
  have hr := he _ (List.getElem_mem h)
  unfold cellT
  rw [List.getD_eq_getElem?_getD, List.getD_eq_getElem?_getD, e]
  show _ = some ((rows[d - 1])[a]?.getD none)
  rw [List.getElem?_eq_getElem (by omega)]; rfl
/-- what is told for a cell -/
def candT (rows : List (List (Option Int))) (d a : Nat) (o : Offer) : Option Int := if 0 < a ∧ dayOf o = d then (match cellT rows d (a - o.size.toNat) with | none => none | some r => some (r + o.price)) else none
def dueT (os : List Offer) (ls : List Int) (rows : List (List (Option Int))) (d a : Nat) : List Int := (goT ls rows d a).toList ++ os.filterMap (candT rows d a)
section
variable {os : List Offer} {ls : List Int} {M : Nat} {rows : List (List (Option Int))} {d a : Nat}
theorem due_mem (T : IsTable os ls M rows) (h1 : 1 ≤ d) (h7 : d ≤ 7) (ha : a ≤ M) {z : Int} (hz : z ∈ dueT os ls rows d a) : ∃ c, cellT rows d a = some c ∧ c ≤ z := by
  rcases List.mem_append.mp hz with h | h
  · rw [Option.mem_toList] at h
    exact T.go d a z h1 h7 ha h
  · obtain ⟨o, ho, e⟩ := List.mem_filterMap.mp h
    unfold candT at e
    split at e
    · rename_i hc
      split at e
      · cases e
      · rename_i r hr
        cases e
        exact T.take d a o r h1 h7 ha hc.1 ho hc.2 hr
    · cases e
theorem due_of (T : IsTable os ls M rows) (h1 : 1 ≤ d) (h7 : d ≤ 7) (ha : a ≤ M) {c : Int} (hc : cellT rows d a = some c) : c ∈ dueT os ls rows d a := by
  rcases T.from_ d a c h1 h7 ha hc with e | ⟨h0, o, r, ho, hdo, hr, rfl⟩
  · exact List.mem_append_left _ (by rw [e]; simp)
  · refine List.mem_append_right _ (List.mem_filterMap.mpr ⟨o, ho, ?_⟩)
    unfold candT
    rw [if_pos ⟨h0, hdo⟩, hr]
theorem due_none (T : IsTable os ls M rows) (h1 : 1 ≤ d) (h7 : d ≤ 7) (ha : a ≤ M) (h : dueT os ls rows d a = []) : cellT rows d a = none := by
  cases e : cellT rows d a with
  | none => rfl
  | some c =>
    have := due_of T h1 h7 ha e
    rw [h] at this
    cases this
theorem due_min (T : IsTable os ls M rows) (h1 : 1 ≤ d) (h7 : d ≤ 7) (ha : a ≤ M) {m : Int} (hm : m ∈ dueT os ls rows d a) (hl : ∀ y ∈ dueT os ls rows d a, m ≤ y) : cellT rows d a = some m := by
  obtain ⟨c, e, l⟩ := due_mem T h1 h7 ha hm
  have := hl c (due_of T h1 h7 ha e)
  rw [e]
  congr 1
  omega
end
def spTable : Sp := fun vs H Q _ => ∃ (v : V) (c : Addr) (os : List Offer) (ls : List Int), vs = [v, .ref c] ∧ OffersAt H v os ∧ H c = some (.tup (ls.map V.int)) ∧ os.length ≤ 60 ∧ (∀ o ∈ os, GoodOffer o) ∧ GoodLs ls ∧
  ∀ v' rows H', Same H H' → RowsAt H' v' rows → IsTable os ls (mostL ls) rows → Q v' H'
def boughtT (os : List Offer) (ls : List Int) (rows : List (List (Option Int))) : Option (List Int) := if cellT rows 1 (lackAt ls 1) = none then none else walkT os ls rows 220 1 (lackAt ls 1) (List.replicate os.length 0)
def spBought : Sp := fun vs H Q _ => ∃ (v : V) (c : Addr) (os : List Offer) (ls : List Int), vs = [v, .ref c] ∧ OffersAt H v os ∧ H c = some (.tup (ls.map V.int)) ∧ os.length ≤ 60 ∧ (∀ o ∈ os, GoodOffer o) ∧ GoodLs ls ∧
  ∀ rows H', Same H H' → IsTable os ls (mostL ls) rows → (boughtT os ls rows = none → Q .non H') ∧ (∀ cs p, boughtT os ls rows = some cs → H' p = some (.tup (cs.map V.int)) → Q (.ref p) H')
end Lar
namespace Lar
open PySem PySem.Spec PyProof.Rows L2
/-! ### all but one object as it was -/
def SameBut (c : Addr) (H H' : Hp) : Prop := ∀ b x, b ≠ c → H b = some x → H' b = some x
theorem SameBut.of {c : Addr} {H H' : Hp} (e : Same H H') : SameBut c H H' := fun b x _ h => e b x h
theorem SameBut.refl (c : Addr) (H : Hp) : SameBut c H H := fun _ _ _ h => h
theorem SameBut.trans {c : Addr} {H H1 H2 : Hp} (a : SameBut c H H1) (b : SameBut c H1 H2) : SameBut c H H2 := fun d o n h => b d o n (a d o n h)
theorem SameBut.put {c : Addr} {H H' : Hp} {o : HO} (a : SameBut c H H') : SameBut c H (upd H' c o) := fun b x n h => by
  rw [upd_ne n]
  exact a b x n h
theorem SameBut.over {c : Addr} {H0 H H' : Hp} (s : Same H0 H) (h : H0 c = none) (a : SameBut c H H') : Same H0 H' := fun b x e => a b x (ne_of_none e h) (s b x e)
theorem keepA {K : PySem.W.Frag} {H H' : Hp} {a : Addr} {xs : List V} (h : ∀ x, H a = some x → H' a = some x) (q : SqA K H a xs) : SqA K H' a xs := by
  rcases q with ((q | ⟨o, q⟩) | q) | ((q | ⟨o, q⟩) | q)
  · exact .inl (.inl (.inl (h _ q)))
  · exact .inl (.inl (.inr ⟨o, h _ q⟩))
  · exact .inl (.inr q)
  · exact .inr (.inl (.inl (h _ q)))
  · exact .inr (.inl (.inr ⟨o, h _ q⟩))
  · exact .inr (.inr q)
theorem SameBut.sq {K : PySem.W.Frag} {c : Addr} {H H' : Hp} {a : Addr} {xs : List V} (e : SameBut c H H') (n : a ≠ c) (q : SqA K H a xs) : SqA K H' a xs := keepA (fun x h => e a x n h) q
/-- where c is a list all along, tuples stay -/
theorem SameBut.tup {c : Addr} {H H' : Hp} {zs : List V} (e : SameBut c H H') (h : H c = some (.lst zs)) : SameT H H' := fun b xs hb => e b _ (fun z => by subst z; rw [h] at hb; cases hb) hb
theorem cutV_from (xs : List V) (i : Nat) : cutV xs (some (i : Int)) none = xs.drop i := by
  unfold cutV
  rw [HT.sIx_nat, HT.sIx_none]
  by_cases h : i ≤ xs.length
  · rw [Nat.min_eq_left h]
    exact List.take_of_length_le (by rw [List.length_drop]; exact Nat.le_refl _)
  · rw [Nat.min_eq_right (by omega), List.drop_of_length_le (Nat.le_refl _), List.drop_of_length_le (by omega), List.take_nil]
theorem rep0 (d : Nat) : (List.replicate (d : Int).toNat [V.int 0]).flatten = (List.replicate d (0 : Int)).map V.int := by
  rw [Int.toNat_natCast]
  induction d with
  | zero => rfl
  | succ d ih => rw [List.replicate_succ, List.flatten_cons, ih, List.replicate_succ, List.map_cons]; rfl
/-! ### the offers that fit -/
abbrev oz : Offer := ⟨0, 0, 0⟩
def fitK (os : List Offer) (d : Int) : List Nat := (List.range os.length).filterMap fun k => if d ≤ (os.getD k oz).last then some k else none
theorem fit_mem {os : List Offer} {d : Int} {k : Nat} (h : k ∈ fitK os d) : k < os.length ∧ d ≤ (os.getD k oz).last := by
  obtain ⟨j, hj, e⟩ := List.mem_filterMap.mp h
  split at e
  · rename_i hd
    cases e
    exact ⟨List.mem_range.mp hj, hd⟩
  · cases e
theorem fit_nil {os : List Offer} {d : Int} (h : fitK os d = []) : ∀ o ∈ os, ¬ d ≤ o.last := fun o ho hd => by
  obtain ⟨k, hk, e⟩ := List.getElem_of_mem ho
  have : k ∈ fitK os d := List.mem_filterMap.mpr ⟨k, List.mem_range.mpr hk, by
    have e2 : os.getD k oz = o := by rw [List.getD_eq_getElem?_getD, List.getElem?_eq_getElem hk, ← e]; rfl
    rw [e2, if_pos hd]⟩
  rw [h] at this
  cases this
theorem zip_range (os : List Offer) (cs : List Int) (h : os.length = cs.length) : os.zip cs = (List.range os.length).map fun k => (os.getD k oz, cs.getD k 0) := by
  refine List.ext_getElem (by rw [zip_len h]; simp) fun i h1 h2 => ?_
  have hi : i < os.length := by rw [zip_len h] at h1; exact h1
  rw [List.getElem_zip, List.getElem_map, List.getElem_range]
  rw [List.getD_eq_getElem?_getD, List.getD_eq_getElem?_getD, List.getElem?_eq_getElem hi, List.getElem?_eq_getElem (by omega)]; rfl
theorem sum_fm (p : Nat → Prop) [DecidablePred p] (g : Nat → Int) : ∀ xs : List Nat, ((xs.filterMap fun k => if p k then some k else none).map g).sum = (xs.map fun k => if p k then g k else 0).sum
  | [] => rfl
  | x :: r => by
    rw [List.map_cons, List.sum_cons, ← sum_fm p g r]
    by_cases e : p x
    · simp only [List.filterMap_cons, if_pos e, List.map_cons, List.sum_cons]
    · simp only [List.filterMap_cons, if_neg e]; omega
theorem held_fit (os : List Offer) (cs : List Int) (h : os.length = cs.length) (d : Int) : ((fitK os d).map fun k => (os.getD k oz).size * cs.getD k 0).sum = heldOn os cs d := by
  unfold fitK
  rw [sum_fm]
  unfold heldOn heldZ
  rw [zip_range os cs h, List.map_map]; rfl
/-- what a filling up leaves -/
structure Filled (os : List Offer) (ls : List Int) (M : Nat) (i : Nat) (cs cs' : List Int) : Prop where
  len : cs'.length = cs.length
  nn : ∀ x ∈ cs', 0 ≤ x
  few : sumC cs' ≤ sumC cs + i * M
  serve : ∀ e : Nat, 7 - i < e → e ≤ 7 → (lackAt ls e : Int) ≤ heldOn os cs' e
theorem sumC_add : ∀ (cs : List Int) (k : Nat) (c x : Int), cs[k]? = some c → 0 ≤ c → 0 ≤ x → sumC (cs.set k (c + x)) = sumC cs + x.toNat
  | [], k, c, x, h, _, _ => by simp at h
  | c' :: cs, 0, c, x, h, hc, hx => by
    have e : c' = c := by simpa using h
    subst e
    unfold sumC
    rw [List.set_cons_zero, List.map_cons, List.sum_cons, List.map_cons, List.sum_cons]
    omega
  | c' :: cs, k + 1, c, x, h, hc, hx => by
    have ih := sumC_add cs k c x (by simpa using h) hc hx
    unfold sumC at ih ⊢
    rw [List.set_cons_succ, List.map_cons, List.sum_cons, List.map_cons, List.sum_cons]
    omega
theorem fill_div {l h s : Int} (hs : 1 ≤ s) (hl : h < l) : l - h ≤ s * ((l - h + s - 1) / s) ∧ 0 ≤ (l - h + s - 1) / s ∧ (l - h + s - 1) / s ≤ l - h := by
  have e := Int.mul_ediv_add_emod (l - h + s - 1) s
  have m0 := Int.emod_nonneg (l - h + s - 1) (show s ≠ 0 by omega)
  have m1 := Int.emod_lt_of_pos (l - h + s - 1) (show 0 < s by omega)
  have n0 := Int.ediv_nonneg (show 0 ≤ l - h + s - 1 by omega) (show 0 ≤ s by omega)
  refine ⟨by omega, n0, ?_⟩
  by_cases z : (l - h + s - 1) / s ≤ l - h
  · exact z
  · exfalso
    have z2 : l - h + 1 ≤ (l - h + s - 1) / s := by omega
    have := Int.mul_le_mul_of_nonneg_left z2 (show 0 ≤ s by omega)
    rw [Int.mul_add] at this
    have q : l - h ≤ s * (l - h) := by
      have := Int.mul_le_mul_of_nonneg_right hs (show 0 ≤ l - h by omega)
      omega
    omega
theorem Filled.none {os : List Offer} {ls : List Int} {M i : Nat} {cs cs' : List Int} (F : Filled os ls M i cs cs') (hi : i < 7) (h : (lackAt ls (7 - i) : Int) ≤ heldOn os cs' ((7 - i : Nat) : Int)) : Filled os ls M (i + 1) cs cs' :=
  ⟨F.len, F.nn, by have := F.few; rw [Nat.succ_mul]; omega, fun e h1 h2 => by
    by_cases z : e = 7 - i
    · subst z; exact h
    · exact F.serve e (by omega) h2⟩
theorem Filled.more {os : List Offer} {ls : List Int} {M i : Nat} {cs cs' : List Int} (F : Filled os ls M i cs cs') (hl : os.length = cs.length) (hg : ∀ o ∈ os, GoodOffer o) (hi : i < 7) (hM : lackAt ls (7 - i) ≤ M)
    {k : Nat} (hk : k ∈ fitK os ((7 - i : Nat) : Int)) (h : heldOn os cs' ((7 - i : Nat) : Int) < (lackAt ls (7 - i) : Int)) :
    Filled os ls M (i + 1) cs (cs'.set k (cs'.getD k 0 + ((lackAt ls (7 - i) : Int) - heldOn os cs' ((7 - i : Nat) : Int) + (os.getD k oz).size - 1) / (os.getD k oz).size)) := by
  obtain ⟨hk1, hk2⟩ := fit_mem hk
  have eo : os.getD k oz = os[k] := by rw [List.getD_eq_getElem?_getD, List.getElem?_eq_getElem hk1]; rfl
  have hkc : k < cs'.length := by rw [F.len, ← hl]; exact hk1
  have ec : cs'.getD k 0 = cs'[k] := by rw [List.getD_eq_getElem?_getD, List.getElem?_eq_getElem hkc]; rfl
  rw [eo] at hk2
  rw [eo, ec]
  have g := hg _ (List.getElem_mem hk1)
  have g1 := g.size1
  obtain ⟨d1, d2, d3⟩ := fill_div g1 h
  have c0 := F.nn _ (List.getElem_mem hkc)
  have hh : 0 ≤ heldOn os cs' ((7 - i : Nat) : Int) := by rw [heldOn_w]; exact wsum_nonneg _ _ _ (fun o ho => onto_nonneg (hg o ho) _) F.nn
  generalize hx : ((lackAt ls (7 - i) : Int) - heldOn os cs' ((7 - i : Nat) : Int) + os[k].size - 1) / os[k].size = x at d1 d2 d3 ⊢
  have hw : ∀ e : Int, heldOn os (cs'.set k (cs'[k] + x)) e = heldOn os cs' e + onto e os[k] * x := fun e => by
    rw [heldOn_w, heldOn_w]
    exact wsum_set (onto e) x os cs' k _ _ (List.getElem?_eq_getElem hk1) (List.getElem?_eq_getElem hkc)
  refine ⟨by rw [List.length_set]; exact F.len, nn_set F.nn (by omega), ?_, fun e h1 h2 => ?_⟩
  · have := sumC_add cs' k _ x (List.getElem?_eq_getElem hkc) c0 d2
    have f := F.few
    rw [this, Nat.succ_mul]
    omega
  · rw [hw]
    by_cases z : e = 7 - i
    · subst z
      unfold onto
      rw [if_pos hk2]
      omega
    · have := F.serve e (by omega) h2
      have := Int.mul_nonneg (onto_nonneg g e) d2
      omega
end Lar
namespace Lar
open PySem PySem.Spec PyProof.Rows L2
/-! ### uses: tuples of pairs (batch, amount) -/
abbrev Use := Nat × Int
def UseAt (H : Hp) (v : V) (p : Use) : Prop := ∃ t, v = .ref t ∧ H t = some (.tup [.int (p.1 : Int), .int p.2])
theorem UseAt.mono : MonoT UseAt := fun _ _ _ _ e ⟨t, h1, h2⟩ => ⟨t, h1, e _ _ h2⟩
abbrev PairsAt : Hp → V → List Use → Prop := TupAll UseAt
theorem PairsAt.mono : MonoT PairsAt := TupAll.mono UseAt.mono
abbrev UsesAt : Hp → V → List (List Use) → Prop := TupAll PairsAt
theorem UsesAt.mono : MonoT UsesAt := TupAll.mono PairsAt.mono
/-- a tuple of ints -/
def IntsT (H : Hp) (v : V) (xs : List Int) : Prop := ∃ t, v = .ref t ∧ H t = some (.tup (xs.map V.int))
theorem IntsT.mono : MonoT IntsT := fun _ _ _ _ e ⟨t, h1, h2⟩ => ⟨t, h1, e _ _ h2⟩
/-- how much of a batch is used -/
def usedP (ps : List Use) (k : Nat) : Int := (ps.map fun p => if p.1 = k then p.2 else 0).sum
def usedOf (us : List (List Use)) (k : Nat) : Int := (us.map fun ps => usedP ps k).sum
theorem usedP_snoc (ps : List Use) (p : Use) (k : Nat) : usedP (ps ++ [p]) k = usedP ps k + if p.1 = k then p.2 else 0 := by
  unfold usedP
  rw [List.map_append, List.sum_append]; simp
theorem usedOf_snoc (us : List (List Use)) (ps : List Use) (k : Nat) : usedOf (us ++ [ps]) k = usedOf us k + usedP ps k := by
  unfold usedOf
  rw [List.map_append, List.sum_append]; simp
abbrev bz : Batch := ⟨"", 0, 0⟩
def endOf (b : Batch) (used : Int) : List Int := if b.last < 7 then [used, b.amount - used, 0] else [used, 0, b.amount - used]
def endsL (lar : List Batch) (us : List (List Use)) : List (List Int) := (List.range lar.length).map fun k => endOf (lar.getD k bz) (usedOf us k)
def spEnds : Sp := fun vs H Q _ => ∃ (v u : V) (lar : List Batch) (us : List (List Use)), vs = [v, u] ∧ LarderAt H v lar ∧ UsesAt H u us ∧ lar.length ≤ 50000 ∧ us.length ≤ 1000 ∧ (∀ ps ∈ us, ps.length ≤ 50000 ∧ ∀ p ∈ ps, p.1 < lar.length ∧ 1 ≤ p.2) ∧ (∀ k, k < lar.length → usedOf us k ≤ (lar.getD k bz).amount) ∧
  ∀ v' H', Same H H' → TupAll IntsT H' v' (endsL lar us) → Q v' H'
/-! ### what is left of the batches -/
def leftL (lar : List Batch) (f : Nat → Int) : List Int := (List.range lar.length).map fun k => (lar.getD k bz).amount - f k
theorem leftL_len (lar : List Batch) (f : Nat → Int) : (leftL lar f).length = lar.length := by unfold leftL; simp
theorem leftL_at {lar : List Batch} {f : Nat → Int} {k : Nat} (h : k < lar.length) : (leftL lar f)[k]? = some ((lar.getD k bz).amount - f k) := by
  unfold leftL
  rw [List.getElem?_map, List.getElem?_range h]; rfl
theorem leftL_set {lar : List Batch} {f g : Nat → Int} {k : Nat} {z : Int} (h : k < lar.length) (h1 : (lar.getD k bz).amount - g k = z) (h2 : ∀ j, j < lar.length → j ≠ k → g j = f j) : (leftL lar f).set k z = leftL lar g := by
  refine List.ext_getElem? fun j => ?_
  rw [List.getElem?_set]
  by_cases e : k = j
  · subst e
    rw [if_pos rfl, leftL_len, if_pos h, leftL_at h, h1]
  · rw [if_neg e]
    by_cases hj : j < lar.length
    · rw [leftL_at hj, leftL_at hj, h2 j hj (fun z => e z.symm)]
    · rw [List.getElem?_eq_none (by rw [leftL_len]; omega), List.getElem?_eq_none (by rw [leftL_len]; omega)]
theorem getD_at {α : Type} {xs : List α} {k : Nat} {x d : α} (h : xs[k]? = some x) : xs.getD k d = x := by rw [List.getD_eq_getElem?_getD, h]; rfl
theorem at_getD {α : Type} {xs : List α} {k : Nat} (h : k < xs.length) (d : α) : xs[k]? = some (xs.getD k d) := by rw [List.getD_eq_getElem?_getD, List.getElem?_eq_getElem h]; rfl
/-- what is told of each can be told of all -/
theorem Held.choose {α β : Type} {R : Hp → V → β → Prop} {P : α → β → Prop} {H : Hp} : ∀ {vs : List V} {xs : List α}, Held (fun H v x => ∃ y, R H v y ∧ P x y) H vs xs → ∃ ys : List β, Held R H vs ys ∧ ys.length = xs.length ∧ ∀ (i : Nat) x y, xs[i]? = some x → ys[i]? = some y → P x y
  | [], [], _ => ⟨[], Held.nil, rfl, fun i x y h => by simp at h⟩
  | [], _ :: _, h => by have := h.len; simp at this
  | _ :: _, [], h => by have := h.len; simp at this
  | v :: vs, x :: xs, h => by
    obtain ⟨ys, a, b, c⟩ := Held.choose (vs := vs) (xs := xs) (R := R) (P := P) (H := H) ⟨by have := h.len; simpa using this, fun i v' x' h1 h2 => h.all (i + 1) v' x' (by simpa using h1) (by simpa using h2)⟩
    obtain ⟨y, r, p⟩ := h.all 0 v x rfl rfl
    refine ⟨y :: ys, ⟨by simp [a.len], fun i v' y' h1 h2 => ?_⟩, by simp [b], fun i x' y' h1 h2 => ?_⟩
    · cases i with
      | zero =>
        have e1 : v = v' := by simpa using h1
        have e2 : y = y' := by simpa using h2
        subst e1 e2
        exact r
      | succ i => exact a.all i v' y' (by simpa using h1) (by simpa using h2)
    · cases i with
      | zero =>
        have e1 : x = x' := by simpa using h1
        have e2 : y = y' := by simpa using h2
        subst e1 e2
        exact p
      | succ i => exact c i x' y' (by simpa using h1) (by simpa using h2)
/-- a tuple and one that is not empty -/
theorem cat_tup {K : PySem.W.Frag} {H : Hp} {Q : VK} {a b : Addr} {xs ys : List V} (ha : SqT K H a xs) (hb : H b = some (.tup ys)) (hz : xs.length + ys.length ≤ sizeLine) (ny : ys ≠ []) (h : ∀ p H', Same H H' → H' p = some (.tup (xs ++ ys)) → Q (.ref p) H') : rCatA K (.ref a) (.ref b) H Q := by
  refine ⟨a, b, xs, ys, rfl, rfl, ha, sqT hb, hz, fun e => ?_, fun _ e => absurd e ny, fun _ _ p hp => ?_⟩
  · subst e
    exact h b H (Same.refl _) hb
  · exact h p _ (same_upd hp) upd_same
theorem endOf_len (b : Batch) (u : Int) : (endOf b u).length = 3 := by unfold endOf; split <;> rfl
end Lar
namespace Lar
open PySem PySem.Spec PyProof.Rows L2
/-! ### a dict of what is used of the batches -/
def kI (k : Nat) : L2.Key := Sum.inl (k : Int)
theorem kI_inj {i j : Nat} (h : kI i = kI j) : i = j := by
  have : (i : Int) = (j : Int) := Sum.inl.inj h
  omega
structure Tally (kvs : List (L2.Key × V)) (n : Nat) (f : Nat → Int) : Prop where
  keys : ∃ ns : List Nat, kvs.map (·.1) = ns.map kI ∧ ns.Nodup ∧ ∀ k ∈ ns, k < n
  val : ∀ k : Nat, (valV kvs (kI k)).getD (.int 0) = .int (f k)
theorem Tally.nil {n : Nat} : Tally [] n (fun _ => 0) := ⟨⟨[], rfl, List.nodup_nil, fun _ h => nomatch h⟩, fun _ => rfl⟩
theorem Tally.len {kvs : List (L2.Key × V)} {n : Nat} {f : Nat → Int} (T : Tally kvs n f) : kvs.length ≤ n := by
  obtain ⟨ns, e, hn, hl⟩ := T.keys
  have h1 : kvs.length = ns.length := by rw [← List.length_map (f := (·.1)), e, List.length_map]
  have h2 := nat_nodup_len ns (List.range n) hn fun k hk => List.mem_range.mpr (hl k hk)
  rw [List.length_range] at h2
  omega
theorem Tally.put {kvs : List (L2.Key × V)} {n : Nat} {f g : Nat → Int} (T : Tally kvs n f) {k : Nat} {z : Int} (hk : k < n) (h1 : g k = z) (h2 : ∀ j, j ≠ k → g j = f j) : Tally (putK kvs (kI k) (.int z)) n g := by
  refine ⟨?_, fun j => ?_⟩
  · obtain ⟨ns, e, hn, hl⟩ := T.keys
    cases hv : valV kvs (kI k) with
    | none =>
      refine ⟨ns ++ [k], ?_, ?_, fun j hj => ?_⟩
      · rw [putK_new _ hv, List.map_append, List.map_append, e]; rfl
      · refine nd_snoc hn fun z => ?_
        have := valV_not hv
        rw [e] at this
        exact this (List.mem_map.mpr ⟨k, z, rfl⟩)
      · rcases List.mem_append.mp hj with z | z
        · exact hl j z
        · rw [List.mem_singleton.mp z]; exact hk
    | some v =>
      refine ⟨ns, ?_, hn, hl⟩
      unfold putK
      rw [valV_any, hv]
      rw [if_pos (show (some v).isSome = true from rfl), List.map_map, ← e]
      apply List.map_congr_left
      intro p _
      show (if p.1 = kI k then (p.1, V.int z) else p).1 = p.1
      split <;> rfl
  · rw [valV_put]
    by_cases e : kI j = kI k
    · rw [if_pos e, kI_inj e, h1]; rfl
    · rw [if_neg e, h2 j (fun z => e (by rw [z]))]
      exact T.val j
def spSumsOf : Sp := fun vs H Q _ => ∃ (v : V) (us : List (List Use)) (n : Nat), vs = [v] ∧ UsesAt H v us ∧ us.length ≤ 1000 ∧ n ≤ 50000 ∧ (∀ ps ∈ us, ps.length ≤ 50000 ∧ ∀ p ∈ ps, p.1 < n) ∧ ∀ d kvs H', Same H H' → H' d = some (.dK kvs) → Tally kvs n (usedOf us) → Q (.ref d) H'
def spEndOf : Sp := fun vs H Q _ => ∃ (b : Batch) (u : Int), vs = [.int b.amount, .int b.last, .int u] ∧ ∀ v' H', Same H H' → IntsT H' v' (endOf b u) → Q v' H'
end Lar
namespace Lar
open PySem PySem.Spec PyProof.Rows L2
local macro_rules | `(tactic| walk_at "rd") => `(tactic| repeat' first
  | refine ⟨_, rfl, ?_⟩
  | refine ⟨_, _, rfl, rfl, ?_⟩
  | refine ⟨_, _, rfl, ?_⟩
  | refine ⟨rfl, ?_⟩
  | refine ⟨⟨_, rfl⟩, ?_⟩
  | refine ⟨(by show (0 : Int) < _; decide), ?_⟩
  | refine ⟨⟨by decide, by decide⟩, ?_⟩
  | refine ⟨.inr ⟨by decide, by decide⟩, ?_⟩
  | refine ⟨.inl ⟨by decide, by decide⟩, ?_⟩
  | refine ⟨.inl ⟨by omega, by omega⟩, ?_⟩
  | refine ⟨.inr ⟨by omega, by omega⟩, ?_⟩
  | fail "rd")
def topS (i : Nat) : Stmt := PySem.Challenge.pw_larderlist_k09_ends.main.body.getD i (.Pass ⟨0, 0, 0, 0⟩)
abbrev s_mix : Stmt := topS 8
theorem sc_mix : FnScope ["_law_cell", "_law_k", "_law_x"] ["_law_cell", "_law_k"] (defScope s_mix) := ⟨rfl, rfl, rfl, by decide +kernel, rfl, by decide +kernel, by decide +kernel⟩
theorem bd_mix : ∀ (kV doc pm : Value) (an : Option Addr) (cdv ct : Value) (us : List Value), us.length = (["_law_cell", "_law_k"] : List Str).length → bindArgs (PySem.W.fnOf "_law_mix" "_law_mix" (defArgs s_mix) (defBody s_mix) (defScope s_mix) .none kV doc pm an cdv ct) ⟨us, []⟩ = pure ((["_law_cell", "_law_k"] : List Str).zip us) := fun _ _ _ _ _ _ us hl => match us, hl with | [_, _], _ => rfl
/-- a cell mixed: between 0 and a bound -/
def spMix : Sp := fun vs H Q _ => ∃ c k : Int, vs = [.int c, .int k] ∧ 0 ≤ k ∧ k ≤ 1000000 ∧ ∀ z : Int, 0 ≤ z → z < 998244353 → Q (.int z) H
theorem ok_mix {P : Program} {w : World} {K : PySem.W.Frag} {mg : Str → Option Value} {base : Heap} (D : DefAt K mg "_law_mix" s_mix) : Clb P w K mg base 1 "_law_mix" ["_law_cell", "_law_k"] spMix := by
  refine D.clb sc_mix (fun vs H Q E h => ?_) bd_mix (fun f cdv A outer s H vs Q E hr h => ?_)
  · obtain ⟨c, k, rfl, _⟩ := h
    rfl
  · obtain ⟨c, k, rfl, h0, h1, q⟩ := h
    refine ⟨_, (pss_cons (ps_set (i := 2) sc_mix.nd rfl (.inl rfl) (pe_op op_mod (pe_op op_add (pe_op op_add (pv 0) (pe_op op_mul pe_int (pv 1))) (pe_op op_mul (pe_op op_mul pe_int (pv 1)) (pv 1))) pe_int))
    (pss_one (ps_ret (pe_op op_mod (pe_op op_mul (pe_op op_mod (pe_op op_mul (pv 2) (pv 2)) pe_int) pe_int) pe_int)))), ?_⟩
    walk_at "rd"
    exact q _ (Int.emod_nonneg _ (by decide)) (Int.emod_lt_of_pos _ (by decide))
/-- the cells: a list of numbers from 0 up -/
def CellsAt (K : PySem.W.Frag) (H : Hp) (a : Addr) : Prop := ∃ cs : List Int, SqL K H a (cs.map V.int) ∧ cs.length ≤ 63 ∧ ∀ c ∈ cs, 0 ≤ c ∧ c < 1000000000000000003
theorem CellsAt.same {K : PySem.W.Frag} {H H' : Hp} {a : Addr} (h : CellsAt K H a) (e : Same H H') : CellsAt K H' a := by
  obtain ⟨cs, h1, h2⟩ := h
  exact ⟨cs, e.seq h1, h2⟩
abbrev s_cell_at : Stmt := topS 7
theorem sc_cell_at : FnScope ["_law_cells", "_law_k"] ["_law_cells", "_law_k"] (defScope s_cell_at) := ⟨rfl, rfl, rfl, by decide +kernel, rfl, by decide +kernel, by decide +kernel⟩
theorem bd_cell_at : ∀ (kV doc pm : Value) (an : Option Addr) (cdv ct : Value) (us : List Value), us.length = (["_law_cells", "_law_k"] : List Str).length → bindArgs (PySem.W.fnOf "_law_cell_at" "_law_cell_at" (defArgs s_cell_at) (defBody s_cell_at) (defScope s_cell_at) .none kV doc pm an cdv ct) ⟨us, []⟩ = pure ((["_law_cells", "_law_k"] : List Str).zip us) := fun _ _ _ _ _ _ us hl => match us, hl with | [_, _], _ => rfl
def spCellAt (K : PySem.W.Frag) : Sp := fun vs H Q _ => ∃ (a : Addr) (k : Int), vs = [.ref a, .int k] ∧ CellsAt K H a ∧ 0 ≤ k ∧ k ≤ 1000 ∧ ∀ z : Int, 0 ≤ z → z < 1000000000000000003 → Q (.int z) H
theorem ok_cell_at {P : Program} {w : World} {K : PySem.W.Frag} {mg : Str → Option Value} {base : Heap} (D : DefAt K mg "_law_cell_at" s_cell_at) (m_len : mg "len" = none) : Clb P w K mg base 1 "_law_cell_at" ["_law_cells", "_law_k"] (spCellAt K) := by
  refine D.clb sc_cell_at (fun vs H Q E h => ?_) bd_cell_at (fun f cdv A outer s H vs Q E hr h => ?_)
  · obtain ⟨a, k, rfl, _⟩ := h
    rfl
  · obtain ⟨a, k, rfl, ⟨cs, hc, hl, hb⟩, h0, h1, q⟩ := h
    refine ⟨_, (pss_cons (ps_if (pt_cmpR op_lt (pv 1) (pe_callB (kcall_len_seq K) (by rfl) m_len (by decide +kernel) (pa_cons (pv 0) pa_nil)) (nomark _))
      (pss_one (ps_ret (pe_ix (kix_list K) (pv 0) (pv 1) (fun _ _ => rfl))))
      pss_nil)
    (pss_one (ps_ret (pe_op op_mul (pe_op op_mul (pe_op op_add (pv 1) pe_int) (pe_op op_add (pv 1) pe_int)) pe_int)))), ?_⟩
    refine ⟨_, rfl, _, rfl, a, _, rfl, .inl hc, ?_⟩
    walk_at "rd"
    refine it_lt (fun hlt => ?_) (fun _ => ?_)
    · rw [List.length_map] at hlt
      have hk : k.toNat < cs.length := by omega
      refine ⟨_, rfl, _, rfl, a, _, _, .int cs[k.toNat], rfl, rfl, hc, at_of (j := k.toNat) (by omega) (ix_map (List.getElem?_eq_getElem hk)), ?_⟩
      exact q _ (hb _ (List.getElem_mem hk)).1 (hb _ (List.getElem_mem hk)).2
    · walk_at "rd"
      have h3 : 0 ≤ (k + 3) * (k + 7) := Int.mul_nonneg (by omega) (by omega)
      have h4 : (k + 3) * (k + 7) ≤ 1003 * (k + 7) := Int.mul_le_mul_of_nonneg_right (by omega) (by omega)
      exact q _ (by show 0 ≤ (k + 3) * (k + 7) * 7919; omega) (by show (k + 3) * (k + 7) * 7919 < _; omega)
abbrev s_mixed : Stmt := topS 6
theorem sc_mixed : FnScope ["_law_script", "_law_found", "_law_more", "_law_cell"] ["_law_script"] (defScope s_mixed) := ⟨rfl, rfl, rfl, by decide +kernel, rfl, by decide +kernel, by decide +kernel⟩
theorem bd_mixed : ∀ (kV doc pm : Value) (an : Option Addr) (cdv ct : Value) (us : List Value), us.length = (["_law_script"] : List Str).length → bindArgs (PySem.W.fnOf "_law_mixed" "_law_mixed" (defArgs s_mixed) (defBody s_mixed) (defScope s_mixed) .none kV doc pm an cdv ct) ⟨us, []⟩ = pure ((["_law_script"] : List Str).zip us) := fun _ _ _ _ _ _ us hl => match us, hl with | [_], _ => rfl
def spMixed (K : PySem.W.Frag) : Sp := fun vs H Q _ => ∃ (a : Addr) (ns : List Int), vs = [.ref a] ∧ SqL K H a (ns.map V.int) ∧ ns.length ≤ 63 ∧ ∀ p H', Same H H' → CellsAt K H' p → Q (.ref p) H'
theorem ok_mixed {P : Program} {w : World} {K : PySem.W.Frag} {mg : Str → Option Value} {base : Heap} (D : DefAt K mg "_law_mixed" s_mixed) : Clb P w K mg base 1 "_law_mixed" ["_law_script"] (spMixed K) := by
  refine D.clb sc_mixed (fun vs H Q E h => ?_) bd_mixed (fun f cdv A outer s H vs Q E hr h => ?_)
  · obtain ⟨a, ns, rfl, _⟩ := h
    rfl
  · obtain ⟨a, ns, rfl, hS, hl, q⟩ := h
    refine ⟨_, (pss_cons (ps_set (i := 1) sc_mixed.nd rfl (.inl rfl) (pe_lst pa_nil))
    (pss_cons (ps_set (i := 2) sc_mixed.nd rfl (.inl rfl) pe_int)
    (pss_cons (ps_for PassesOwn.never rfl (kpi_list K (pv 0)) (pg_name (i := 3) sc_mixed.nd rfl (.inl rfl))
      (pss_cons (ps_set (i := 2) sc_mixed.nd rfl (.inl rfl) (pe_op op_mod (pe_op op_add (pe_op op_add (pe_op op_mul (pv 2) pe_int) (pv 3)) pe_int) pe_int))
    (pss_one (ps_expr (kpe_bm K PySem.F.plainAttrs_list PySem.F.slot_list_append PySem.F.type_list_append mt_append (pv 1) (pa_cons (pv 2) pa_nil))))))
    (pss_one (ps_ret (pv 1)))))), ?_⟩
    refine ⟨Nat.zero_le _, fun p hp => ?_⟩
    refine ⟨_, rfl, a, rfl, ⟨_, (same_upd hp).seq hS⟩, for_list (xs := ns.map V.int) (fun i σ H' => ∃ (cs : List Int) (m : Int) (y : Option V), σ = [some (.ref a), some (.ref p), some (.int m), y] ∧ Same H H' ∧ H' p = some (.lst (cs.map V.int)) ∧ cs.length = i ∧
      (0 ≤ m ∧ m < 1000000000000000003) ∧ ∀ c ∈ cs, 0 ≤ c ∧ c < 1000000000000000003) ⟨[], 1, none, rfl, same_upd hp, upd_same, rfl, by decide, fun _ h => nomatch h⟩ (fun i σ H' _ h => ?_) (fun i x σ H' hx h => ?_) (fun σ H' h => ?_)⟩
    · obtain ⟨cs, m, y, _, sm, _⟩ := h
      exact sm.seq hS
    · obtain ⟨cs, m, y, rfl, sm, hcs, hi, hm, hb⟩ := h
      obtain ⟨n, hn, rfl⟩ := map_ix hx
      have hlt : i < ns.length := (List.getElem?_eq_some_iff.mp hn).1
      walk_at "rd"
      refine ⟨.inl ⟨rfl, _, sqL hcs⟩, ?_⟩
      refine ⟨_, rfl, p, _, _, rfl, rfl, hcs, small' (by rw [List.length_map]; omega), ?_⟩
      have h1 : 0 ≤ (m * 6364136223846793005 + n + 1442695040888963407) % 1000000000000000003 := Int.emod_nonneg _ (by decide)
      have h2 : (m * 6364136223846793005 + n + 1442695040888963407) % 1000000000000000003 < 1000000000000000003 := Int.emod_lt_of_pos _ (by decide)
      refine ⟨cs ++ [(m * 6364136223846793005 + n + 1442695040888963407) % 1000000000000000003], _, _, rfl, sm.mut hp, ?_, ?_, ⟨h1, h2⟩, fun c hc => ?_⟩
      · rw [upd_same, List.map_append]; rfl
      · rw [List.length_append, hi]; rfl
      · rcases List.mem_append.mp hc with z | z
        · exact hb c z
        · rw [List.mem_singleton.mp z]
          exact ⟨h1, h2⟩
    · obtain ⟨cs, m, y, rfl, sm, hcs, hi, hm, hb⟩ := h
      rw [List.length_map] at hi
      exact ⟨_, rfl, q p H' sm ⟨cs, sqL hcs, by omega, hb⟩⟩
abbrev s_whole : Stmt := topS 9
theorem sc_whole : FnScope ["_law_found"] ["_law_found"] (defScope s_whole) := ⟨rfl, rfl, rfl, by decide +kernel, rfl, by decide +kernel, by decide +kernel⟩
theorem bd_whole : ∀ (kV doc pm : Value) (an : Option Addr) (cdv ct : Value) (us : List Value), us.length = (["_law_found"] : List Str).length → bindArgs (PySem.W.fnOf "_law_whole" "_law_whole" (defArgs s_whole) (defBody s_whole) (defScope s_whole) .none kV doc pm an cdv ct) ⟨us, []⟩ = pure ((["_law_found"] : List Str).zip us) := fun _ _ _ _ _ _ us hl => match us, hl with | [_], _ => rfl
def spWhole : Sp := fun vs H Q _ => ∃ n : Int, vs = [.int n] ∧ Q (.bl true) H
theorem ok_whole {P : Program} {w : World} {K : PySem.W.Frag} {mg : Str → Option Value} {base : Heap} (D : DefAt K mg "_law_whole" s_whole) (m_isinstance : mg "isinstance" = none) (m_int : mg "int" = none) (m_bool : mg "bool" = none) :
    Clb P w K mg base 1 "_law_whole" ["_law_found"] spWhole := by
  refine D.clb sc_whole (fun vs H Q E h => ?_) bd_whole (fun f cdv A outer s H vs Q E hr h => ?_)
  · obtain ⟨n, rfl, _⟩ := h
    rfl
  · obtain ⟨n, rfl, q⟩ := h
    refine ⟨_, (pss_one (ps_ret (pe_and (pe_callB (kcall_isi K) (by rfl) m_isinstance (by decide +kernel) (pa_cons (pv 0) (pa_cons (pe_bltn (v := .ty "int") (u := .type "int") (by rfl) m_int (by decide +kernel) rfl) pa_nil))) (pe_one (pe_not (pe_callB (kcall_isi K) (by rfl) m_isinstance (by decide +kernel) (pa_cons (pv 0) (pa_cons (pe_bltn (v := .ty "bool") (u := .type "bool") (by rfl) m_bool (by decide +kernel) rfl) pa_nil)))))))), ?_⟩
    refine ⟨_, rfl, ?_⟩
    refine ⟨_, _, _, _, true, rfl, .ty _, .base (.int n), kit_ty (by decide +kernel), ?_⟩
    refine ⟨_, rfl, iteT ?_⟩
    refine ⟨_, rfl, ?_⟩
    refine ⟨_, _, _, _, false, rfl, .ty _, .base (.int n), kit_ty (by decide +kernel), ?_⟩
    exact ⟨_, rfl, q⟩
abbrev s_numbers : Stmt := topS 10
theorem sc_numbers : FnScope ["_law_found", "_law_due", "_law_k"] ["_law_found", "_law_due"] (defScope s_numbers) := ⟨rfl, rfl, rfl, by decide +kernel, rfl, by decide +kernel, by decide +kernel⟩
theorem bd_numbers : ∀ (kV doc pm : Value) (an : Option Addr) (cdv ct : Value) (us : List Value), us.length = (["_law_found", "_law_due"] : List Str).length → bindArgs (PySem.W.fnOf "_law_numbers" "_law_numbers" (defArgs s_numbers) (defBody s_numbers) (defScope s_numbers) .none kV doc pm an cdv ct) ⟨us, []⟩ = pure ((["_law_found", "_law_due"] : List Str).zip us) := fun _ _ _ _ _ _ us hl => match us, hl with | [_, _], _ => rfl
def spNumbers (K : PySem.W.Frag) : Sp := fun vs H Q _ => ∃ (a b : Addr) (ns : List Int), vs = [.ref a, .ref b] ∧ H a = some (.tup (ns.map V.int)) ∧ (SqL K H b (ns.map V.int) ∨ SqT K H b (ns.map V.int)) ∧ ns.length ≤ 1000 ∧ Q (.bl true) H
theorem ok_numbers {P : Program} {w : World} {K : PySem.W.Frag} {mg : Str → Option Value} {base : Heap} (D : DefAt K mg "_law_numbers" s_numbers) (m_isinstance : mg "isinstance" = none) (m_tuple : mg "tuple" = none) (m_len : mg "len" = none) (m_range : mg "range" = none)
    (C_whole : Clb P w K mg base 1 "_law_whole" ["_law_found"] spWhole) :
    Clb P w K mg base 2 "_law_numbers" ["_law_found", "_law_due"] (spNumbers K) := by
  refine D.clb sc_numbers (fun vs H Q E h => ?_) bd_numbers (fun f cdv A outer s H vs Q E hr h => ?_)
  · obtain ⟨a, b, ns, rfl, _⟩ := h
    rfl
  · obtain ⟨a, b, ns, rfl, ha, hb, hz, q⟩ := h
    have hT : SqT K H a (ns.map V.int) := sqT ha
    refine ⟨_, (C8.pss_cut (ps_if (PW.pt (pw_or (pt_not (pt_val (pe_callB (kcall_isi K) (by rfl) m_isinstance (by decide +kernel) (pa_cons (pv 0) (pa_cons (pe_bltn (v := .ty "tuple") (u := .type "tuple") (by rfl) m_tuple (by decide +kernel) rfl) pa_nil))))) (pw_or1 (pt_cmpR op_ne (pe_callB (kcall_len_seq K) (by rfl) m_len (by decide +kernel) (pa_cons (pv 0) pa_nil)) (pe_callB (kcall_len_seq K) (by rfl) m_len (by decide +kernel) (pa_cons (pv 1) pa_nil)) (nomark _)))))
      (pss_one (ps_ret pe_bl))
      pss_nil)
    (pss_cons (ps_for PassesOwn.never rfl (pi_range1 (by rfl) m_range (pa_cons (pe_callB (kcall_len_seq K) (by rfl) m_len (by decide +kernel) (pa_cons (pv 1) pa_nil)) pa_nil)) (pg_name (i := 2) sc_numbers.nd rfl (.inl rfl))
      (pss_one (ps_if (PW.pt (pw_or (pt_not (pt_val (pe_cal C_whole (hr.mono (by decide)) (pa_cons (pe_ix (kix_tup K) (pv 0) (pv 2) (fun _ _ => rfl)) pa_nil)))) (pw_or1 (pt_cmpR op_ne (pe_ix (kix_tup K) (pv 0) (pv 2) (fun _ _ => rfl)) (pe_ix (kix_seq K) (pv 1) (pv 2) (fun _ _ => rfl)) (nomark _)))))
      (pss_one (ps_ret pe_bl))
      pss_nil)))
    (pss_one (ps_ret pe_bl)))), ?_⟩
    refine ⟨fun σ' H' => σ' = [some (.ref a), some (.ref b), none] ∧ H = H', ?_, fun σ' H' h => ?_⟩
    · refine ⟨_, rfl, ?_⟩
      refine ⟨_, _, _, _, true, rfl, .ty _, .base (.tup ha), kit_ty (by decide +kernel), ?_⟩
      refine ⟨_, rfl, iteF ?_⟩
      refine ⟨_, rfl, a, _, rfl, .inr hT, ?_⟩
      refine ⟨_, rfl, b, _, rfl, hb, ?_⟩
      walk_at "rd"
      refine it_neI (fun z => absurd rfl z) (fun _ => ?_)
      exact ⟨rfl, rfl⟩
    obtain ⟨rfl, rfl⟩ := h
    refine ⟨_, rfl, b, _, rfl, hb, ?_⟩
    refine ⟨_, rfl, by omega, by rw [List.length_map]; omega, ?_⟩
    refine for_range (lo := 0) (fun i σ H' => ∃ y : Option V, σ = [some (.ref a), some (.ref b), y] ∧ H' = H) ⟨none, rfl, rfl⟩ (fun i σ H' hi h => ?_) (fun σ H' h => ?_)
    · obtain ⟨y, rfl, rfl⟩ := h
      have hi' : i < ns.length := by rw [List.length_map] at hi; omega
      have e1 : (ns.map V.int)[i]? = some (.int ns[i]) := ix_map (List.getElem?_eq_getElem hi')
      refine ⟨_, rfl, _, rfl, a, _, _, _, rfl, rfl, hT, at_of (j := i) (by omega) e1, ?_⟩
      refine ⟨_, rfl, _, rfl, iteF ?_⟩
      refine ⟨_, rfl, _, rfl, a, _, _, _, rfl, rfl, hT, at_of (j := i) (by omega) e1, ?_⟩
      refine ⟨_, rfl, _, rfl, b, _, _, _, rfl, rfl, hb, at_of (j := i) (by omega) e1, ?_⟩
      walk_at "rd"
      refine it_neI (fun z => absurd rfl z) (fun _ => ?_)
      exact ⟨_, rfl, rfl⟩
    · obtain ⟨y, rfl, rfl⟩ := h
      exact q
abbrev s_amount : Stmt := topS 12
theorem sc_amount : FnScope ["_law_cell", "_law_most", "_law_way"] ["_law_cell", "_law_most"] (defScope s_amount) := ⟨rfl, rfl, rfl, by decide +kernel, rfl, by decide +kernel, by decide +kernel⟩
theorem bd_amount : ∀ (kV doc pm : Value) (an : Option Addr) (cdv ct : Value) (us : List Value), us.length = (["_law_cell", "_law_most"] : List Str).length → bindArgs (PySem.W.fnOf "_law_amount" "_law_amount" (defArgs s_amount) (defBody s_amount) (defScope s_amount) .none kV doc pm an cdv ct) ⟨us, []⟩ = pure ((["_law_cell", "_law_most"] : List Str).zip us) := fun _ _ _ _ _ _ us hl => match us, hl with | [_, _], _ => rfl
def spAmount : Sp := fun vs H Q _ => ∃ c : Int, vs = [.int c, .int 200] ∧ ∀ z : Int, 1 ≤ z → z ≤ 200 → Q (.int z) H
theorem ok_amount {P : Program} {w : World} {K : PySem.W.Frag} {mg : Str → Option Value} {base : Heap} (D : DefAt K mg "_law_amount" s_amount) : Clb P w K mg base 1 "_law_amount" ["_law_cell", "_law_most"] spAmount := by
  refine D.clb sc_amount (fun vs H Q E h => ?_) bd_amount (fun f cdv A outer s H vs Q E hr h => ?_)
  · obtain ⟨c, rfl, _⟩ := h
    rfl
  · obtain ⟨c, rfl, q⟩ := h
    refine ⟨_, (pss_cons (ps_set (i := 2) sc_amount.nd rfl (.inl rfl) (pe_op op_mod (pv 0) pe_int))
    (pss_cons (ps_if (pt_cmpR op_eq (pv 2) pe_int (nomark _))
      (pss_one (ps_ret (pe_op op_add pe_int (pe_op op_mod (pe_op op_fdiv (pv 0) pe_int) (pv 1)))))
      pss_nil)
    (pss_cons (ps_if (pt_cmpR op_eq (pv 2) pe_int (nomark _))
      (pss_one (ps_ret (pe_op op_add pe_int (pe_op op_mod (pe_op op_fdiv (pv 0) pe_int) pe_int))))
      pss_nil)
    (pss_one (ps_ret (pe_op op_add pe_int (pe_op op_mod (pe_op op_fdiv (pv 0) pe_int) pe_int))))))), ?_⟩
    have e1 := Int.emod_nonneg (c / 8) (show (200 : Int) ≠ 0 by decide)
    have e2 := Int.emod_lt_of_pos (c / 8) (show (0 : Int) < 200 by decide)
    have e3 := Int.emod_nonneg (c / 8) (show (60 : Int) ≠ 0 by decide)
    have e4 := Int.emod_lt_of_pos (c / 8) (show (0 : Int) < 60 by decide)
    have e5 := Int.emod_nonneg (c / 8) (show (12 : Int) ≠ 0 by decide)
    have e6 := Int.emod_lt_of_pos (c / 8) (show (0 : Int) < 12 by decide)
    walk_at "rd"
    refine it_eqI (fun _ => ?_) (fun _ => ?_)
    · walk_at "rd"
      exact q _ (by show 1 ≤ 1 + _; omega) (by show 1 + _ ≤ (200 : Int); omega)
    · walk_at "rd"
      refine it_eqI (fun _ => ?_) (fun _ => ?_)
      · walk_at "rd"
        exact q _ (by show 1 ≤ 1 + _; omega) (by show 1 + _ ≤ (200 : Int); omega)
      · walk_at "rd"
        exact q _ (by show 1 ≤ 1 + _; omega) (by show 1 + _ ≤ (200 : Int); omega)
abbrev s_last : Stmt := topS 13
theorem sc_last : FnScope ["_law_cell"] ["_law_cell"] (defScope s_last) := ⟨rfl, rfl, rfl, by decide +kernel, rfl, by decide +kernel, by decide +kernel⟩
theorem bd_last : ∀ (kV doc pm : Value) (an : Option Addr) (cdv ct : Value) (us : List Value), us.length = (["_law_cell"] : List Str).length → bindArgs (PySem.W.fnOf "_law_last" "_law_last" (defArgs s_last) (defBody s_last) (defScope s_last) .none kV doc pm an cdv ct) ⟨us, []⟩ = pure ((["_law_cell"] : List Str).zip us) := fun _ _ _ _ _ _ us hl => match us, hl with | [_], _ => rfl
def spLast : Sp := fun vs H Q _ => ∃ c : Int, vs = [.int c] ∧ ∀ z : Int, 1 ≤ z → z ≤ 99 → Q (.int z) H
theorem ok_last {P : Program} {w : World} {K : PySem.W.Frag} {mg : Str → Option Value} {base : Heap} (D : DefAt K mg "_law_last" s_last) : Clb P w K mg base 1 "_law_last" ["_law_cell"] spLast := by
  refine D.clb sc_last (fun vs H Q E h => ?_) bd_last (fun f cdv A outer s H vs Q E hr h => ?_)
  · obtain ⟨c, rfl, _⟩ := h
    rfl
  · obtain ⟨c, rfl, q⟩ := h
    refine ⟨_, (pss_cons (ps_if (pt_cmpR op_eq (pe_op op_mod (pv 0) pe_int) pe_int (nomark _))
      (pss_one (ps_ret (pe_op op_add pe_int (pe_op op_mod (pe_op op_fdiv (pv 0) pe_int) pe_int))))
      pss_nil)
    (pss_cons (ps_if (pt_cmpR op_lt (pe_op op_mod (pv 0) pe_int) pe_int (nomark _))
      (pss_one (ps_ret (pe_op op_add pe_int (pe_op op_mod (pe_op op_fdiv (pv 0) pe_int) pe_int))))
      pss_nil)
    (pss_one (ps_ret (pe_op op_add pe_int (pe_op op_mod (pe_op op_fdiv (pv 0) pe_int) pe_int)))))), ?_⟩
    have e1 := Int.emod_nonneg (c / 6) (show (99 : Int) ≠ 0 by decide)
    have e2 := Int.emod_lt_of_pos (c / 6) (show (0 : Int) < 99 by decide)
    have e3 := Int.emod_nonneg (c / 6) (show (2 : Int) ≠ 0 by decide)
    have e4 := Int.emod_lt_of_pos (c / 6) (show (0 : Int) < 2 by decide)
    have e5 := Int.emod_nonneg (c / 6) (show (9 : Int) ≠ 0 by decide)
    have e6 := Int.emod_lt_of_pos (c / 6) (show (0 : Int) < 9 by decide)
    walk_at "rd"
    refine it_eqI (fun _ => ?_) (fun _ => ?_)
    · walk_at "rd"
      exact q _ (by show 1 ≤ 1 + _; omega) (by show 1 + _ ≤ (99 : Int); omega)
    · walk_at "rd"
      refine it_lt (fun _ => ?_) (fun _ => ?_)
      · walk_at "rd"
        exact q _ (by show 1 ≤ 7 + _; omega) (by show 7 + _ ≤ (99 : Int); omega)
      · walk_at "rd"
        exact q _ (by show 1 ≤ 1 + _; omega) (by show 1 + _ ≤ (99 : Int); omega)
abbrev s_many : Stmt := topS 16
theorem sc_many : FnScope ["_law_cell", "_law_few", "_law_room"] ["_law_cell", "_law_few", "_law_room"] (defScope s_many) := ⟨rfl, rfl, rfl, by decide +kernel, rfl, by decide +kernel, by decide +kernel⟩
theorem bd_many : ∀ (kV doc pm : Value) (an : Option Addr) (cdv ct : Value) (us : List Value), us.length = (["_law_cell", "_law_few", "_law_room"] : List Str).length → bindArgs (PySem.W.fnOf "_law_many" "_law_many" (defArgs s_many) (defBody s_many) (defScope s_many) .none kV doc pm an cdv ct) ⟨us, []⟩ = pure ((["_law_cell", "_law_few", "_law_room"] : List Str).zip us) := fun _ _ _ _ _ _ us hl => match us, hl with | [_, _, _], _ => rfl
def spMany : Sp := fun vs H Q _ => ∃ c few room : Int, vs = [.int c, .int few, .int room] ∧ 0 ≤ few ∧ few ≤ room ∧ ∀ z : Int, 0 ≤ z → z ≤ room → Q (.int z) H
theorem ok_many {P : Program} {w : World} {K : PySem.W.Frag} {mg : Str → Option Value} {base : Heap} (D : DefAt K mg "_law_many" s_many) : Clb P w K mg base 1 "_law_many" ["_law_cell", "_law_few", "_law_room"] spMany := by
  refine D.clb sc_many (fun vs H Q E h => ?_) bd_many (fun f cdv A outer s H vs Q E hr h => ?_)
  · obtain ⟨c, few, room, rfl, _⟩ := h
    rfl
  · obtain ⟨c, few, room, rfl, h0, h1, q⟩ := h
    refine ⟨_, (pss_cons (ps_if (pt_cmpR op_eq (pe_op op_mod (pv 0) pe_int) pe_int (nomark _))
      (pss_one (ps_ret (pe_op op_mod (pe_op op_fdiv (pv 0) pe_int) (pe_op op_add (pv 2) pe_int))))
      pss_nil)
    (pss_one (ps_ret (pe_op op_mod (pe_op op_fdiv (pv 0) pe_int) (pe_op op_add (pv 1) pe_int))))), ?_⟩
    have e1 := Int.emod_nonneg (c / 24) (show room + 1 ≠ 0 by omega)
    have e2 := Int.emod_lt_of_pos (c / 24) (show 0 < room + 1 by omega)
    have e3 := Int.emod_nonneg (c / 24) (show few + 1 ≠ 0 by omega)
    have e4 := Int.emod_lt_of_pos (c / 24) (show 0 < few + 1 by omega)
    walk_at "rd"
    refine it_eqI (fun _ => ?_) (fun _ => ?_)
    · walk_at "rd"
      refine ⟨(by show 0 < room + 1; omega), q _ e1 (by show c / 24 % (room + 1) ≤ room; omega)⟩
    · walk_at "rd"
      refine ⟨(by show 0 < few + 1; omega), q _ e3 (by show c / 24 % (few + 1) ≤ room; omega)⟩
abbrev s_names : Stmt := topS 15
theorem sc_names : FnScope ["_law_cells", "_law_seed", "_law_many_here"] ["_law_cells"] (defScope s_names) := ⟨rfl, rfl, rfl, by decide +kernel, rfl, by decide +kernel, by decide +kernel⟩
theorem bd_names : ∀ (kV doc pm : Value) (an : Option Addr) (cdv ct : Value) (us : List Value), us.length = (["_law_cells"] : List Str).length → bindArgs (PySem.W.fnOf "_law_names" "_law_names" (defArgs s_names) (defBody s_names) (defScope s_names) .none kV doc pm an cdv ct) ⟨us, []⟩ = pure ((["_law_cells"] : List Str).zip us) := fun _ _ _ _ _ _ us hl => match us, hl with | [_], _ => rfl
/-- the seed of the names, how many there are -/
def NamesAt (K : PySem.W.Frag) (H : Hp) (a : Addr) (seed many : Int) : Prop := H a = some (.lst [.int seed, .int many]) ∧ 1 ≤ many ∧ many ≤ 12
theorem NamesAt.same {K : PySem.W.Frag} {H H' : Hp} {a : Addr} {s m : Int} (h : NamesAt K H a s m) (e : Same H H') : NamesAt K H' a s m := ⟨e _ _ h.1, h.2⟩
def spNames (K : PySem.W.Frag) : Sp := fun vs H Q _ => ∃ a : Addr, vs = [.ref a] ∧ CellsAt K H a ∧ ∀ p H' seed many, Same H H' → NamesAt K H' p seed many → Q (.ref p) H'
theorem ok_names {P : Program} {w : World} {K : PySem.W.Frag} {mg : Str → Option Value} {base : Heap} (D : DefAt K mg "_law_names" s_names) (C_cell_at : Clb P w K mg base 1 "_law_cell_at" ["_law_cells", "_law_k"] (spCellAt K)) :
    Clb P w K mg base 2 "_law_names" ["_law_cells"] (spNames K) := by
  refine D.clb sc_names (fun vs H Q E h => ?_) bd_names (fun f cdv A outer s H vs Q E hr h => ?_)
  · obtain ⟨a, rfl, _⟩ := h
    rfl
  · obtain ⟨a, rfl, hc, q⟩ := h
    refine ⟨_, (pss_cons (ps_set (i := 1) sc_names.nd rfl (.inl rfl) (pe_cal C_cell_at (hr.mono (by decide)) (pa_cons (pv 0) (pa_cons pe_int pa_nil))))
    (pss_cons (ps_set (i := 2) sc_names.nd rfl (.inl rfl) (pe_ix (kix_list K) (pe_lst (pa_cons pe_int (pa_cons pe_int (pa_cons pe_int (pa_cons pe_int pa_nil))))) (pe_op op_mod (pe_cal C_cell_at (hr.mono (by decide)) (pa_cons (pv 0) (pa_cons pe_int pa_nil))) pe_int) (fun _ _ => rfl)))
    (C8.pss_cut (ps_if (pt_cmpR op_eq (pe_op op_mod (pe_op op_fdiv (pe_cal C_cell_at (hr.mono (by decide)) (pa_cons (pv 0) (pa_cons pe_int pa_nil))) pe_int) pe_int) pe_int (nomark _))
      (pss_one (ps_set (i := 2) sc_names.nd rfl (.inl rfl) pe_int))
      pss_nil)
    (pss_one (ps_ret (pe_lst (pa_cons (pv 1) (pa_cons (pv 2) pa_nil)))))))), ?_⟩
    refine ⟨_, rfl, a, 0, rfl, hc, by decide, by decide, fun seed s0 s1 => ?_⟩
    refine ⟨small (by show 4 ≤ 100000; decide), fun p hp => ?_⟩
    have sp := same_upd (o := .lst [V.int 1, V.int 2, V.int 3, V.int 4]) hp
    refine ⟨_, rfl, a, 1, rfl, hc.same sp, by decide, by decide, fun c1 _ _ => ?_⟩
    have m1 := Int.emod_nonneg c1 (show (4 : Int) ≠ 0 by decide)
    have m2 := Int.emod_lt_of_pos c1 (show (0 : Int) < 4 by decide)
    have hm : ∃ m : Int, atI [V.int 1, V.int 2, V.int 3, V.int 4] (c1 % 4) = some (.int m) ∧ 1 ≤ m ∧ m ≤ 12 := by
      have : c1 % 4 = 0 ∨ c1 % 4 = 1 ∨ c1 % 4 = 2 ∨ c1 % 4 = 3 := by omega
      rcases this with e | e | e | e <;> rw [e]
      · exact ⟨1, rfl, by decide, by decide⟩
      · exact ⟨2, rfl, by decide, by decide⟩
      · exact ⟨3, rfl, by decide, by decide⟩
      · exact ⟨4, rfl, by decide, by decide⟩
    obtain ⟨m, em, h1, h2⟩ := hm
    walk_at "rd"
    refine ⟨p, _, _, _, rfl, rfl, sqL upd_same, em, ?_⟩
    walk_at "rd"
    refine ⟨fun σ' H' => ∃ m : Int, σ' = [some (.ref a), some (.int seed), some (.int m)] ∧ H' = upd H p (.lst [V.int 1, V.int 2, V.int 3, V.int 4]) ∧ 1 ≤ m ∧ m ≤ 12, ?_, fun σ' H' h => ?_⟩
    · refine ⟨_, rfl, a, 1, rfl, hc.same sp, by decide, by decide, fun c2 _ _ => ?_⟩
      walk_at "rd"
      refine it_eqI (fun _ => ?_) (fun _ => ?_)
      · exact ⟨12, rfl, rfl, by decide, by decide⟩
      · exact ⟨m, rfl, rfl, h1, h2⟩
    · obtain ⟨m, rfl, rfl, h1, h2⟩ := h
      refine ⟨_, rfl, _, rfl, small (by show 2 ≤ 100000; decide), fun r hr => ?_⟩
      exact q r _ seed m (sp.new hr) ⟨upd_same, h1, h2⟩
abbrev s_name_by : Stmt := topS 11
theorem sc_name_by : FnScope ["_law_seed", "_law_k", "_law_signs", "_law_words", "_law_more", "_law_name", "_law_at", "_law_turn", "_law_spot", "_law_two", "_law_sign"] ["_law_seed", "_law_k"] (defScope s_name_by) := ⟨rfl, rfl, rfl, by decide +kernel, rfl, by decide +kernel, by decide +kernel⟩
theorem bd_name_by : ∀ (kV doc pm : Value) (an : Option Addr) (cdv ct : Value) (us : List Value), us.length = (["_law_seed", "_law_k"] : List Str).length → bindArgs (PySem.W.fnOf "_law_name_by" "_law_name_by" (defArgs s_name_by) (defBody s_name_by) (defScope s_name_by) .none kV doc pm an cdv ct) ⟨us, []⟩ = pure ((["_law_seed", "_law_k"] : List Str).zip us) := fun _ _ _ _ _ _ us hl => match us, hl with | [_, _], _ => rfl
def spNameBy : Sp := fun vs H Q _ => ∃ seed k : Int, vs = [.int seed, .int k] ∧ 0 ≤ k ∧ k ≤ 100 ∧ ∀ H', Same H H' → Q (.str (nameBy seed k)) H'
theorem ok_name_by {P : Program} {w : World} {K : PySem.W.Frag} {mg : Str → Option Value} {base : Heap} (D : DefAt K mg "_law_name_by" s_name_by) (m_len : mg "len" = none) (m_min : mg "min" = none) (m_range : mg "range" = none) :
    Clb P w K mg base 1 "_law_name_by" ["_law_seed", "_law_k"] spNameBy := by
  refine D.clb sc_name_by (fun vs H Q E h => ?_) bd_name_by (fun f cdv A outer s H vs Q E hr h => ?_)
  · obtain ⟨seed, k, rfl, _⟩ := h
    rfl
  · obtain ⟨seed, k, rfl, h0, h1, q⟩ := h
    refine ⟨_, (pss_cons (ps_set (i := 2) sc_name_by.nd rfl (.inl rfl) pe_str)
    (pss_cons (ps_set (i := 3) sc_name_by.nd rfl (.inl rfl) (pe_lst (pa_cons pe_str (pa_cons pe_str (pa_cons pe_str (pa_cons pe_str (pa_cons pe_str (pa_cons pe_str (pa_cons pe_str (pa_cons pe_str (pa_cons pe_str (pa_cons pe_str (pa_cons pe_str pa_nil)))))))))))))
    (pss_cons (ps_set (i := 4) sc_name_by.nd rfl (.inl rfl) (pe_op op_fdiv (pv 0) pe_int))
    (C8.pss_cut (ps_if (PW.pt (pw_and (pt_cmpR op_eq (pe_op op_mod (pv 0) pe_int) pe_int (nomark _)) (pw_and1 (pt_cmpR op_lt (pv 1) pe_int (nomark _)))))
      (pss_one (ps_ret (pe_ix (kix_list K) (pv 3) (pe_op op_mod (pe_op op_add (pv 4) (pv 1)) pe_int) (fun _ _ => rfl))))
      pss_nil)
    (pss_cons (ps_set (i := 5) sc_name_by.nd rfl (.inl rfl) pe_str)
    (pss_cons (ps_set (i := 6) sc_name_by.nd rfl (.inl rfl) (pe_op op_fdiv (pv 4) pe_int))
    (pss_cons (ps_for PassesOwn.never rfl (pi_range1 (by rfl) m_range (pa_cons (pe_op op_add pe_int (pe_op op_mod (pv 4) pe_int)) pa_nil)) (pg_name (i := 7) sc_name_by.nd rfl (.inl rfl))
      (pss_cons (ps_set (i := 6) sc_name_by.nd rfl (.inl rfl) (pe_op op_add (pe_op op_add (pv 6) pe_int) (pe_op op_mod (pe_op op_fdiv (pv 4) pe_int) pe_int)))
    (pss_one (ps_set (i := 5) sc_name_by.nd rfl (.inl rfl) (pe_op op_add_str (pv 5) (pe_ix ix_str (pv 2) (pe_op op_mod (pv 6) pe_int) (fun _ _ => rfl)))))))
    (pss_cons (ps_set (i := 8) sc_name_by.nd rfl (.inl rfl) (pe_op op_mod (pe_op op_fdiv (pv 4) pe_int) (pe_callB call_len_str (by rfl) m_len (by decide +kernel) (pa_cons (pv 5) pa_nil))))
    (pss_cons (ps_if (pt_cmpR op_gt (pv 1) pe_int (nomark _))
      (pss_cons (ps_set (i := 9) sc_name_by.nd rfl (.inl rfl) (pe_op op_add_str (pe_ix ix_str (pv 2) (pe_op op_mod (pe_op op_add (pv 6) (pe_op op_fdiv (pv 1) pe_int)) pe_int) (fun _ _ => rfl)) (pe_ix ix_str (pv 2) (pe_op op_mod (pv 1) pe_int) (fun _ _ => rfl))))
    (pss_one (ps_ret (pe_op op_add_str (pe_op op_add_str (pe_slice sl_str (pv 5) po_none (po_some (pe_callB (call_min2 rfl) (by rfl) m_min (by decide +kernel) (pa_cons (pv 8) (pa_cons pe_int pa_nil))))) (pv 9)) (pe_slice sl_str (pv 5) (po_some (pe_callB (call_min2 rfl) (by rfl) m_min (by decide +kernel) (pa_cons (pv 8) (pa_cons pe_int pa_nil)))) (po_some pe_int))))))
      pss_nil)
    (pss_cons (ps_if (pt_cmpR op_gt (pe_op op_mod (pv 0) pe_int) pe_int (nomark _))
      (pss_one (ps_ret (pe_op op_add_str (pe_ix ix_str (pv 2) (pe_op op_mod (pe_op op_add (pe_op op_fdiv (pv 4) pe_int) (pv 1)) pe_int) (fun _ _ => rfl)) (pv 5))))
      pss_nil)
    (pss_cons (ps_if (pt_cmpR op_eq (pv 1) pe_int (nomark _))
      (pss_cons (ps_set (i := 10) sc_name_by.nd rfl (.inl rfl) (pe_ix ix_str (pv 2) (pe_op op_mod (pe_op op_add (pe_m1 PySem.F.slot_str_find PySem.F.type_str_find mt_find (pv 2) (pe_ix ix_str (pv 5) (pv 8) (fun _ _ => rfl))) pe_int) pe_int) (fun _ _ => rfl)))
    (pss_one (ps_ret (pe_op op_add_str (pe_op op_add_str (pe_slice sl_str (pv 5) po_none (po_some (pv 8))) (pv 10)) (pe_slice sl_str (pv 5) (po_some (pe_op op_add (pv 8) pe_int)) po_none)))))
      pss_nil)
    (pss_one (ps_ret (pe_op op_add_str (pv 5) (pe_ix (kix_list K) (pe_lst (pa_cons pe_str (pa_cons pe_str (pa_cons (pe_ix ix_str (pv 2) (pe_op op_mod (pv 6) pe_int) (fun _ _ => rfl)) (pa_cons (pe_ix ix_str (pv 2) (pe_op op_mod (pe_op op_add (pv 6) pe_int) pe_int) (fun _ _ => rfl)) pa_nil))))) (pv 1) (fun _ _ => rfl)))))))))))))))), ?_⟩
    refine ⟨small (by show 11 ≤ 100000; decide), fun p hp => ?_⟩
    have sp := same_upd (o := .lst (words.map V.str)) hp
    walk_at "rd"
    refine ⟨fun σ' H' => σ' = [some (.int seed), some (.int k), some (.str sgn), some (.ref p), some (.int (seed / 6)), none, none, none, none, none, none] ∧ H' = upd H p (.lst (words.map V.str)) ∧ ¬ (seed % 6 = 0 ∧ k < 4), ?_, fun σ' H' h => ?_⟩
    · walk_at "rd"
      refine it_eqI (fun e6 => ?_) (fun e6 => ?_)
      · walk_at "rd"
        refine it_lt (fun ek => ?_) (fun ek => ?_)
        · walk_at "rd"
          have m1 := Int.emod_nonneg (seed / 6 + k) (show (11 : Int) ≠ 0 by decide)
          have m2 := Int.emod_lt_of_pos (seed / 6 + k) (show (0 : Int) < 11 by decide)
          have hl : ((seed / 6 + k) % 11).toNat < words.length := by show _ < 11; omega
          refine ⟨p, words.map V.str, _, _, rfl, rfl, sqL upd_same, at_of (j := ((seed / 6 + k) % 11).toNat) (by omega) (ix_map (List.getElem?_eq_getElem hl)), ?_⟩
          have e : nameBy seed k = words[((seed / 6 + k) % 11).toNat] := by
            unfold nameBy
            rw [if_pos ⟨e6, ek⟩, List.getD_eq_getElem?_getD, List.getElem?_eq_getElem hl]; rfl
          rw [← e]
          exact q _ sp
        · exact ⟨rfl, rfl, fun z => ek z.2⟩
      · exact iteF ⟨rfl, rfl, fun z => e6 z.1⟩
    · obtain ⟨rfl, rfl, hno⟩ := h
      have m1 := Int.emod_nonneg (seed / 6) (show (7 : Int) ≠ 0 by decide)
      have m2 := Int.emod_lt_of_pos (seed / 6) (show (0 : Int) < 7 by decide)
      walk_at "rd"
      refine ⟨by omega, by omega, ?_⟩
      generalize hn : (1 + seed / 6 % 7).toNat = n
      have hn1 : 1 ≤ n := by omega
      have hn7 : n ≤ 7 := by omega
      refine for_range (lo := 0) (fun i σ H' => i ≤ n ∧ (∃ y : Option V, σ = [some (.int seed), some (.int k), some (.str sgn), some (.ref p), some (.int (seed / 6)), some (.str (nmNm (seed / 6) i)), some (.int (nmAt (seed / 6) i)), y, none, none, none]) ∧ H' = upd H p (.lst (words.map V.str)))
        ⟨Nat.zero_le _, ⟨none, rfl⟩, rfl⟩ (fun i σ H' hi h => ?_) (fun σ H' h => ?_)
      · obtain ⟨_, ⟨y, rfl⟩, rfl⟩ := h
        walk_at "rd"
        refine ⟨sgn, _, _, rfl, rfl, small (by rw [sgn_len']; decide), sg_at _, ?_⟩
        refine ⟨_, _, rfl, rfl, small (by rw [nmNm_len]; show i + 1 ≤ 100000; omega), ?_⟩
        exact ⟨hi, ⟨_, rfl⟩, rfl⟩
      · obtain ⟨_, ⟨y, rfl⟩, rfl⟩ := h
        generalize hnm : nmNm (seed / 6) n = nm
        generalize hat : nmAt (seed / 6) n = at'
        have ln : nm.length = n := by rw [← hnm]; exact nmNm_len _ _
        walk_at "rd"
        refine ⟨small (by omega), ?_⟩
        rw [ln]
        have s1 := Int.emod_nonneg (seed / 6 / 4550) (show (n : Int) ≠ 0 by omega)
        have s2 := Int.emod_lt_of_pos (seed / 6 / 4550) (show (0 : Int) < n by omega)
        refine ⟨_, _, rfl, rfl, by show (0 : Int) < n; omega, ?_⟩
        show gName 8 (V.int (seed / 6 / 4550 % (n : Int))) _ _ _
        generalize hsp : seed / 6 / 4550 % (n : Int) = spot at s1 s2
        have key : nameBy seed k = (if 3 < k then cutS nm none (some (min6 spot)) ++ (sg (at' + k / 26) ++ sg k) ++ cutS nm (some (min6 spot)) (some 6)
            else if 3 < seed % 6 then sg (seed / 6 / 7 + k) ++ nm
            else if k = 1 then cutS nm none (some spot) ++ sg (Txt.find sgn ⟨#[nm.cps.toList.getD spot.toNat 0]⟩ + 1) ++ cutS nm (some (spot + 1)) none
            else nm ++ [("" : Str), "", sg at', sg (at' + 1)].getD k.toNat "") := by
          unfold nameBy
          rw [if_neg hno]
          dsimp only
          rw [hn, hnm, hat, hsp]
        have c1 := fun lo hi => cutS_length nm lo hi
        walk_at "rd"
        refine it_lt (fun e3 => ?_) (fun e3 => ?_)
        · -- k > 3
          rw [if_pos e3] at key
          walk_at "rd"
          refine ⟨sgn, _, _, rfl, rfl, small (by rw [sgn_len']; decide), sg_at _, ?_⟩
          walk_at "rd"
          refine ⟨sgn, _, _, rfl, rfl, small (by rw [sgn_len']; decide), sg_at _, ?_⟩
          refine ⟨_, _, rfl, rfl, small (by show 1 + 1 ≤ 100000; decide), ?_⟩
          walk_at "rd"
          refine ⟨small (by omega), ?_⟩
          have q1 := c1 none (some (min6 spot))
          have q2 := c1 (some (min6 spot)) (some 6)
          walk_at "rd"
          refine ⟨small (by show (cutS nm none (some (min6 spot))).length + 2 ≤ 100000; omega), ?_⟩
          walk_at "rd"
          refine ⟨small (by omega), ?_⟩
          refine ⟨_, _, rfl, rfl, small (by
            show (cutS nm none (some (min6 spot)) ++ (sg (at' + k / 26) ++ sg k)).length + (cutS nm (some (min6 spot)) (some 6)).length ≤ 100000
            rw [app_len, app_len, sg_len, sg_len]; omega), ?_⟩
          have z := q _ sp
          rw [key] at z
          exact z
        · rw [if_neg e3] at key
          walk_at "rd"
          refine it_lt (fun e4 => ?_) (fun e4 => ?_)
          · rw [if_pos e4] at key
            walk_at "rd"
            refine ⟨sgn, _, _, rfl, rfl, small (by rw [sgn_len']; decide), sg_at _, ?_⟩
            walk_at "rd"
            refine ⟨small (by show 1 + nm.length ≤ 100000; omega), ?_⟩
            have z := q _ sp
            rw [key] at z
            exact z
          · rw [if_neg e4] at key
            walk_at "rd"
            refine it_eqI (fun e5 => ?_) (fun e5 => ?_)
            · rw [if_pos e5] at key
              have hsl : spot.toNat < nm.cps.toList.length := by
                rw [Array.length_toList]
                show spot.toNat < nm.length
                omega
              have ec : nm.cps.toList[spot.toNat]? = some (nm.cps.toList.getD spot.toNat 0) := by
                rw [List.getD_eq_getElem?_getD, List.getElem?_eq_getElem hsl]; rfl
              walk_at "rd"
              refine ⟨nm, _, _, rfl, rfl, small (by omega), (by have q0 := atI_nat ec; rw [Int.toNat_of_nonneg s1] at q0; exact q0), ?_⟩
              walk_at "rd"
              refine ⟨sgn, _, _, rfl, rfl, small (by rw [sgn_len']; decide), sg_at _, ?_⟩
              have q1 := c1 none (some spot)
              have q2 := c1 (some (spot + 1)) none
              walk_at "rd"
              refine ⟨small (by omega), ?_⟩
              walk_at "rd"
              refine ⟨small (by show (cutS nm none (some spot)).length + 1 ≤ 100000; omega), ?_⟩
              walk_at "rd"
              refine ⟨small (by omega), ?_⟩
              refine ⟨_, _, rfl, rfl, small (by
                show (cutS nm none (some spot) ++ sg (Txt.find sgn ⟨#[nm.cps.toList.getD spot.toNat 0]⟩ + 1)).length + (cutS nm (some (spot + 1)) none).length ≤ 100000
                rw [app_len, sg_len]; omega), ?_⟩
              have z := q _ sp
              rw [key] at z
              exact z
            · rw [if_neg e5] at key
              walk_at "rd"
              refine ⟨sgn, _, _, rfl, rfl, small (by rw [sgn_len']; decide), sg_at _, ?_⟩
              walk_at "rd"
              refine ⟨sgn, _, _, rfl, rfl, small (by rw [sgn_len']; decide), sg_at _, ?_⟩
              refine ⟨small (by show 4 ≤ 100000; decide), fun r hr2 => ?_⟩
              have hk : k = 0 ∨ k = 2 ∨ k = 3 := by omega
              have z := q _ (sp.new (o := .lst [V.str "", V.str "", V.str (sg at'), V.str (sg (at' + 1))]) hr2)
              rw [key] at z
              rcases hk with e | e | e <;> subst e
              · exact ⟨_, rfl, r, _, _, _, rfl, rfl, sqL upd_same, rfl, _, _, rfl, rfl, small (by show nm.length + 0 ≤ 100000; omega), z⟩
              · exact ⟨_, rfl, r, _, _, _, rfl, rfl, sqL upd_same, rfl, _, _, rfl, rfl, small (by show nm.length + 1 ≤ 100000; omega), z⟩
              · exact ⟨_, rfl, r, _, _, _, rfl, rfl, sqL upd_same, rfl, _, _, rfl, rfl, small (by show nm.length + 1 ≤ 100000; omega), z⟩
abbrev s_larder : Stmt := topS 14
theorem sc_larder : FnScope ["_law_cells", "_law_names_here", "_law_many_here", "_law_larder_here", "_law_k", "_law_cell", "_law_some"] ["_law_cells", "_law_names_here", "_law_many_here"] (defScope s_larder) := ⟨rfl, rfl, rfl, by decide +kernel, rfl, by decide +kernel, by decide +kernel⟩
theorem bd_larder : ∀ (kV doc pm : Value) (an : Option Addr) (cdv ct : Value) (us : List Value), us.length = (["_law_cells", "_law_names_here", "_law_many_here"] : List Str).length → bindArgs (PySem.W.fnOf "_law_larder" "_law_larder" (defArgs s_larder) (defBody s_larder) (defScope s_larder) .none kV doc pm an cdv ct) ⟨us, []⟩ = pure ((["_law_cells", "_law_names_here", "_law_many_here"] : List Str).zip us) := fun _ _ _ _ _ _ us hl => match us, hl with | [_, _, _], _ => rfl
def spLarder (K : PySem.W.Frag) : Sp := fun vs H Q _ => ∃ (a b : Addr) (m seed many : Int), vs = [.ref a, .ref b, .int m] ∧ CellsAt K H a ∧ NamesAt K H b seed many ∧ 0 ≤ m ∧ m ≤ 200 ∧
  ∀ (v : V) (lar : List Batch) (H' : Hp), Same H H' → LarderAt H' v lar → (lar.length : Int) ≤ m → (∀ b ∈ lar, GoodBatch seed b) → Q v H'
theorem ok_larder {P : Program} {w : World} {K : PySem.W.Frag} {mg : Str → Option Value} {base : Heap} (D : DefAt K mg "_law_larder" s_larder) (m_range : mg "range" = none) (m_tuple : mg "tuple" = none)
    (C_mix : Clb P w K mg base 1 "_law_mix" ["_law_cell", "_law_k"] spMix) (C_cell_at : Clb P w K mg base 1 "_law_cell_at" ["_law_cells", "_law_k"] (spCellAt K))
    (C_amount : Clb P w K mg base 1 "_law_amount" ["_law_cell", "_law_most"] spAmount) (C_last : Clb P w K mg base 1 "_law_last" ["_law_cell"] spLast) (C_name_by : Clb P w K mg base 1 "_law_name_by" ["_law_seed", "_law_k"] spNameBy) :
    Clb P w K mg base 2 "_law_larder" ["_law_cells", "_law_names_here", "_law_many_here"] (spLarder K) := by
  refine D.clb sc_larder (fun vs H Q E h => ?_) bd_larder (fun f cdv A outer s H vs Q E hr h => ?_)
  · obtain ⟨a, b, m, seed, many, rfl, _⟩ := h
    rfl
  · obtain ⟨a, b, m, seed, many, rfl, hc, hn, h0, h1, q⟩ := h
    refine ⟨_, (pss_cons (ps_set (i := 3) sc_larder.nd rfl (.inl rfl) (pe_lst pa_nil))
    (pss_cons (ps_for PassesOwn.never rfl (pi_range1 (by rfl) m_range (pa_cons (pv 2) pa_nil)) (pg_name (i := 4) sc_larder.nd rfl (.inl rfl))
      (pss_cons (ps_set (i := 5) sc_larder.nd rfl (.inl rfl) (pe_cal C_mix (hr.mono (by decide)) (pa_cons (pe_cal C_cell_at (hr.mono (by decide)) (pa_cons (pv 0) (pa_cons (pe_op op_add pe_int (pe_op op_mod (pv 4) pe_int)) pa_nil))) (pa_cons (pe_op op_add pe_int (pv 4)) pa_nil))))
    (pss_cons (ps_set (i := 6) sc_larder.nd rfl (.inl rfl) (pe_cal C_mix (hr.mono (by decide)) (pa_cons (pv 5) (pa_cons (pv 4) pa_nil))))
    (pss_one (ps_expr (kpe_bm K PySem.F.plainAttrs_list PySem.F.slot_list_append PySem.F.type_list_append mt_append (pv 3) (pa_cons (pe_tup (pa_cons (pe_cal C_name_by (hr.mono (by decide)) (pa_cons (pe_ix (kix_list K) (pv 1) pe_int (fun _ _ => rfl)) (pa_cons (pe_op op_mod (pe_op op_mod (pv 5) pe_int) (pe_ix (kix_list K) (pv 1) pe_int (fun _ _ => rfl))) pa_nil))) (pa_cons (pe_cal C_amount (hr.mono (by decide)) (pa_cons (pe_op op_fdiv (pv 5) pe_int) (pa_cons pe_int pa_nil))) (pa_cons (pe_cal C_last (hr.mono (by decide)) (pa_cons (pv 6) pa_nil)) pa_nil)))) pa_nil)))))))
    (pss_one (ps_ret (pe_callTy (kcall_tuple_of K) (by rfl) m_tuple (by decide +kernel) (pa_cons (pv 3) pa_nil)))))), ?_⟩
    refine ⟨Nat.zero_le _, fun p hp => ?_⟩
    walk_at "rd"
    refine ⟨by omega, by omega, ?_⟩
    refine for_range (lo := 0) (fun i σ H' => ∃ (y4 y5 y6 : Option V) (vs : List V) (lar : List Batch), σ = [some (.ref a), some (.ref b), some (.int m), some (.ref p), y4, y5, y6] ∧ Same H H' ∧ H' p = some (.lst vs) ∧
        Held BatchAt H' vs lar ∧ lar.length = i ∧ ∀ b ∈ lar, GoodBatch seed b)
      ⟨none, none, none, [], [], rfl, same_upd hp, upd_same, Held.nil, rfl, fun _ z => nomatch z⟩ (fun i σ H1 hi h => ?_) (fun σ H1 h => ?_)
    · obtain ⟨y4, y5, y6, vs, lar, rfl, sm, hpl, hd, hl, hg⟩ := h
      have hi' : (i : Int) < m := by omega
      walk_at "rd"
      refine ⟨hc.same sm, by omega, by omega, fun c c0 c1 => ?_⟩
      walk_at "rd"
      refine ⟨by omega, by omega, fun cell z0 z1 => ?_⟩
      walk_at "rd"
      refine ⟨by omega, by omega, fun som z2 z3 => ?_⟩
      have hn2 := hn.same sm
      have hmany := hn2.2
      walk_at "rd"
      refine ⟨.inl ⟨rfl, _, sqL hpl⟩, ?_⟩
      walk_at "rd"
      refine ⟨b, _, _, _, rfl, rfl, sqL hn2.1, rfl, ?_⟩
      walk_at "rd"
      refine ⟨b, _, _, _, rfl, rfl, sqL hn2.1, rfl, ?_⟩
      refine ⟨_, _, rfl, rfl, (by show 0 < many; omega), ?_⟩
      have k1 := Int.emod_nonneg (cell % 60) (show many ≠ 0 by omega)
      have k2 := Int.emod_lt_of_pos (cell % 60) (show 0 < many by omega)
      refine ⟨_, _, rfl, k1, (by show cell % 60 % many ≤ 100; omega), fun H3 sm3 => ?_⟩
      walk_at "rd"
      refine fun am a1 a2 => ?_
      walk_at "rd"
      refine fun la l1 l2 => ?_
      refine ⟨small (by show 3 ≤ 100000; decide), fun t ht => ?_⟩
      have hpl3 : (upd H3 t (.tup [V.str (nameBy seed (cell % 60 % many)), V.int am, V.int la])) p = some (.lst vs) := by
        have e := sm3 _ _ hpl
        rw [upd_ne (ne_of_none e ht)]
        exact e
      refine ⟨p, _, _, rfl, rfl, hpl3, small' (by rw [hd.len]; omega), ?_⟩
      have st : SameT H1 (upd (upd H3 t (.tup [V.str (nameBy seed (cell % 60 % many)), V.int am, V.int la])) p (.lst (vs ++ [V.ref t]))) := ((SameT.of sm3).trans (SameT.new ht)).trans (SameT.lst hpl3)
      refine ⟨_, _, _, vs ++ [V.ref t], lar ++ [⟨nameBy seed (cell % 60 % many), am, la⟩], rfl, ((sm.trans sm3).new ht).mut hp, upd_same, (hd.mono BatchAt.mono st).snoc ⟨t, rfl, ?_⟩, by rw [List.length_append, hl]; rfl, fun x hx => ?_⟩
      · rw [upd_ne (ne_of upd_same hpl3 (by intro z; cases z))]
        exact upd_same
      · rcases List.mem_append.mp hx with z | z
        · exact hg x z
        · rw [List.mem_singleton.mp z]
          exact ⟨a1, a2, l1, l2, (cell % 60 % many).toNat, by omega, by show nameBy seed (cell % 60 % many) = nameBy seed _; rw [Int.toNat_of_nonneg k1]⟩
    · obtain ⟨y4, y5, y6, vs, lar, rfl, sm, hpl, hd, hl, hg⟩ := h
      walk_at "rd"
      refine ⟨p, _, rfl, .inl ⟨sqL hpl, fun u hu => ?_⟩⟩
      exact q _ lar _ (sm.new hu) ⟨u, vs, rfl, upd_same, hd.mono BatchAt.mono (SameT.new hu)⟩ (by omega) hg
abbrev s_end_of : Stmt := topS 4
theorem sc_end_of : FnScope ["amount", "last", "used", "rest"] ["amount", "last", "used"] (defScope s_end_of) := ⟨rfl, rfl, rfl, by decide +kernel, rfl, by decide +kernel, by decide +kernel⟩
theorem bd_end_of : ∀ (kV doc pm : Value) (an : Option Addr) (cdv ct : Value) (us : List Value), us.length = (["amount", "last", "used"] : List Str).length → bindArgs (PySem.W.fnOf "end_of" "end_of" (defArgs s_end_of) (defBody s_end_of) (defScope s_end_of) .none kV doc pm an cdv ct) ⟨us, []⟩ = pure ((["amount", "last", "used"] : List Str).zip us) := fun _ _ _ _ _ _ us hl => match us, hl with | [_, _, _], _ => rfl
theorem ok_end_of {P : Program} {w : World} {K : PySem.W.Frag} {mg : Str → Option Value} {base : Heap} {tk : Tok} (D : DefAt K mg "end_of" s_end_of) (m_DAYS : mg "DAYS" = some (.int 7 tk)) : Clb P w K mg base 1 "end_of" ["amount", "last", "used"] spEndOf := by
  refine D.clb sc_end_of (fun vs H Q E h => ?_) bd_end_of (fun f cdv A outer s H vs Q E hr h => ?_)
  · obtain ⟨b, u, rfl, _⟩ := h
    rfl
  · obtain ⟨b, u, rfl, q⟩ := h
    refine ⟨_, (pss_cons (ps_set (i := 3) sc_end_of.nd rfl (.inl rfl) (pe_op op_sub (pv 0) (pv 2)))
    (pss_one (ps_ret (pe_ifExp (pt_cmpR op_lt (pv 1) (pe_glob (v := .int 7) (by rfl) m_DAYS ⟨_, rfl⟩) (nomark _)) (pe_tup (pa_cons (pv 2) (pa_cons (pv 3) (pa_cons pe_int pa_nil)))) (pe_tup (pa_cons (pv 2) (pa_cons pe_int (pa_cons (pv 3) pa_nil)))))))), ?_⟩
    walk_at "rd"
    unfold endOf at q
    refine it_lt (fun e => ?_) (fun e => ?_)
    · rw [if_pos e] at q
      walk_at "rd"
      refine ⟨small (by show 3 ≤ 100000; decide), fun p hp => ?_⟩
      exact q _ _ (same_upd hp) ⟨p, rfl, upd_same⟩
    · rw [if_neg e] at q
      walk_at "rd"
      refine ⟨small (by show 3 ≤ 100000; decide), fun p hp => ?_⟩
      exact q _ _ (same_upd hp) ⟨p, rfl, upd_same⟩
abbrev s_sums_of : Stmt := topS 3
theorem sc_sums_of : FnScope ["uses", "sums", "pairs", "batch", "amount"] ["uses"] (defScope s_sums_of) := ⟨rfl, rfl, rfl, by decide +kernel, rfl, by decide +kernel, by decide +kernel⟩
theorem bd_sums_of : ∀ (kV doc pm : Value) (an : Option Addr) (cdv ct : Value) (us : List Value), us.length = (["uses"] : List Str).length → bindArgs (PySem.W.fnOf "sums_of" "sums_of" (defArgs s_sums_of) (defBody s_sums_of) (defScope s_sums_of) .none kV doc pm an cdv ct) ⟨us, []⟩ = pure ((["uses"] : List Str).zip us) := fun _ _ _ _ _ _ us hl => match us, hl with | [_], _ => rfl
theorem ok_sums_of {P : Program} {w : World} {K : PySem.W.Frag} {mg : Str → Option Value} {base : Heap} (D : DefAt K mg "sums_of" s_sums_of) : Clb P w K mg base 1 "sums_of" ["uses"] spSumsOf := by
  refine D.clb sc_sums_of (fun vs H Q E h => ?_) bd_sums_of (fun f cdv A outer s H vs Q E hr h => ?_)
  · obtain ⟨v, us, n, rfl, _⟩ := h
    rfl
  · obtain ⟨v, us, n, rfl, ⟨a, vs, rfl, ha, hh⟩, hl, hn, hp, q⟩ := h
    refine ⟨_, (pss_cons (ps_set (i := 1) sc_sums_of.nd rfl (.inl rfl) pe_dnewK)
    (pss_cons (ps_for PassesOwn.never rfl (kpi_tup K (pv 0)) (pg_name (i := 2) sc_sums_of.nd rfl (.inl rfl))
      (pss_one (ps_for PassesOwn.never rfl (kpi_tup K (pv 2)) (kpg_tup K (n := 2) rfl (pgs_cons (pg_name (i := 3) sc_sums_of.nd rfl (.inl rfl)) (pgs_cons (pg_name (i := 4) sc_sums_of.nd rfl (.inl rfl)) pgs_nil)))
      (pss_one (ps_dput (hu_of hr) (pv 1) (pv 3) (pe_op op_add (pe_dget2 (hu_of hr) (pv 1) (pv 3) pe_int ⟨rfl, rfl, rfl, rfl⟩) (pv 4)) rfl)))))
    (pss_one (ps_ret (pv 1))))), ?_⟩
    intro d hd
    have s0 := same_upd (o := .dK []) hd
    refine ⟨_, rfl, a, rfl, ⟨_, sqT (s0 _ _ ha)⟩, ?_⟩
    refine for_tup (xs := vs) (fun i σ H' => ∃ (y2 y3 y4 : Option V) (kvs : List (L2.Key × V)), σ = [some (.ref a), some (.ref d), y2, y3, y4] ∧ Same H H' ∧ H' d = some (.dK kvs) ∧ Tally kvs n (usedOf (us.take i)))
      ⟨none, none, none, [], rfl, s0, upd_same, Tally.nil⟩ (fun i σ H' _ h => by obtain ⟨_, _, _, _, _, sm, _⟩ := h; exact sm.seqT (sqT ha)) (fun i w σ H1 hw h => ?_) (fun σ H1 h => ?_)
    · obtain ⟨y2, y3, y4, kvs, rfl, sm, hdk, T⟩ := h
      obtain ⟨ps, hps, pa, pvs, rfl, hpa, hph⟩ := hh.get hw
      obtain ⟨pl, pb⟩ := hp ps (List.mem_of_getElem? hps)
      have hpl := hph.len
      refine ⟨_, rfl, pa, rfl, ⟨_, sqT (sm _ _ hpa)⟩, ?_⟩
      refine for_tup (xs := pvs) (fun j σ H' => ∃ (y3 y4 : Option V) (kvs : List (L2.Key × V)), σ = [some (.ref a), some (.ref d), some (.ref pa), y3, y4] ∧ Same H H' ∧ H' d = some (.dK kvs) ∧ Tally kvs n (fun k => usedOf (us.take i) k + usedP (ps.take j) k))
        ⟨y3, y4, kvs, rfl, sm, hdk, T.keys, fun k => by rw [T.val k]; show V.int _ = V.int (_ + 0); rw [Int.add_zero]⟩ (fun j σ H' _ h => by obtain ⟨_, _, _, _, sm, _⟩ := h; exact sm.seqT (sqT hpa)) (fun j w σ H2 hw h => ?_) (fun σ H2 h => ?_)
      · obtain ⟨y3, y4, kvs, rfl, sm, hdk, T⟩ := h
        obtain ⟨p, hpp, t, rfl, ht⟩ := hph.get hw
        have hpn := pb p (List.mem_of_getElem? hpp)
        refine ⟨t, _, rfl, sqT (sm _ _ ht), rfl, _, _, rfl, _, _, rfl, rfl, ?_⟩
        refine ⟨_, rfl, d, rfl, .inl ⟨kvs, .inl hdk⟩, _, rfl, _, DGet.k (k := kI p.1) hdk, ?_⟩
        rw [T.val p.1]
        refine ⟨_, rfl, _, _, rfl, rfl, ?_⟩
        refine ⟨_, rfl, _, rfl, d, _, rfl, DPut.k (k := kI p.1) hdk (small' (by have := T.len; omega)), ?_⟩
        refine ⟨_, _, _, rfl, sm.mut hd, upd_same, T.put hpn ?_ fun k hk => ?_⟩
        · rw [take_succ' hpp, usedP_snoc, if_pos rfl]; omega
        · rw [take_succ' hpp, usedP_snoc, if_neg (fun z => hk z.symm)]; omega
      · obtain ⟨y3, y4, kvs, rfl, sm, hdk, T⟩ := h
        refine ⟨_, y3, y4, kvs, rfl, sm, hdk, T.keys, fun k => ?_⟩
        rw [T.val k, take_succ' hps, usedOf_snoc, hpl, List.take_length]
    · obtain ⟨y2, y3, y4, kvs, rfl, sm, hdk, T⟩ := h
      rw [hh.len, List.take_length] at T
      exact ⟨_, rfl, q d kvs H1 sm hdk T⟩
abbrev s_ends : Stmt := topS 2
theorem sc_ends : FnScope ["larder", "uses", "sums", "batch", "name", "amount", "last"] ["larder", "uses"] (defScope s_ends) := ⟨rfl, rfl, rfl, by decide +kernel, rfl, by decide +kernel, by decide +kernel⟩
theorem bd_ends : ∀ (kV doc pm : Value) (an : Option Addr) (cdv ct : Value) (us : List Value), us.length = (["larder", "uses"] : List Str).length → bindArgs (PySem.W.fnOf "ends" "ends" (defArgs s_ends) (defBody s_ends) (defScope s_ends) .none kV doc pm an cdv ct) ⟨us, []⟩ = pure ((["larder", "uses"] : List Str).zip us) := fun _ _ _ _ _ _ us hl => match us, hl with | [_, _], _ => rfl
theorem ok_ends {P : Program} {w : World} {K : PySem.W.Frag} {mg : Str → Option Value} {base : Heap} (D : DefAt K mg "ends" s_ends) (m_enumerate : mg "enumerate" = none) (m_tuple : mg "tuple" = none) (C_sums_of : Clb P w K mg base 1 "sums_of" ["uses"] spSumsOf) (C_end_of : Clb P w K mg base 1 "end_of" ["amount", "last", "used"] spEndOf) : Clb P w K mg base 2 "ends" ["larder", "uses"] spEnds := by
  refine D.clb sc_ends (fun vs H Q E h => ?_) bd_ends (fun f cdv A outer s H vs Q E hr h => ?_)
  · obtain ⟨v, u, lar, us, rfl, _⟩ := h
    rfl
  · obtain ⟨v, u, lar, us, rfl, ⟨a, vs, rfl, ha, hh⟩, hu, hl, hul, hp, hle, q⟩ := h
    refine ⟨_, (pss_cons (ps_set (i := 2) sc_ends.nd rfl (.inr rfl) (pe_cal C_sums_of (hr.mono (by decide)) (pa_cons (pv 1) pa_nil)))
    (pss_one (ps_ret (pe_callTy (kcall_tuple_of K) (by rfl) m_tuple (by decide +kernel) (pa_cons (pe_lc (own := [("batch", 3), ("name", 4), ("amount", 5), ("last", 6)]) rfl sc_ends.nd (kpi_enumT K (by rfl) m_enumerate (pa_cons (pv 0) pa_nil)) (blkOk_by (own := [("batch", 3), ("name", 4), ("amount", 5), ("last", 6)]) (N := ["larder", "uses", "sums", "batch", "name", "amount", "last"]) (sc := defScope s_ends) (by decide +kernel)) (fun _ _ _ _ _ => (kpg_tup K (n := 2) rfl (pgs_cons (pg_name (i := 3) sc_ends.nd rfl (.inl rfl)) (pgs_cons (kpg_tup K (n := 3) rfl (pgs_cons (pg_name (i := 4) sc_ends.nd rfl (.inl rfl)) (pgs_cons (pg_name (i := 5) sc_ends.nd rfl (.inl rfl)) (pgs_cons (pg_name (i := 6) sc_ends.nd rfl (.inl rfl)) pgs_nil)))) pgs_nil)))) (fun _ _ _ _ _ => pts_nil) (fun _ _ _ _ _ => (pe_cal C_end_of (hr.mono (by decide)) (pa_cons (pv 5) (pa_cons (pv 6) (pa_cons (pe_dget2 (hu_of hr) (pv 2) (pv 3) pe_int ⟨rfl, rfl, rfl, rfl⟩) pa_nil)))))) pa_nil))))), ?_⟩
    have hvl := hh.len
    refine ⟨_, rfl, u, us, lar.length, rfl, hu, hul, hl, fun ps h => ⟨(hp ps h).1, fun p hpp => ((hp ps h).2 p hpp).1⟩, fun d kvs H1 s1 hd T => ?_⟩
    refine ⟨_, rfl, a, _, rfl, sqT (s1 _ _ ha), ?_⟩
    refine fun D hD => lc_rel walk_enumT (xs := List.range lar.length) (by rw [List.length_range]; omega) (f := fun k => some (endOf (lar.getD k bz) (usedOf us k))) (R := IntsT) IntsT.mono hD
      (fun H' s => (s1.trans s).seqT (sqT ha)) (by omega) (fun i v x H2 H3 Ky Kn hx sm hy h1 h2 => ?_) (fun H' ys sm hD' hd' => ?_)
    · obtain ⟨rfl, hi⟩ := range_ix hx
      obtain ⟨T2, y, z, rfl, hT, rfl, ey, ez⟩ := hy
      cases ey
      have ho := List.getElem?_eq_getElem hi
      have eo : lar.getD x bz = lar[x] := by rw [List.getD_eq_getElem?_getD, ho]; rfl
      rw [eo] at h1
      obtain ⟨t, rfl, ht⟩ := hh.all x _ _ ez ho
      have st := same_upd (o := .tup [V.int (0 + (x : Nat)), V.ref t]) hT
      refine ⟨T2, _, rfl, sqT upd_same, rfl, _, _, rfl, _, _, rfl, t, _, rfl, sqT (st _ _ (sm _ _ (s1 _ _ ht))), rfl, _, _, rfl, _, _, rfl, _, _, rfl, rfl, rfl, rfl, ?_⟩
      have hd2 := st _ _ (sm _ _ hd)
      have hget : DGet (upd H2 T2 (HO.tup [V.int (0 + (x : Nat)), V.ref t])) d (V.int (0 + (x : Nat))) (valV kvs (kI x)) := by
        have e0 : (0 : Int) + (x : Nat) = (x : Nat) := by omega
        rw [e0] at hd2 ⊢
        exact DGet.k (k := kI x) hd2
      refine ⟨_, rfl, _, rfl, _, rfl, d, rfl, .inl ⟨kvs, .inl hd2⟩, _, rfl, valV kvs (kI x), hget, ?_⟩
      rw [T.val x]
      refine ⟨lar[x], _, rfl, fun v' H' s' hv' => ?_⟩
      exact h1 _ _ _ rfl (st.trans s') hv'
    · rw [fm_some] at hd'
      refine ⟨D, _, rfl, .inl ⟨sqL hD', fun p hp => ?_⟩⟩
      exact q _ _ ((s1.trans sm).new hp) ⟨p, ys, rfl, upd_same, hd'.mono IntsT.mono (SameT.new hp)⟩
abbrev s_law : Stmt := topS 17
theorem sc_law : FnScope ["_law_script", "_law_cells", "_law_cell", "_law_larder_here", "_law_batch", "_law_left", "_law_uses", "_law_k", "_law_pairs", "_law_some", "_law_j", "_law_number", "_law_amount_here", "_law_found", "_law_due"] ["_law_script"] (defScope s_law) := ⟨rfl, rfl, rfl, by decide +kernel, rfl, by decide +kernel, by decide +kernel⟩
theorem bd_law : ∀ (kV doc pm : Value) (an : Option Addr) (cdv ct : Value) (us : List Value), us.length = (["_law_script"] : List Str).length → bindArgs (PySem.W.fnOf "law" "law" (defArgs s_law) (defBody s_law) (defScope s_law) .none kV doc pm an cdv ct) ⟨us, []⟩ = pure ((["_law_script"] : List Str).zip us) := fun _ _ _ _ _ _ us hl => match us, hl with | [_], _ => rfl
def spLaw (K : PySem.W.Frag) : Sp := fun vs H Q _ => ∃ (a : Addr) (ns : List Int), vs = [.ref a] ∧ SqL K H a (ns.map V.int) ∧ ns.length ≤ 63 ∧ ∀ H', Q (.bl true) H'
/-- the law's batches: amounts and last days, as drawn -/
def FineB (b : Batch) : Prop := 1 ≤ b.amount ∧ b.amount ≤ 200 ∧ 1 ≤ b.last ∧ b.last ≤ 99
theorem ok_law {P : Program} {w : World} {K : PySem.W.Frag} {mg : Str → Option Value} {base : Heap} {f : Addr} {fd : FuncData} (F : Fun K "law" "law" s_law f fd) (m_range : mg "range" = none) (m_len : mg "len" = none) (m_tuple : mg "tuple" = none) (m_min : mg "min" = none) (m_isinstance : mg "isinstance" = none)
    (C_mixed : Clb P w K mg base 1 "_law_mixed" ["_law_script"] (spMixed K)) (C_cell_at : Clb P w K mg base 1 "_law_cell_at" ["_law_cells", "_law_k"] (spCellAt K)) (C_larder : Clb P w K mg base 2 "_law_larder" ["_law_cells", "_law_names_here", "_law_many_here"] (spLarder K)) (C_names : Clb P w K mg base 2 "_law_names" ["_law_cells"] (spNames K)) (C_many : Clb P w K mg base 1 "_law_many" ["_law_cell", "_law_few", "_law_room"] spMany) (C_mix : Clb P w K mg base 1 "_law_mix" ["_law_cell", "_law_k"] spMix)
    (C_ends : Clb P w K mg base 2 "ends" ["larder", "uses"] spEnds) (C_numbers : Clb P w K mg base 2 "_law_numbers" ["_law_found", "_law_due"] (spNumbers K)) :
    FnOk P w K mg base CX0 3 f fd ["_law_script"] (spLaw K) := by
  refine F.ok sc_law (fun vs H Q E h => ?_) (fun cdv A outer s H vs Q E hr h => ?_)
  · obtain ⟨a, ns, rfl, _⟩ := h
    rfl
  · obtain ⟨a, ns, rfl, hS, hl, q⟩ := h
    refine ⟨_, (pss_cons (ps_set (i := 1) sc_law.nd rfl (.inl rfl) (pe_cal C_mixed (hr.mono (by decide)) (pa_cons (pv 0) pa_nil)))
    (pss_cons (ps_set (i := 2) sc_law.nd rfl (.inr rfl) (pe_cal C_cell_at (hr.mono (by decide)) (pa_cons (pv 1) (pa_cons pe_int pa_nil))))
    (pss_cons (ps_set (i := 3) sc_law.nd rfl (.inl rfl) (pe_cal C_larder (hr.mono (by decide)) (pa_cons (pv 1) (pa_cons (pe_cal C_names (hr.mono (by decide)) (pa_cons (pv 1) pa_nil)) (pa_cons (pe_cal C_many (hr.mono (by decide)) (pa_cons (pv 2) (pa_cons pe_int (pa_cons pe_int pa_nil)))) pa_nil)))))
    (pss_cons (ps_set (i := 3) sc_law.nd rfl (.inl rfl) (pe_callTy (kcall_tuple_of K) (by rfl) m_tuple (by decide +kernel) (pa_cons (pe_lc (own := [("_law_batch", 4)]) rfl sc_law.nd (kpi_tup K (pv 3)) (blkOk_by (own := [("_law_batch", 4)]) (N := ["_law_script", "_law_cells", "_law_cell", "_law_larder_here", "_law_batch", "_law_left", "_law_uses", "_law_k", "_law_pairs", "_law_some", "_law_j", "_law_number", "_law_amount_here", "_law_found", "_law_due"]) (sc := defScope s_law) (by decide +kernel)) (fun _ _ _ _ _ => (pg_name (i := 4) sc_law.nd rfl (.inl rfl))) (fun _ _ _ _ _ => pts_nil) (fun _ _ _ _ _ => (pe_tup (pa_cons (pe_ix (kix_tup K) (pv 4) pe_int (fun _ _ => rfl)) (pa_cons (pe_ix (kix_tup K) (pv 4) pe_int (fun _ _ => rfl)) (pa_cons (pe_ix (kix_list K) (pe_lst (pa_cons (pe_ix (kix_tup K) (pv 4) pe_int (fun _ _ => rfl)) (pa_cons pe_int (pa_cons pe_int (pa_cons pe_int pa_nil))))) (pe_op op_mod (pe_cal C_mix (hr.mono (by decide)) (pa_cons (pv 2) (pa_cons (pe_ix (kix_tup K) (pv 4) pe_int (fun _ _ => rfl)) pa_nil))) pe_int) (fun _ _ => rfl)) pa_nil)))))) pa_nil)))
    (pss_cons (ps_setLc (i := 5) (own := [("_law_batch", 4)])   rfl sc_law.nd rfl rfl (sw_true rfl rfl rfl (by decide +kernel)) (kpi_tup K (pv 3)) (blkOk_by (own := [("_law_batch", 4)]) (N := ["_law_script", "_law_cells", "_law_cell", "_law_larder_here", "_law_batch", "_law_left", "_law_uses", "_law_k", "_law_pairs", "_law_some", "_law_j", "_law_number", "_law_amount_here", "_law_found", "_law_due"]) (sc := defScope s_law) (by decide +kernel)) (fun _ _ _ _ _ => (pg_name (i := 4) sc_law.nd rfl (.inl rfl))) (fun _ _ _ _ _ => pts_nil) (fun _ _ _ _ _ => (pe_ix (kix_tup K) (pv 4) pe_int (fun _ _ => rfl))))
    (pss_cons (ps_set (i := 6) sc_law.nd rfl (.inl rfl) (pe_lst pa_nil))
    (pss_cons (ps_for PassesOwn.never rfl (pi_range1 (by rfl) m_range (pa_cons (pe_op op_mod (pe_op op_fdiv (pv 2) pe_int) pe_int) pa_nil)) (pg_name (i := 7) sc_law.nd rfl (.inl rfl))
      (pss_cons (ps_set (i := 8) sc_law.nd rfl (.inl rfl) (pe_tup pa_nil))
    (pss_cons (ps_set (i := 9) sc_law.nd rfl (.inl rfl) (pe_cal C_mix (hr.mono (by decide)) (pa_cons (pe_cal C_cell_at (hr.mono (by decide)) (pa_cons (pv 1) (pa_cons (pe_op op_add pe_int (pv 7)) pa_nil))) (pa_cons (pv 7) pa_nil))))
    (pss_cons (ps_for PassesOwn.never rfl (pi_range1 (by rfl) m_range (pa_cons (pe_op op_mod (pv 9) pe_int) pa_nil)) (pg_name (i := 10) sc_law.nd rfl (.inl rfl))
      (pss_one (ps_if (pt_cmpR op_gt (pe_callB (kcall_len_seq K) (by rfl) m_len (by decide +kernel) (pa_cons (pv 3) pa_nil)) pe_int (nomark _))
      (pss_cons (ps_set (i := 11) sc_law.nd rfl (.inl rfl) (pe_op op_mod (pe_cal C_mix (hr.mono (by decide)) (pa_cons (pv 9) (pa_cons (pv 10) pa_nil))) (pe_callB (kcall_len_seq K) (by rfl) m_len (by decide +kernel) (pa_cons (pv 3) pa_nil))))
    (pss_cons (ps_set (i := 12) sc_law.nd rfl (.inl rfl) (pe_callB (call_min2 rfl) (by rfl) m_min (by decide +kernel) (pa_cons (pe_ix (kix_list K) (pv 5) (pv 11) (fun _ _ => rfl)) (pa_cons (pe_op op_add pe_int (pe_op op_mod (pe_cal C_mix (hr.mono (by decide)) (pa_cons (pv 9) (pa_cons (pe_op op_add (pv 10) pe_int) pa_nil))) pe_int)) pa_nil))))
    (pss_one (ps_if (pt_cmpR op_gt (pv 12) pe_int (nomark _))
      (pss_cons (ps_set (i := 8) sc_law.nd rfl (.inl rfl) (pe_op (kop_catA K) (pv 8) (pe_tup (pa_cons (pe_tup (pa_cons (pv 11) (pa_cons (pv 12) pa_nil))) pa_nil))))
    (pss_one (ps_asg (pe_op op_sub (pe_ix (kix_list K) (pv 5) (pv 11) (fun _ _ => rfl)) (pv 12)) (pg_sub (pv 5) (pv 11) set_list))))
      pss_nil))))
      pss_nil)))
    (pss_one (ps_expr (kpe_bm K PySem.F.plainAttrs_list PySem.F.slot_list_append PySem.F.type_list_append mt_append (pv 6) (pa_cons (pv 8) pa_nil))))))))
    (pss_cons (ps_set (i := 13) sc_law.nd rfl (.inl rfl) (pe_cal C_ends (hr.mono (by decide)) (pa_cons (pv 3) (pa_cons (pe_callTy (kcall_tuple_of K) (by rfl) m_tuple (by decide +kernel) (pa_cons (pv 6) pa_nil)) pa_nil))))
    (C8.pss_cut (ps_if (PW.pt (pw_or (pt_not (pt_val (pe_callB (kcall_isi K) (by rfl) m_isinstance (by decide +kernel) (pa_cons (pv 13) (pa_cons (pe_bltn (v := .ty "tuple") (u := .type "tuple") (by rfl) m_tuple (by decide +kernel) rfl) pa_nil))))) (pw_or1 (pt_cmpR op_ne (pe_callB (kcall_len_seq K) (by rfl) m_len (by decide +kernel) (pa_cons (pv 13) pa_nil)) (pe_callB (kcall_len_seq K) (by rfl) m_len (by decide +kernel) (pa_cons (pv 3) pa_nil)) (nomark _)))))
      (pss_one (ps_ret pe_bl))
      pss_nil)
    (pss_cons (ps_for PassesOwn.never rfl (pi_range1 (by rfl) m_range (pa_cons (pe_callB (kcall_len_seq K) (by rfl) m_len (by decide +kernel) (pa_cons (pv 3) pa_nil)) pa_nil)) (pg_name (i := 7) sc_law.nd rfl (.inl rfl))
      (pss_cons (ps_set (i := 14) sc_law.nd rfl (.inl rfl) (pe_lst (pa_cons (pe_op op_sub (pe_ix (kix_tup K) (pe_ix (kix_tup K) (pv 3) (pv 7) (fun _ _ => rfl)) pe_int (fun _ _ => rfl)) (pe_ix (kix_list K) (pv 5) (pv 7) (fun _ _ => rfl))) (pa_cons (pe_ix (kix_list K) (pv 5) (pv 7) (fun _ _ => rfl)) (pa_cons pe_int pa_nil)))))
    (C8.pss_cut (ps_if (pt_cmpR op_gt (pe_ix (kix_tup K) (pe_ix (kix_tup K) (pv 3) (pv 7) (fun _ _ => rfl)) pe_int (fun _ _ => rfl)) pe_int (nomark _))
      (pss_one (ps_set (i := 14) sc_law.nd rfl (.inl rfl) (pe_lst (pa_cons (pe_op op_sub (pe_ix (kix_tup K) (pe_ix (kix_tup K) (pv 3) (pv 7) (fun _ _ => rfl)) pe_int (fun _ _ => rfl)) (pe_ix (kix_list K) (pv 5) (pv 7) (fun _ _ => rfl))) (pa_cons pe_int (pa_cons (pe_ix (kix_list K) (pv 5) (pv 7) (fun _ _ => rfl)) pa_nil))))))
      pss_nil)
    (pss_one (ps_if (pt_not (pt_val (pe_cal C_numbers (hr.mono (by decide)) (pa_cons (pe_ix (kix_tup K) (pv 13) (pv 7) (fun _ _ => rfl)) (pa_cons (pv 14) pa_nil)))))
      (pss_one (ps_ret pe_bl))
      pss_nil)))))
    (pss_one (ps_ret pe_bl)))))))))))), ?_⟩
    refine ⟨_, rfl, a, ns, rfl, hS, hl, fun ca H1 s1 hc => ?_⟩
    refine ⟨_, rfl, ca, 2, rfl, hc, by decide, by decide, fun cell z0 z1 => ?_⟩
    refine ⟨_, rfl, _, rfl, ca, rfl, hc, fun na H2 seed many s2 hn => ?_⟩
    refine ⟨_, rfl, cell, 8, 120, rfl, by decide, by decide, fun m m0 m1 => ?_⟩
    refine ⟨ca, na, m, seed, many, rfl, hc.same s2, hn, m0, by omega, fun v lar H3 s3 hlar ll lg => ?_⟩
    have hc3 := (hc.same s2).same s3
    obtain ⟨la, lus, rfl, hla, hlh⟩ := hlar
    -- other last days
    refine ⟨_, rfl, la, rfl, ⟨_, sqT hla⟩, fun D hD => lc_rel (walk_tup (xs := lus)) (xs := lar) hlh.len.symm (f := fun b => some b) (R := fun H v b => ∃ b', BatchAt H v b' ∧ FineB b') (fun H H' v x e ⟨b', h1, h2⟩ => ⟨b', BatchAt.mono _ _ _ _ e h1, h2⟩) hD (fun _ s => sqT (s _ _ hla)) (by have := hlh.len; omega) (fun i v x H4 H5 Ky Kn hx s4 hy h1 h2 => ?_) (fun H4 ys s4 hD' hd => ?_)⟩
    · obtain ⟨rfl, hv⟩ := hy
      obtain ⟨t, rfl, ht⟩ := hlh.all i v x hv hx
      have gb := lg x (ix_mem hx)
      have ht4 := sqT (K := K) (s4 _ _ ht)
      refine ⟨rfl, ?_⟩
      refine ⟨_, rfl, t, _, _, _, rfl, rfl, ht4, rfl, ?_⟩
      refine ⟨_, rfl, t, _, _, _, rfl, rfl, ht4, rfl, ?_⟩
      refine ⟨_, rfl, t, _, _, _, rfl, rfl, ht4, rfl, ?_⟩
      refine ⟨small (by show 4 ≤ 100000; decide), fun r hr1 => ?_⟩
      have s5 := same_upd (o := .lst [V.int x.last, V.int 6, V.int 7, V.int 8]) hr1
      refine ⟨_, rfl, _, rfl, t, _, _, _, rfl, rfl, sqT (s5 _ _ (s4 _ _ ht)), rfl, ?_⟩
      refine ⟨cell, x.amount, rfl, by have := gb.am1; omega, by have := gb.am2; omega, fun mz mz0 mz1 => ?_⟩
      walk_at "rd"
      have e1 := Int.emod_nonneg mz (show (4 : Int) ≠ 0 by decide)
      have e2 := Int.emod_lt_of_pos mz (show (0 : Int) < 4 by decide)
      have hz : ∃ z : Int, atI [V.int x.last, V.int 6, V.int 7, V.int 8] (mz % 4) = some (.int z) ∧ 1 ≤ z ∧ z ≤ 99 := by
        have : mz % 4 = 0 ∨ mz % 4 = 1 ∨ mz % 4 = 2 ∨ mz % 4 = 3 := by omega
        rcases this with e | e | e | e <;> rw [e]
        · exact ⟨_, rfl, gb.la1, gb.la2⟩
        · exact ⟨6, rfl, by decide, by decide⟩
        · exact ⟨7, rfl, by decide, by decide⟩
        · exact ⟨8, rfl, by decide, by decide⟩
      obtain ⟨z, ez, l1, l2⟩ := hz
      refine ⟨r, _, _, _, rfl, rfl, sqL upd_same, ez, ?_⟩
      refine ⟨small (by show 3 ≤ 100000; decide), fun u hu => ?_⟩
      exact h1 _ _ _ rfl (s5.new hu) ⟨⟨x.name, x.amount, z⟩, ⟨u, rfl, upd_same⟩, gb.am1, gb.am2, l1, l2⟩
    · rw [fm_some (fun b : Batch => b), List.map_id'] at hd
      obtain ⟨lar', hl', hll, hfb⟩ := hd.choose (P := fun _ b' => FineB b')
      have hfine : ∀ k : Nat, k < lar'.length → FineB (lar'.getD k bz) := fun k hk => hfb k _ _ (List.getElem?_eq_getElem (by omega)) (at_getD hk bz)
      have ln : lar'.length ≤ 120 := by omega
      refine ⟨D, _, rfl, .inl ⟨sqL hD', fun lb hlb => ?_⟩⟩
      have s5 := same_upd (o := .tup ys) hlb
      have hl5 := hl'.mono BatchAt.mono (SameT.of s5)
      have hlb5 : (upd H4 lb (.tup ys)) lb = some (.tup ys) := upd_same
      have hc5 := (hc3.same s4).same s5
      -- what reads a batch
      have rd : ∀ (k : Nat), k < lar'.length → ∃ t, ys[k]? = some (.ref t) ∧ (upd H4 lb (.tup ys)) t = some (.tup [.str (lar'.getD k bz).name, .int (lar'.getD k bz).amount, .int (lar'.getD k bz).last]) := fun k hk => by
        have hy := List.getElem?_eq_getElem (show k < ys.length by rw [hl5.len]; exact hk)
        obtain ⟨t, e1, e2⟩ := hl5.all k _ _ hy (at_getD hk bz)
        rw [e1] at hy
        exact ⟨t, hy, e2⟩
      clear hD' hl' hd
      generalize (upd H4 lb (.tup ys)) = H5 at *
      -- what is left
      refine ⟨_, rfl, lb, rfl, ⟨_, sqT hlb5⟩, fun pl hpl => lc_rel (walk_tup (xs := ys)) (xs := List.range lar'.length) (by rw [List.length_range, hl5.len]) (f := fun k => some ((lar'.getD k bz).amount - 0)) (R := fun _ v x => v = V.int x) mono_eq hpl (fun _ s => sqT (s _ _ hlb5)) (by rw [hl5.len]; omega) (fun i v x H6 H7 Ky Kn hx s6 hy h1 h2 => ?_) (fun H6 zs s6 hpl' hd2 => ?_)⟩
      · obtain ⟨rfl, hv⟩ := hy
        obtain ⟨rfl, hx7⟩ := range_ix hx
        obtain ⟨t, hu, ht⟩ := rd x hx7
        rw [hu] at hv
        obtain rfl := Option.some.inj hv
        refine ⟨rfl, ?_⟩
        exact ⟨_, rfl, t, _, _, _, rfl, rfl, sqT (s6 _ _ ht), rfl, h1 _ _ _ rfl (Same.refl _) (by rw [Int.sub_zero])⟩
      · have e2 := held_eq (f := V.int) hd2
        rw [fm_some] at e2
        have hleft : H6 pl = some (.lst ((leftL lar' (usedOf [])).map V.int)) := by rw [hpl', e2]; rfl
        clear hpl' e2 hd2
        refine ⟨Nat.zero_le _, fun pu hpu => ?_⟩
        have npu : pu ≠ pl := fun z => by rw [z, hleft] at hpu; cases hpu
        have s7 := s6.trans (same_upd (o := .lst []) hpu)
        have hplu : (upd H6 pu (.lst [])) pl = some (.lst ((leftL lar' (usedOf [])).map V.int)) := by rw [upd_ne npu.symm]; exact hleft
        have hpu5 := same_none s6 hpu
        walk_at "rd"
        have w1 := Int.emod_nonneg (cell / 1500) (show (10 : Int) ≠ 0 by decide)
        have w2 := Int.emod_lt_of_pos (cell / 1500) (show (0 : Int) < 10 by decide)
        refine ⟨by omega, by omega, ?_⟩
        refine for_range (lo := 0) (fun i σ H' => ∃ (y4 y7 y8 y9 y10 y11 y12 y13 y14 : Option V) (uvs : List V) (us : List (List Use)), σ = [some (.ref a), some (.ref ca), some (.int cell), some (.ref lb), y4, some (.ref pl), some (.ref pu), y7, y8, y9, y10, y11, y12, y13, y14] ∧ Same H5 H' ∧
            H' pl = some (.lst ((leftL lar' (usedOf us)).map V.int)) ∧ H' pu = some (.lst uvs) ∧ Held PairsAt H' uvs us ∧ us.length = i ∧ (∀ ps ∈ us, ps.length ≤ 4 ∧ ∀ p ∈ ps, p.1 < lar'.length ∧ 1 ≤ p.2) ∧ (∀ k, k < lar'.length → usedOf us k ≤ (lar'.getD k bz).amount))
          ⟨_, _, _, _, _, _, _, _, _, [], [], rfl, s7, hplu, upd_same, Held.nil, rfl, (fun _ z => nomatch z), fun k hk => by have := (hfine k hk).1; show (0 : Int) ≤ _; omega⟩ (fun i σ H8 hi h => ?_) (fun σ H8 h => ?_)
        · obtain ⟨y4, y7, y8, y9, y10, y11, y12, y13, y14, uvs, us, rfl, s8, hl8, hu8, hh8, hul, hgu, hle⟩ := h
          have hi9 : i < 10 := by omega
          refine ⟨Nat.zero_le _, fun t0 ht0 => ?_⟩
          have s9 := same_upd (o := .tup []) ht0
          walk_at "rd"
          refine ⟨(hc5.same s8).same s9, by omega, by omega, fun c1 c10 c11 => ?_⟩
          walk_at "rd"
          refine ⟨by omega, by omega, fun som m0' m1' => ?_⟩
          walk_at "rd"
          have v1 := Int.emod_nonneg som (show (4 : Int) ≠ 0 by decide)
          have v2 := Int.emod_lt_of_pos som (show (0 : Int) < 4 by decide)
          refine ⟨by omega, by omega, ?_⟩
          refine for_range (lo := 0) (fun j σ H' => ∃ (y10 y11 y12 : Option V) (pt : Addr) (pvs : List V) (ps : List Use), σ = [some (.ref a), some (.ref ca), some (.int cell), some (.ref lb), y4, some (.ref pl), some (.ref pu), some (.int (0 + (i : Nat))), some (.ref pt), some (.int som), y10, y11, y12, y13, y14] ∧ Same H5 H' ∧
              H' pl = some (.lst ((leftL lar' (fun k => usedOf us k + usedP ps k)).map V.int)) ∧ H' pu = some (.lst uvs) ∧ Held PairsAt H' uvs us ∧ H' pt = some (.tup pvs) ∧ Held UseAt H' pvs ps ∧ ps.length ≤ j ∧ (∀ p ∈ ps, p.1 < lar'.length ∧ 1 ≤ p.2) ∧ (∀ k, k < lar'.length → usedOf us k + usedP ps k ≤ (lar'.getD k bz).amount))
            ⟨y10, y11, y12, t0, [], [], rfl, s8.trans s9, by
              have : (fun k => usedOf us k + usedP [] k) = usedOf us := by funext k; show _ + (0 : Int) = _; omega
              rw [this]; exact s9 _ _ hl8, s9 _ _ hu8, hh8.mono PairsAt.mono (SameT.of s9), upd_same, Held.nil, Nat.le_refl _, (fun _ z => nomatch z), fun k hk => by have := hle k hk; show _ + (0 : Int) ≤ _; omega⟩ (fun j σ H10 hj h => ?_) (fun σ H10 h => ?_)
          · obtain ⟨y10, y11, y12, pt, pvs, ps, rfl, s10, hl10, hu10, hh10, hpt, hph, hpl4, hgp, hle2⟩ := h
            refine ⟨_, rfl, lb, _, rfl, .inr (sqT (s10 _ _ hlb5)), ?_⟩
            walk_at "rd"
            refine it_lt (fun en => ?_) (fun en => ?_)
            · have hn0 : 0 < lar'.length := by rw [← hl5.len]; omega
              walk_at "rd"
              refine ⟨by omega, by omega, fun mx mx0 mx1 => ?_⟩
              refine ⟨_, rfl, lb, _, rfl, .inr (sqT (s10 _ _ hlb5)), ?_⟩
              refine ⟨_, _, rfl, rfl, (by omega), ?_⟩
              rw [hl5.len]
              have n0 := Int.emod_nonneg mx (show (lar'.length : Int) ≠ 0 by omega)
              have n1 := Int.emod_lt_of_pos mx (show (0 : Int) < lar'.length by omega)
              obtain ⟨num, hnum⟩ : ∃ num : Nat, mx % (lar'.length : Int) = (num : Int) := ⟨(mx % (lar'.length : Int)).toNat, by omega⟩
              simp only [hnum]
              have hnl : num < lar'.length := by omega
              have hlv := leftL_at (f := fun k => usedOf us k + usedP ps k) hnl
              have hlz := hle2 num hnl
              refine ⟨_, rfl, _, rfl, pl, _, _, _, rfl, rfl, sqL hl10, at_of (j := num) rfl (ix_map hlv), ?_⟩
              walk_at "rd"
              refine ⟨by omega, by omega, fun my my0 my1 => ?_⟩
              walk_at "rd"
              have b0 := Int.emod_nonneg my (show (15 : Int) ≠ 0 by decide)
              generalize hlx : (lar'.getD num bz).amount - (usedOf us num + usedP ps num) = lx at *
              obtain ⟨am, ham⟩ : ∃ am : Int, (if 1 + my % 15 < lx then 1 + my % 15 else lx) = am := ⟨_, rfl⟩
              have ham1 : am ≤ lx := by rw [← ham]; split <;> omega
              simp only [ham]
              refine it_lt (fun ea => ?_) (fun ea => ?_)
              · refine ⟨_, rfl, _, rfl, _, rfl, small (by show 2 ≤ 100000; decide), fun t1 ht1 => ?_⟩
                have s11 := same_upd (o := .tup [V.int num, V.int am]) ht1
                refine ⟨small (by show 1 ≤ 100000; decide), fun t2 ht2 => ?_⟩
                have s12 := same_upd (o := .tup [V.ref t1]) ht2
                have s112 := s11.trans s12
                have hpt12 := s112 _ _ hpt
                refine cat_tup (sqT hpt12) upd_same (small (by rw [hph.len]; show ps.length + 1 ≤ 100000; omega)) (by intro z; cases z) (fun p3 H13 s13 hp3 => ?_)
                have s113 := s112.trans s13
                have hl13 := s113 _ _ hl10
                refine ⟨_, rfl, _, rfl, pl, _, _, _, rfl, rfl, sqL hl13, at_of (j := num) rfl (ix_map hlv), ?_⟩
                walk_at "rd"
                refine ⟨pl, _, _, num, rfl, rfl, hl13, ixN_of rfl (by rw [List.length_map, leftL_len]; exact hnl), ?_⟩
                have stl := SameT.lst (o := .lst (((leftL lar' (fun k => usedOf us k + usedP ps k)).map V.int).set num (V.int (lx - am)))) hl13
                have hset : (leftL lar' (fun k => usedOf us k + usedP ps k)).set num (lx - am) = leftL lar' (fun k => usedOf us k + usedP (ps ++ [(num, am)]) k) := leftL_set hnl (by rw [usedP_snoc, if_pos rfl]; omega) (fun k hk hne => by rw [usedP_snoc, if_neg (fun z => hne z.symm)]; omega)
                have hpl5' := same_none s5 hpl
                refine ⟨_, _, _, p3, pvs ++ [V.ref t1], ps ++ [(num, am)], rfl, ((s10.trans s113).mut hpl), by rw [upd_same, ← List.map_set, hset], by rw [upd_ne npu]; exact s113 _ _ hu10, hh10.mono PairsAt.mono ((SameT.of s113).trans stl), stl _ _ hp3, (hph.mono UseAt.mono ((SameT.of s113).trans stl)).snoc ⟨t1, rfl, stl _ _ (s13 _ _ (s12 _ _ upd_same))⟩, by rw [List.length_append]; show ps.length + 1 ≤ j + 1; omega, fun p hp => ?_, fun k hk => ?_⟩
                · rcases List.mem_append.mp hp with z | z
                  · exact hgp p z
                  · rw [List.mem_singleton.mp z]; exact ⟨hnl, by show 1 ≤ am; omega⟩
                · rw [usedP_snoc]
                  have := hle2 k hk
                  by_cases e : num = k
                  · subst e; rw [if_pos rfl]; show _ + (_ + am) ≤ _; omega
                  · rw [if_neg e]; omega
              · exact ⟨_, _, _, pt, pvs, ps, rfl, s10, hl10, hu10, hh10, hpt, hph, by omega, hgp, hle2⟩
            · exact ⟨_, _, _, pt, pvs, ps, rfl, s10, hl10, hu10, hh10, hpt, hph, by omega, hgp, hle2⟩
          · obtain ⟨y10, y11, y12, pt, pvs, ps, rfl, s10, hl10, hu10, hh10, hpt, hph, hpl4, hgp, hle2⟩ := h
            refine ⟨_, rfl, .inl ⟨rfl, _, sqL hu10⟩, ?_⟩
            refine ⟨_, rfl, pu, _, _, rfl, rfl, hu10, small' (by rw [hh10.len, hul]; omega), ?_⟩
            have stu := SameT.lst (o := .lst (uvs ++ [V.ref pt])) hu10
            have hfun : (fun k => usedOf us k + usedP ps k) = usedOf (us ++ [ps]) := by funext k; rw [usedOf_snoc]
            refine ⟨_, _, _, _, _, _, _, _, _, uvs ++ [V.ref pt], us ++ [ps], rfl, s10.mut hpu5, by rw [upd_ne npu.symm, hl10, hfun], upd_same, (hh10.mono PairsAt.mono stu).snoc ⟨pt, pvs, rfl, stu _ _ hpt, hph.mono UseAt.mono stu⟩, by rw [List.length_append, hul]; rfl, fun qs hqs => ?_, fun k hk => ?_⟩
            · rcases List.mem_append.mp hqs with z | z
              · exact hgu qs z
              · rw [List.mem_singleton.mp z]
                exact ⟨by omega, hgp⟩
            · have := hle2 k hk
              rw [usedOf_snoc]
              exact this
        · obtain ⟨y4, y7, y8, y9, y10, y11, y12, y13, y14, uvs, us, rfl, s8, hl8, hu8, hh8, hul, hgu, hle⟩ := h
          refine ⟨_, rfl, _, rfl, pu, _, rfl, .inl ⟨sqL hu8, fun tu htu => ?_⟩⟩
          have s9 := same_upd (o := .tup uvs) htu
          have lar9 : LarderAt (upd H8 tu (.tup uvs)) (.ref lb) lar' := ⟨lb, ys, rfl, (s8.trans s9) _ _ hlb5, hl5.mono BatchAt.mono (SameT.of (s8.trans s9))⟩
          refine ⟨.ref lb, .ref tu, lar', us, rfl, lar9, ⟨tu, uvs, rfl, upd_same, hh8.mono PairsAt.mono (SameT.of s9)⟩, by omega, by omega, fun ps hps => ⟨by have := (hgu ps hps).1; omega, (hgu ps hps).2⟩, hle, fun v' H10 s10 hv => ?_⟩
          obtain ⟨fa, fvs, rfl, hfa, hfh⟩ := hv
          have sL := (s8.trans s9).trans s10
          have hlen : (endsL lar' us).length = lar'.length := by unfold endsL; simp
          refine ⟨fun σ' H' => σ' = [some (.ref a), some (.ref ca), some (.int cell), some (.ref lb), y4, some (.ref pl), some (.ref pu), y7, y8, y9, y10, y11, y12, some (.ref fa), y14] ∧ H10 = H', ?_, fun σ' H' h => ?_⟩
          · refine ⟨_, rfl, ?_⟩
            refine ⟨_, _, _, _, true, rfl, .ty _, .base (.tup hfa), kit_ty (by decide +kernel), ?_⟩
            refine ⟨_, rfl, iteF ?_⟩
            refine ⟨_, rfl, fa, _, rfl, .inr (sqT hfa), ?_⟩
            refine ⟨_, rfl, lb, _, rfl, .inr (sqT (sL _ _ hlb5)), ?_⟩
            walk_at "rd"
            refine it_neI (fun z => absurd (by rw [hfh.len, hlen, hl5.len]) z) (fun _ => ?_)
            exact ⟨rfl, rfl⟩
          obtain ⟨rfl, rfl⟩ := h
          refine ⟨_, rfl, lb, _, rfl, .inr (sqT (sL _ _ hlb5)), ?_⟩
          refine ⟨_, rfl, by rw [hl5.len]; omega, by rw [hl5.len]; omega, ?_⟩
          refine for_range (lo := 0) (fun k σ H' => ∃ y7 y14, σ = [some (.ref a), some (.ref ca), some (.int cell), some (.ref lb), y4, some (.ref pl), some (.ref pu), y7, y8, y9, y10, y11, y12, some (.ref fa), y14] ∧ Same H10 H') ⟨_, _, rfl, Same.refl _⟩ (fun k σ H11 hk h => ?_) (fun σ H11 h => q _)
          obtain ⟨y7, y14, rfl, s11⟩ := h
          have hkl : k < lar'.length := by rw [← hl5.len]; omega
          obtain ⟨t, hu, ht⟩ := rd k hkl
          have sR := sL.trans s11
          have hl11 := s11 _ _ (s10 _ _ (s9 _ _ hl8))
          have hlv := leftL_at (f := usedOf us) hkl
          have hfv := List.getElem?_eq_getElem (show k < fvs.length by rw [hfh.len, hlen]; exact hkl)
          have hek : (endsL lar' us)[k]? = some (endOf (lar'.getD k bz) (usedOf us k)) := by unfold endsL; rw [List.getElem?_map, List.getElem?_range hkl]; rfl
          obtain ⟨tf, htf, htt⟩ := hfh.all k _ _ hfv hek
          rw [htf] at hfv
          refine ⟨_, rfl, _, rfl, lb, _, _, _, rfl, rfl, sqT (sR _ _ hlb5), at_of (j := k) (by omega) hu, ?_⟩
          refine ⟨t, _, _, _, rfl, rfl, sqT (sR _ _ ht), rfl, ?_⟩
          refine ⟨_, rfl, _, rfl, pl, _, _, _, rfl, rfl, sqL hl11, at_of (j := k) (by omega) (ix_map hlv), ?_⟩
          refine ⟨_, _, rfl, rfl, ?_⟩
          refine ⟨_, rfl, _, rfl, pl, _, _, _, rfl, rfl, sqL hl11, at_of (j := k) (by omega) (ix_map hlv), ?_⟩
          refine ⟨small (by show 3 ≤ 100000; decide), fun r1 hr1 => ?_⟩
          have s12 := same_upd (o := .lst [V.int ((lar'.getD k bz).amount - ((lar'.getD k bz).amount - usedOf us k)), V.int ((lar'.getD k bz).amount - usedOf us k), V.int 0]) hr1
          have ea : (lar'.getD k bz).amount - ((lar'.getD k bz).amount - usedOf us k) = usedOf us k := by omega
          refine ⟨fun σ' H' => ∃ r2, σ' = [some (.ref a), some (.ref ca), some (.int cell), some (.ref lb), y4, some (.ref pl), some (.ref pu), some (.int (0 + (k : Nat))), y8, y9, y10, y11, y12, some (.ref fa), some (.ref r2)] ∧ Same H11 H' ∧ H' r2 = some (.lst ((endOf (lar'.getD k bz) (usedOf us k)).map V.int)), ?_, fun σ' H' h => ?_⟩
          · have sR2 := sR.trans s12
            refine ⟨_, rfl, _, rfl, lb, _, _, _, rfl, rfl, sqT (sR2 _ _ hlb5), at_of (j := k) (by omega) hu, ?_⟩
            refine ⟨t, _, _, _, rfl, rfl, sqT (sR2 _ _ ht), rfl, ?_⟩
            walk_at "rd"
            refine it_lt (fun e => ?_) (fun e => ?_)
            · refine ⟨_, rfl, _, rfl, lb, _, _, _, rfl, rfl, sqT (sR2 _ _ hlb5), at_of (j := k) (by omega) hu, ?_⟩
              refine ⟨t, _, _, _, rfl, rfl, sqT (sR2 _ _ ht), rfl, ?_⟩
              refine ⟨_, rfl, _, rfl, pl, _, _, _, rfl, rfl, sqL (s12 _ _ hl11), at_of (j := k) (by omega) (ix_map hlv), ?_⟩
              refine ⟨_, _, rfl, rfl, ?_⟩
              refine ⟨_, rfl, _, rfl, pl, _, _, _, rfl, rfl, sqL (s12 _ _ hl11), at_of (j := k) (by omega) (ix_map hlv), ?_⟩
              refine ⟨small (by show 3 ≤ 100000; decide), fun r2 hr2 => ?_⟩
              refine ⟨r2, rfl, s12.new hr2, ?_⟩
              rw [upd_same]
              unfold endOf
              rw [if_neg (by omega)]
              simp only [ea]
              rfl
            · refine ⟨r1, rfl, s12, ?_⟩
              rw [upd_same]
              unfold endOf
              rw [if_pos (by omega)]
              simp only [ea]
              rfl
          obtain ⟨r2, rfl, s13, hr2⟩ := h
          refine ⟨_, rfl, _, rfl, fa, _, _, _, rfl, rfl, sqT (s13 _ _ (s11 _ _ hfa)), at_of (j := k) (by omega) hfv, ?_⟩
          refine ⟨_, rfl, tf, r2, endOf (lar'.getD k bz) (usedOf us k), rfl, s13 _ _ (s11 _ _ htt), .inl (sqL hr2), by rw [endOf_len]; decide, ?_⟩
          refine ⟨_, rfl, iteF ?_⟩
          exact ⟨_, _, rfl, s11.trans s13⟩
/-! ### what the top has written -/
theorem all_mk {l : PySem.W.OpenLaw} {w : World} {K : PySem.W.Frag} {h : Heap} {mg : Str → Option Value} {fa : Addr} (X : K.In h) (G : h.Ns mainGlobals mg) (hfa : mg "law" = some (.ref fa))
    {f0 : Addr} {od0 an0 : Option Addr} {sl0 : Array (Option Value)} {oc0 kV0 dc0 pm0 cd0 ct0 : Value} (a0 : PySem.W.nsIn K mainGlobals "_law_cell_at" = some (some (.ref f0))) (l0 : K.lookup f0 = some ⟨oc0, od0, .func (PySem.W.fnOf "_law_cell_at" "_law_cell_at" (defArgs s_cell_at) (defBody s_cell_at) (defScope s_cell_at) .none kV0 dc0 pm0 an0 cd0 ct0), sl0⟩) (c0 : PySem.W.codeIn K cd0 "_law_cell_at" = true) (k0 : PySem.W.keepIn K (.ref f0) = true)
    {f1 : Addr} {od1 an1 : Option Addr} {sl1 : Array (Option Value)} {oc1 kV1 dc1 pm1 cd1 ct1 : Value} (a1 : PySem.W.nsIn K mainGlobals "_law_amount" = some (some (.ref f1))) (l1 : K.lookup f1 = some ⟨oc1, od1, .func (PySem.W.fnOf "_law_amount" "_law_amount" (defArgs s_amount) (defBody s_amount) (defScope s_amount) .none kV1 dc1 pm1 an1 cd1 ct1), sl1⟩) (c1 : PySem.W.codeIn K cd1 "_law_amount" = true) (k1 : PySem.W.keepIn K (.ref f1) = true)
    {f2 : Addr} {od2 an2 : Option Addr} {sl2 : Array (Option Value)} {oc2 kV2 dc2 pm2 cd2 ct2 : Value} (a2 : PySem.W.nsIn K mainGlobals "_law_last" = some (some (.ref f2))) (l2 : K.lookup f2 = some ⟨oc2, od2, .func (PySem.W.fnOf "_law_last" "_law_last" (defArgs s_last) (defBody s_last) (defScope s_last) .none kV2 dc2 pm2 an2 cd2 ct2), sl2⟩) (c2 : PySem.W.codeIn K cd2 "_law_last" = true) (k2 : PySem.W.keepIn K (.ref f2) = true)
    {f3 : Addr} {od3 an3 : Option Addr} {sl3 : Array (Option Value)} {oc3 kV3 dc3 pm3 cd3 ct3 : Value} (a3 : PySem.W.nsIn K mainGlobals "_law_mix" = some (some (.ref f3))) (l3 : K.lookup f3 = some ⟨oc3, od3, .func (PySem.W.fnOf "_law_mix" "_law_mix" (defArgs s_mix) (defBody s_mix) (defScope s_mix) .none kV3 dc3 pm3 an3 cd3 ct3), sl3⟩) (c3 : PySem.W.codeIn K cd3 "_law_mix" = true) (k3 : PySem.W.keepIn K (.ref f3) = true)
    {f4 : Addr} {od4 an4 : Option Addr} {sl4 : Array (Option Value)} {oc4 kV4 dc4 pm4 cd4 ct4 : Value} (a4 : PySem.W.nsIn K mainGlobals "_law_name_by" = some (some (.ref f4))) (l4 : K.lookup f4 = some ⟨oc4, od4, .func (PySem.W.fnOf "_law_name_by" "_law_name_by" (defArgs s_name_by) (defBody s_name_by) (defScope s_name_by) .none kV4 dc4 pm4 an4 cd4 ct4), sl4⟩) (c4 : PySem.W.codeIn K cd4 "_law_name_by" = true) (k4 : PySem.W.keepIn K (.ref f4) = true)
    {f5 : Addr} {od5 an5 : Option Addr} {sl5 : Array (Option Value)} {oc5 kV5 dc5 pm5 cd5 ct5 : Value} (a5 : PySem.W.nsIn K mainGlobals "_law_larder" = some (some (.ref f5))) (l5 : K.lookup f5 = some ⟨oc5, od5, .func (PySem.W.fnOf "_law_larder" "_law_larder" (defArgs s_larder) (defBody s_larder) (defScope s_larder) .none kV5 dc5 pm5 an5 cd5 ct5), sl5⟩) (c5 : PySem.W.codeIn K cd5 "_law_larder" = true) (k5 : PySem.W.keepIn K (.ref f5) = true)
    {f6 : Addr} {od6 an6 : Option Addr} {sl6 : Array (Option Value)} {oc6 kV6 dc6 pm6 cd6 ct6 : Value} (a6 : PySem.W.nsIn K mainGlobals "_law_many" = some (some (.ref f6))) (l6 : K.lookup f6 = some ⟨oc6, od6, .func (PySem.W.fnOf "_law_many" "_law_many" (defArgs s_many) (defBody s_many) (defScope s_many) .none kV6 dc6 pm6 an6 cd6 ct6), sl6⟩) (c6 : PySem.W.codeIn K cd6 "_law_many" = true) (k6 : PySem.W.keepIn K (.ref f6) = true)
    {f7 : Addr} {od7 an7 : Option Addr} {sl7 : Array (Option Value)} {oc7 kV7 dc7 pm7 cd7 ct7 : Value} (a7 : PySem.W.nsIn K mainGlobals "_law_mixed" = some (some (.ref f7))) (l7 : K.lookup f7 = some ⟨oc7, od7, .func (PySem.W.fnOf "_law_mixed" "_law_mixed" (defArgs s_mixed) (defBody s_mixed) (defScope s_mixed) .none kV7 dc7 pm7 an7 cd7 ct7), sl7⟩) (c7 : PySem.W.codeIn K cd7 "_law_mixed" = true) (k7 : PySem.W.keepIn K (.ref f7) = true)
    {f8 : Addr} {od8 an8 : Option Addr} {sl8 : Array (Option Value)} {oc8 kV8 dc8 pm8 cd8 ct8 : Value} (a8 : PySem.W.nsIn K mainGlobals "_law_names" = some (some (.ref f8))) (l8 : K.lookup f8 = some ⟨oc8, od8, .func (PySem.W.fnOf "_law_names" "_law_names" (defArgs s_names) (defBody s_names) (defScope s_names) .none kV8 dc8 pm8 an8 cd8 ct8), sl8⟩) (c8 : PySem.W.codeIn K cd8 "_law_names" = true) (k8 : PySem.W.keepIn K (.ref f8) = true)
    {f9 : Addr} {od9 an9 : Option Addr} {sl9 : Array (Option Value)} {oc9 kV9 dc9 pm9 cd9 ct9 : Value} (a9 : PySem.W.nsIn K mainGlobals "_law_whole" = some (some (.ref f9))) (l9 : K.lookup f9 = some ⟨oc9, od9, .func (PySem.W.fnOf "_law_whole" "_law_whole" (defArgs s_whole) (defBody s_whole) (defScope s_whole) .none kV9 dc9 pm9 an9 cd9 ct9), sl9⟩) (c9 : PySem.W.codeIn K cd9 "_law_whole" = true) (k9 : PySem.W.keepIn K (.ref f9) = true)
    {f10 : Addr} {od10 an10 : Option Addr} {sl10 : Array (Option Value)} {oc10 kV10 dc10 pm10 cd10 ct10 : Value} (a10 : PySem.W.nsIn K mainGlobals "_law_numbers" = some (some (.ref f10))) (l10 : K.lookup f10 = some ⟨oc10, od10, .func (PySem.W.fnOf "_law_numbers" "_law_numbers" (defArgs s_numbers) (defBody s_numbers) (defScope s_numbers) .none kV10 dc10 pm10 an10 cd10 ct10), sl10⟩) (c10 : PySem.W.codeIn K cd10 "_law_numbers" = true) (k10 : PySem.W.keepIn K (.ref f10) = true)
    {f11 : Addr} {od11 an11 : Option Addr} {sl11 : Array (Option Value)} {oc11 kV11 dc11 pm11 cd11 ct11 : Value} (a11 : PySem.W.nsIn K mainGlobals "end_of" = some (some (.ref f11))) (l11 : K.lookup f11 = some ⟨oc11, od11, .func (PySem.W.fnOf "end_of" "end_of" (defArgs s_end_of) (defBody s_end_of) (defScope s_end_of) .none kV11 dc11 pm11 an11 cd11 ct11), sl11⟩) (c11 : PySem.W.codeIn K cd11 "end_of" = true) (k11 : PySem.W.keepIn K (.ref f11) = true)
    {f12 : Addr} {od12 an12 : Option Addr} {sl12 : Array (Option Value)} {oc12 kV12 dc12 pm12 cd12 ct12 : Value} (a12 : PySem.W.nsIn K mainGlobals "sums_of" = some (some (.ref f12))) (l12 : K.lookup f12 = some ⟨oc12, od12, .func (PySem.W.fnOf "sums_of" "sums_of" (defArgs s_sums_of) (defBody s_sums_of) (defScope s_sums_of) .none kV12 dc12 pm12 an12 cd12 ct12), sl12⟩) (c12 : PySem.W.codeIn K cd12 "sums_of" = true) (k12 : PySem.W.keepIn K (.ref f12) = true)
    {f13 : Addr} {od13 an13 : Option Addr} {sl13 : Array (Option Value)} {oc13 kV13 dc13 pm13 cd13 ct13 : Value} (a13 : PySem.W.nsIn K mainGlobals "ends" = some (some (.ref f13))) (l13 : K.lookup f13 = some ⟨oc13, od13, .func (PySem.W.fnOf "ends" "ends" (defArgs s_ends) (defBody s_ends) (defScope s_ends) .none kV13 dc13 pm13 an13 cd13 ct13), sl13⟩) (c13 : PySem.W.codeIn K cd13 "ends" = true) (k13 : PySem.W.keepIn K (.ref f13) = true)
    {f14 : Addr} {od14 an14 : Option Addr} {sl14 : Array (Option Value)} {oc14 kV14 dc14 pm14 cd14 ct14 : Value} (a14 : PySem.W.nsIn K mainGlobals "law" = some (some (.ref f14))) (l14 : K.lookup f14 = some ⟨oc14, od14, .func (PySem.W.fnOf "law" "law" (defArgs s_law) (defBody s_law) (defScope s_law) .none kV14 dc14 pm14 an14 cd14 ct14), sl14⟩) (c14 : PySem.W.codeIn K cd14 "law" = true) (k14 : PySem.W.keepIn K (.ref f14) = true)
    {t0 : Tok} (z0 : PySem.W.nsIn K mainGlobals "DAYS" = some (some (.int 7 t0)))
    (z1 : PySem.W.nsIn K mainGlobals "bool" = some none)
    (z2 : PySem.W.nsIn K mainGlobals "enumerate" = some none)
    (z3 : PySem.W.nsIn K mainGlobals "int" = some none)
    (z4 : PySem.W.nsIn K mainGlobals "isinstance" = some none)
    (z5 : PySem.W.nsIn K mainGlobals "len" = some none)
    (z6 : PySem.W.nsIn K mainGlobals "min" = some none)
    (z7 : PySem.W.nsIn K mainGlobals "range" = some none)
    (z8 : PySem.W.nsIn K mainGlobals "tuple" = some none) :
    ∃ fd : FuncData, (∀ (s : Shared) (v : Value), BindsTo s fd ⟨[v], []⟩ [("_law_script", v)]) ∧ ∀ base : Heap, K.In base → base.Ns mainGlobals mg → FnOk l.prog w K mg base CX0 3 fa fd ["_law_script"] (spLaw K) := by
  have e := hfa.symm.trans (PySem.W.mg_of X G a14)
  cases e
  have F_cell_at := fun_mk (st := s_cell_at) l0 c0 k0
  have D_cell_at : DefAt K mg "_law_cell_at" s_cell_at := ⟨f0, _, F_cell_at, PySem.W.mg_of X G a0⟩
  have F_amount := fun_mk (st := s_amount) l1 c1 k1
  have D_amount : DefAt K mg "_law_amount" s_amount := ⟨f1, _, F_amount, PySem.W.mg_of X G a1⟩
  have F_last := fun_mk (st := s_last) l2 c2 k2
  have D_last : DefAt K mg "_law_last" s_last := ⟨f2, _, F_last, PySem.W.mg_of X G a2⟩
  have F_mix := fun_mk (st := s_mix) l3 c3 k3
  have D_mix : DefAt K mg "_law_mix" s_mix := ⟨f3, _, F_mix, PySem.W.mg_of X G a3⟩
  have F_name_by := fun_mk (st := s_name_by) l4 c4 k4
  have D_name_by : DefAt K mg "_law_name_by" s_name_by := ⟨f4, _, F_name_by, PySem.W.mg_of X G a4⟩
  have F_larder := fun_mk (st := s_larder) l5 c5 k5
  have D_larder : DefAt K mg "_law_larder" s_larder := ⟨f5, _, F_larder, PySem.W.mg_of X G a5⟩
  have F_many := fun_mk (st := s_many) l6 c6 k6
  have D_many : DefAt K mg "_law_many" s_many := ⟨f6, _, F_many, PySem.W.mg_of X G a6⟩
  have F_mixed := fun_mk (st := s_mixed) l7 c7 k7
  have D_mixed : DefAt K mg "_law_mixed" s_mixed := ⟨f7, _, F_mixed, PySem.W.mg_of X G a7⟩
  have F_names := fun_mk (st := s_names) l8 c8 k8
  have D_names : DefAt K mg "_law_names" s_names := ⟨f8, _, F_names, PySem.W.mg_of X G a8⟩
  have F_whole := fun_mk (st := s_whole) l9 c9 k9
  have D_whole : DefAt K mg "_law_whole" s_whole := ⟨f9, _, F_whole, PySem.W.mg_of X G a9⟩
  have F_numbers := fun_mk (st := s_numbers) l10 c10 k10
  have D_numbers : DefAt K mg "_law_numbers" s_numbers := ⟨f10, _, F_numbers, PySem.W.mg_of X G a10⟩
  have F_end_of := fun_mk (st := s_end_of) l11 c11 k11
  have D_end_of : DefAt K mg "end_of" s_end_of := ⟨f11, _, F_end_of, PySem.W.mg_of X G a11⟩
  have F_sums_of := fun_mk (st := s_sums_of) l12 c12 k12
  have D_sums_of : DefAt K mg "sums_of" s_sums_of := ⟨f12, _, F_sums_of, PySem.W.mg_of X G a12⟩
  have F_ends := fun_mk (st := s_ends) l13 c13 k13
  have D_ends : DefAt K mg "ends" s_ends := ⟨f13, _, F_ends, PySem.W.mg_of X G a13⟩
  have F_law := fun_mk (st := s_law) l14 c14 k14
  have m_DAYS := PySem.W.mg_of X G z0
  have m_bool := PySem.W.mg_none_of X G z1
  have m_enumerate := PySem.W.mg_none_of X G z2
  have m_int := PySem.W.mg_none_of X G z3
  have m_isinstance := PySem.W.mg_none_of X G z4
  have m_len := PySem.W.mg_none_of X G z5
  have m_min := PySem.W.mg_none_of X G z6
  have m_range := PySem.W.mg_none_of X G z7
  have m_tuple := PySem.W.mg_none_of X G z8
  refine ⟨PySem.W.fnOf "law" "law" (defArgs s_law) (defBody s_law) (defScope s_law) .none kV14 dc14 pm14 an14 cd14 ct14, fun s v => .of_eq rfl, fun base _ _ => ?_⟩
  have C_cell_at := ok_cell_at (P := l.prog) (w := w) (base := base) D_cell_at m_len
  have C_amount := ok_amount (P := l.prog) (w := w) (base := base) D_amount
  have C_last := ok_last (P := l.prog) (w := w) (base := base) D_last
  have C_mix := ok_mix (P := l.prog) (w := w) (base := base) D_mix
  have C_name_by := ok_name_by (P := l.prog) (w := w) (base := base) D_name_by m_len m_min m_range
  have C_larder := ok_larder (P := l.prog) (w := w) (base := base) D_larder m_range m_tuple C_mix C_cell_at C_amount C_last C_name_by
  have C_many := ok_many (P := l.prog) (w := w) (base := base) D_many
  have C_mixed := ok_mixed (P := l.prog) (w := w) (base := base) D_mixed
  have C_names := ok_names (P := l.prog) (w := w) (base := base) D_names C_cell_at
  have C_whole := ok_whole (P := l.prog) (w := w) (base := base) D_whole m_isinstance m_int m_bool
  have C_numbers := ok_numbers (P := l.prog) (w := w) (base := base) D_numbers m_isinstance m_tuple m_len m_range C_whole
  have C_end_of := ok_end_of (P := l.prog) (w := w) (base := base) D_end_of m_DAYS
  have C_sums_of := ok_sums_of (P := l.prog) (w := w) (base := base) D_sums_of
  have C_ends := ok_ends (P := l.prog) (w := w) (base := base) D_ends m_enumerate m_tuple C_sums_of C_end_of
  exact ok_law F_law m_range m_len m_tuple m_min m_isinstance C_mixed C_cell_at C_larder C_names C_many C_mix C_ends C_numbers
end Lar
open PySem PySem.W PyProof.Rows
set_option maxHeartbeats 0 in
theorem PySem.Challenge.cw_larderlist_k09_ends_holds : PySem.Challenge.rw_larderlist_k09_ends.Holds := by
  w_on; o_law; k_head; (case hw => w_witness2)
  k_fill
  refine L2.walk_of (l := PySem.Challenge.rw_larderlist_k09_ends) (n := 63) (k := 3) (x := "_law_script") (CX := fun _ => L2.CX0) (sp := fun w => Lar.spLaw _) rfl (by decide) rfl ⟨rfl, by decide, by decide⟩ (fun w h Y => PySem.W.kIn_of Y) ?F (fun _ _ a ns hl _ hS => ⟨a, ns, rfl, hS, hl, fun _ => rfl⟩) (fun _ _ _ _ _ h => h)
  case F =>
    intro w mg fa h KX G hmg
    refine' Lar.all_mk KX G hmg ?a0 ?l0 ?c0 ?k0 ?a1 ?l1 ?c1 ?k1 ?a2 ?l2 ?c2 ?k2 ?a3 ?l3 ?c3 ?k3 ?a4 ?l4 ?c4 ?k4 ?a5 ?l5 ?c5 ?k5 ?a6 ?l6 ?c6 ?k6 ?a7 ?l7 ?c7 ?k7 ?a8 ?l8 ?c8 ?k8 ?a9 ?l9 ?c9 ?k9 ?a10 ?l10 ?c10 ?k10 ?a11 ?l11 ?c11 ?k11 ?a12 ?l12 ?c12 ?k12 ?a13 ?l13 ?c13 ?k13 ?a14 ?l14 ?c14 ?k14 ?z0 ?z1 ?z2 ?z3 ?z4 ?z5 ?z6 ?z7 ?z8
    (case a0 => k_is); (case l0 => k_is); (case c0 => k_is); (case k0 => k_is); (case a1 => k_is); (case l1 => k_is); (case c1 => k_is); (case k1 => k_is); (case a2 => k_is); (case l2 => k_is); (case c2 => k_is); (case k2 => k_is); (case a3 => k_is); (case l3 => k_is); (case c3 => k_is); (case k3 => k_is); (case a4 => k_is); (case l4 => k_is); (case c4 => k_is); (case k4 => k_is); (case a5 => k_is); (case l5 => k_is); (case c5 => k_is); (case k5 => k_is); (case a6 => k_is); (case l6 => k_is); (case c6 => k_is); (case k6 => k_is); (case a7 => k_is); (case l7 => k_is); (case c7 => k_is); (case k7 => k_is); (case a8 => k_is); (case l8 => k_is); (case c8 => k_is); (case k8 => k_is); (case a9 => k_is); (case l9 => k_is); (case c9 => k_is); (case k9 => k_is); (case a10 => k_is); (case l10 => k_is); (case c10 => k_is); (case k10 => k_is); (case a11 => k_is); (case l11 => k_is); (case c11 => k_is); (case k11 => k_is); (case a12 => k_is); (case l12 => k_is); (case c12 => k_is); (case k12 => k_is); (case a13 => k_is); (case l13 => k_is); (case c13 => k_is); (case k13 => k_is); (case a14 => k_is); (case l14 => k_is); (case c14 => k_is); (case k14 => k_is); (case z0 => k_is); (case z1 => k_is); (case z2 => k_is); (case z3 => k_is); (case z4 => k_is); (case z5 => k_is); (case z6 => k_is); (case z7 => k_is); (case z8 => k_is)
