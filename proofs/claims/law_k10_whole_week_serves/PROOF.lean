import PyProof.Rows.All
import Wide.All
import OpenK.AllK
import Wide.FinOn
import HandS.ForMost
import HandS.IsInst
import HandS.Zip
import HandS.TupAny
import HandS.Walk
import HandS.More
import HandS.Codes
import KE.KTupSum
import HandS.TupMul
import HandS.Style
import KE.GoesEnumKw
import HandS.Set
import HandS.SetBool
import KE.DataMinMax
import PyProof.Rows.CallKwBuiltin
import HandS.TupSets
import HandS.WordsDict
import HandS.Text
import KE.KxText
import PyProof.FitsReplace
import KE.KExcIs
import HandS.ExcInit
import HandS.ExcField
import HandS.ExcIs
import HandS.TryOnly
import HandS.WordsExc
import KE.SortData
import HandS.SortKw
import HandS.FStr
import HandS.DictSub
import HandS.SetKeys
import HandS.HotCalls
import HandS.DictComp
import PySem.Challenge.RW_larderlist_k10_whole_week_serves
set_option Elab.async false
set_option linter.all false
set_option maxRecDepth 100000
set_option maxHeartbeats 4000000
namespace Lar
open PySem PySem.Spec PyProof.Rows L2

/-! ### defs of the text, as they are called -/
structure DefAt (K : PySem.W.Frag) (mg : Str → Option Value) (x : Str) (st : Stmt) : Prop where
  ex : ∃ f fd, Fun K x x st f fd ∧ mg x = some (.ref f)
structure Clb (P : Program) (w : World) (K : PySem.W.Frag) (mg : Str → Option Value) (base : Heap) (k : Nat) (x : Str) (ps : List Str) (sp : Sp) : Prop where
  ex : ∃ f fd, FnOk P w K mg base CX0 k f fd ps sp ∧ mg x = some (.ref f) ∧ PySem.W.keepIn K (.ref f) = true ∧ Binds K fd ps []
theorem DefAt.clb {P : Program} {w : World} {K : PySem.W.Frag} {mg : Str → Option Value} {base : Heap} {x : Str} {st : Stmt} {N ps : List Str} {k : Nat} {sp : Sp} (D : DefAt K mg x st)
    (S : FnScope N ps (defScope st)) (len : ∀ vs H Q E, sp vs H Q E → vs.length = ps.length)
    (hb : ∀ (kV doc pm : Value) (an : Option Addr) (cdv ct : Value) (us : List Value), us.length = ps.length → bindArgs (PySem.W.fnOf x x (defArgs st) (defBody st) (defScope st) .none kV doc pm an cdv ct) ⟨us, []⟩ = pure (ps.zip us))
    (hbody : ∀ (f : Addr) (cdv : Value) (A : Around) (outer : List Env) (s : Shared) (H : Hp) (vs : List V) (Q : VK) (E : XK), Room k (A.deeper (envOfC x (defScope st) s.heap.objs.size f cdv)) → sp vs H Q E →
      ∃ t, PSs (cxOf CX0 P w K mg base N x (defScope st) f cdv A outer s H E).nox (defBody st) t ∧ t { nx := fun _ H' => Q .non H', rt := Q } (start N vs) H) : Clb P w K mg base (k + 1) x ps sp := by
  obtain ⟨f, fd, F, hm⟩ := D.ex
  exact ⟨f, fd, F.ok S len (fun cdv A outer s H vs Q E hr h => hbody f cdv A outer s H vs Q E hr h), hm, F.kp, F.binds hb⟩
theorem pe_cal {X : Cx} {k : Nat} {x : Str} {ps : List Str} {sp : Sp} {e : Expr} {es : List Expr} {t : TA} {p pos : Pos} (C : Clb X.prog X.w X.K X.mg X.base k x ps sp) (hr : Room k X.A) (ha : PA X (e :: es) t) (hg : Gl X x := by rfl)
    (hdb : (x == ("__debug__" : Str)) = false := by decide) (he : starEach (e :: es) X.env = (false, eval e X.env) :: starEach es X.env := by rfl) (hpl : (backTo pos (starEach es X.env)).any (·.1) = false := by rfl) :
    PE X (.Call (.Name x p) (e :: es) [] pos) (tCall sp [] E0 t) := by
  obtain ⟨f, fd, F, hm, hk, hb⟩ := C.ex
  exact pe_call F hr hg hm hk hb .nil pass0 ha hdb he hpl

/-! ### heaps -/
theorem same_upd {H : Hp} {p : Addr} {o : HO} (h : H p = none) : Same H (upd H p o) := fun b x e => by
  rw [upd_ne (ne_of_none e h)]
  exact e
theorem _root_.L2.Same.new {H H' : Hp} {p : Addr} {o : HO} (e : Same H H') (h : H' p = none) : Same H (upd H' p o) := e.trans (same_upd h)
/-- what H did not know may change -/
theorem _root_.L2.Same.mut {H H' : Hp} {p : Addr} {o : HO} (e : Same H H') (h : H p = none) : Same H (upd H' p o) := fun a u ha => by
  rw [upd_ne (ne_of_none ha h)]
  exact e a u ha
theorem _root_.L2.Same.seqT {K : PySem.W.Frag} {H H' : Hp} {a : Addr} {xs : List V} (e : Same H H') (h : SqT K H a xs) : SqT K H' a xs := by
  rcases h with (h | ⟨o, h⟩) | h
  · exact .inl (.inl (e _ _ h))
  · exact .inl (.inr ⟨o, e _ _ h⟩)
  · exact .inr h
theorem sqL {K : PySem.W.Frag} {H : Hp} {a : Addr} {xs : List V} (h : H a = some (.lst xs)) : SqL K H a xs := .inl (.inl h)
theorem sqT {K : PySem.W.Frag} {H : Hp} {a : Addr} {xs : List V} (h : H a = some (.tup xs)) : SqT K H a xs := .inl (.inl h)
theorem small {n : Nat} (h : n ≤ 100000) : n ≤ sizeLine := Nat.le_trans h (by decide)
theorem small' {n : Nat} (h : n < 100000) : n < sizeLine := Nat.lt_of_lt_of_le h (by decide)
theorem map_ix {α : Type} {f : α → V} {xs : List α} {i : Nat} {v : V} (h : (xs.map f)[i]? = some v) : ∃ x, xs[i]? = some x ∧ v = f x := by
  rw [List.getElem?_map] at h
  cases e : xs[i]? with
  | none => rw [e] at h; cases h
  | some x => rw [e] at h; exact ⟨x, rfl, (Option.some.inj h).symm⟩
theorem ix_map {α : Type} {f : α → V} {xs : List α} {i : Nat} {x : α} (h : xs[i]? = some x) : (xs.map f)[i]? = some (f x) := by
  rw [List.getElem?_map, h]; rfl
theorem take_succ' {α : Type} {xs : List α} {i : Nat} {x : α} (h : xs[i]? = some x) : xs.take (i + 1) = xs.take i ++ [x] := by
  rw [List.take_add_one, h]; rfl

/-! ### tests -/
section
variable {A B : Prop} {i j : Int} {x y : Str}
theorem it_lt (h1 : i < j → A) (h2 : ¬ i < j → B) : if decide (i < j) = true then A else B := ite2 (fun h => h1 (of_decide_eq_true h)) (fun h => h2 fun z => h (decide_eq_true z))
theorem it_le (h1 : i ≤ j → A) (h2 : ¬ i ≤ j → B) : if decide (i ≤ j) = true then A else B := ite2 (fun h => h1 (of_decide_eq_true h)) (fun h => h2 fun z => h (decide_eq_true z))
theorem it_eqI (h1 : i = j → A) (h2 : ¬ i = j → B) : if decide (V.int i = V.int j) = true then A else B := ite2 (fun h => h1 (V.int.inj (of_decide_eq_true h))) (fun h => h2 fun z => h (decide_eq_true (congrArg V.int z)))
theorem it_eqS (h1 : x = y → A) (h2 : ¬ x = y → B) : if decide (V.str x = V.str y) = true then A else B := ite2 (fun h => h1 (V.str.inj (of_decide_eq_true h))) (fun h => h2 fun z => h (decide_eq_true (congrArg V.str z)))
theorem it_neI (h1 : ¬ i = j → A) (h2 : i = j → B) : if (!decide (V.int i = V.int j)) = true then A else B := by
  by_cases e : i = j
  · subst e
    rw [decide_eq_true rfl]
    exact iteF (h2 rfl)
  · rw [decide_eq_false (fun z => e (V.int.inj z))]
    exact iteT (h1 e)
end
/-! ### the rules that speak of the written part, with it said -/
section
variable {X : Cx} {K : PySem.W.Frag}
theorem kpg_tup (K : PySem.W.Frag) {es : List Expr} {k : Nat} {t : TGs} {n : Nat} {pos : Pos} (hc : X.calm = true) (h : PGs X es t) (hK : X.K = K := by rfl) (hn : (assignEach es X.env).length = n := by rfl) (hst : (assignEach es X.env).findIdx? (·.1) = none := by rfl) :
    PG X (.Tuple es k pos) (gTup K n t) := by subst hK; exact pg_tup hc h hn hst
theorem kpi_list (K : PySem.W.Frag) {tg l : Expr} {tl : TE} (h : PE X l tl) (hK : X.K = K := by rfl) : PI X tg l (iList K tl) := by subst hK; exact pi_list h
theorem kpi_tup (K : PySem.W.Frag) {tg l : Expr} {tl : TE} (h : PE X l tl) (hK : X.K = K := by rfl) : PI X tg l (iTup K tl) := by subst hK; exact pi_tup h
theorem kix_list (K : PySem.W.Frag) (hK : X.K = K := by rfl) : IxR X (rIxL K) := by subst hK; exact ix_list
theorem kix_tup (K : PySem.W.Frag) (hK : X.K = K := by rfl) : IxR X (rIxT K) := by subst hK; exact ix_tup
theorem ksl_list (K : PySem.W.Frag) (hK : X.K = K := by rfl) : SlR X (rSlL K) := by subst hK; exact sl_list
theorem ksl_tupA (K : PySem.W.Frag) (hK : X.K = K := by rfl) : SlR X (rSlA K) := by subst hK; exact sl_tupA
theorem kcall_len_seq (K : PySem.W.Frag) (hK : X.K = K := by rfl) : CallR X (.builtin "len") (fun xs H Q => ∃ p ys, xs = [.ref p] ∧ (SqL K H p ys ∨ SqT K H p ys) ∧ Q (.int ys.length) H) := by subst hK; exact call_len_seq
theorem kcr_sum (K : PySem.W.Frag) (hc : X.calm = true) (hK : X.K = K := by rfl) : CallR X (.builtin "sum") (rSum K) := by subst hK; exact cr_sum hc
theorem kcr_max (K : PySem.W.Frag) (hc : X.calm = true) (hK : X.K = K := by rfl) : CallR X (.builtin "max") (rMax K) := by subst hK; exact cr_max hc
theorem kcr_min (K : PySem.W.Frag) (hc : X.calm = true) (hK : X.K = K := by rfl) : CallR X (.builtin "min") (rMin K) := by subst hK; exact cr_min hc
theorem kcall_tuple_of (K : PySem.W.Frag) (hK : X.K = K := by rfl) : CallR X (.type "tuple") (fun xs H Q => ∃ p ys, xs = [.ref p] ∧ ((SqL K H p ys ∧ ∀ l, H l = none → Q (.ref l) (upd H l (.tup ys))) ∨ (SqT K H p ys ∧ Q (.ref p) H))) := by subst hK; exact call_tuple_of
theorem kcall_list_of (K : PySem.W.Frag) (hK : X.K = K := by rfl) : CallR X (.type "list") (fun xs H Q => ∃ p ys, xs = [.ref p] ∧ (SqL K H p ys ∨ SqT K H p ys) ∧ ∀ l, H l = none → Q (.ref l) (upd H l (.lst ys))) := by subst hK; exact call_list_of
theorem kcall_isi (K : PySem.W.Frag) (hK : X.K = K := by rfl) : CallR X (.builtin "isinstance") (rIsi K) := by subst hK; exact call_isi
theorem kop_eqD (K : PySem.W.Frag) (hu : X.A.units + 64 < cLine) (hK : X.K = K := by rfl) : OpR X (compareOp .Eq) (rEqD K) := by subst hK; exact op_eqD hu
theorem kop_neD (K : PySem.W.Frag) (hu : X.A.units + 64 < cLine) (hK : X.K = K := by rfl) : OpR X (compareOp .NotEq) (rNeD K) := by subst hK; exact op_neD hu
theorem kop_catA (K : PySem.W.Frag) (hK : X.K = K := by rfl) : OpR X (binaryOp .Add) (rCatA K) := by subst hK; exact op_catA
theorem kpi_zipA (K : PySem.W.Frag) {e e2 : Expr} {ta : TA} {p pos tpos : Pos} {elts : List Expr} {kk : Nat} (hg : Gl X "zip") (hm : X.mg "zip" = none) (ha : PA X [e, e2] ta) (hK : X.K = K := by rfl)
    (hs : starEach [e, e2] X.env = (false, eval e X.env) :: starEach [e2] X.env := by rfl) (hpl : (backTo pos (starEach [e2] X.env)).any (·.1) = false := by rfl) :
    PI X (.Tuple elts kk tpos) (.Call (.Name "zip" p) [e, e2] [] pos) (RZ.iZipA K ta) := by subst hK; exact RZ.pi_zipA hg hm ha hs hpl
theorem kpi_enum (K : PySem.W.Frag) {e : Expr} {ta : TA} {p pos tpos : Pos} {elts : List Expr} {kk : Nat} (hg : Gl X "enumerate") (hm : X.mg "enumerate" = none) (ha : PA X [e] ta) (hK : X.K = K := by rfl)
    (hs : starEach [e] X.env = [(false, eval e X.env)] := by rfl) :
    PI X (.Tuple elts kk tpos) (.Call (.Name "enumerate" p) [e] [] pos) (iEnum K ta) := by subst hK; exact pi_enum hg hm ha hs
theorem kpe_bm (K : PySem.W.Frag) {T name id : String} {r : V → List V → Hp → VK → Prop} {o e : Expr} {es : List Expr} {to : TE} {t : TA} {apos cpos : Pos} (pa : PlainAttrs T) (slot : Slot T name id) (hty : typeOf (.builtin id) = pure (.type "method_descriptor")) (hm : MtR X id r) (ho : PE X o to) (ha : PA X (e :: es) t) (hK : X.K = K := by rfl)
    (hbase : attributeBase o name X.env (eval o X.env) = eval o X.env := by rfl)
    (hfew : ((backTo cpos (starEach (e :: es) X.env)).all (fun x => !x.1) && (backToKw cpos (keywordEach [] X.env)).all (fun x => x.1.isSome)
      && decide ((e :: es).length + ([] : List Keyword).length + (if ([] : List Keyword).isEmpty then 0 else 1) < 30)) = true := by rfl)
    (hline : (apos.endLine == cpos.line) = true := by rfl) (hs : starEach (e :: es) X.env = (false, eval e X.env) :: starEach es X.env := by rfl) (hplain : (backTo cpos (starEach es X.env)).any (·.1) = false := by rfl) :
    PE X (.Call (.Attribute o name apos) (e :: es) [] cpos) (tBM K T r to t) := by subst hK; exact pe_bm pa slot hty hm ho ha hbase hfew hline hs hplain
end
/-! ### sum of a tuple of ints -/
section
variable {X : Cx} {K : PySem.W.Frag}
def rSumT (K : PySem.W.Frag) : List V → Hp → VK → Prop := fun vs H Q => ∃ (a : Addr) (ns : List Int), vs = [V.ref a] ∧ SqT K H a (ns.map V.int) ∧ Q (.int ns.sum) H
theorem kcr_sumT (K : PySem.W.Frag) (hc : X.calm = true) (hK : X.K = K := by rfl) : CallR X (.builtin "sum") (rSumT K) := by
  subst hK
  intro pins s σ H vs us Q I r h
  obtain ⟨a, ns, rfl, hs, q⟩ := h
  obtain ⟨its, rv, hl, _⟩ := I.tuple hs
  rw [Vals.ref1 r]
  have hi : IntsAre its ns := rv.ints
  obtain ⟨xs, e⟩ := hi.allInts.items
  have hn : numsOf (intItems xs).toList = ns := by rw [← e]; exact hi.numsOf
  rw [nums_intItems] at hn
  rw [e] at hl
  refine PySem.W.ktm_sumG (I.ok.hd hc) hl fun h' tk t' hk => ?_
  rw [preSum_eq, List.take_of_length_le (by simp), hn]
  exact ⟨.int _, H, I.kept hk, ⟨_, rfl⟩, q⟩
end
end Lar
namespace Lar
open PySem PySem.Spec PyProof.Rows L2
/-! ### the names -/
abbrev sgn : Str := "abcdefghijklmnopqrstuvwxyz"
def sg (i : Int) : Str := ⟨#[sgn.cps.toList.getD (i % 26).toNat 0]⟩
theorem sgn_len : sgn.cps.toList.length = 26 := by decide +kernel
theorem sgn_len' : sgn.length = 26 := by decide +kernel
theorem sg_at (i : Int) : atI sgn.cps.toList (i % 26) = some (sgn.cps.toList.getD (i % 26).toNat 0) := by
  have h1 := Int.emod_nonneg i (show (26 : Int) ≠ 0 by decide)
  have h2 := Int.emod_lt_of_pos i (show (0 : Int) < 26 by decide)
  have hl : (i % 26).toNat < sgn.cps.toList.length := by rw [sgn_len]; omega
  have e : sgn.cps.toList[(i % 26).toNat]? = some (sgn.cps.toList.getD (i % 26).toNat 0) := by
    rw [List.getD_eq_getElem?_getD, List.getElem?_eq_getElem hl]; rfl
  have q := atI_nat e
  rw [Int.toNat_of_nonneg h1] at q
  exact q
theorem sg_len (i : Int) : (sg i).length = 1 := rfl
def nmAt (more : Int) : Nat → Int
  | 0 => more / 7
  | t + 1 => nmAt more t + 1 + more / 182 % 25
def nmNm (more : Int) : Nat → Str
  | 0 => ""
  | t + 1 => nmNm more t ++ sg (nmAt more (t + 1))
theorem app_len (x y : Str) : (x ++ y).length = x.length + y.length := by
  show (x.cps ++ y.cps).size = x.cps.size + y.cps.size
  exact Array.size_append
theorem nmNm_len (more : Int) : ∀ t, (nmNm more t).length = t
  | 0 => rfl
  | t + 1 => by
    show (nmNm more t ++ sg _).length = t + 1
    rw [app_len, nmNm_len more t]; rfl
def words : List Str := ["total", "day", "flour", "salt", "left", "used", "short", "salts", "a", "z", "oil"]
def min6 (i : Int) : Int := if 6 < i then 6 else i
def nameBy (seed k : Int) : Str :=
  if seed % 6 = 0 ∧ k < 4 then words.getD ((seed / 6 + k) % 11).toNat ""
  else
    let more := seed / 6
    let n := (1 + more % 7).toNat
    let nm := nmNm more n
    let at' := nmAt more n
    let spot := more / 4550 % (n : Int)
    if 3 < k then cutS nm none (some (min6 spot)) ++ (sg (at' + k / 26) ++ sg k) ++ cutS nm (some (min6 spot)) (some 6)
    else if 3 < seed % 6 then sg (more / 7 + k) ++ nm
    else if k = 1 then cutS nm none (some spot) ++ sg (Txt.find sgn ⟨#[nm.cps.toList.getD spot.toNat 0]⟩ + 1) ++ cutS nm (some (spot + 1)) none
    else nm ++ [("" : Str), "", sg at', sg (at' + 1)].getD k.toNat ""
/-! ### data of tuples in the heap -/
/-- the tuples stand as they stood -/
def SameT (H H' : Hp) : Prop := ∀ b xs, H b = some (.tup xs) → H' b = some (.tup xs)
theorem SameT.refl (H : Hp) : SameT H H := fun _ _ h => h
theorem SameT.trans {H H1 H2 : Hp} (a : SameT H H1) (b : SameT H1 H2) : SameT H H2 := fun c o h => b c o (a c o h)
theorem SameT.of {H H' : Hp} (e : Same H H') : SameT H H' := fun b xs h => e b _ h
theorem SameT.lst {H : Hp} {p : Addr} {xs : List V} {o : HO} (h : H p = some (.lst xs)) : SameT H (upd H p o) := fun b ys hb => by
  rw [upd_ne (fun z => by subst z; rw [h] at hb; cases hb)]
  exact hb
theorem SameT.dict {H : Hp} {p : Addr} {kvs : List (Key × V)} {o : HO} (h : H p = some (.dK kvs)) : SameT H (upd H p o) := fun b ys hb => by
  rw [upd_ne (fun z => by subst z; rw [h] at hb; cases hb)]
  exact hb
theorem SameT.new {H : Hp} {p : Addr} {o : HO} (h : H p = none) : SameT H (upd H p o) := SameT.of (same_upd h)
section
variable {α : Type}
/-- vs tell xs, one by one -/
structure Held (R : Hp → V → α → Prop) (H : Hp) (vs : List V) (xs : List α) : Prop where
  len : vs.length = xs.length
  all : ∀ (i : Nat) (v : V) (x : α), vs[i]? = some v → xs[i]? = some x → R H v x
def MonoT (R : Hp → V → α → Prop) : Prop := ∀ H H' v x, SameT H H' → R H v x → R H' v x
theorem Held.nil {R : Hp → V → α → Prop} {H : Hp} : Held R H [] [] := ⟨rfl, fun i v x h => by simp at h⟩
theorem Held.mono {R : Hp → V → α → Prop} (m : MonoT R) {H H' : Hp} {vs : List V} {xs : List α} (e : SameT H H') (h : Held R H vs xs) : Held R H' vs xs := ⟨h.len, fun i v x a b => m _ _ _ _ e (h.all i v x a b)⟩
theorem Held.snoc {R : Hp → V → α → Prop} {H : Hp} {vs : List V} {xs : List α} {v : V} {x : α} (h : Held R H vs xs) (r : R H v x) : Held R H (vs ++ [v]) (xs ++ [x]) := by
  refine ⟨by rw [List.length_append, List.length_append, h.len]; rfl, fun i v' x' hv hx => ?_⟩
  by_cases hi : i < vs.length
  · rw [List.getElem?_append_left hi] at hv
    rw [List.getElem?_append_left (by rw [← h.len]; exact hi)] at hx
    exact h.all i _ _ hv hx
  · rw [List.getElem?_append_right (by omega)] at hv
    rw [List.getElem?_append_right (by have := h.len; omega)] at hx
    have e : i - vs.length = 0 := by
      have := (List.getElem?_eq_some_iff.mp hv).1
      simp at this
      omega
    rw [e] at hv
    rw [← h.len, e] at hx
    have e1 : v = v' := Option.some.inj hv
    have e2 : x = x' := Option.some.inj hx
    rw [← e1, ← e2]
    exact r
theorem Held.get {R : Hp → V → α → Prop} {H : Hp} {vs : List V} {xs : List α} {i : Nat} {v : V} (h : Held R H vs xs) (hv : vs[i]? = some v) : ∃ x, xs[i]? = some x ∧ R H v x := by
  have hi : i < xs.length := by rw [← h.len]; exact (List.getElem?_eq_some_iff.mp hv).1
  exact ⟨xs[i], List.getElem?_eq_getElem hi, h.all i v _ hv (List.getElem?_eq_getElem hi)⟩
/-- a tuple of things -/
def TupAll (R : Hp → V → α → Prop) (H : Hp) (v : V) (xs : List α) : Prop := ∃ t vs, v = .ref t ∧ H t = some (.tup vs) ∧ Held R H vs xs
theorem TupAll.mono {R : Hp → V → α → Prop} (m : MonoT R) : MonoT (TupAll R) := fun H H' v xs e ⟨t, vs, h1, h2, h3⟩ => ⟨t, vs, h1, e _ _ h2, h3.mono m e⟩
end
abbrev Need := Str × Int
abbrev Dish := Int × List Need
structure Batch where
  name : Str
  amount : Int
  last : Int
def NeedAt (H : Hp) (v : V) (x : Need) : Prop := ∃ t, v = .ref t ∧ H t = some (.tup [.str x.1, .int x.2])
theorem NeedAt.mono : MonoT NeedAt := fun _ _ _ _ e ⟨t, h1, h2⟩ => ⟨t, h1, e _ _ h2⟩
def DishAt (H : Hp) (v : V) (d : Dish) : Prop := ∃ t u, v = .ref t ∧ H t = some (.tup [.int d.1, u]) ∧ TupAll NeedAt H u d.2
theorem DishAt.mono : MonoT DishAt := fun _ _ _ _ e ⟨t, u, h1, h2, h3⟩ => ⟨t, u, h1, e _ _ h2, TupAll.mono NeedAt.mono _ _ _ _ e h3⟩
abbrev DishesAt : Hp → V → List Dish → Prop := TupAll DishAt
theorem DishesAt.mono : MonoT DishesAt := TupAll.mono DishAt.mono
def BatchAt (H : Hp) (v : V) (b : Batch) : Prop := ∃ t, v = .ref t ∧ H t = some (.tup [.str b.name, .int b.amount, .int b.last])
theorem BatchAt.mono : MonoT BatchAt := fun _ _ _ _ e ⟨t, h1, h2⟩ => ⟨t, h1, e _ _ h2⟩
abbrev LarderAt : Hp → V → List Batch → Prop := TupAll BatchAt
theorem LarderAt.mono : MonoT LarderAt := TupAll.mono BatchAt.mono
def NameOf (seed : Int) (x : Str) : Prop := ∃ k : Nat, k < 12 ∧ x = nameBy seed k
structure GoodDish (seed : Int) (d : Dish) : Prop where
  day1 : 1 ≤ d.1
  day7 : d.1 ≤ 7
  many : d.2.length ≤ 20
  need : ∀ x ∈ d.2, (1 ≤ x.2 ∧ x.2 ≤ 200) ∧ NameOf seed x.1
structure GoodBatch (seed : Int) (b : Batch) : Prop where
  am1 : 1 ≤ b.amount
  am2 : b.amount ≤ 200
  la1 : 1 ≤ b.last
  la2 : b.last ≤ 99
  name : NameOf seed b.name
/-! ### comprehensions, by filterMap -/
section
variable {α β γ : Type} {J : It} {n : Nat} {G : Hp → Prop} {Y : Nat → Hp → V → Hp → Prop}
theorem held_eq {f : α → V} {H : Hp} {vs : List V} {xs : List α} (h : Held (fun _ v x => v = f x) H vs xs) : vs = xs.map f := by
  apply List.ext_getElem?
  intro i
  rw [List.getElem?_map]
  cases e : vs[i]? with
  | none =>
    have : xs[i]? = none := by
      rw [List.getElem?_eq_none_iff, ← h.len]
      exact List.getElem?_eq_none_iff.mp e
    rw [this]; rfl
  | some v =>
    obtain ⟨x, hx, rx⟩ := h.get e
    rw [hx, rx]; rfl
theorem mono_eq {f : α → V} : MonoT (fun (_ : Hp) (v : V) (x : α) => v = f x) := fun _ _ _ _ _ h => h
/-- a comprehension over what walks: the new list tells (xs.filterMap f) -/
theorem lc_rel (w : Walk J n G Y) {xs : List α} (hn : xs.length = n) {f : α → Option β} {R : Hp → V → β → Prop} (mR : MonoT R) {g : TG} {tt : TT} {te : TE} {ws : List Nat} {σ : L2.St} {H1 : Hp} {D : Addr} {Qd : Hp → Prop}
    (hD : H1 D = none) (hG : ∀ H, Same H1 H → G H) (hz : n ≤ 100000)
    (hs : ∀ (i : Nat) (v : V) (x : α) (H H' : Hp) (Ky : V → Hp → Prop) (Kn : Hp → Prop), xs[i]? = some x → Same H1 H → Y i H v H' → (∀ y b H4, f x = some b → Same H H4 → R H4 y b → Ky y H4) → (∀ H3, f x = none → Same H H3 → Kn H3) →
      g v (wipe σ ws) H' fun σ2 H2 => wipe σ2 ws = wipe σ ws ∧ tt σ2 H2 fun b H3 => if b = true then te σ2 H3 Ky else Kn H3)
    (hd : ∀ H' ys, Same H1 H' → H' D = some (.lst ys) → Held R H' ys (xs.filterMap f) → Qd H') :
    ∃ W : Nat → Nat → Hp → Prop, (∃ m, W 0 m (upd H1 D (.lst []))) ∧ ∀ i m H, W i m H →
      (J.stop i H ∧ Qd H) ∨ (J.go i H ∧ ∃ Nx : Hp → Prop, (∀ H', Nx H' → ∃ m', m' < m ∧ W (i + 1) m' H') ∧ ∀ x H', J.yld i H x H' → g x (wipe σ ws) H' fun σ2 H2 => wipe σ2 ws = wipe σ ws ∧ tt σ2 H2 fun b H3 =>
        if b = true then te σ2 H3 fun y H4 => ∃ acc, H4 D = some (.lst acc) ∧ acc.length < sizeLine ∧ Nx (upd H4 D (.lst (acc ++ [y]))) else Nx H3) := by
  refine lc_it w (fun i H => Same H1 H ∧ ∃ ys, H D = some (.lst ys) ∧ Held R H ys ((xs.take i).filterMap f)) ⟨same_upd hD, [], upd_same, Held.nil⟩ (fun i H _ p => hG H p.1) (fun i v H H' hi p y => ?_) (fun H p => ?_)
  · obtain ⟨sm, ys, hDl, hh⟩ := p
    have hx : xs[i]? = some (xs[i]'(by omega)) := List.getElem?_eq_getElem (by omega)
    refine hs i v _ H H' _ _ hx sm y (fun y b H4 e s4 r => ?_) (fun H3 e s3 => ?_)
    · refine ⟨_, s4 _ _ hDl, ?_, (sm.trans s4).mut hD, ys ++ [y], upd_same, ?_⟩
      · have h1 := List.length_filterMap_le f (xs.take i)
        rw [List.length_take] at h1
        exact small' (by rw [hh.len]; omega)
      · have st := SameT.lst (o := .lst (ys ++ [y])) (s4 _ _ hDl)
        rw [take_succ' hx, List.filterMap_append]
        have e2 : List.filterMap f [xs[i]'(by omega)] = [b] := by rw [List.filterMap_cons_some e]; rfl
        rw [e2]
        exact (hh.mono mR ((SameT.of s4).trans st)).snoc (mR _ _ _ _ st r)
    · refine ⟨sm.trans s3, ys, s3 _ _ hDl, ?_⟩
      rw [take_succ' hx, List.filterMap_append]
      have e2 : List.filterMap f [xs[i]'(by omega)] = [] := by rw [List.filterMap_cons_none e]; rfl
      rw [e2, List.append_nil]
      exact hh.mono mR (SameT.of s3)
  · obtain ⟨sm, ys, hDl, hh⟩ := p
    rw [← hn, List.take_length] at hh
    exact hd H ys sm hDl hh
/-- .. of two clauses: the outer one -/
theorem lc2_out (w : Walk J n G Y) {xs : List α} (hn : xs.length = n) {F : α → List γ} {R : Hp → V → γ → Prop} {g : TG} {te : L2.St → Hp → (Hp → Prop) → Prop} {ws : List Nat} {σ : L2.St} {H1 : Hp} {D : Addr} {Qd : Hp → Prop}
    (hD : H1 D = none) (hG : ∀ H, Same H1 H → G H)
    (hs : ∀ (i : Nat) (v : V) (x : α) (H H' : Hp) (ys : List V) (Nx : Hp → Prop), xs[i]? = some x → Same H1 H → Y i H v H' → H D = some (.lst ys) → Held R H ys ((xs.take i).flatMap F) →
      (∀ H3 ys, Same H1 H3 → H3 D = some (.lst ys) → Held R H3 ys ((xs.take i).flatMap F ++ F x) → Nx H3) →
      g v (wipe σ ws) H' fun σ2 H2 => wipe σ2 ws = wipe σ ws ∧ te σ2 H2 Nx)
    (hd : ∀ H' ys, Same H1 H' → H' D = some (.lst ys) → Held R H' ys (xs.flatMap F) → Qd H') :
    ∃ W : Nat → Nat → Hp → Prop, (∃ m, W 0 m (upd H1 D (.lst []))) ∧ ∀ i m H, W i m H →
      (J.stop i H ∧ Qd H) ∨ (J.go i H ∧ ∃ Nx : Hp → Prop, (∀ H', Nx H' → ∃ m', m' < m ∧ W (i + 1) m' H') ∧ ∀ x H', J.yld i H x H' → g x (wipe σ ws) H' fun σ2 H2 => wipe σ2 ws = wipe σ ws ∧ te σ2 H2 Nx) := by
  refine ⟨fun i m H => m = n - i ∧ i ≤ n ∧ Same H1 H ∧ ∃ ys, H D = some (.lst ys) ∧ Held R H ys ((xs.take i).flatMap F), ⟨n, by simp, Nat.zero_le _, same_upd hD, [], upd_same, Held.nil⟩, ?_⟩
  rintro i m H ⟨rfl, hi, sm, ys, hDl, hh⟩
  by_cases hlt : i < n
  · refine .inr ⟨w.goes i H hlt (hG H sm), fun H' => Same H1 H' ∧ ∃ ys, H' D = some (.lst ys) ∧ Held R H' ys ((xs.take (i + 1)).flatMap F), fun H' p' => ⟨n - (i + 1), by omega, rfl, hlt, p'⟩, fun v H' y => ?_⟩
    have hx : xs[i]? = some (xs[i]'(by omega)) := List.getElem?_eq_getElem (by omega)
    refine hs i v _ H H' ys _ hx sm (w.yields i H v H' hlt (hG H sm) y) hDl hh (fun H3 ys' s3 hD3 h3 => ⟨s3, ys', hD3, ?_⟩)
    rw [take_succ' hx, List.flatMap_append]
    have e2 : List.flatMap F [xs[i]'(by omega)] = F (xs[i]'(by omega)) := by simp
    rw [e2]
    exact h3
  · have e : i = n := by omega
    subst e
    rw [← hn, List.take_length] at hh
    exact .inl ⟨w.stops H (hG H sm), hd H ys sm hDl hh⟩
/-- .. the inner one -/
theorem lc2_in (w : Walk J n G Y) {xs : List α} (hn : xs.length = n) {f : α → Option γ} {R : Hp → V → γ → Prop} (mR : MonoT R) {g : TG} {tt : TT} {te : TE} {ws : List Nat} {σ : L2.St} {H0 H1 : Hp} {D : Addr} {ys0 : List V} {zs : List γ} {Qd : Hp → Prop}
    (hD : H0 D = none) (s1 : Same H0 H1) (hD1 : H1 D = some (.lst ys0)) (h1 : Held R H1 ys0 zs) (hG : ∀ H, Same H0 H → SameT H1 H → G H) (hz : zs.length + n ≤ 100000)
    (hs : ∀ (i : Nat) (v : V) (x : α) (H H' : Hp) (Ky : V → Hp → Prop) (Kn : Hp → Prop), xs[i]? = some x → Same H0 H → SameT H1 H → Y i H v H' → (∀ y b H4, f x = some b → Same H H4 → R H4 y b → Ky y H4) → (∀ H3, f x = none → Same H H3 → Kn H3) →
      g v (wipe σ ws) H' fun σ2 H2 => wipe σ2 ws = wipe σ ws ∧ tt σ2 H2 fun b H3 => if b = true then te σ2 H3 Ky else Kn H3)
    (hd : ∀ H' ys, Same H0 H' → H' D = some (.lst ys) → Held R H' ys (zs ++ xs.filterMap f) → Qd H') :
    ∃ W : Nat → Nat → Hp → Prop, (∃ m, W 0 m H1) ∧ ∀ i m H, W i m H →
      (J.stop i H ∧ Qd H) ∨ (J.go i H ∧ ∃ Nx : Hp → Prop, (∀ H', Nx H' → ∃ m', m' < m ∧ W (i + 1) m' H') ∧ ∀ x H', J.yld i H x H' → g x (wipe σ ws) H' fun σ2 H2 => wipe σ2 ws = wipe σ ws ∧ tt σ2 H2 fun b H3 =>
        if b = true then te σ2 H3 fun y H4 => ∃ acc, H4 D = some (.lst acc) ∧ acc.length < sizeLine ∧ Nx (upd H4 D (.lst (acc ++ [y]))) else Nx H3) := by
  refine ⟨fun i m H => m = n - i ∧ i ≤ n ∧ Same H0 H ∧ SameT H1 H ∧ ∃ ys, H D = some (.lst ys) ∧ Held R H ys (zs ++ (xs.take i).filterMap f), ⟨n, by simp, Nat.zero_le _, s1, SameT.refl _, ys0, hD1, by simpa using h1⟩, ?_⟩
  rintro i m H ⟨rfl, hi, sm, st, ys, hDl, hh⟩
  by_cases hlt : i < n
  · refine .inr ⟨w.goes i H hlt (hG H sm st), fun H' => Same H0 H' ∧ SameT H1 H' ∧ ∃ ys, H' D = some (.lst ys) ∧ Held R H' ys (zs ++ (xs.take (i + 1)).filterMap f), fun H' p' => ⟨n - (i + 1), by omega, rfl, hlt, p'⟩, fun v H' y => ?_⟩
    have hx : xs[i]? = some (xs[i]'(by omega)) := List.getElem?_eq_getElem (by omega)
    refine hs i v _ H H' _ _ hx sm st (w.yields i H v H' hlt (hG H sm st) y) (fun y b H4 e s4 r => ?_) (fun H3 e s3 => ?_)
    · have su := SameT.lst (o := .lst (ys ++ [y])) (s4 _ _ hDl)
      refine ⟨_, s4 _ _ hDl, ?_, (sm.trans s4).mut hD, (st.trans (SameT.of s4)).trans su, ys ++ [y], upd_same, ?_⟩
      · have h2 := List.length_filterMap_le f (xs.take i)
        rw [List.length_take] at h2
        exact small' (by rw [hh.len, List.length_append]; omega)
      · rw [take_succ' hx, List.filterMap_append]
        have e2 : List.filterMap f [xs[i]'(by omega)] = [b] := by rw [List.filterMap_cons_some e]; rfl
        rw [e2, ← List.append_assoc]
        exact (hh.mono mR ((SameT.of s4).trans su)).snoc (mR _ _ _ _ su r)
    · refine ⟨sm.trans s3, st.trans (SameT.of s3), ys, s3 _ _ hDl, ?_⟩
      rw [take_succ' hx, List.filterMap_append]
      have e2 : List.filterMap f [xs[i]'(by omega)] = [] := by rw [List.filterMap_cons_none e]; rfl
      rw [e2, List.append_nil]
      exact hh.mono mR (SameT.of s3)
  · have e : i = n := by omega
    subst e
    rw [← hn, List.take_length] at hh
    exact .inl ⟨w.stops H (hG H sm st), hd H ys sm hDl hh⟩
end
/-- the walk over two tuples -/
theorem walk_zipT {K : PySem.W.Frag} {a b : Addr} {xs ys : List V} {n : Nat} (hn : n = min xs.length ys.length) : Walk (RZ.ItzT K a b) n (fun H => SqT K H a xs ∧ SqT K H b ys) (YPair (fun i => xs[i]?) (fun i => ys[i]?)) := by
  subst hn
  refine ⟨fun i _ hi q => ?_, fun _ q => ⟨xs, ys, q.1, q.2, by omega⟩, fun i H v H' _ q y => ?_⟩
  · have h1 : i < xs.length := by omega
    have h2 : i < ys.length := by omega
    exact ⟨xs, ys, xs[i], ys[i], q.1, q.2, by simp [h1], by simp [h2]⟩
  · obtain ⟨T, x, z, h1, h2, h3, h4, h5⟩ := y
    exact ⟨T, x, z, h1, h2, h3, h4 xs q.1, h5 ys q.2⟩
/-- the turns of a range -/
theorem range_ix {n i k : Nat} (h : (List.range n)[i]? = some k) : k = i ∧ i < n := by
  obtain ⟨h1, h2⟩ := List.getElem?_eq_some_iff.mp h
  rw [List.getElem_range] at h2
  exact ⟨h2.symm, by simpa using h1⟩
/-! ### what is needed, kept, lacking -/
def PairAt (H : Hp) (v : V) (x : Int × Int) : Prop := ∃ t, v = .ref t ∧ H t = some (.tup [.int x.1, .int x.2])
theorem PairAt.mono : MonoT PairAt := fun _ _ _ _ e ⟨t, h1, h2⟩ => ⟨t, h1, e _ _ h2⟩
def onDay (ps : List (Int × Int)) (day : Int) : Int := (ps.filterMap fun x => if x.1 = day then some x.2 else none).sum
def toDay (ps : List (Int × Int)) (day : Int) : Int := (ps.filterMap fun x => if day ≤ x.2 then some x.1 else none).sum
def pairsOf (ds : List Dish) (nm : Str) : List (Int × Int) := ds.flatMap fun d => d.2.filterMap fun x => if x.1 = nm then some (d.1, x.2) else none
def neededL (ds : List Dish) (nm : Str) : List Int := (List.range 7).map fun i => onDay (pairsOf ds nm) (1 + (i : Nat))
def fromL (xs : List Int) : List Int := (List.range 7).map fun i => (xs.drop i).sum
def keptPairs (lar : List Batch) (nm : Str) : List (Int × Int) := lar.filterMap fun b => if b.name = nm then some (b.amount, b.last) else none
def keptL (lar : List Batch) (nm : Str) : List Int := (List.range 7).map fun i => toDay (keptPairs lar nm) (1 + (i : Nat))
def mx0 (x : Int) : Int := if x > 0 then x else 0
def lackL (ds : List Dish) (lar : List Batch) (nm : Str) : List Int := (List.range 7).map fun i => mx0 ((fromL (neededL ds nm)).getD i 0 - (keptL lar nm).getD i 0)
theorem neededL_len (ds : List Dish) (nm : Str) : (neededL ds nm).length = 7 := by unfold neededL; simp
theorem fromL_len (xs : List Int) : (fromL xs).length = 7 := by unfold fromL; simp
theorem keptL_len (lar : List Batch) (nm : Str) : (keptL lar nm).length = 7 := by unfold keptL; simp
theorem lackL_len (ds : List Dish) (lar : List Batch) (nm : Str) : (lackL ds lar nm).length = 7 := by unfold lackL; simp
theorem fm_some {α β : Type} (f : α → β) (xs : List α) : xs.filterMap (fun x => some (f x)) = xs.map f := by
  induction xs with
  | nil => rfl
  | cons x r ih =>
    show f x :: List.filterMap (fun x => some (f x)) r = _
    rw [ih]; rfl
theorem pairsOf_len {n : Nat} : ∀ (ds : List Dish) (nm : Str), (∀ d ∈ ds, d.2.length ≤ n) → (pairsOf ds nm).length ≤ ds.length * n
  | [], _, _ => by simp [pairsOf]
  | d :: r, nm, h => by
    have ih := pairsOf_len r nm fun d hd => h d (List.mem_cons_of_mem _ hd)
    have h1 := List.length_filterMap_le (fun x : Need => if x.1 = nm then some (d.1, x.2) else none) d.2
    have h2 := h d List.mem_cons_self
    unfold pairsOf at ih ⊢
    rw [List.flatMap_cons, List.length_append, List.length_cons, Nat.succ_mul]
    omega
/-! ### the law's own reckoning of what lacks -/
def needOf (d : Dish) (nm : Str) : Int := (d.2.filterMap fun x => if x.1 = nm then some x.2 else none).sum
def needFrom (ds : List Dish) (nm : Str) (day : Int) : Int := (ds.map fun d => if day ≤ d.1 then needOf d nm else 0).sum
def keptTo (lar : List Batch) (nm : Str) (day : Int) : Int := (lar.map fun b => if b.name = nm ∧ day ≤ b.last then b.amount else 0).sum
def lackDay (ds : List Dish) (lar : List Batch) (nm : Str) (day : Int) : Int := mx0 (needFrom ds nm day - keptTo lar nm day)
def lackW (ds : List Dish) (lar : List Batch) (nm : Str) : List Int := (List.range 7).map fun i => lackDay ds lar nm (1 + (i : Nat))
theorem toDay_kept (nm : Str) (day : Int) : ∀ lar : List Batch, toDay (keptPairs lar nm) day = keptTo lar nm day
  | [] => rfl
  | b :: r => by
    have ih := toDay_kept nm day r
    unfold toDay keptPairs keptTo at ih ⊢
    rw [List.map_cons, List.sum_cons, ← ih]
    by_cases e : b.name = nm
    · by_cases l : day ≤ b.last
      · simp only [List.filterMap_cons, if_pos e, if_pos l, if_pos (And.intro e l), List.sum_cons]
      · simp only [List.filterMap_cons, if_pos e, if_neg l, if_neg (fun z : b.name = nm ∧ day ≤ b.last => l z.2)]
        omega
    · simp only [List.filterMap_cons, if_neg e, if_neg (fun z : b.name = nm ∧ day ≤ b.last => e z.1)]
      omega
theorem onDay_app (xs ys : List (Int × Int)) (day : Int) : onDay (xs ++ ys) day = onDay xs day + onDay ys day := by
  unfold onDay
  rw [List.filterMap_append, List.sum_append]
theorem onDay_one (k day : Int) (nm : Str) : ∀ ns : List Need, onDay (ns.filterMap fun x => if x.1 = nm then some (k, x.2) else none) day = if k = day then (ns.filterMap fun x => if x.1 = nm then some x.2 else none).sum else 0
  | [] => by unfold onDay; simp
  | x :: r => by
    have ih := onDay_one k day nm r
    unfold onDay at ih ⊢
    by_cases e : x.1 = nm
    · by_cases d : k = day
      · simp only [List.filterMap_cons, if_pos e, if_pos d, List.sum_cons] at ih ⊢
        rw [ih]
      · simp only [List.filterMap_cons, if_pos e, if_neg d] at ih ⊢
        exact ih
    · simp only [List.filterMap_cons, if_neg e]
      exact ih
theorem onDay_cons (d : Dish) (r : List Dish) (nm : Str) (day : Int) : onDay (pairsOf (d :: r) nm) day = (if d.1 = day then needOf d nm else 0) + onDay (pairsOf r nm) day := by
  unfold pairsOf
  rw [List.flatMap_cons, onDay_app, onDay_one]; rfl
theorem seven (f : Nat → Int) : (List.range 7).map f = [f 0, f 1, f 2, f 3, f 4, f 5, f 6] := rfl
theorem from_needed (nm : Str) : ∀ (ds : List Dish), (∀ d ∈ ds, 1 ≤ d.1 ∧ d.1 ≤ 7) → ∀ i : Nat, i < 7 → ((neededL ds nm).drop i).sum = needFrom ds nm (1 + (i : Nat))
  | [], _, i, hi => by
    have h : i = 0 ∨ i = 1 ∨ i = 2 ∨ i = 3 ∨ i = 4 ∨ i = 5 ∨ i = 6 := by omega
    rcases h with e | e | e | e | e | e | e <;> subst e <;> rfl
  | d :: r, hd, i, hi => by
    have ih := from_needed nm r (fun x hx => hd x (List.mem_cons_of_mem _ hx)) i hi
    have hd1 := hd d List.mem_cons_self
    unfold neededL at ih ⊢
    unfold needFrom at ih ⊢
    rw [List.map_cons, List.sum_cons, ← ih, seven, seven]
    simp only [onDay_cons]
    generalize needOf d nm = z
    have h : i = 0 ∨ i = 1 ∨ i = 2 ∨ i = 3 ∨ i = 4 ∨ i = 5 ∨ i = 6 := by omega
    have h2 : d.1 = 1 ∨ d.1 = 2 ∨ d.1 = 3 ∨ d.1 = 4 ∨ d.1 = 5 ∨ d.1 = 6 ∨ d.1 = 7 := by omega
    rcases h2 with e2 | e2 | e2 | e2 | e2 | e2 | e2 <;> rw [e2] <;> rcases h with e | e | e | e | e | e | e <;> subst e <;> simp <;> omega
theorem lack_eq (ds : List Dish) (lar : List Batch) (nm : Str) (hd : ∀ d ∈ ds, 1 ≤ d.1 ∧ d.1 ≤ 7) : lackL ds lar nm = lackW ds lar nm := by
  unfold lackL lackW
  apply List.map_congr_left
  intro i hi
  have hi7 : i < 7 := List.mem_range.mp hi
  unfold lackDay
  have e1 : (fromL (neededL ds nm)).getD i 0 = needFrom ds nm (1 + (i : Nat)) := by
    unfold fromL
    rw [List.getD_eq_getElem?_getD, List.getElem?_map, List.getElem?_eq_getElem (by simpa using hi7), List.getElem_range]
    exact from_needed nm ds hd i hi7
  have e2 : (keptL lar nm).getD i 0 = keptTo lar nm (1 + (i : Nat)) := by
    unfold keptL
    rw [List.getD_eq_getElem?_getD, List.getElem?_map, List.getElem?_eq_getElem (by simpa using hi7), List.getElem_range]
    exact toDay_kept nm _ lar
  rw [e1, e2]
theorem needFrom_snoc (ds : List Dish) (d : Dish) (nm : Str) (day : Int) : needFrom (ds ++ [d]) nm day = needFrom ds nm day + if day ≤ d.1 then needOf d nm else 0 := by
  unfold needFrom
  rw [List.map_append, List.sum_append]; simp
theorem keptTo_snoc (lar : List Batch) (b : Batch) (nm : Str) (day : Int) : keptTo (lar ++ [b]) nm day = keptTo lar nm day + if b.name = nm ∧ day ≤ b.last then b.amount else 0 := by
  unfold keptTo
  rw [List.map_append, List.sum_append]; simp
/-- what is kept, as the law reckons it -/
def dueK (lar : List Batch) (nm : Str) (i : Int) : Int := (lar.filterMap fun b => if b.name = nm ∧ i < b.last then some b.amount else none).sum
theorem dueK_eq (nm : Str) (i : Int) : ∀ lar : List Batch, dueK lar nm i = keptTo lar nm (1 + i)
  | [] => rfl
  | b :: r => by
    have ih := dueK_eq nm i r
    unfold dueK keptTo at ih ⊢
    rw [List.map_cons, List.sum_cons, ← ih]
    by_cases e : b.name = nm ∧ i < b.last
    · have e2 : b.name = nm ∧ 1 + i ≤ b.last := ⟨e.1, by omega⟩
      simp only [List.filterMap_cons, if_pos e, if_pos e2, List.sum_cons]
    · have e2 : ¬ (b.name = nm ∧ 1 + i ≤ b.last) := fun z => e ⟨z.1, by omega⟩
      simp only [List.filterMap_cons, if_neg e, if_neg e2]
      omega
theorem keptL_eq (lar : List Batch) (nm : Str) : keptL lar nm = (List.range 7).map fun i => dueK lar nm (i : Nat) := by
  unfold keptL
  apply List.map_congr_left
  intro i _
  rw [toDay_kept, dueK_eq]
end Lar
namespace Lar
open PySem PySem.Spec PyProof.Rows L2
/-! ### the greatest of a tuple of ints -/
section
variable {prog : Program} {w : World} {A : Around} {E : Value → Shared → Prop} {s : Shared} {t : Addr}
theorem max_tupI {xs : Array (Int × Tok)} {Q : Value → Shared → Prop} (hh : A.handled = none) (ht : s.heap.IsTuple t (intItems xs)) (h0 : 0 < xs.size)
    (h : ∀ v h' tk, (intItems xs)[argBest (fun i j => decide (numAt xs i > numAt xs j)) (xs.size - 1)]? = some v → (∀ b o, s.heap.get? b = some o → h'.get? b = some o) → Q v { s with heap := h', toks := tk }) :
    wpAny (model prog w) A (call (.builtin "max") [.ref t]) Q E s := by
  obtain ⟨o, ho, hc, n, hd⟩ := id ht
  have hne : t ≠ s.heap.objs.size := Nat.ne_of_lt (Heap.lt_size ho)
  have hsz : (intItems xs).size = xs.size := by simp [intItems]
  have W := (Walks.tuple (prog := prog) (w := w) (A := A.in1) hh s.heap.objs.size t hne (intItems xs)).toS
  rw [hsz] at W
  refine call_max_walkS (wpAny_pyIter_tuple ht ?_)
  refine ⟨s.heap.objs.size, _, _, _, _, _, _, _, rfl, W, ⟨⟨_, Heap.get?_push_size _ rfl, rfl, rfl⟩, ht.at fun o e => Heap.get?_push_of_some _ e⟩, fun b hb => ?_, h0, CmpOf.ints_gt (numAt xs) (fun i v hP => intItems_at hP), fun v s' hP hm => ?_⟩
  · rcases List.mem_cons.mp hb with rfl | hb
    · exact Heap.lt_size (Heap.get?_push_size _ rfl)
    · obtain rfl := List.mem_singleton.mp hb
      exact Heap.lt_size (Heap.get?_push_of_some _ ho)
  · obtain ⟨h', g', d', tk', os'⟩ := s'
    have e1 : g' = s.gens := hm.gens
    have e2 : d' = s.drawn := hm.drawn
    have e3 : os' = s.os := hm.os
    subst e1 e2 e3
    exact h v h' tk' hP fun b o e => hm.heap b o (fun hb => absurd (Heap.lt_size e) ((List.mem_singleton.mp hb) ▸ Nat.lt_irrefl _)) (Heap.get?_push_of_some _ e)
end
section
variable {X : Cx}
/-- max(xs), xs a list or a tuple of ints -/
def rMaxA (K : PySem.W.Frag) : List V → Hp → VK → Prop := fun vs H Q => ∃ (a : Addr) (ns : List Int), vs = [V.ref a] ∧ (SqL K H a (ns.map V.int) ∨ SqT K H a (ns.map V.int)) ∧ 0 < ns.length ∧ ∀ m, m ∈ ns → (∀ y, y ∈ ns → y ≤ m) → Q (.int m) H
theorem kcr_maxA (K : PySem.W.Frag) (hc : X.calm = true) (hK : X.K = K := by rfl) : CallR X (.builtin "max") (rMaxA K) := by
  subst hK
  intro pins s σ H vs us Q I r h
  obtain ⟨a, ns, rfl, hs, hne, q⟩ := h
  rw [Vals.ref1 r]
  rcases hs with hs | hs
  · obtain ⟨its, rv, hl, _⟩ := I.list hs
    exact max_raw (I.ok.hd hc) hl.isList rv.ints hne fun h' tk m t' hk h1 h2 => ⟨.int _, H, I.kept hk, ⟨_, rfl⟩, q m h1 h2⟩
  · obtain ⟨its, rv, hl, _⟩ := I.tuple hs
    have hi : IntsAre its ns := rv.ints
    obtain ⟨xs, e⟩ := hi.allInts.items
    have hn : numsOf (intItems xs).toList = ns := by rw [← e]; exact hi.numsOf
    rw [nums_intItems] at hn
    rw [e] at hl
    have hsz : 0 < xs.size := by rw [← hn] at hne; simpa using hne
    refine max_tupI (I.ok.hd hc) hl hsz fun v h' tk hv hk => ?_
    obtain ⟨t', rfl⟩ := intItems_at hv
    obtain ⟨h1, h2⟩ := argBest_gt (numAt xs) (xs.size - 1)
    refine ⟨.int _, H, I.kept hk, ⟨_, rfl⟩, q _ ?_ fun y hy => ?_⟩
    · rw [numAt_eq, hn]; exact PySem.getD_mem (by rw [← hn, List.length_map, Array.length_toList]; omega)
    · rw [← hn] at hy
      obtain ⟨j, hj, rfl⟩ := mem_getD hy
      rw [List.length_map, Array.length_toList] at hj
      rw [← numAt_eq]; exact h2 j (by omega)
/-- a list's or a tuple's item -/
def rIxA (K : PySem.W.Frag) : R2 := fun x y H Q => ∃ p xs i v, x = .ref p ∧ y = .int i ∧ (SqL K H p xs ∨ SqT K H p xs) ∧ atI xs i = some v ∧ Q v H
theorem kix_seq (K : PySem.W.Frag) (hK : X.K = K := by rfl) : IxR X (rIxA K) := by
  subst hK
  intro value slice pins s σ H x y v u Q I rx ry h hs
  obtain ⟨p, xs, i, z, hx, hy, hq, he, q⟩ := h
  refine (IxR.or ix_list ix_tup) value slice pins s σ H x y v u Q I rx ry ?_ hs
  rcases hq with hq | hq
  · exact .inl ⟨p, xs, i, z, hx, hy, hq, he, q⟩
  · exact .inr ⟨p, xs, i, z, hx, hy, hq, he, q⟩
theorem kop_repT (K : PySem.W.Frag) (hK : X.K = K := by rfl) : OpR X (binaryOp .Mult) (rRepT K) := by subst hK; exact op_repT
end
theorem ixN_of {n j : Nat} {k : Int} (h : k = j) (hj : j < n) : ixN n k = some j := by
  subst h
  unfold ixN
  rw [if_pos (by omega), if_pos (by omega)]; simp
theorem same_none {H H' : Hp} {a : Addr} (s : Same H H') (h : H' a = none) : H a = none := by
  cases e : H a with
  | none => rfl
  | some x => rw [s _ _ e] at h; cases h
/-! ### offers -/
structure Offer where
  size : Int
  price : Int
  last : Int
def OfferAt (H : Hp) (v : V) (o : Offer) : Prop := ∃ t, v = .ref t ∧ H t = some (.tup [.int o.size, .int o.price, .int o.last])
theorem OfferAt.mono : MonoT OfferAt := fun _ _ _ _ e ⟨t, h1, h2⟩ => ⟨t, h1, e _ _ h2⟩
structure GoodOffer (o : Offer) : Prop where
  size1 : 1 ≤ o.size
  size2 : o.size ≤ 200
  price0 : 0 ≤ o.price
  price2 : o.price ≤ 1000000
  last1 : 1 ≤ o.last
  last2 : o.last ≤ 99
/-- a list or a tuple -/
def SqA (K : PySem.W.Frag) (H : Hp) (a : Addr) (xs : List V) : Prop := SqL K H a xs ∨ SqT K H a xs
theorem SqA.l {K : PySem.W.Frag} {H : Hp} {a : Addr} {xs : List V} (h : H a = some (.lst xs)) : SqA K H a xs := .inl (sqL h)
theorem SqA.t {K : PySem.W.Frag} {H : Hp} {a : Addr} {xs : List V} (h : H a = some (.tup xs)) : SqA K H a xs := .inr (sqT h)
theorem SqA.same {K : PySem.W.Frag} {H H' : Hp} {a : Addr} {xs : List V} (h : SqA K H a xs) (e : Same H H') : SqA K H' a xs := by
  rcases h with h | h
  · exact .inl (e.seq h)
  · exact .inr (e.seqT h)
def OffersIn (K : PySem.W.Frag) (H : Hp) (v : V) (os : List Offer) : Prop := ∃ a us, v = .ref a ∧ SqA K H a us ∧ Held OfferAt H us os
theorem OffersIn.same {K : PySem.W.Frag} {H H' : Hp} {v : V} {os : List Offer} (h : OffersIn K H v os) (e : Same H H') : OffersIn K H' v os := by
  obtain ⟨a, us, h1, h2, h3⟩ := h
  exact ⟨a, us, h1, h2.same e, h3.mono OfferAt.mono (SameT.of e)⟩
def IntsIn (K : PySem.W.Frag) (H : Hp) (v : V) (ns : List Int) : Prop := ∃ a, v = .ref a ∧ SqA K H a (ns.map V.int)
theorem IntsIn.same {K : PySem.W.Frag} {H H' : Hp} {v : V} {ns : List Int} (h : IntsIn K H v ns) (e : Same H H') : IntsIn K H' v ns := by
  obtain ⟨a, h1, h2⟩ := h
  exact ⟨a, h1, h2.same e⟩
/-- a tuple of offers -/
abbrev OffersAt : Hp → V → List Offer → Prop := TupAll OfferAt
theorem OffersAt.mono : MonoT OffersAt := TupAll.mono OfferAt.mono
theorem OffersAt.in {K : PySem.W.Frag} {H : Hp} {v : V} {os : List Offer} (h : OffersAt H v os) : OffersIn K H v os := by
  obtain ⟨a, us, h1, h2, h3⟩ := h
  exact ⟨a, us, h1, SqA.t h2, h3⟩
/-! ### plain sums over what is bought -/
def costOf (os : List Offer) (cs : List Int) : Int := ((os.zip cs).map fun p => p.1.price * p.2).sum
def heldZ (zs : List (Offer × Int)) (day : Int) : Int := (zs.map fun p => if day ≤ p.1.last then p.1.size * p.2 else 0).sum
def heldOn (os : List Offer) (cs : List Int) (day : Int) : Int := heldZ (os.zip cs) day
def servesB (os : List Offer) (cs : List Int) (ls : List Int) : Bool := (List.range 7).all fun i => decide (ls.getD i 0 ≤ heldOn os cs (1 + (i : Nat)))
theorem heldZ_snoc (zs : List (Offer × Int)) (p : Offer × Int) (day : Int) : heldZ (zs ++ [p]) day = heldZ zs day + if day ≤ p.1.last then p.1.size * p.2 else 0 := by
  unfold heldZ
  rw [List.map_append, List.sum_append]; simp
theorem heldZ_fm (zs : List (Offer × Int)) (day : Int) : (zs.filterMap fun p => if day ≤ p.1.last then some (p.1.size * p.2) else none).sum = heldZ zs day := by
  unfold heldZ
  induction zs with
  | nil => rfl
  | cons p r ih =>
    rw [List.map_cons, List.sum_cons, ← ih]
    by_cases e : day ≤ p.1.last
    · simp only [List.filterMap_cons, if_pos e, List.sum_cons]
    · simp only [List.filterMap_cons, if_neg e]; omega
theorem zip_ix {α β : Type} {xs : List α} {ys : List β} {i : Nat} {x : α} {y : β} (h1 : xs[i]? = some x) (h2 : ys[i]? = some y) : (xs.zip ys)[i]? = some (x, y) := by
  rw [List.getElem?_zip_eq_some]; exact ⟨h1, h2⟩
theorem ix_zip {α β : Type} {xs : List α} {ys : List β} {i : Nat} {p : α × β} (h : (xs.zip ys)[i]? = some p) : xs[i]? = some p.1 ∧ ys[i]? = some p.2 := by
  rwa [List.getElem?_zip_eq_some] at h
theorem zip_len {α β : Type} {xs : List α} {ys : List β} (h : xs.length = ys.length) : (xs.zip ys).length = xs.length := by
  rw [List.length_zip]; omega
def GoodLs (ls : List Int) : Prop := ls.length = 7 ∧ ∀ x ∈ ls, 0 ≤ x ∧ x ≤ 200
theorem GoodLs.set {ls : List Int} {i : Nat} {z : Int} (h : GoodLs ls) (h0 : 0 ≤ z) (h1 : z ≤ 200) : GoodLs (ls.set i z) := ⟨by rw [List.length_set]; exact h.1, fun x hx => by
  rcases List.mem_or_eq_of_mem_set hx with y | y
  · exact h.2 x y
  · subst y; exact ⟨h0, h1⟩⟩
/-! ### what the program's functions promise -/
def spPriceOf : Sp := fun vs H Q _ => ∃ (v : V) (b : Addr) (os : List Offer) (cs : List Int), vs = [v, .ref b] ∧ OffersAt H v os ∧ H b = some (.tup (cs.map V.int)) ∧ os.length = cs.length ∧ os.length ≤ 1000 ∧ (∀ o ∈ os, GoodOffer o) ∧ (∀ c ∈ cs, 0 ≤ c) ∧
  ∀ H', Same H H' → Q (.int (costOf os cs)) H'
def spServes : Sp := fun vs H Q _ => ∃ (v : V) (b c : Addr) (os : List Offer) (cs ls : List Int), vs = [v, .ref b, .ref c] ∧ OffersAt H v os ∧ H b = some (.tup (cs.map V.int)) ∧ H c = some (.tup (ls.map V.int)) ∧ os.length = cs.length ∧ os.length ≤ 1000 ∧ (∀ o ∈ os, GoodOffer o) ∧ (∀ c ∈ cs, 0 ≤ c) ∧ GoodLs ls ∧
  ∀ H', Same H H' → Q (.bl (servesB os cs ls)) H'
end Lar
namespace Lar
open PySem PySem.Spec PyProof.Rows L2
section
theorem meets_enum1B {v : Value} {o : Obj} {H : Heap → Prop} (B : Begins v o H) :
    Meets (Builtin.«enumerate.__new__» ⟨[.type "enumerate", v], []⟩) (fun _ R s => H s.heap ∧
      R (.ok (.ret (.ref (s.heap.push o).objs.size))) { s with heap := (s.heap.push o).push { cls := .type "enumerate", data := .fields #[.none, .bool false, .ref s.heap.objs.size, rawInt 0, .none, .none] } }) :=
  .of_wp fun prog w A R s h => by
    obtain ⟨hp, g, d, tk, os⟩ := s; obtain ⟨h1, h⟩ := h
    have hsub := sub_enumerate
    have q1 : ∀ {A' : Around} {E : Value → Shared → Prop} {Q : Value → Shared → Prop}, Q (.ref hp.objs.size) ⟨hp.push o, g, d, tk, os⟩ → wpAny (model prog w) A' (pyIter v) Q E ⟨hp, g, d, tk, os⟩ :=
      fun q => B.iter prog w _ _ ⟨hp, g, d, tk, os⟩ _ h1 q
    wp_walk using q1
    refine wpAny_stack_any fun st => wpAny_pure ?_
    split
    · rename_i c _ _ _ _ _
      cases (c == Value.type "enumerate")
      · wp_walk using q1
        exact ⟨_, rfl, h⟩
      · wp_walk using q1
        exact ⟨_, rfl, h⟩
    · wp_walk using q1
      exact ⟨_, rfl, h⟩
end
end Lar
namespace Lar
open PySem PySem.Spec PyProof.Rows L2
/-! ### enumerate over a tuple, from a number on -/
section
variable {prog : Program} {w : World} {A : Around} {E : Value → Shared → Prop} {s : Shared}
theorem enum_begins1 {v : Value} {o : Obj} {H : Heap → Prop} {Q : Value → Shared → Prop} (B : Begins v o H) (h1 : H s.heap)
    (h : ∀ h', IsEnum h' (s.heap.objs.size + 1) s.heap.objs.size 0 .none → h'.get? s.heap.objs.size = some o → h'.objs.size = s.heap.objs.size + 2 →
      (∀ b o, s.heap.get? b = some o → h'.get? b = some o) → Q (.ref (s.heap.objs.size + 1)) { s with heap := h' }) :
    wpAny (model prog w) A (call (.type "enumerate") [v]) Q E s := by
  refine callType_new F.called_enumerate (by decide) (F.typeCall_enumerate_1 _) (F.newCall_enumerate_1 _) (fun obj => F.args_object_init_2 obj _) F.entry_enumerate_new
    (meets_enum1B B) ⟨h1, ?_⟩
  have hz : (s.heap.push o).objs.size = s.heap.objs.size + 1 := Heap.size_push ..
  show _ ∧ _
  rw [hz]
  have he : IsEnum ((s.heap.push o).push { cls := .type "enumerate", data := .fields #[.none, .bool false, .ref s.heap.objs.size, rawInt 0, .none, .none] }) (s.heap.objs.size + 1) s.heap.objs.size 0 .none := by
    have := Heap.get?_push_size (s.heap.push o) (o := { cls := .type "enumerate", data := .fields #[.none, .bool false, .ref s.heap.objs.size, rawInt 0, .none, .none] }) rfl
    rw [hz] at this; exact this
  refine ⟨⟨_, he, rfl⟩, h _ he (Heap.get?_push_of_some _ (Heap.get?_push_size _ B.free)) (by rw [Heap.size_push, hz]) fun b o x => Heap.get?_push_of_some _ (Heap.get?_push_of_some _ x)⟩
theorem callWith_typeKw {M : Model} {E : Value → Shared → Prop} {env : Env} {pos : Pos} {T : String} {e : Expr} {rest : List Expr} {kws : List Keyword} {Q : Value → Shared → Prop}
    (h : wpAny M A (spliced (backTo pos (starEach (e :: rest) env))) (fun vs s₁ => wpAny M A (evalAll ((backToKw pos (keywordEach kws env)).map (·.2)))
      (fun kvs s₂ => wpAny M A (call (.type T) vs (((backToKw pos (keywordEach kws env)).filterMap (·.1)).zip kvs)) Q E s₂) E s₁) E s)
    (he : backTo pos (starEach (e :: rest) env) = (false, eval e env) :: backTo pos (starEach rest env) := by rfl)
    (hplain : (backTo pos (starEach (e :: rest) env)).any (·.1) = false := by rfl)
    (hall : (backToKw pos (keywordEach kws env)).all (·.1.isSome) = true := by rfl)
    (hkw : (backToKw pos (keywordEach kws env)).any (·.1.isNone) = false := by rfl) :
    wpAny M A (callWith pos (.type T) [] (backTo pos (starEach (e :: rest) env)) (backToKw pos (keywordEach kws env))) Q E s := by
  have h2 : wpAny M A (evalArgs (.type T) true (backTo pos (starEach (e :: rest) env)) (backToKw pos (keywordEach kws env))) (fun a s₁ => wpAny M A (call (.type T) ([] ++ a.pos) a.kw) Q E s₁) E s := by
    rw [he] at h ⊢
    exact evalArgs_kwB hall h
  unfold callWith
  refine wpAny_bind (wpAny_holding (wpAny_mono h2 (fun a s₁ h₁ => wpAny_bind (wpAny_standAt ?_)) fun _ _ x => x))
  simp only [hplain, hkw, Bool.or_false]
  refine wpAny_bind (wpAny_pure ?_)
  exact wpAny_bind (wpAny_mono h₁ (fun r s₂ hr => wpAny_bind (wpAny_holding (wpAny_point (wpAny_pure hr)))) fun _ _ x => x)
end
/-- the tuple at a, each item in a new pair behind its number, from lo on -/
def IteT (K : PySem.W.Frag) (lo : Int) (a : Addr) : It :=
  ⟨fun i H => ∃ (xs : List V) (x : V), SqT K H a xs ∧ xs[i]? = some x, fun i H v H' => ∃ T x, v = .ref T ∧ H T = none ∧ H' = upd H T (.tup [.int (lo + (i : Nat)), x]) ∧ ∀ xs, SqT K H a xs → xs[i]? = some x, fun i H => ∃ xs : List V, SqT K H a xs ∧ xs.length = i⟩
theorem tup_ne {h : Heap} {a e : Addr} {its : Array Value} {o : Obj} (p : h.IsTuple a its) (he : h.get? e = some o) (hc : o.cls ≠ .type "tuple") : e ≠ a := by
  rintro rfl
  obtain ⟨o', ho, c, _⟩ := p
  rw [he] at ho
  cases ho
  exact hc c
theorem turn_enumT {P : Program} {w : World} {K : PySem.W.Frag} {elts : List Expr} {kk : Nat} {tpos : Pos} (lo : Int) (a e it : Addr) :
    Turn P w K (.Tuple elts kk tpos) (IteT K lo a) [e, it] e (fun i h => (∃ old, IsEnum h e it (lo + (i : Nat)) old) ∧ h.IsTupleIter it a i ∧ e ≠ it) where
  mem := by simp
  obj := fun i h st b hb => by
    obtain ⟨⟨old, he⟩, ⟨o, ho, hc, hd⟩, _⟩ := st
    have e' : b = e ∨ b = it := by simpa using hb
    rcases e' with z | z
    · rw [z]; exact ⟨_, he, fun v q => nomatch q⟩
    · rw [z]; exact ⟨o, ho, fun v q => by rw [hd] at q; cases q⟩
  keep := fun i h h' st k => let ⟨⟨old, he⟩, hi, hne⟩ := st; ⟨⟨old, k e (by simp) _ he⟩, hi.at fun o q => k it (by simp) o q, hne⟩
  item := by
    intro X hP hw hK hc i pins s σ H E I hf st hg
    subst hP hw hK
    obtain ⟨⟨old, he⟩, hit, hne⟩ := st
    obtain ⟨xs, x, hq, hx⟩ := hg
    obtain ⟨its, rv, p, hz⟩ := I.tuple hq
    have pT : s.heap.IsTuple a its.toArray := p
    obtain ⟨u, hu, ru⟩ := rv.get hx
    have hel : e < s.heap.objs.size := Heap.lt_size he
    have hil : it < s.heap.objs.size := by obtain ⟨_, q, _⟩ := hit; exact Heap.lt_size q
    have hea : e ≠ a := tup_ne pT he (fun z => absurd z (by simp))
    have hia : it ≠ a := by
      obtain ⟨o, ho, hcl, _⟩ := id hit
      exact tup_ne pT ho (fun z => by rw [hcl] at z; simp at z)
    have hin : i < its.toArray.size := by
      have := (List.getElem?_eq_some_iff.mp hu).1
      simpa using this
    refine wpAny_pyNext_enum_itemC (Draws.tuple (A := X.A.in1) (show X.A.in1.handled = none from I.ok.hd hc) it a (Ne.symm hia) its.toArray) he ⟨hit, pT⟩ hin hne (by simp [hne, hea]) fun y h' tk hy ho hst hT hsz hk => ?_
    have ey : y = u := by
      have h1 : its.toArray[i]? = some u := by simpa using hu
      rw [h1] at hy
      exact (Option.some.inj hy).symm
    subst ey
    refine ⟨_, rfl, wpAny_letOwnedTupleGo_enum (s := { s with heap := h', toks := tk + 1 }) ho fun h'' he' sb => ?_⟩
    have hT2 : h''.get? s.heap.objs.size = some { cls := .type "tuple", data := .seq #[.int (lo + (i : Nat)) tk, y] } := (sb.2 _ (Nat.ne_of_gt hel)).trans hT
    have new : ObjOk X.prog X.w (upd H s.heap.objs.size (.tup [.int (lo + (i : Nat)), x])) h'' s.heap.objs.size (.tup [.int (lo + (i : Nat)), x]) :=
      ⟨by show 2 ≤ sizeLine; decide, [.int (lo + (i : Nat)) tk, y], .cons ⟨_, rfl⟩ (.cons ru .nil), ⟨_, hT2, rfl, _, rfl⟩⟩
    have I1 : Inv X pins σ (upd H s.heap.objs.size (.tup [.int (lo + (i : Nat)), x])) { s with heap := h'', toks := tk + 1 } :=
      I.turnedNew (ch := [e, it]) (fun b ob hb q => (sb.2 b (fun z => hb (by simp [z]))).trans (hk b ob (fun z => hb (by simp [z])) (fun z => hb (by simp [z])) q)) hf (Nat.le_refl _) new
    refine ⟨.ref s.heap.objs.size, _, I1, rfl, ⟨_, x, rfl, I.hok.fresh (Nat.le_refl _), rfl, fun ys hy => by rw [I.tuple_inj hy hq]; exact hx⟩, ⟨⟨y, ?_⟩, hst.1.at fun o q => (sb.2 it (Ne.symm hne)).trans q, hne⟩, fun b hb => ?_⟩
    · have e1 : lo + ((i + 1 : Nat) : Int) = lo + (i : Int) + 1 := by omega
      rw [e1]; exact he'
    · have hb' : b < s.heap.objs.size := by
        have e' : b = e ∨ b = it := by simpa using hb
        rcases e' with z | z
        · rw [z]; exact hel
        · rw [z]; exact hil
      rw [upd_ne (Nat.ne_of_lt hb')]
      exact (hf b hb).1
  done := by
    intro X hP hw hK hc i pins s σ H E I hf st hg
    subst hP hw hK
    obtain ⟨⟨old, he⟩, hit, hne⟩ := st
    obtain ⟨xs, hq, hx⟩ := hg
    obtain ⟨its, rv, p, hz⟩ := I.tuple hq
    have pT : s.heap.IsTuple a its.toArray := p
    obtain ⟨f0, f1, f2, f3, f4, f5⟩ := hf it (by simp)
    have hl := rv.length
    have hia : it ≠ a := by
      obtain ⟨o, ho, hcl, _⟩ := id hit
      exact tup_ne pT ho (fun z => by rw [hcl] at z; simp at z)
    have en : i = its.toArray.size := by simp; omega
    refine wpAny_pyNext_enum_endD (Draws.tuple (A := X.A.in1) (show X.A.in1.handled = none from I.ok.hd hc) it a (Ne.symm hia) its.toArray) he (by rw [← en]; exact ⟨hit, pT⟩) fun h' eb => ⟨rfl, I.turned (t' := s.toks) (fun b o hb q => eb b o hb q) f0 f1 f3 f4 f5⟩
  self := fun A i s Q E st h => let ⟨⟨_, he⟩, _⟩ := st; wpAny_pyIter_enum he h
def iEnumT (K : PySem.W.Frag) (ta : TA) : TI := fun σ H R => ta σ H fun vs H1 => ∃ a xs, vs = [.ref a] ∧ SqT K H1 a xs ∧ R (IteT K 0 a) H1
theorem kpi_enumT {X : Cx} (K : PySem.W.Frag) {e : Expr} {ta : TA} {p pos tpos : Pos} {elts : List Expr} {kk : Nat} (hg : Gl X "enumerate") (hm : X.mg "enumerate" = none) (ha : PA X [e] ta) (hK : X.K = K := by rfl) (hs : starEach [e] X.env = [(false, eval e X.env)] := by rfl) :
    PI X (.Tuple elts kk tpos) (.Call (.Name "enumerate" p) [e] [] pos) (iEnumT K ta) := by
  subst hK
  refine ⟨fun pins s σ H R I h => ?_⟩
  refine Call_ (ld_blt I hg hm boot_enumerate (PyProof.Rows.callWith_type1 (thn (ha.run pos pins s σ H _ I h) fun us s1 ⟨vs, H1, I1, r1, q1⟩ => ?_) hs rfl))
  obtain ⟨a, xs, ex, hq, q⟩ := q1
  subst ex
  cases r1 with
  | cons r rr =>
    cases rr
    cases r
    obtain ⟨its, rv, p', hz⟩ := I1.tuple hq
    have pT : s1.heap.IsTuple a its.toArray := p'
    refine enum_begins1 (begins_tuple a its.toArray) pT fun h' he hit hsz hk => wpAny_pyIter_enum he ?_
    have I2 : Inv X pins σ H1 { s1 with heap := h' } := I1.kept (t' := s1.toks) hk
    refine ⟨s1.heap.objs.size + 1, [s1.heap.objs.size + 1, s1.heap.objs.size], _, _, H1, rfl, I2, turn_enumT 0 a (s1.heap.objs.size + 1) s1.heap.objs.size, ⟨⟨.none, he⟩, ⟨_, hit, rfl, rfl⟩, Nat.succ_ne_self _⟩, fun b hb => ?_, q⟩
    have e' : b = s1.heap.objs.size + 1 ∨ b = s1.heap.objs.size := by simpa using hb
    have hle : s1.heap.objs.size ≤ b := by
      rcases e' with z | z
      · rw [z]; exact Nat.le_add_right _ _
      · rw [z]; exact Nat.le_refl _
    exact I1.fpOk hle (I1.hok.fresh hle)
/-- enumerate(e, start=n) -/
def iEnumS (K : PySem.W.Frag) (n : Int) (ta : TA) : TI := fun σ H R => ta σ H fun vs H1 => ∃ a xs, vs = [.ref a] ∧ SqT K H1 a xs ∧ R (IteT K n a) H1
theorem kpi_enumS {X : Cx} (K : PySem.W.Frag) {e : Expr} {ta : TA} {p pos tpos kpos npos : Pos} {knd : Nat} {elts : List Expr} {kk : Nat} {n : Int} (hg : Gl X "enumerate") (hm : X.mg "enumerate" = none) (ha : PA X [e] ta) (h0 : -(2 ^ 63) ≤ n) (h1 : n < 2 ^ 63) (hK : X.K = K := by rfl)
    (he : backTo pos (starEach [e] X.env) = (false, eval e X.env) :: backTo pos (starEach [] X.env) := by rfl) (hpl : (backTo pos (starEach [e] X.env)).any (·.1) = false := by rfl) :
    PI X (.Tuple elts kk tpos) (.Call (.Name "enumerate" p) [e] [⟨some "start", .Constant (.int n) knd npos, kpos⟩] pos) (iEnumS K n ta) := by
  subst hK
  refine ⟨fun pins s σ H R I h => ?_⟩
  refine wpAny_Call_Name_kw (ld_blt I hg hm boot_enumerate (callWith_typeKw (T := "enumerate") (thn (ha.run pos pins s σ H _ I h) fun us s1 ⟨vs, H1, I1, r1, q1⟩ => ?_) he hpl))
  obtain ⟨a, xs, ex, hq, q⟩ := q1
  subst ex
  cases r1 with
  | cons r rr =>
    cases rr
    cases r
    obtain ⟨its, rv, p', hz⟩ := I1.tuple hq
    have pT : s1.heap.IsTuple a its.toArray := p'
    refine kws_cons (wpAny_Constant_int (kws_nil ?_))
    refine enum_begins_start (s := { s1 with toks := _ }) (begins_tuple a its.toArray) pT h0 h1 fun h' he hit hsz hk => wpAny_pyIter_enum he ?_
    have I2 : Inv X pins σ H1 { s1 with heap := h', toks := _ } := I1.kept (t' := s1.toks + 1) hk
    refine ⟨s1.heap.objs.size + 1, [s1.heap.objs.size + 1, s1.heap.objs.size], _, _, H1, rfl, I2, turn_enumT n a (s1.heap.objs.size + 1) s1.heap.objs.size, ⟨⟨.none, ?_⟩, ⟨_, hit, rfl, rfl⟩, Nat.succ_ne_self _⟩, fun b hb => ?_, q⟩
    · have e1 : n + ((0 : Nat) : Int) = n := by simp
      rw [e1]; exact he
    have e' : b = s1.heap.objs.size + 1 ∨ b = s1.heap.objs.size := by simpa using hb
    have hle : s1.heap.objs.size ≤ b := by
      rcases e' with z | z
      · rw [z]; exact Nat.le_add_right _ _
      · rw [z]; exact Nat.le_refl _
    exact I1.fpOk hle (I1.hok.fresh hle)
/-- its walk -/
theorem walk_enumT {K : PySem.W.Frag} {lo : Int} {a : Addr} {xs : List V} : Walk (IteT K lo a) xs.length (fun H => SqT K H a xs) (YPair (fun i => some (.int (lo + (i : Nat)))) (fun i => xs[i]?)) := by
  refine ⟨fun i _ hi q => ⟨xs, xs[i], q, by simp [hi]⟩, fun _ q => ⟨xs, q, rfl⟩, fun i H v H' _ q y => ?_⟩
  obtain ⟨T, x, h1, h2, h3, h4⟩ := y
  exact ⟨T, .int (lo + (i : Nat)), x, h1, h2, h3, rfl, h4 xs q⟩
end Lar
namespace Lar
open PySem PySem.Spec PyProof.Rows L2
theorem kcr_all {X : Cx} (K : PySem.W.Frag) (hc : X.calm = true) (hK : X.K = K := by rfl) : CallR X (.builtin "all") (rAll K) := by subst hK; exact cr_all hc
def spHeld : Sp := fun vs H Q _ => ∃ (v : V) (b : Addr) (os : List Offer) (cs : List Int) (day : Int), vs = [v, .ref b, .int day] ∧ OffersAt H v os ∧ H b = some (.tup (cs.map V.int)) ∧ os.length = cs.length ∧ os.length ≤ 1000 ∧ (∀ o ∈ os, GoodOffer o) ∧
  ∀ H', Same H H' → Q (.int (heldOn os cs day)) H'
end Lar
/-! a set of texts that a comprehension fills, and its sorted members -/
namespace Lar
open PySem PySem.Spec PyProof.Rows L2
def txt (e : Int × Value) : Str := match e.2 with | .str x _ => x | _ => ""
def EntS (w : World) (e : Int × Value) : Prop := ∃ x u, e = (hashStr w x, Value.str x u)
/-- the set at a holds the texts ks, and can be walked -/
def SetS (w : World) (h : Heap) (a : Addr) (ks : List Str) : Prop := ∃ o es ep t, h.get? a = some o ∧ o.ExactSet ∧ o.data = .set es ep t ∧ (∀ e ∈ es.toList, EntS w e) ∧ (es.toList.map txt).Perm ks ∧ ks.Nodup ∧
  (es.size < scanBound ∧ t.fits es.size = true) ∧ Ris t.place.toList ∧ (w.params.followText "set-order" = true ∨ t.led = true)
def insS (ks : List Str) (k : Str) : List Str := if k ∈ ks then ks else ks ++ [k]
section
variable {P : Program} {w : World} {A : Around} {E : Value → Shared → Prop} {s : Shared} {a : Addr} {ks : List Str}
theorem SetS.stay {h h' : Heap} (R : SetS w h a ks) (k : ∀ o, h.get? a = some o → h'.get? a = some o) : SetS w h' a ks := by
  obtain ⟨o, es, ep, t, ho, r⟩ := R
  exact ⟨o, es, ep, t, k o ho, r⟩
theorem ents_elems {l : List (Int × Value)} (g : ∀ e ∈ l, EntS w e) : ElemsOf (strKind P w) l := fun e he => by
  obtain ⟨x, u, rfl⟩ := g e he
  exact ⟨⟨x, show (x == x) = true from beq_self_eq_true x, rfl⟩, rfl⟩
theorem ent_is {e : Int × Value} (g : EntS w e) (k : Str) : (strKind P w).is k e.2 = true ↔ txt e = k := by
  obtain ⟨x, u, rfl⟩ := g
  exact show (x == k) = true ↔ x = k from beq_iff_eq
theorem SetS.of {h : Heap} (R : SetS w h a ks) : h.SetOf (strKind P w) a (fun k => decide (k ∈ ks)) ks.length := by
  obtain ⟨o, es, ep, t, ho, hx, hd, g, pm, nd, ⟨hb, hf⟩, _⟩ := R
  refine ⟨o, es, ep, t, ho, hx, hd, ents_elems g, fun k => ?_, hb, hf, by rw [← pm.length_eq, List.length_map, Array.length_toList]⟩
  rw [decide_eq_true_eq, ← pm.mem_iff, List.mem_map]
  exact ⟨fun ⟨e, he, q⟩ => ⟨e, he, (ent_is (g e he) k).2 q⟩, fun ⟨e, he, q⟩ => ⟨e, he, (ent_is (g e he) k).1 q⟩⟩
/-- the tail of an add: the entries stored, the table laid anew where it is too full -/
theorem setS_tail {ks' : List Str} {og : Bool → Sem Unit} (hog : ∀ (b : Bool) (s₁ : Shared) (Q' : Unit → Shared → Prop), Q' () s₁ → wpAny (model P w) A (og b) Q' E s₁) {o : Obj} {es : Array (Int × Value)} {ep : Nat} {t : SetTable} (at0 : s.heap.get? a = some o) (ex0 : o.ExactSet) (da0 : o.data = .set es ep t)
    {ys : Array (Int × Value)} {tb : SetTable} (g : ∀ e ∈ ys.toList, EntS w e) (pm : (ys.toList.map txt).Perm ks') (nd : ks'.Nodup) (hb : ys.size < scanBound) (hf : tb.fits ys.size = true) (hr : Ris tb.place.toList) (hl : w.params.followText "set-order" = true ∨ tb.led = true) {wd : Bool} {R : Option Bool → Shared → Prop}
    (fin : ∀ h', Heap.SameBut a s.heap h' → SetS w h' a ks' → R (some true) { s with heap := h' }) :
    wpAny (model P w) A (do
      storeSet a ys tb
      if (!wd && tb.tooFull) = true then do
        og (relayAll tb ys (SetTable.grown ys.size)).2.2
        storeSet a (relayAll tb ys (SetTable.grown ys.size)).1 (relayAll tb ys (SetTable.grown ys.size)).2.1
        pure (some true)
      else pure (some true)) R E s := by
  have ls := store_at (es' := ys) (t' := tb) at0 da0
  have b1 := Heap.SameBut.update s.heap a (Obj.putSet ys tb)
  refine wpAny_bind (wpAny_storeSet_of at0 da0 ?_ (fits_of_scanBound hb))
  by_cases full : (!wd && tb.tooFull) = true
  · rw [if_pos full]
    have q1 := relayAll_perm tb ys (SetTable.grown ys.size); have q2 := relayAll_fits tb ys (SetTable.grown ys.size)
    have q3 := relayAll_ris tb ys (SetTable.grown ys.size); have q4 := relayAll_led tb ys (SetTable.grown ys.size)
    revert q1 q2 q3 q4
    generalize relayAll tb ys (SetTable.grown ys.size) = rl
    rcases rl with ⟨zs, tc, gv⟩
    intro q1 q2 q3 q4
    have q1 : zs.toList.Perm ys.toList := q1
    have zsz : zs.size < scanBound := by rw [← Array.length_toList, q1.length_eq, Array.length_toList]; exact hb
    refine wpAny_bind (hog _ _ _ (wpAny_bind (wpAny_storeSet_of ls rfl ?_ (fits_of_scanBound zsz))))
    refine wpAny_pure (fin _ (b1.trans (Heap.SameBut.update _ a _)) ⟨_, zs, _, tc, store_at ls rfl, ex0, rfl, fun e he => g e (q1.mem_iff.1 he), (q1.map txt).trans pm, nd, ⟨zsz, q2⟩, q3, ?_⟩)
    rcases hl with z | z
    · exact .inl z
    · exact .inr ((show tc.led = tb.led from q4).trans z)
  · rw [if_neg full]
    exact wpAny_pure (fin _ b1 ⟨_, ys, _, tb, ls, ex0, rfl, g, pm, nd, ⟨hb, hf⟩, hr, hl⟩)
theorem setS_hashed {k : Str} {u : Tok} {Q : Bool → Shared → Prop} (R : SetS w s.heap a ks) (room : ks.length + 1 < scanBound) (fin : ∀ (b : Bool) h', Heap.SameBut a s.heap h' → SetS w h' a (insS ks k) → Q b { s with heap := h' }) :
    wpAny (model P w) A (setAddHashed a (.str k u) ((strKind P w).hash k)) Q E s := by
  have R0 := R
  obtain ⟨o, es, ep, t, at0, ex0, da0, g, pm, nd, ⟨hb, hf⟩, hr, hl⟩ := R
  have el : ElemsOf (strKind P w) es.toList := ents_elems g
  have self : (strKind P w).is k (.str k u) = true := show (k == k) = true from beq_self_eq_true k
  (unfold setAddHashed setAddHashedIn; refine wpAny_holding (wpAny_bind (wpAny_setState_of at0 da0 hf ?_)); dsimp only)
  rw [byScan_of (show (Value.str k u).scannable = true from rfl) hb el, if_pos rfl]
  (unfold setAddByScan; refine wpAny_bind (wpAny_bind (wpAny_rule (wpAny_bind (wpAny_setScan_of self at0 da0 hf el ?_)))))
  cases hfi : List.findIdx? (fun e => (strKind P w).is k e.2) es.toList with
  | none =>
    -- not there
    have hnk : k ∉ ks := fun hk => by
      obtain ⟨e, he, q⟩ := List.mem_map.1 (pm.mem_iff.2 hk)
      have z := List.findIdx?_eq_none_iff.1 hfi e he
      rw [(ent_is (P := P) (g e he) k).2 q] at z
      cases z
    have p1 := layNew_perm t es ((strKind P w).hash k) (.str k u); have p2 := layNew_fits t es ((strKind P w).hash k) (.str k u)
    have p3 := layNew_ris t es ((strKind P w).hash k) (.str k u) hr; have p4 := layNew_led t es ((strKind P w).hash k) (.str k u)
    dsimp only
    revert p1 p2 p3 p4
    generalize layNew t es ((strKind P w).hash k) (.str k u) = ln
    rcases ln with ⟨ys, tb, wd, gv⟩
    intro p1 p2 p3 p4
    have p1 : ys.toList.Perm (es.toList ++ [((strKind P w).hash k, Value.str k u)]) := by rw [← Array.toList_push]; exact p1
    have gy : ∀ e ∈ ys.toList, EntS w e := fun e he => by
      rcases List.mem_append.1 (p1.mem_iff.1 he) with z | z
      · exact g e z
      · exact ⟨k, u, List.mem_singleton.1 z⟩
    have py : (ys.toList.map txt).Perm (ks ++ [k]) := by
      have z := p1.map txt
      rw [List.map_append] at z
      exact z.trans (pm.append_right _)
    have ndy : (ks ++ [k]).Nodup := nd_snoc nd hnk
    have szy : ys.size < scanBound := by
      have z := py.length_eq
      rw [List.length_map, Array.length_toList, List.length_append] at z
      rw [z]; exact room
    have ly : w.params.followText "set-order" = true ∨ tb.led = true := by
      rcases hl with z | z
      · exact .inl z
      · exact .inr ((show tb.led = t.led from p4).trans z)
    have fin' : ∀ h', Heap.SameBut a s.heap h' → SetS w h' a (ks ++ [k]) → Q true { s with heap := h' } := fun h' sb r => fin true h' sb (by unfold insS; rw [if_neg hnk]; exact r)
    have og : ∀ (b : Bool) (s₁ : Shared) (Q' : Unit → Shared → Prop), Q' () s₁ → wpAny (model P w) A (match b with | true => rule "set.scan.the-table-gave-way" | false => pure ()) Q' E s₁ := fun b s₁ Q' q => by
      cases b
      · exact wpAny_pure q
      · exact wpAny_rule q
    refine wpAny_bind (og _ _ _ ?_)
    by_cases pl : tb.plain = true
    · rw [if_pos pl]
      refine wpAny_bind ?_
      rw [hashByValue_scannable 8 (show (Value.str k u).scannable = true from rfl)]
      refine wpAny_pure (setS_tail (ks' := ks ++ [k]) og at0 ex0 da0 gy py ndy szy ?_ ?_ ?_ fun h' sb r => ?_)
      · first | exact p2 | (split <;> first | exact p2 | exact SetTable.fits_plain_off p2)
      · first | exact p3 | (split <;> exact p3)
      · first | exact ly | (split <;> exact ly)
      · exact wpAny_pure (fin' h' sb r)
    · rw [if_neg pl]
      refine wpAny_bind (wpAny_pure ?_)
      refine setS_tail (ks' := ks ++ [k]) og at0 ex0 da0 gy py ndy szy ?_ ?_ ?_ fun h' sb r => ?_
      · exact p2
      · exact p3
      · exact ly
      · exact wpAny_pure (fin' h' sb r)
  | some j =>
    -- there
    dsimp only
    obtain ⟨hj, pj, _⟩ := List.findIdx?_eq_some_iff_getElem.1 hfi
    have hk : k ∈ ks := pm.mem_iff.1 (List.mem_map.2 ⟨_, List.getElem_mem hj, (ent_is (P := P) (g _ (List.getElem_mem hj)) k).1 pj⟩)
    refine wpAny_pure (wpAny_pure (fin false s.heap (Heap.SameBut.refl a s.heap) ?_))
    unfold insS
    rw [if_pos hk]
    exact R0
theorem setS_add {k : Str} {u : Tok} {Q : Value → Shared → Prop} (R : SetS w s.heap a ks) (room : ks.length + 1 < scanBound) (fin : ∀ h', Heap.SameBut a s.heap h' → SetS w h' a (insS ks k) → Q .none { s with heap := h', toks := s.toks + 1 }) :
    wpAny (model P w) A (call (.builtin "set.add") [.ref a, .str k u]) Q E s := by
  refine wpAny_call_entry F.slot_set_add (SetS.of (P := P) R).typeIs F.entry_set_add ?_ (F.args_set_add_2 _ _)
  (unfold Builtin.«set.add» Builtin.Frozenset.oneOther; simp only [List.isEmpty_nil, bind_assoc]; unfold Builtin.Frozenset.addrOf setAdd)
  refine wpAny_bind (wpAny_pure ?_); try dsimp only
  refine wpAny_bind (wpAny_pure ?_); try dsimp only
  refine wpAny_bind (wpAny_holding (wpAny_bind ((strKind P w).pyHash (k := k) (beq_self_eq_true k) (setS_hashed (s := { s with toks := s.toks + 1 }) R room fun b h' sb r => ?_))))
  exact wpAny_pure ⟨_, rfl, fin h' sb r⟩
theorem setS_new {h : Heap} (w : World) : SetS w (h.push { cls := .type "set", dict := none, data := .set #[] 0 (.fresh 0 0 (!w.params.followText "set-order")) }) h.objs.size [] :=
  ⟨_, #[], 0, _, Heap.get?_push_size _ rfl, ⟨rfl, rfl, rfl⟩, rfl, fun e he => (nomatch he), List.Perm.nil, List.nodup_nil, ⟨by decide, rfl⟩, List.Pairwise.nil, by
    show _ ∨ (!w.params.followText "set-order") = true
    cases w.params.followText "set-order"
    · exact .inr rfl
    · exact .inl rfl⟩
end
end Lar
namespace Lar
open PySem PySem.Spec PyProof.Rows L2
/-! ### {elt for t0 in i0 for t1 in i1} -/
abbrev cSet (elt t0 i0 t1 i1 : Expr) (scope : Scope) (pos : Pos) : Expr := .SetComp elt [⟨t0, i0, [], 0⟩, ⟨t1, i1, [], 0⟩] scope pos
theorem turn_first (elt t0 i0 t1 i1 : Expr) (scope : Scope) (pos : Pos) (it acc : Value) (env : Env) : compTurn (cSet elt t0 i0 t1 i1 scope pos) 0 it acc env = (do
    standAt i0.pos
    let r ← pyNext it
    match r with
    | none => pure (.done .next)
    | some v => do
      letOwnedTupleGo t0 it v
      assign t0 env v
      let x ← eval i1 env
      standAt i1.pos
      let x ← foldedSetIterable i1 env x
      let z ← holding [x] (pyIter x)
      let _ ← runOwn (.compStart (cSet elt t0 i0 t1 i1 scope pos) 1 z acc env) env
      again (.compLoop (cSet elt t0 i0 t1 i1 scope pos) 0 it acc env)) := by rfl
theorem turn_second (elt t0 i0 t1 i1 : Expr) (scope : Scope) (pos : Pos) (it acc : Value) (env : Env) : compTurn (cSet elt t0 i0 t1 i1 scope pos) 1 it acc env = (do
    standAt i1.pos
    let r ← pyNext it
    match r with
    | none => pure (.done .next)
    | some v => do
      letOwnedTupleGo t1 it v
      assign t1 env v
      (do let x ← eval elt env
          standAt elt.pos
          let _ ← call (.builtin "set.add") [acc, x]
          pure ())
      again (.compLoop (cSet elt t0 i0 t1 i1 scope pos) 1 it acc env)) := by rfl
section
variable {prog : Program} {w : World} {A : Around} {R : Result → Shared → Prop} {s : Shared} {elt t0 i0 t1 i1 : Expr} {scope : Scope} {pos : Pos} {it acc : Value} {env : Env}
/-- the loop of the first clause, by what stands at its head -/
theorem first_loop (hf : ∀ x, foldedSetIterable i1 env x = pure x) (Hd : Nat → Shared → Prop) (turn : ∀ n s, Hd n s → wpAny (model prog w) A (pyNext it) (fun r s1 => match r with
    | none => R (.ok .next) s1
    | some v => wpAny (model prog w) A (letOwnedTupleGo t0 it v) (fun _ s2 => wpAny (model prog w) A (assign t0 env v) (fun _ s3 => wpAny (model prog w) A (eval i1 env) (fun x s4 => wpAny (model prog w) A (pyIter x) (fun z s5 =>
        codeAny (model prog w) A (.compStart (cSet elt t0 i0 t1 i1 scope pos) 1 z acc env) (fun r s' => match r with | .ok _ => ∃ m, m < n ∧ Hd m s' | .error _ => False) s5) (fun _ _ => False) s4) (fun _ _ => False) s3) (fun _ _ => False) s2) (fun _ _ => False) s1) (fun _ _ => False) s)
    (n : Nat) (h : Hd n s) : codeAny (model prog w) A (.compLoop (cSet elt t0 i0 t1 i1 scope pos) 0 it acc env) R s := by
  refine codeAny_loop rfl Hd (fun n s hd => ?_) n h
  show wpAny _ A ((compTurn (cSet elt t0 i0 t1 i1 scope pos) 0 it acc env).onRaise (fun x => do noteFrame x env; theTreesLotGoes x)) _ _ s
  refine wpAny_noted ?_
  rw [turn_first]
  refine wpAny_bind (wpAny_standAt (wpAny_bind (thnF (turn n s hd) fun r s1 h1 => ?_)))
  rcases r with _ | v
  · exact wpAny_pure h1
  refine wpAny_bind (thnF h1 fun _ s2 h2 => wpAny_bind (thnF h2 fun _ s3 h3 => wpAny_bind (thnF h3 fun x s4 h4 => ?_)))
  refine wpAny_bind (wpAny_standAt (wpAny_bind (wpAny_of_eq (hf x) (wpAny_bind (wpAny_holding (thnF h4 fun z s5 h5 => ?_))))))
  refine wpAny_bind (wpAny_runOwn ?_)
  rw [Around.mark_none]
  refine codeAny_mono h5 fun r s' hr => ?_
  rcases r with f | e
  · first
      | exact wpAny_pure ⟨rfl, hr⟩
      | exact hr.elim
  · first
      | exact wpAny_pure ⟨rfl, hr⟩
      | exact hr.elim
/-- the loop of the second one -/
theorem second_loop (Hd : Nat → Shared → Prop) (turn : ∀ n s, Hd n s → wpAny (model prog w) A (pyNext it) (fun r s1 => match r with
    | none => R (.ok .next) s1
    | some v => wpAny (model prog w) A (letOwnedTupleGo t1 it v) (fun _ s2 => wpAny (model prog w) A (assign t1 env v) (fun _ s3 => wpAny (model prog w) A (eval elt env) (fun x s4 =>
        wpAny (model prog w) A (call (.builtin "set.add") [acc, x]) (fun _ s5 => ∃ m, m < n ∧ Hd m s5) (fun _ _ => False) s4) (fun _ _ => False) s3) (fun _ _ => False) s2) (fun _ _ => False) s1) (fun _ _ => False) s)
    (n : Nat) (h : Hd n s) : codeAny (model prog w) A (.compLoop (cSet elt t0 i0 t1 i1 scope pos) 1 it acc env) R s := by
  refine codeAny_loop rfl Hd (fun n s hd => ?_) n h
  show wpAny _ A ((compTurn (cSet elt t0 i0 t1 i1 scope pos) 1 it acc env).onRaise (fun x => do noteFrame x env; theTreesLotGoes x)) _ _ s
  refine wpAny_noted ?_
  rw [turn_second]
  refine wpAny_bind (wpAny_standAt (wpAny_bind (thnF (turn n s hd) fun r s1 h1 => ?_)))
  rcases r with _ | v
  · exact wpAny_pure h1
  refine wpAny_bind (thnF h1 fun _ s2 h2 => wpAny_bind (thnF h2 fun _ s3 h3 => wpAny_bind (wpAny_bind (thnF h3 fun x s4 h4 => ?_))))
  exact wpAny_bind (wpAny_standAt (wpAny_bind (thnF h4 fun _ s5 h5 => wpAny_pure (wpAny_pure ⟨rfl, h5⟩))))
/-- how a clause's loop starts: with its iterator, or with the iterator's own iter -/
theorem clause_start {k : Nat} (hk : k = 0 ∨ k = 1) (h0 : codeAny (model prog w) A (.compLoop (cSet elt t0 i0 t1 i1 scope pos) k it acc env) R s)
    (h : wpAny (model prog w) A (pyIter it) (fun it' s' => codeAny (model prog w) A (.compLoop (cSet elt t0 i0 t1 i1 scope pos) k it' acc env) R s') (notedBy (model prog w) A env fun x s' => R (.error x) s') s) :
    codeAny (model prog w) A (.compStart (cSet elt t0 i0 t1 i1 scope pos) k it acc env) R s := by
  refine codeAny_of_tree ?_
  show wpAny _ _ ((compStart (cSet elt t0 i0 t1 i1 scope pos) k it acc env).onRaise (fun x => do noteFrame x env; standAt theWindowsPlace)) _ _ s
  refine wpAny_notedAt ?_
  rcases hk with rfl | rfl <;>
  · unfold compStart
    show wpAny _ _ (ask >>= _) _ _ s
    refine wpAny_bind (wpAny_askSetting (wpAny_ite ?_))
    split
    · first
        | exact wpAny_pure (And.intro rfl h0)
        | exact wpAny_bind (wpAny_pure (wpAny_pure (And.intro rfl h0)))
    · refine wpAny_bind (wpAny_rule ?_)
      first
        | exact wpAny_bind (wpAny_standAt (wpAny_bind (wpAny_mono h (fun it' s' h' => wpAny_pure (And.intro rfl h')) fun _ _ x => x)))
        | (show wpAny _ _ (standAt _ >>= _) _ _ s; exact wpAny_bind (wpAny_standAt (wpAny_bind (wpAny_mono h (fun it' s' h' => wpAny_pure (And.intro rfl h')) fun _ _ x => x))))
end
/-! ### as an expression -/
def SetSO (w : World) (a : Addr) (ks : List Str) : HO := .ext fun h => SetS w h a ks
theorem setSO_ok {w : World} {P : Program} {H : Hp} {h : Heap} {a : Addr} {ks : List Str} (R : SetS w h a ks) : ObjOk P w H h a (SetSO w a ks) := by
  have ⟨o, _, _, _, ho, _⟩ := R
  exact ⟨R, ⟨o, ho⟩, fun h1 h2 p k => p.stay k⟩
section
variable {X : Cx}
theorem setSO_at {pins : List (Addr × Obj)} {σ : L2.St} {H : Hp} {s : Shared} {a : Addr} {ks : List Str} (I : Inv X pins σ H s) (ha : H a = some (SetSO X.w a ks)) : SetS X.w s.heap a ks := (I.hok a _ ha).1
theorem setSO_add {pins : List (Addr × Obj)} {σ : L2.St} {H : Hp} {s : Shared} {E : Value → Shared → Prop} {D : Addr} {ks : List Str} {z : Str} {u : Value} {Q : Value → Shared → Prop} (I : Inv X pins σ H s) (rz : RelV (.str z) u) (hD : H D = some (SetSO X.w D ks)) (room : ks.length + 1 < scanBound)
    (h : ∀ s', Inv X pins σ (upd H D (SetSO X.w D (insS ks z))) s' → Q .none s') : wpAny (model X.prog X.w) X.A (call (.builtin "set.add") [.ref D, u]) Q E s := by
  obtain ⟨tk, rfl⟩ := rz
  refine setS_add (setSO_at I hD) room fun h' sb new => h _ ?_
  have ⟨o, _, _, _, ho, _⟩ := new
  exact I.write (e := D) (t' := s.toks + 1) (by rw [hD]; trivial) (.inl rfl) (fun b u hb hu => (sb.2 b hb).trans hu) ⟨o, ho⟩ (setSO_ok new)
/-- {elt for t0 in i0 for t1 in i1}, elt a text: D the new set, ks its members in the order in which they came -/
def tScS (w : World) (wi : TI) (g : TG) (wi1 : TI) (g1 : TG) (te : TE) (vs vs1 : List Nat) : TE := fun σ H Q => wi σ H fun J H1 => ∀ D, H1 D = none → ∃ W : Nat → Nat → Hp → Prop, (∃ m, W 0 m (upd H1 D (SetSO w D []))) ∧ ∀ i m H, W i m H →
  (J.stop i H ∧ Q (.ref D) H) ∨ (J.go i H ∧ ∃ Nx : Hp → Prop, (∀ H', Nx H' → ∃ m', m' < m ∧ W (i + 1) m' H') ∧ ∀ x H', J.yld i H x H' → g x (wipe σ vs) H' fun σ2 H2 => wipe σ2 vs = wipe σ vs ∧ wi1 σ2 H2 fun J1 H3 => ∃ W1 : Nat → Nat → Hp → Prop, (∃ m, W1 0 m H3) ∧ ∀ j k H, W1 j k H →
    (J1.stop j H ∧ Nx H) ∨ (J1.go j H ∧ ∃ Nx1 : Hp → Prop, (∀ H', Nx1 H' → ∃ k', k' < k ∧ W1 (j + 1) k' H') ∧ ∀ x H', J1.yld j H x H' → g1 x (wipe σ2 vs1) H' fun σ3 H4 => wipe σ3 vs1 = wipe σ2 vs1 ∧
      te σ3 H4 fun y H5 => ∃ (z : Str) (ks : List Str), y = .str z ∧ H5 D = some (SetSO w D ks) ∧ ks.length + 1 < scanBound ∧ Nx1 (upd H5 D (SetSO w D (insS ks z)))))
theorem pe_scS {elt t0 i0 t1 i1 : Expr} {scope : Scope} {own : List (Str × Nat)} {vs1 : List Nat} {pos : Pos} {wi wi1 : TI} {g g1 : TG} {te : TE} (hc : X.calm = true) (hN : X.N.Nodup) (hi : PI X t0 i0 wi) (ok : BlkOk X.N X.env.scope scope own) (hv : ∀ i ∈ vs1, i ∈ own.map (·.2))
    (hg : ∀ (s : Shared) (H : Hp) (C : Addr) (cl : List (Str × Addr)) (fp : List Addr), PG (X.blk s H scope (compEnvC scope cl C X.env) fp) t0 g)
    (hi1 : ∀ (s : Shared) (H : Hp) (C : Addr) (cl : List (Str × Addr)) (fp : List Addr), PI (X.blk s H scope (compEnvC scope cl C X.env) fp) t1 i1 wi1)
    (hg1 : ∀ (s : Shared) (H : Hp) (C : Addr) (cl : List (Str × Addr)) (fp : List Addr), PG (X.blk s H scope (compEnvC scope cl C X.env) fp) t1 g1)
    (he : ∀ (s : Shared) (H : Hp) (C : Addr) (cl : List (Str × Addr)) (fp : List Addr), PE (X.blk s H scope (compEnvC scope cl C X.env) fp) elt te)
    (hf : ∀ x, foldedSetIterable i0 X.env x = pure x := by intro _; rfl) (hf1 : ∀ env x, foldedSetIterable i1 env x = pure x := by intro _ _; rfl) :
    PE X (cSet elt t0 i0 t1 i1 scope pos) (tScS X.w wi g wi1 g1 te (own.map (·.2)) vs1) := by
  refine ⟨fun pins s σ H Q I h => ?_⟩
  rw [PpSet.eval_SetComp]
  have cells : ∀ y ∈ scope.names, y.2 = .free → ∃ c, X.env.cells.lookup y.1 = some c := fun y hy e => (ok.free y hy e).elim (fun k => I.ok.has _ (.inl k)) fun k => I.ok.has _ (.inr k)
  refine wpAny_comprehension_free (use := none) rfl hf (closure_ok cells) ok.kind (fun y hy e => (ok.uniq y hy).trans (congrArg some e)) (thn (hi.run pins s σ H _ I h) fun xv sa hx => thn hx fun itv sb hb => ?_)
  obtain ⟨it, fp, tn, J, Hb, rfl, Ib, T, stb, fb, q⟩ := hb
  refine PpSet.newSet_ok (newEnv_comp ?_)
  -- the new set, at D
  obtain ⟨D, hD⟩ : ∃ D, D = sb.heap.objs.size := ⟨_, rfl⟩
  obtain ⟨sc, hsc⟩ : ∃ sc : Shared, sc = { sb with heap := sb.heap.push { cls := .type "set", dict := none, data := .set #[] 0 (.fresh 0 0 (!X.w.params.followText "set-order")) } } := ⟨_, rfl⟩
  have hsh : sc.heap = sb.heap.push { cls := .type "set", dict := none, data := .set #[] 0 (.fresh 0 0 (!X.w.params.followText "set-order")) } := congrArg Shared.heap hsc
  have olds : ∀ b o, sb.heap.get? b = some o → sc.heap.get? b = some o := fun b o e => by rw [hsh]; exact Heap.get?_push_of_some _ e
  rw [← hD]
  obtain ⟨W, ⟨m0, w0⟩, turn⟩ := q D (Ib.hok.fresh (Nat.le_of_eq hD.symm))
  have Ic : Inv X pins σ (upd Hb D (SetSO X.w D [])) sc := by
    rw [hsc]
    refine Ib.laid (t' := sb.toks) (fun b o e => Heap.get?_push_of_some _ e) (Nat.le_of_eq hD.symm) ?_
    rw [hD]
    exact setSO_ok (setS_new X.w)
  obtain ⟨Hc, hHc⟩ : ∃ Hc, Hc = upd Hb D (SetSO X.w D []) := ⟨_, rfl⟩
  rw [← hHc] at Ic w0
  have below : ∀ b ∈ fp, b < sb.heap.objs.size := fun b hb => let ⟨o, e, _⟩ := T.obj _ _ stb b hb; Heap.lt_size e
  have fc : ∀ b ∈ fp, FpOk X pins Hc b ∧ b < sc.heap.objs.size := fun b hb => by
    refine ⟨⟨?_, (fb b hb).2⟩, ?_⟩
    · rw [hHc, upd_ne (Nat.ne_of_lt (hD ▸ below b hb))]
      exact (fb b hb).1
    · rw [hsh, Heap.size_push]
      exact Nat.lt_succ_of_lt (below b hb)
  have stc : tn 0 sc.heap := T.keep _ _ _ stb fun b _ o e => olds b o e
  have Id := block_start Ic ok hN fc
  obtain ⟨ce, hce⟩ : ∃ ce, ce = compEnvC scope (cellsFrom (sc.heap.objs.size + 1) scope.names (cloFrom X.env.cells scope.names [])) sc.heap.objs.size X.env := ⟨_, rfl⟩
  have pg : PG (X.blk sc Hc scope ce fp) t0 g := hce ▸ hg sc Hc _ _ fp
  have pi1 : PI (X.blk sc Hc scope ce fp) t1 i1 wi1 := hce ▸ hi1 sc Hc _ _ fp
  have pg1 : PG (X.blk sc Hc scope ce fp) t1 g1 := hce ▸ hg1 sc Hc _ _ fp
  have pe : PE (X.blk sc Hc scope ce fp) elt te := hce ▸ he sc Hc _ _ fp
  have cL : ce.locals = sc.heap.objs.size := by rw [hce]; rfl
  obtain ⟨sd, hsd⟩ : ∃ sd : Shared, sd = { sc with heap := pushCells (sc.heap.push { cls := .type "dict", data := .dict #[] }) scope.names } := ⟨_, rfl⟩
  have Id : Inv (X.blk sc Hc scope ce fp) [] (wipe σ (own.map (·.2))) Hc sd := by rw [hsd, hce]; exact Id
  have std : tn 0 sd.heap := T.keep _ _ _ stc fun b _ o e => by rw [hsd]; exact pushCells_keeps _ _ _ _ (Heap.get?_push_of_some _ e)
  have calmB : (X.blk sc Hc scope ce fp).calm = true := hc
  have stand : ∀ {σ' : L2.St} {H' : Hp} {s' : Shared}, Inv (X.blk sc Hc scope ce fp) [] σ' H' s' → (∀ b ∈ fp, H' b = none) → ∀ b ∈ fp, FpOk (X.blk sc Hc scope ce fp) [] H' b := fun {σ' H' s'} I' hn b hb =>
    ⟨hn b hb, (I'.ok.exf b hb).1, I'.ok.exfs b hb, .inl hb, fun x c e => (I'.ok.exf b hb).2 x c e, fun p hp => (nomatch (show p ∈ ([] : List (Addr × Obj)) from hp))⟩
  -- the head of the first loop
  let Hd0 : Nat → Shared → Prop := fun n s' => ∃ i H', Inv (X.blk sc Hc scope ce fp) [] (wipe σ (own.map (·.2))) H' s' ∧ tn i s'.heap ∧ (∀ b ∈ fp, H' b = none) ∧ W i n H'
  have run : codeAny (model X.prog X.w) X.A (.compLoop (cSet elt t0 i0 t1 i1 scope pos) 0 (.ref it) (.ref D) ce) (compPost (model X.prog X.w) X.A X.xe none (EP X pins σ Q) (.ref D) sc.heap.objs.size) sd := by
    refine first_loop (hf1 ce) Hd0 ?_ m0 ⟨0, Hc, Id, std, fun b hb => (fc b hb).1.1, w0⟩
    rintro n se ⟨i, He, Ie, ste, ne, we⟩
    rcases turn i n He we with ⟨stop, qd⟩ | ⟨go, Nx, hNx, step⟩
    · refine thnF (T.done (X.blk sc Hc scope ce fp) rfl rfl rfl calmB i [] se _ He (fun _ _ => False) Ie (stand Ie ne) ste stop) fun r sf ⟨hr, If⟩ => ?_
      subst hr
      have Ig : Inv X pins σ He sf := Ic.call' (ch := fp) If.os If.base If.hok If.bare fun b hb => let z := (fc b hb).1.2; ⟨z.2.2.1, z.1, z.2.2.2.1, z.2.2.2.2⟩
      have nC : He sc.heap.objs.size = none := cL ▸ (show He ce.locals = none from If.free)
      obtain ⟨m, hm, _⟩ := If.loc
      have hm : sf.heap.Ns sc.heap.objs.size m := cL ▸ (show sf.heap.Ns ce.locals m from hm)
      obtain ⟨f0, f1, f2, f3, f4, f5⟩ := Ic.fpOk (Nat.le_refl _) nC
      exact ⟨m, hm, fun h'' sb' => ⟨.ref D, He, Ig.turned (t' := sf.toks) (fun b o hb e => (sb'.2 b hb).trans e) f0 f1 f3 f4 f5, rfl, qd⟩⟩
    · refine thnF (T.item (X.blk sc Hc scope ce fp) rfl rfl rfl calmB i [] se _ He (fun _ _ => False) Ie (stand Ie ne) ste go) fun r sf ⟨u, hr, hf'⟩ => ?_
      subst hr
      refine thnF hf' fun _ sg ⟨x, Hg, Ig, rg, yg, stg, ng⟩ => ?_
      refine thnF (pg.run _ sg _ Hg x u _ (Ig.pinned (stand Ig ng) (T.obj _ _ stg)) rg (step x Hg yg)) fun _ sh ⟨σh, Hh, Ih, hwh, qh⟩ => ?_
      -- what holds where a turn of the first loop has ended
      have back : ∀ {σ' : L2.St} {s' : Shared} {H' : Hp}, Inv (X.blk sc Hc scope ce fp) ([] ++ pinsAt fp sg.heap) σ' H' s' → σ'.length = σh.length → (∀ (j : Nat) v, (wipe σ (own.map (·.2)))[j]? = some (some v) → σ'[j]? = some (some v)) → Nx H' → ∃ m, m < n ∧ Hd0 m s' := fun {σ' s' H'} I' hl hk nx => by
        obtain ⟨m', hm, w'⟩ := hNx H' nx
        have keptP : ∀ b ∈ fp, ∀ o, sg.heap.get? b = some o → s'.heap.get? b = some o ∧ H' b = none := fun b hb o e => let z := I'.pin (b, o) (List.mem_append_right _ (List.mem_append_right _ (mem_pinsAt hb e))); ⟨z.1, z.2.1⟩
        refine ⟨m', hm, i + 1, H', (I'.unpinned (pins := [])).weak (by rw [hl, ← hwh, wipe_length]) hk, T.keep _ _ _ stg fun b hb o e => (keptP b hb o e).1, fun b hb => ?_, w'⟩
        obtain ⟨o, e, _⟩ := T.obj _ _ stg b hb
        exact (keptP b hb o e).2
      refine thnF (pi1.run _ sh σh Hh _ Ih qh) fun xv si hx => thnF hx fun itv sj hj => ?_
      obtain ⟨it1, fp1, tn1, J1, Hj, rfl, Ij, T1, stj, fj, W1, ⟨m1, w1⟩, turn1⟩ := hj
      have stand1 : ∀ {H' : Hp}, (∀ b ∈ fp1, H' b = none) → ∀ b ∈ fp1, FpOk (X.blk sc Hc scope ce fp) ([] ++ pinsAt fp sg.heap) H' b := fun hn b hb => ⟨hn b hb, (fj b hb).2⟩
      let Hd1 : Nat → Shared → Prop := fun k s' => ∃ j H', Inv (X.blk sc Hc scope ce fp) ([] ++ pinsAt fp sg.heap) (wipe σh vs1) H' s' ∧ tn1 j s'.heap ∧ (∀ b ∈ fp1, H' b = none) ∧ W1 j k H'
      have run1 : codeAny (model X.prog X.w) X.A (.compLoop (cSet elt t0 i0 t1 i1 scope pos) 1 (.ref it1) (.ref D) ce) (fun r s' => match r with | .ok _ => ∃ m, m < n ∧ Hd0 m s' | .error _ => False) sj := by
        refine second_loop Hd1 ?_ m1 ⟨0, Hj, Ij.weak (wipe_length _ _) (fun j v e => (wipe_some e).1), stj, fun b hb => (fj b hb).1, w1⟩
        rintro k sk ⟨j, Hk, Ik, stk, nk, wk⟩
        rcases turn1 j k Hk wk with ⟨stop1, nx1⟩ | ⟨go1, Nx1, hNx1, step1⟩
        · refine thnF (T1.done (X.blk sc Hc scope ce fp) rfl rfl rfl calmB j _ sk (wipe σh vs1) Hk (fun _ _ => False) Ik (stand1 nk) stk stop1) fun r sl ⟨hr, Il⟩ => ?_
          subst hr
          refine back Il (wipe_length σh vs1) (fun j v e => ?_) nx1
          rw [← hwh] at e
          obtain ⟨e1, e2⟩ := wipe_some e
          rw [wipe_out fun z => e2 (hv j z)]
          exact e1
        · refine thnF (T1.item (X.blk sc Hc scope ce fp) rfl rfl rfl calmB j _ sk (wipe σh vs1) Hk (fun _ _ => False) Ik (stand1 nk) stk go1) fun r sl ⟨u1, hr, hl'⟩ => ?_
          subst hr
          refine thnF hl' fun _ sm ⟨x1, Hm, Im, rm, ym, stm, nm⟩ => ?_
          refine thnF (pg1.run _ sm (wipe σh vs1) Hm x1 u1 _ (Im.pinned (stand1 nm) (T1.obj _ _ stm)) rm (step1 x1 Hm ym)) fun _ sn ⟨σn, Hn, In, hwn, qn⟩ => ?_
          refine thnF (pe.run _ sn σn Hn _ In qn) fun zv so ⟨yv, Ho, Io, ro, z, ks, ey, hDo, room, nx⟩ => ?_
          subst ey
          refine setSO_add (X := X.blk sc Hc scope ce fp) Io ro hDo room fun sp Ip => ?_
          obtain ⟨m', hm, w'⟩ := hNx1 _ nx
          have keptQ : ∀ b ∈ fp1, ∀ o, sm.heap.get? b = some o → sp.heap.get? b = some o ∧ (upd Ho D (SetSO X.w D (insS ks z))) b = none := fun b hb o e => let z := Ip.pin (b, o) (List.mem_append_right _ (List.mem_append_right _ (mem_pinsAt hb e))); ⟨z.1, z.2.1⟩
          refine ⟨m', hm, j + 1, _, Ip.unpinned.weak (by rw [← hwn, wipe_length]) (fun j v e => by rw [← hwn] at e; exact (wipe_some e).1), T1.keep _ _ _ stm fun b hb o e => (keptQ b hb o e).1, fun b hb => ?_, w'⟩
          obtain ⟨o, e, _⟩ := T1.obj _ _ stm b hb
          exact (keptQ b hb o e).2
      exact clause_start (.inr rfl) run1 (T1.self X.A 0 _ _ _ stj run1)
  have fine := clause_start (.inl rfl) run (T.self X.A 0 _ _ _ std run)
  rw [hsd, hce, hsc] at fine
  exact fine
end
/-! ### sorted of such a set -/
def tv (v : Value) : Str := match v with | .str x _ => x | _ => ""
theorem strs_all : ∀ (l : List Value), (∀ v ∈ l, ∃ x u, v = Value.str x u) → StrsAre l (l.map tv)
  | [], _ => .nil
  | v :: r, h => by
    obtain ⟨x, u, rfl⟩ := h v List.mem_cons_self
    exact .cons x u (strs_all r fun z hz => h z (List.mem_cons_of_mem _ hz))
def rSortedSet (w : World) : List V → Hp → VK → Prop := fun vs H Q => ∃ (a : Addr) (ks : List Str), vs = [V.ref a] ∧ H a = some (SetSO w a ks) ∧ ks.length < 64 ∧ ∀ (ys : List Str) (p : Addr), ys.Perm ks → sortedS ys = true → H p = none → Q (.ref p) (upd H p (.lst (ys.map V.str)))
theorem cr_sortedSetS {X : Cx} (hc : X.calm = true) : CallR X (.builtin "sorted") (rSortedSet X.w) := by
  intro pins s σ H vs us Q I r h
  obtain ⟨a, ks, rfl, ha, h64, q⟩ := h
  obtain ⟨o, es, ep, t, ho, hx, hd, g, pm, nd, ⟨hb, hf⟩, hr, hl⟩ := setSO_at I ha
  rw [Vals.ref1 r]
  refine Calls.call_function_entry kind_sorted plain_sorted entry_sorted (args_sorted1 _) ?_
  (unfold Builtin.«sorted»; refine wpAny_bind (m := checkCount "sorted" 1 1 _) (wpAny_pure ?_))
  refine wpAny_bind (collect_set (A := X.A.in1) (I.ok.hd hc) ⟨o, ho, hx.1, hd⟩ hf hb hr hl fun s1 out kp gr g1 o1 pm1 => ?_)
  have pk : (out.map tv).Perm ks := by
    have z := pm1.map tv
    rw [List.map_map] at z
    exact z.trans pm
  have len : out.length = ks.length := by rw [← pk.length_eq, List.length_map]
  have hS : StrsAre out (out.map tv) := strs_all out fun v hv => by
    obtain ⟨e, he, q⟩ := List.mem_map.1 (pm1.mem_iff.1 hv)
    obtain ⟨x, u, rfl⟩ := g e he
    exact ⟨x, u, q.symm⟩
  have I1 : Inv X pins σ H { s with heap := s1.heap, gens := s1.gens, drawn := s1.drawn, toks := s1.toks } := I.call (ch := []) (Un.kept kp) (I.hok.kept kp) (g1 ▸ I.bare) (fun _ z => nomatch z)
  have es1 : s1 = { s with heap := s1.heap, gens := s1.gens, drawn := s1.drawn, toks := s1.toks } := by
    rcases s1 with ⟨_, _, _, _, _⟩
    rcases s with ⟨_, _, _, _, _⟩
    cases o1
    rfl
  rw [← es1] at I1
  refine wpAny_bind (wpAny_newList ?_ (small64 (len ▸ h64)))
  have new : (s1.heap.push (seqObj "list" out.toArray 0)).get? s1.heap.objs.size = some (seqObj "list" out.toArray 0) := Heap.get?_push_size _ rfl
  refine wpAny_bind (wpAny_holding (wpAny_call_entry slot_list_sort ⟨_, new, rfl⟩ entry_list_sort (list_sort_treeK strKind_oneLt (s := { s1 with heap := s1.heap.push (seqObj "list" out.toArray 0) }) new hS.keysOf (fun v1 v2 rest e => keyKind_strs (e ▸ hS)) (len ▸ h64) fun st' hp hs => ⟨_, rfl, ?_⟩) (args_list_sort _)))
  obtain ⟨ys, w1, w2, w3⟩ := sorted_out_str hS hp hs
  obtain ⟨c, hc'⟩ := sortedHeap_at (vs := out) (out := (arrOf st').map (·.2)) new
  have small : (ys.map V.str).length ≤ sizeLine := by rw [List.length_map, w2.length_eq, List.length_map]; exact small64 (len ▸ h64)
  refine wpAny_pure ⟨_, rfl, .ref s1.heap.objs.size, upd H s1.heap.objs.size (.lst (ys.map V.str)), I1.laid (t' := s1.toks) (fun b u e => ?_) (Nat.le_refl _) (show ObjOk X.prog X.w _ _ _ (.lst (ys.map V.str)) from ⟨small, ((arrOf st').map (·.2)).toList, c, vals_of_strs w1, by rw [Array.toArray_toList]; exact hc'⟩), rfl, q ys _ (w2.trans pk) w3 (I1.hok.fresh (Nat.le_refl _))⟩
  have hlt : b < s1.heap.objs.size := Heap.lt_size e
  rw [sortedHeap_old (Nat.ne_of_lt hlt) (by rw [size_push']; exact Nat.lt_succ_of_lt hlt)]
  exact Heap.get?_push_of_some _ e
end Lar
namespace Lar
open PySem PySem.Spec PyProof.Rows L2
/-! ### the order of texts -/
def leS (x y : Str) : Prop := ltCps y.cps.toList x.cps.toList = false
theorem lt_asym : ∀ {a b : List Nat}, ltCps a b = false → ltCps b a = false → a = b
  | [], [], _, _ => rfl
  | [], _ :: _, h, _ => by cases h
  | _ :: _, [], _, h => by cases h
  | x :: a, y :: b, h1, h2 => by
    unfold ltCps at h1 h2
    rw [Bool.or_eq_false_iff] at h1 h2
    have e : x = y := by
      have z1 := of_decide_eq_false h1.1
      have z2 := of_decide_eq_false h2.1
      omega
    subst e
    have q1 := h1.2
    have q2 := h2.2
    rw [beq_self_eq_true, Bool.true_and] at q1 q2
    rw [lt_asym q1 q2]
theorem lt_trans : ∀ {a b c : List Nat}, ltCps b a = false → ltCps c b = false → ltCps c a = false
  | [], b, [], _, _ => rfl
  | [], [], _ :: _, _, h => h
  | [], _ :: _, _ :: _, _, _ => rfl
  | _ :: _, [], c, h, _ => by cases h
  | _ :: _, _ :: _, [], _, h => by cases h
  | x :: a, y :: b, z :: c, h1, h2 => by
    unfold ltCps at h1 h2 ⊢
    rw [Bool.or_eq_false_iff] at h1 h2 ⊢
    have z1 := of_decide_eq_false h1.1
    have z2 := of_decide_eq_false h2.1
    refine ⟨decide_eq_false (by omega), ?_⟩
    by_cases e : z = x
    · subst e
      have e2 : y = z := by omega
      subst e2
      have q1 := h1.2
      have q2 := h2.2
      rw [beq_self_eq_true, Bool.true_and] at q1 q2
      rw [beq_self_eq_true, Bool.true_and]
      exact lt_trans q1 q2
    · rw [beq_eq_false_iff_ne.mpr e]; rfl
theorem rising_all : ∀ (p : Str) (l : List Str), risingS p l = true → (∀ x ∈ l, leS p x) ∧ l.Pairwise leS
  | _, [], _ => ⟨fun _ h => (nomatch h), List.Pairwise.nil⟩
  | p, x :: r, h => by
    unfold risingS at h
    rw [Bool.and_eq_true] at h
    have hx : leS p x := by
      have z := h.1
      unfold leS
      cases q : ltCps x.cps.toList p.cps.toList with
      | false => rfl
      | true => rw [q] at z; cases z
    obtain ⟨h1, h2⟩ := rising_all x r h.2
    refine ⟨fun y hy => ?_, List.pairwise_cons.mpr ⟨h1, h2⟩⟩
    rcases List.mem_cons.mp hy with z | z
    · rw [z]; exact hx
    · exact lt_trans hx (h1 y z)
theorem sortedS_all : ∀ {l : List Str}, sortedS l = true → l.Pairwise leS
  | [], _ => List.Pairwise.nil
  | x :: r, h => let ⟨h1, h2⟩ := rising_all x r h; List.pairwise_cons.mpr ⟨h1, h2⟩
theorem sorted_one {xs ys zs : List Str} (h1 : xs.Perm zs) (h2 : ys.Perm zs) (s1 : sortedS xs = true) (s2 : sortedS ys = true) : xs = ys := by
  refine List.Perm.eq_of_pairwise (le := leS) (fun a b _ _ h1 h2 => ?_) (sortedS_all s1) (sortedS_all s2) (h1.trans h2.symm)
  have e := lt_asym h2 h1
  have e2 : a.cps = b.cps := Array.toList_inj.mp e
  cases a; cases b
  cases e2
  rfl
/-! ### the names of some dishes, in the order in which they come -/
def allS (ds : List Dish) : List Str := ds.flatMap fun d => d.2.map (·.1)
def insAll (ks : List Str) (xs : List Str) : List Str := xs.foldl insS ks
def namesOf (ds : List Dish) : List Str := insAll [] (allS ds)
theorem insS_nodup {ks : List Str} {k : Str} (h : ks.Nodup) : (insS ks k).Nodup := by
  unfold insS
  split
  · exact h
  · exact nd_snoc h (by assumption)
theorem insS_mem {ks : List Str} {k x : Str} : x ∈ insS ks k ↔ x ∈ ks ∨ x = k := by
  unfold insS
  split
  · rename_i h
    exact ⟨.inl, fun z => z.elim id fun e => e ▸ h⟩
  · simp
theorem insS_len (ks : List Str) (k : Str) : (insS ks k).length ≤ ks.length + 1 := by
  unfold insS
  split
  · omega
  · simp
theorem insAll_nodup : ∀ (xs : List Str) {ks : List Str}, ks.Nodup → (insAll ks xs).Nodup
  | [], _, h => h
  | x :: r, ks, h => insAll_nodup r (insS_nodup h)
theorem insAll_mem : ∀ (xs : List Str) {ks : List Str} {x : Str}, x ∈ insAll ks xs ↔ x ∈ ks ∨ x ∈ xs
  | [], ks, x => by simp [insAll]
  | y :: r, ks, x => by
    show x ∈ insAll (insS ks y) r ↔ _
    rw [insAll_mem r, insS_mem, List.mem_cons]
    constructor
    · rintro ((h | h) | h)
      · exact .inl h
      · exact .inr (.inl h)
      · exact .inr (.inr h)
    · rintro (h | h | h)
      · exact .inl (.inl h)
      · exact .inl (.inr h)
      · exact .inr h
theorem insAll_snoc (ks xs : List Str) (x : Str) : insAll ks (xs ++ [x]) = insS (insAll ks xs) x := by
  unfold insAll
  rw [List.foldl_append]; rfl
theorem insAll_app (ks xs ys : List Str) : insAll ks (xs ++ ys) = insAll (insAll ks xs) ys := by
  unfold insAll
  rw [List.foldl_append]
theorem insAll_len : ∀ (xs ks : List Str), (insAll ks xs).length ≤ ks.length + xs.length
  | [], ks => Nat.le_refl _
  | x :: r, ks => by
    have h := insAll_len r (insS ks x)
    have h2 := insS_len ks x
    show (insAll (insS ks x) r).length ≤ ks.length + (r.length + 1)
    omega
theorem nodup_len {α : Type} [DecidableEq α] : ∀ (xs ys : List α), xs.Nodup → (∀ x ∈ xs, x ∈ ys) → xs.length ≤ ys.length
  | [], _, _, _ => Nat.zero_le _
  | x :: r, ys, nd, h => by
    obtain ⟨h1, h2⟩ := List.nodup_cons.mp nd
    have hx := h x List.mem_cons_self
    have ih := nodup_len r (ys.erase x) h2 fun y hy => by
      refine (List.mem_erase_of_ne (fun e => ?_)).mpr (h y (List.mem_cons_of_mem _ hy))
      subst e
      exact h1 hy
    have e := List.length_erase_of_mem hx
    have p : 0 < ys.length := List.length_pos_of_mem hx
    show r.length + 1 ≤ ys.length
    omega
theorem names_few (seed : Int) (xs : List Str) (h : ∀ x ∈ xs, NameOf seed x) : (insAll [] xs).length ≤ 12 := by
  have z := nodup_len (insAll [] xs) ((List.range 12).map fun k => nameBy seed (k : Nat)) (insAll_nodup xs List.nodup_nil) fun x hx => by
    rcases insAll_mem xs |>.mp hx with q | q
    · cases q
    · obtain ⟨k, hk, e⟩ := h x q
      exact List.mem_map.mpr ⟨k, List.mem_range.mpr hk, e.symm⟩
  simpa using z
theorem allS_good {seed : Int} {ds : List Dish} (h : ∀ d ∈ ds, GoodDish seed d) : ∀ x ∈ allS ds, NameOf seed x := fun x hx => by
  obtain ⟨d, hd, hx⟩ := List.mem_flatMap.mp hx
  obtain ⟨n, hn, e⟩ := List.mem_map.mp hx
  exact e ▸ ((h d hd).need n hn).2
theorem allS_len {n : Nat} : ∀ (ds : List Dish), (∀ d ∈ ds, d.2.length ≤ n) → (allS ds).length ≤ ds.length * n
  | [], _ => by simp [allS]
  | d :: r, h => by
    have ih := allS_len r fun d hd => h d (List.mem_cons_of_mem _ hd)
    have h2 := h d List.mem_cons_self
    unfold allS at ih ⊢
    rw [List.flatMap_cons, List.length_append, List.length_map, List.length_cons, Nat.succ_mul]
    omega
theorem putK_keys {kvs : List (Key × V)} {ks : List Str} {k : Str} {v : V} (h : kvs.map (·.1) = ks.map Sum.inr) : (putK kvs (Sum.inr k) v).map (·.1) = (insS ks k).map Sum.inr := by
  have hm : (kvs.any fun kv => decide (kv.1 = (Sum.inr k : Key))) = decide (k ∈ ks) := by
    rw [Bool.eq_iff_iff, List.any_eq_true, decide_eq_true_eq]
    constructor
    · rintro ⟨p, hp, e⟩
      have z : (Sum.inr k : Key) ∈ ks.map Sum.inr := by
        rw [← h]
        exact List.mem_map.mpr ⟨p, hp, of_decide_eq_true e⟩
      obtain ⟨y, hy, e2⟩ := List.mem_map.mp z
      rw [← Sum.inr.inj e2]; exact hy
    · intro hk
      have z : (Sum.inr k : Key) ∈ kvs.map (·.1) := by
        rw [h]
        exact List.mem_map.mpr ⟨k, hk, rfl⟩
      obtain ⟨p, hp, e⟩ := List.mem_map.mp z
      exact ⟨p, hp, decide_eq_true e⟩
  unfold putK insS
  rw [hm]
  by_cases hk : k ∈ ks
  · rw [if_pos (decide_eq_true hk), if_pos hk, List.map_map, ← h]
    apply List.map_congr_left
    intro p _
    show (if p.1 = Sum.inr k then (p.1, v) else p).1 = p.1
    split <;> rfl
  · rw [if_neg (fun z => hk (of_decide_eq_true z)), if_neg hk, List.map_append, List.map_append, h]; rfl
/-! ### tuples of texts as data -/
theorem str_lay : ∀ {ys : List Str}, (∀ y ∈ ys, PyData.canLay0 (.str y) = true) → PyData.canLayAll0 (ys.map PyData.str) = true
  | [], _ => by simp [PyData.canLayAll0]
  | y :: r, h => by
    have ih := str_lay (ys := r) fun z hz => h z (List.mem_cons_of_mem _ hz)
    have h1 := h y List.mem_cons_self
    rw [List.map_cons, PyData.canLayAll0, h1, ih]
    rfl
theorem str_deep : ∀ ys : List Str, PyData.depthAll (ys.map PyData.str) = 0
  | [] => by simp [PyData.depthAll]
  | y :: r => by
    rw [List.map_cons, PyData.depthAll, str_deep r]
    simp [PyData.depth]
theorem dp_strs {K : PySem.W.Frag} {H : Hp} : ∀ ys : List Str, DpAll K H (ys.map V.str) (ys.map PyData.str)
  | [] => DpAll.nil
  | y :: r => DpAll.cons (Dp.str y) (dp_strs r)
theorem str_shaped {ys : List Str} (h : ∀ y ∈ ys, PyData.canLay0 (.str y) = true) : SeqAt.shaped (.tuple (ys.map PyData.str)) = true := by
  have h1 := str_lay h
  have h2 := str_deep ys
  unfold SeqAt.shaped
  rw [PyData.canLay0, h1, PyData.depth, h2]
  rfl
theorem str_self {ys : List Str} (h : ∀ y ∈ ys, PyData.canLay0 (.str y) = true) : PyData.eqv (.tuple (ys.map PyData.str)) (.tuple (ys.map PyData.str)) = true := by
  refine SeqAt.eqv_refl _ ?_
  rw [PyData.canLay0]
  exact str_lay h
/-! ### the names' signs -/
def OkS (x : Str) : Prop := ∀ c ∈ x.cps.toList, c < 0x110000
theorem OkS.lay {x : Str} (h : OkS x) : PyData.canLay0 (.str x) = true := by
  rw [PyData.canLay0]
  show x.cps.all (· < 0x110000) = true
  rw [Array.all_eq_true']
  intro c hc
  exact decide_eq_true (h c (Array.mem_toList_iff.mpr hc))
theorem OkS.app {x y : Str} (h1 : OkS x) (h2 : OkS y) : OkS (x ++ y) := fun c hc => by
  have e : (x ++ y).cps.toList = x.cps.toList ++ y.cps.toList := Array.toList_append
  rw [e] at hc
  exact (List.mem_append.mp hc).elim (h1 c) (h2 c)
theorem OkS.cut {x : Str} (h : OkS x) (lo hi : Option Int) : OkS (cutS x lo hi) := fun c hc => h c (List.mem_of_mem_drop (List.mem_of_mem_take (show c ∈ ((x.cps.toList.drop _).take _) from hc)))
theorem sgn_ok : ∀ c ∈ sgn.cps.toList, c < 128 := by decide +kernel
theorem sg_ok (i : Int) : OkS (sg i) := fun c hc => by
  have e : c = sgn.cps.toList.getD (i % 26).toNat 0 := List.mem_singleton.mp hc
  rw [e, List.getD_eq_getElem?_getD]
  cases q : sgn.cps.toList[(i % 26).toNat]? with
  | none => exact (by decide : (0 : Nat) < 0x110000)
  | some z => exact Nat.lt_trans (sgn_ok z (List.mem_of_getElem? q)) (by decide)
theorem nmNm_ok (more : Int) : ∀ t, OkS (nmNm more t)
  | 0 => fun c hc => (nomatch (show c ∈ ([] : List Nat) from hc))
  | t + 1 => (nmNm_ok more t).app (sg_ok _)
theorem empty_ok : OkS "" := fun c hc => (nomatch (show c ∈ ([] : List Nat) from hc))
theorem words_ok : ∀ x ∈ words, ∀ c ∈ x.cps.toList, c < 128 := by decide +kernel
theorem getD_ok {l : List Str} (h : ∀ x ∈ l, OkS x) (i : Nat) : OkS (l.getD i "") := by
  rw [List.getD_eq_getElem?_getD]
  cases q : l[i]? with
  | none => exact empty_ok
  | some z => exact h z (List.mem_of_getElem? q)
theorem nameBy_ok (seed k : Int) : OkS (nameBy seed k) := by
  unfold nameBy
  split
  · exact getD_ok (fun x hx c hc => Nat.lt_trans (words_ok x hx c hc) (by decide)) _
  · dsimp only
    split
    · exact (((nmNm_ok _ _).cut _ _).app ((sg_ok _).app (sg_ok _))).app ((nmNm_ok _ _).cut _ _)
    · split
      · exact (sg_ok _).app (nmNm_ok _ _)
      · split
        · exact (((nmNm_ok _ _).cut _ _).app (sg_ok _)).app ((nmNm_ok _ _).cut _ _)
        · refine (nmNm_ok _ _).app (getD_ok (fun x hx => ?_) _)
          rcases List.mem_cons.mp hx with e | hx
          · rw [e]; exact empty_ok
          rcases List.mem_cons.mp hx with e | hx
          · rw [e]; exact empty_ok
          rcases List.mem_cons.mp hx with e | hx
          · rw [e]; exact sg_ok _
          rcases List.mem_cons.mp hx with e | hx
          · rw [e]; exact sg_ok _
          · cases hx
/-! ### the law's own sums of what is needed -/
theorem onDay_snoc (ps : List (Int × Int)) (k x day : Int) : onDay (ps ++ [(k, x)]) day = onDay ps day + if k = day then x else 0 := by
  rw [onDay_app]
  unfold onDay
  by_cases e : k = day
  · simp [e]
  · simp [e]
def sevenOf (ps : List (Int × Int)) : List Int := (List.range 7).map fun i => onDay ps (1 + (i : Nat))
theorem sevenOf_len (ps : List (Int × Int)) : (sevenOf ps).length = 7 := by unfold sevenOf; simp
theorem sevenOf_at (ps : List (Int × Int)) {j : Nat} (h : j < 7) : (sevenOf ps)[j]? = some (onDay ps (1 + (j : Nat))) := by
  unfold sevenOf
  rw [List.getElem?_map, List.getElem?_eq_getElem (by simpa using h), List.getElem_range]; rfl
theorem sevenOf_set (ps : List (Int × Int)) (k x : Int) {j : Nat} (hj : j < 7) (hk : k = 1 + (j : Nat)) : (sevenOf ps).set j (onDay ps (1 + (j : Nat)) + x) = sevenOf (ps ++ [(k, x)]) := by
  apply List.ext_getElem?
  intro i
  by_cases hi : i < 7
  · rw [sevenOf_at _ hi, onDay_snoc, List.getElem?_set]
    by_cases e : j = i
    · subst e
      rw [if_pos rfl, if_pos (by rw [sevenOf_len]; exact hj), hk, if_pos rfl]
    · rw [if_neg e, sevenOf_at _ hi, if_neg (by omega), Int.add_zero]
  · rw [List.getElem?_eq_none (by rw [List.length_set, sevenOf_len]; omega), List.getElem?_eq_none (by rw [sevenOf_len]; omega)]
theorem drop_comp (xs : List Int) (hl : xs.length = 7) {i : Nat} (hi : i < 7) : (List.range (7 - i)).filterMap (fun k => some (xs.getD (i + k) 0)) = xs.drop i := by
  rw [fm_some]
  apply List.ext_getElem?
  intro j
  rw [List.getElem?_map, List.getElem?_drop]
  by_cases h : j < 7 - i
  · rw [List.getElem?_eq_getElem (by simpa using h), List.getElem_range, List.getElem?_eq_getElem (by omega)]
    show some (xs.getD (i + j) 0) = _
    rw [List.getD_eq_getElem?_getD, List.getElem?_eq_getElem (by omega)]
    rfl
  · rw [List.getElem?_eq_none (by simpa using h), List.getElem?_eq_none (by omega)]
    rfl
end Lar
namespace Lar
/-! ### sums weighed by counts -/
def wsum (f : Offer → Int) (os : List Offer) (cs : List Int) : Int := ((os.zip cs).map fun p => f p.1 * p.2).sum
theorem wsum_nil (f : Offer → Int) (cs : List Int) : wsum f [] cs = 0 := by simp [wsum]
theorem wsum_cons (f : Offer → Int) (o : Offer) (os : List Offer) (c : Int) (cs : List Int) : wsum f (o :: os) (c :: cs) = f o * c + wsum f os cs := by simp [wsum]
theorem costOf_w (os : List Offer) (cs : List Int) : costOf os cs = wsum Offer.price os cs := rfl
def onto (day : Int) (o : Offer) : Int := if day ≤ o.last then o.size else 0
theorem heldOn_w (os : List Offer) (cs : List Int) (day : Int) : heldOn os cs day = wsum (onto day) os cs := by
  unfold heldOn heldZ wsum
  congr 1
  apply List.map_congr_left
  intro p _
  unfold onto
  split
  · rfl
  · simp
/-- one more of the k-th -/
theorem wsum_set (f : Offer → Int) (z : Int) : ∀ (os : List Offer) (cs : List Int) (k : Nat) (o : Offer) (c : Int), os[k]? = some o → cs[k]? = some c → wsum f os (cs.set k (c + z)) = wsum f os cs + f o * z
  | [], _, k, _, _, h, _ => by simp at h
  | _ :: _, [], k, _, _, _, h => by simp at h
  | o' :: os, c' :: cs, 0, o, c, h1, h2 => by
    have e1 : o' = o := by simpa using h1
    have e2 : c' = c := by simpa using h2
    subst e1 e2
    rw [List.set_cons_zero, wsum_cons, wsum_cons, Int.mul_add]
    omega
  | o' :: os, c' :: cs, k + 1, o, c, h1, h2 => by
    rw [List.set_cons_succ, wsum_cons, wsum_cons, wsum_set f z os cs k o c (by simpa using h1) (by simpa using h2)]
    omega
theorem wsum_nonneg (f : Offer → Int) : ∀ (os : List Offer) (cs : List Int), (∀ o ∈ os, 0 ≤ f o) → (∀ c ∈ cs, 0 ≤ c) → 0 ≤ wsum f os cs
  | [], cs, _, _ => by rw [wsum_nil]; decide
  | _ :: _, [], _, _ => by simp [wsum]
  | o :: os, c :: cs, h1, h2 => by
    rw [wsum_cons]
    have a := wsum_nonneg f os cs (fun x hx => h1 x (List.mem_cons_of_mem _ hx)) (fun x hx => h2 x (List.mem_cons_of_mem _ hx))
    have b := Int.mul_nonneg (h1 o List.mem_cons_self) (h2 c List.mem_cons_self)
    omega
/-- where no counted one tells f and g apart -/
theorem wsum_congr (f g : Offer → Int) : ∀ (os : List Offer) (cs : List Int), (∀ (k : Nat) o c, os[k]? = some o → cs[k]? = some c → c ≠ 0 → f o = g o) → wsum f os cs = wsum g os cs
  | [], cs, _ => by rw [wsum_nil, wsum_nil]
  | _ :: _, [], _ => by simp [wsum]
  | o :: os, c :: cs, h => by
    rw [wsum_cons, wsum_cons, wsum_congr f g os cs (fun k o' c' h1 h2 => h (k + 1) o' c' (by simpa using h1) (by simpa using h2))]
    by_cases e : c = 0
    · subst e; simp
    · rw [h 0 o c rfl rfl e]
theorem wsum_zero (f : Offer → Int) : ∀ (os : List Offer) (cs : List Int), (∀ (k : Nat) o c, os[k]? = some o → cs[k]? = some c → c ≠ 0 → f o = 0) → wsum f os cs = 0
  | [], cs, _ => wsum_nil _ _
  | _ :: _, [], _ => by simp [wsum]
  | o :: os, c :: cs, h => by
    rw [wsum_cons, wsum_zero f os cs (fun k o' c' h1 h2 => h (k + 1) o' c' (by simpa using h1) (by simpa using h2))]
    by_cases e : c = 0
    · subst e; simp
    · rw [h 0 o c rfl rfl e]; simp
theorem wsum_zeros (f : Offer → Int) (os : List Offer) (n : Nat) : wsum f os (List.replicate n 0) = 0 := wsum_zero f _ _ fun k o c _ h2 hc => by
  rw [List.getElem?_replicate] at h2
  split at h2
  · exact absurd (Option.some.inj h2).symm hc
  · cases h2
/-! ### what a table is -/
def dayOf (o : Offer) : Int := if o.last < 7 then o.last else 7
def lackAt (ls : List Int) (d : Nat) : Nat := (ls.getD (d - 1) 0).toNat
def cellT (rows : List (List (Option Int))) (d a : Nat) : Option Int := (rows.getD (d - 1) []).getD a none
def goT (ls : List Int) (rows : List (List (Option Int))) (d a : Nat) : Option Int := if d < 7 then cellT rows (d + 1) (max a (lackAt ls (d + 1))) else if a = 0 then some 0 else none
structure IsTable (os : List Offer) (ls : List Int) (M : Nat) (rows : List (List (Option Int))) : Prop where
  len : rows.length = 7
  each : ∀ r ∈ rows, r.length = M + 1
  most : ∀ d : Nat, lackAt ls d ≤ M
  from_ : ∀ (d a : Nat) (c : Int), 1 ≤ d → d ≤ 7 → a ≤ M → cellT rows d a = some c → goT ls rows d a = some c ∨ (0 < a ∧ ∃ o r, o ∈ os ∧ dayOf o = d ∧ cellT rows d (a - o.size.toNat) = some r ∧ c = r + o.price)
  go : ∀ (d a : Nat) (g : Int), 1 ≤ d → d ≤ 7 → a ≤ M → goT ls rows d a = some g → ∃ c, cellT rows d a = some c ∧ c ≤ g
  take : ∀ (d a : Nat) (o : Offer) (r : Int), 1 ≤ d → d ≤ 7 → a ≤ M → 0 < a → o ∈ os → dayOf o = d → cellT rows d (a - o.size.toNat) = some r → ∃ c, cellT rows d a = some c ∧ c ≤ r + o.price
theorem day_on {o : Offer} {d : Nat} (h : dayOf o = d) (h1 : 1 ≤ d) : ∀ e : Nat, e ≤ d → onto e o = o.size := fun e he => by
  unfold onto
  rw [if_pos]
  unfold dayOf at h
  split at h <;> omega
theorem onto_next {o : Offer} {d : Nat} (h : dayOf o ≠ d) (hd : d < 7) : onto d o = onto ((d + 1 : Nat) : Int) o := by
  unfold onto
  unfold dayOf at h
  have : ((d : Int) ≤ o.last) ↔ (((d + 1 : Nat) : Int) ≤ o.last) := by
    split at h <;> omega
  by_cases e : (d : Int) ≤ o.last
  · rw [if_pos e, if_pos (this.mp e)]
  · rw [if_neg e, if_neg (fun z => e (this.mpr z))]
theorem onto_last {o : Offer} (h : dayOf o ≠ (7 : Nat)) : onto ((7 : Nat) : Int) o = 0 := by
  unfold onto
  unfold dayOf at h
  rw [if_neg]
  split at h <;> omega
theorem onto_nonneg {o : Offer} (g : GoodOffer o) (e : Int) : 0 ≤ onto e o := by
  unfold onto
  split
  · have := g.size1; omega
  · decide
theorem ix_mem {α : Type} {xs : List α} {k : Nat} {x : α} (h : xs[k]? = some x) : x ∈ xs := List.mem_of_getElem? h
section
variable {os : List Offer} {ls : List Int} {M : Nat} {rows : List (List (Option Int))}
/-- the sum of the counts -/
def sumC (cs : List Int) : Nat := (cs.map Int.toNat).sum
theorem sumC_set : ∀ (cs : List Int) (k : Nat) (c : Int), cs[k]? = some c → 0 < c → sumC (cs.set k (c + -1)) + 1 = sumC cs
  | [], k, c, h, _ => by simp at h
  | c' :: cs, 0, c, h, hc => by
    have e : c' = c := by simpa using h
    subst e
    unfold sumC
    rw [List.set_cons_zero, List.map_cons, List.sum_cons, List.map_cons, List.sum_cons]
    omega
  | c' :: cs, k + 1, c, h, hc => by
    have ih := sumC_set cs k c (by simpa using h) hc
    unfold sumC at ih ⊢
    rw [List.set_cons_succ, List.map_cons, List.sum_cons, List.map_cons, List.sum_cons]
    omega
theorem nn_set {cs : List Int} {k : Nat} {z : Int} (h : ∀ c ∈ cs, 0 ≤ c) (hz : 0 ≤ z) : ∀ c ∈ cs.set k z, 0 ≤ c := fun c hc => by
  rcases List.mem_or_eq_of_mem_set hc with y | y
  · exact h c y
  · omega
/-- no buying undercuts a cell -/
theorem under (T : IsTable os ls M rows) (hg : ∀ o ∈ os, GoodOffer o) {fs : List Offer} (hf : ∀ o ∈ fs, o ∈ os) :
    ∀ (j n d a : Nat) (cs : List Int), d + j = 7 → 1 ≤ d → sumC cs = n → (∀ c ∈ cs, 0 ≤ c) → a ≤ M → (a : Int) ≤ heldOn fs cs d → (∀ e : Nat, d < e → e ≤ 7 → (lackAt ls e : Int) ≤ heldOn fs cs e) →
      ∃ c, cellT rows d a = some c ∧ c ≤ costOf fs cs := by
  intro j
  induction j with
  | zero =>
    intro n
    induction n with
    | zero =>
      intro d a cs hd h1 hs hn ha hh hb
      have hd7 : d = 7 := by omega
      subst hd7
      have z : ∀ (k : Nat) o c, fs[k]? = some o → cs[k]? = some c → c ≠ 0 → onto ((7 : Nat) : Int) o = 0 := fun k o c _ h2 hc => by
        exfalso
        have hpos : 0 < c := by have := hn c (ix_mem h2); omega
        have := sumC_set cs k c h2 hpos
        omega
      rw [heldOn_w, wsum_zero _ _ _ z] at hh
      have ha0 : a = 0 := by omega
      subst ha0
      obtain ⟨c, e, l⟩ := T.go 7 0 0 (by decide) (by decide) (Nat.zero_le _) rfl
      refine ⟨c, e, Int.le_trans l ?_⟩
      rw [costOf_w]
      exact wsum_nonneg _ _ _ (fun o ho => (hg o (hf o ho)).price0) hn
    | succ n ih =>
      intro d a cs hd h1 hs hn ha hh hb
      have hd7 : d = 7 := by omega
      subst hd7
      by_cases ex : ∃ (k : Nat) (o : Offer) (c : Int), fs[k]? = some o ∧ cs[k]? = some c ∧ 0 < c ∧ dayOf o = (7 : Nat)
      · obtain ⟨k, o, c, ho, hc, hp, hdo⟩ := ex
        have g := hg o (hf o (ix_mem ho))
        have hs' := sumC_set cs k c hc hp
        have hheld := wsum_set (onto ((7 : Nat) : Int)) (-1) fs cs k o c ho hc
        have hcost := wsum_set Offer.price (-1) fs cs k o c ho hc
        rw [day_on hdo (by decide) 7 (Nat.le_refl _)] at hheld
        have hw0 := wsum_nonneg (onto ((7 : Nat) : Int)) fs (cs.set k (c + -1)) (fun x hx => onto_nonneg (hg x (hf x hx)) _) (nn_set hn (by omega))
        have g1 := g.size1
        have g0 := g.price0
        obtain ⟨r, er, lr⟩ := ih 7 (a - o.size.toNat) (cs.set k (c + -1)) hd h1 (by omega) (nn_set hn (by omega)) (by omega) (by rw [heldOn_w, hheld]; rw [heldOn_w] at hh; omega) (fun e h7 h8 => by omega)
        rw [costOf_w, hcost] at lr
        by_cases ha0 : a = 0
        · subst ha0
          rw [Nat.zero_sub] at er
          refine ⟨r, er, ?_⟩
          rw [costOf_w]
          omega
        · obtain ⟨c', e', l'⟩ := T.take 7 a o r (by decide) (by decide) ha (by omega) (hf o (ix_mem ho)) hdo er
          refine ⟨c', e', ?_⟩
          rw [costOf_w]
          omega
      · have z : ∀ (k : Nat) o c, fs[k]? = some o → cs[k]? = some c → c ≠ 0 → onto ((7 : Nat) : Int) o = 0 := fun k o c h1 h2 hc => by
          have hpos : 0 < c := by have := hn c (ix_mem h2); omega
          exact onto_last fun e => ex ⟨k, o, c, h1, h2, hpos, e⟩
        rw [heldOn_w, wsum_zero _ _ _ z] at hh
        have ha0 : a = 0 := by omega
        subst ha0
        obtain ⟨c, e, l⟩ := T.go 7 0 0 (by decide) (by decide) (Nat.zero_le _) rfl
        refine ⟨c, e, Int.le_trans l ?_⟩
        rw [costOf_w]
        exact wsum_nonneg _ _ _ (fun o ho => (hg o (hf o ho)).price0) hn
  | succ j jh =>
    intro n
    induction n with
    | zero =>
      intro d a cs hd h1 hs hn ha hh hb
      have z : ∀ (k : Nat) o c, fs[k]? = some o → cs[k]? = some c → c ≠ 0 → onto (d : Int) o = onto ((d + 1 : Nat) : Int) o := fun k o c _ h2 hc => by
        exfalso
        have hpos : 0 < c := by have := hn c (ix_mem h2); omega
        have := sumC_set cs k c h2 hpos
        omega
      rw [heldOn_w, wsum_congr _ _ _ _ z, ← heldOn_w] at hh
      have hl := hb (d + 1) (by omega) (by omega)
      have hm := T.most (d + 1)
      obtain ⟨c, e, l⟩ := jh 0 (d + 1) (max a (lackAt ls (d + 1))) cs (by omega) (by omega) hs hn (by omega) (by omega) (fun e h7 h8 => hb e (by omega) h8)
      have eg : goT ls rows d a = some c := by unfold goT; rw [if_pos (by omega)]; exact e
      obtain ⟨c', e', l'⟩ := T.go d a c h1 (by omega) ha eg
      exact ⟨c', e', by omega⟩
    | succ n ih =>
      intro d a cs hd h1 hs hn ha hh hb
      by_cases ex : ∃ (k : Nat) (o : Offer) (c : Int), fs[k]? = some o ∧ cs[k]? = some c ∧ 0 < c ∧ dayOf o = d
      · obtain ⟨k, o, c, ho, hc, hp, hdo⟩ := ex
        have g := hg o (hf o (ix_mem ho))
        have hs' := sumC_set cs k c hc hp
        have hheld := wsum_set (onto (d : Int)) (-1) fs cs k o c ho hc
        have hcost := wsum_set Offer.price (-1) fs cs k o c ho hc
        rw [day_on hdo h1 d (Nat.le_refl _)] at hheld
        have hw0 := wsum_nonneg (onto (d : Int)) fs (cs.set k (c + -1)) (fun x hx => onto_nonneg (hg x (hf x hx)) _) (nn_set hn (by omega))
        have g1 := g.size1
        have g0 := g.price0
        obtain ⟨r, er, lr⟩ := ih d (a - o.size.toNat) (cs.set k (c + -1)) hd h1 (by omega) (nn_set hn (by omega)) (by omega) (by rw [heldOn_w, hheld]; rw [heldOn_w] at hh; omega) (fun e h7 h8 => by
          have hb' := hb e h7 h8
          have hx := wsum_set (onto (e : Int)) (-1) fs cs k o c ho hc
          have : onto (e : Int) o = 0 := by
            unfold onto
            rw [if_neg]
            unfold dayOf at hdo
            split at hdo <;> omega
          rw [this] at hx
          rw [heldOn_w, hx]
          rw [heldOn_w] at hb'
          omega)
        rw [costOf_w, hcost] at lr
        by_cases ha0 : a = 0
        · subst ha0
          rw [Nat.zero_sub] at er
          refine ⟨r, er, ?_⟩
          rw [costOf_w]
          omega
        · obtain ⟨c', e', l'⟩ := T.take d a o r h1 (by omega) ha (by omega) (hf o (ix_mem ho)) hdo er
          refine ⟨c', e', ?_⟩
          rw [costOf_w]
          omega
      · have z : ∀ (k : Nat) o c, fs[k]? = some o → cs[k]? = some c → c ≠ 0 → onto (d : Int) o = onto ((d + 1 : Nat) : Int) o := fun k o c h1 h2 hc => by
          have hpos : 0 < c := by have := hn c (ix_mem h2); omega
          exact onto_next (fun e => ex ⟨k, o, c, h1, h2, hpos, e⟩) (by omega)
        rw [heldOn_w, wsum_congr _ _ _ _ z, ← heldOn_w] at hh
        have hl := hb (d + 1) (by omega) (by omega)
        have hm := T.most (d + 1)
        obtain ⟨c, e, l⟩ := jh (n + 1) (d + 1) (max a (lackAt ls (d + 1))) cs (by omega) (by omega) hs hn (by omega) (by omega) (fun e h7 h8 => hb e (by omega) h8)
        have eg : goT ls rows d a = some c := by unfold goT; rw [if_pos (by omega)]; exact e
        obtain ⟨c', e', l'⟩ := T.go d a c h1 (by omega) ha eg
        exact ⟨c', e', by omega⟩
end
end Lar
namespace Lar
section
variable {os : List Offer} {ls : List Int} {M : Nat} {rows rows2 : List (List (Option Int))}
/-! ### one table alone -/
theorem tab_le (T : IsTable os ls M rows) (U : IsTable os ls M rows2) (hg : ∀ o ∈ os, GoodOffer o) :
    ∀ (j d : Nat), d + j = 7 → 1 ≤ d → ∀ (n a : Nat) (c : Int), a ≤ n → a ≤ M → cellT rows d a = some c → ∃ c', cellT rows2 d a = some c' ∧ c' ≤ c := by
  intro j
  induction j with
  | zero =>
    intro d hd h1 n
    induction n with
    | zero =>
      intro a c hn ha hc
      have hd7 : d = 7 := by omega
      have ha0 : a = 0 := by omega
      subst hd7 ha0
      rcases T.from_ 7 0 c (by decide) (by decide) ha hc with e | ⟨h, _⟩
      · exact U.go 7 0 c (by decide) (by decide) ha e
      · omega
    | succ n ih =>
      intro a c hn ha hc
      have hd7 : d = 7 := by omega
      subst hd7
      rcases T.from_ 7 a c (by decide) (by decide) ha hc with e | ⟨h, o, r, ho, hdo, hr, rfl⟩
      · exact U.go 7 a c (by decide) (by decide) ha e
      · have := (hg o ho).size1
        obtain ⟨r', er, lr⟩ := ih (a - o.size.toNat) r (by omega) (by omega) hr
        obtain ⟨c', e', l'⟩ := U.take 7 a o r' (by decide) (by decide) ha h ho hdo er
        exact ⟨c', e', by omega⟩
  | succ j jh =>
    intro d hd h1 n
    have GO : ∀ (a : Nat) (c : Int), a ≤ M → goT ls rows d a = some c → ∃ c', cellT rows2 d a = some c' ∧ c' ≤ c := fun a c ha e => by
      unfold goT at e
      rw [if_pos (by omega)] at e
      have hm := T.most (d + 1)
      obtain ⟨r, er, lr⟩ := jh (d + 1) (by omega) (by omega) _ _ c (Nat.le_refl _) (by omega) e
      obtain ⟨c', e', l'⟩ := U.go d a r h1 (by omega) ha (by unfold goT; rw [if_pos (by omega)]; exact er)
      exact ⟨c', e', by omega⟩
    induction n with
    | zero =>
      intro a c hn ha hc
      have ha0 : a = 0 := by omega
      subst ha0
      rcases T.from_ d 0 c h1 (by omega) ha hc with e | ⟨h, _⟩
      · exact GO 0 c ha e
      · omega
    | succ n ih =>
      intro a c hn ha hc
      rcases T.from_ d a c h1 (by omega) ha hc with e | ⟨h, o, r, ho, hdo, hr, rfl⟩
      · exact GO a c ha e
      · have := (hg o ho).size1
        obtain ⟨r', er, lr⟩ := ih (a - o.size.toNat) r (by omega) (by omega) hr
        obtain ⟨c', e', l'⟩ := U.take d a o r' h1 (by omega) ha h ho hdo er
        exact ⟨c', e', by omega⟩
theorem tab_cell (T : IsTable os ls M rows) (U : IsTable os ls M rows2) (hg : ∀ o ∈ os, GoodOffer o) (d a : Nat) (h1 : 1 ≤ d) (h7 : d ≤ 7) (ha : a ≤ M) : cellT rows d a = cellT rows2 d a := by
  have A := tab_le T U hg (7 - d) d (by omega) h1 a a
  have B := tab_le U T hg (7 - d) d (by omega) h1 a a
  cases e : cellT rows d a with
  | none =>
    cases e2 : cellT rows2 d a with
    | none => rfl
    | some c2 =>
      obtain ⟨c, z, _⟩ := B c2 (Nat.le_refl _) ha e2
      rw [e] at z; cases z
  | some c =>
    obtain ⟨c2, z, l⟩ := A c (Nat.le_refl _) ha e
    obtain ⟨c3, z3, l3⟩ := B c2 (Nat.le_refl _) ha z
    rw [e] at z3
    have e4 := Option.some.inj z3
    rw [z]
    congr 1
    omega
theorem tab_one (T : IsTable os ls M rows) (U : IsTable os ls M rows2) (hg : ∀ o ∈ os, GoodOffer o) : rows = rows2 := by
  have hl : rows.length = rows2.length := by rw [T.len, U.len]
  refine List.ext_getElem hl fun i h1 h2 => ?_
  have e1 := T.each _ (List.getElem_mem h1)
  have e2 := U.each _ (List.getElem_mem h2)
  refine List.ext_getElem (by rw [e1, e2]) fun a h3 h4 => ?_
  have i7 : i < 7 := by rw [← T.len]; exact h1
  have := tab_cell T U hg (i + 1) a (by omega) (by omega) (by omega)
  unfold cellT at this
  rw [Nat.add_sub_cancel, List.getD_eq_getElem?_getD, List.getD_eq_getElem?_getD, List.getD_eq_getElem?_getD, List.getD_eq_getElem?_getD, List.getElem?_eq_getElem h1, List.getElem?_eq_getElem h2] at this
  simp only [Option.getD_some] at this
  rw [List.getElem?_eq_getElem h3, List.getElem?_eq_getElem h4] at this
  simpa using this
/-! ### the greatest lack behind a day -/
def mxA (ls : List Int) : Nat → Nat
  | 0 => 0
  | j + 1 => max (lackAt ls (7 - j)) (mxA ls j)
theorem mxA_le (T : IsTable os ls M rows) : ∀ j, mxA ls j ≤ M
  | 0 => Nat.zero_le _
  | j + 1 => by
    have := T.most (7 - j)
    have := mxA_le T j
    unfold mxA
    omega
/-- a lesser amount costs no more; nor does one that lacks behind all the same -/
theorem tab_mono (T : IsTable os ls M rows) (hg : ∀ o ∈ os, GoodOffer o) :
    ∀ (j d : Nat), d + j = 7 → 1 ≤ d → ∀ (n a a' : Nat) (c : Int), a ≤ n → a ≤ M → a' ≤ max a (mxA ls j) → cellT rows d a = some c → ∃ c', cellT rows d a' = some c' ∧ c' ≤ c := by
  intro j
  induction j with
  | zero =>
    intro d hd h1 n
    have hd7 : d = 7 := by omega
    subst hd7
    induction n with
    | zero =>
      intro a a' c hn ha h' hc
      have : a = 0 := by omega
      subst this
      have : a' = 0 := by unfold mxA at h'; omega
      subst this
      exact ⟨c, hc, Int.le_refl _⟩
    | succ n ih =>
      intro a a' c hn ha h' hc
      unfold mxA at h'
      rcases T.from_ 7 a c (by decide) (by decide) ha hc with e | ⟨h, o, r, ho, hdo, hr, rfl⟩
      · unfold goT at e
        rw [if_neg (by decide)] at e
        split at e
        · rename_i a0
          subst a0
          have : a' = 0 := by omega
          subst this
          exact ⟨c, hc, Int.le_refl _⟩
        · cases e
      · have g := hg o ho
        have := g.size1
        have := g.price0
        obtain ⟨r', er, lr⟩ := ih (a - o.size.toNat) (a' - o.size.toNat) r (by omega) (by omega) (by unfold mxA; omega) hr
        by_cases a0 : a' = 0
        · subst a0
          rw [Nat.zero_sub] at er
          exact ⟨r', er, by omega⟩
        · obtain ⟨c', e', l'⟩ := T.take 7 a' o r' (by decide) (by decide) (by omega) (by omega) ho hdo er
          exact ⟨c', e', by omega⟩
  | succ j jh =>
    intro d hd h1 n
    have hmx := mxA_le T (j + 1)
    have hL : lackAt ls (7 - j) = lackAt ls (d + 1) := by congr 1; omega
    have hlm := T.most (d + 1)
    have GO : ∀ (a a' : Nat) (c : Int), a ≤ M → a' ≤ max a (mxA ls (j + 1)) → goT ls rows d a = some c → ∃ c', cellT rows d a' = some c' ∧ c' ≤ c := fun a a' c ha h' e => by
      unfold mxA at h'
      rw [hL] at h'
      unfold mxA at hmx
      rw [hL] at hmx
      unfold goT at e
      rw [if_pos (by omega)] at e
      obtain ⟨r, er, lr⟩ := jh (d + 1) (by omega) (by omega) _ _ (max a' (lackAt ls (d + 1))) c (Nat.le_refl _) (by omega) (by omega) e
      obtain ⟨c', e', l'⟩ := T.go d a' r h1 (by omega) (by omega) (by unfold goT; rw [if_pos (by omega)]; exact er)
      exact ⟨c', e', by omega⟩
    induction n with
    | zero =>
      intro a a' c hn ha h' hc
      have ha0 : a = 0 := by omega
      subst ha0
      rcases T.from_ d 0 c h1 (by omega) ha hc with e | ⟨h, _⟩
      · exact GO 0 a' c ha h' e
      · omega
    | succ n ih =>
      intro a a' c hn ha h' hc
      rcases T.from_ d a c h1 (by omega) ha hc with e | ⟨h, o, r, ho, hdo, hr, rfl⟩
      · exact GO a a' c ha h' e
      · have g := hg o ho
        have := g.size1
        have := g.price0
        obtain ⟨r', er, lr⟩ := ih (a - o.size.toNat) (a' - o.size.toNat) r (by omega) (by omega) (by omega) hr
        by_cases a0 : a' = 0
        · subst a0
          rw [Nat.zero_sub] at er
          exact ⟨r', er, by omega⟩
        · obtain ⟨c', e', l'⟩ := T.take d a' o r' h1 (by omega) (by omega) (by omega) ho hdo er
          exact ⟨c', e', by omega⟩
/-- where no more is asked than lacks behind, the walk goes on -/
theorem tab_stay (T : IsTable os ls M rows) (hg : ∀ o ∈ os, GoodOffer o) {j d : Nat} (hd : d + j = 7) (h1 : 1 ≤ d) :
    ∀ (n a : Nat) (c : Int), a ≤ n → a ≤ mxA ls j → cellT rows d a = some c → goT ls rows d a = some c := by
  have hmx := mxA_le T j
  intro n
  induction n with
  | zero =>
    intro a c hn ha hc
    rcases T.from_ d a c h1 (by omega) (by omega) hc with e | ⟨h, _⟩
    · exact e
    · omega
  | succ n ih =>
    intro a c hn ha hc
    rcases T.from_ d a c h1 (by omega) (by omega) hc with e | ⟨h, o, r, ho, hdo, hr, rfl⟩
    · exact e
    · have g := hg o ho
      have := g.size1
      have := g.price0
      have e2 := ih (a - o.size.toNat) r (by omega) (by omega) hr
      cases j with
      | zero => unfold mxA at ha; omega
      | succ j =>
        have hL : lackAt ls (7 - j) = lackAt ls (d + 1) := by congr 1; omega
        unfold mxA at ha
        rw [hL] at ha
        unfold mxA at hmx
        rw [hL] at hmx
        unfold goT at e2
        rw [if_pos (by omega)] at e2
        obtain ⟨r', er, lr⟩ := tab_mono T hg j (d + 1) (by omega) (by omega) _ _ (max a (lackAt ls (d + 1))) r (Nat.le_refl _) (by omega) (by omega) e2
        have eg : goT ls rows d a = some r' := by unfold goT; rw [if_pos (by omega)]; exact er
        obtain ⟨c', e', l'⟩ := T.go d a r' h1 (by omega) (by omega) eg
        rw [hc] at e'
        have := Option.some.inj e'
        rw [eg]
        congr 1
        omega
/-! ### the walk -/
def fits (rows : List (List (Option Int))) (d a : Nat) (o : Offer) : Bool := decide (dayOf o = d) && (match cellT rows d (a - o.size.toNat) with | none => false | some r => decide (some (r + o.price) = cellT rows d a))
theorem fits_iff {d a : Nat} {o : Offer} : fits rows d a o = true ↔ dayOf o = d ∧ ∃ r, cellT rows d (a - o.size.toNat) = some r ∧ some (r + o.price) = cellT rows d a := by
  unfold fits
  cases e : cellT rows d (a - o.size.toNat) with
  | none => simp
  | some r => simp
def firstT (os : List Offer) (rows : List (List (Option Int))) (d a : Nat) : Option Nat := os.findIdx? (fits rows d a)
def walkT (os : List Offer) (ls : List Int) (rows : List (List (Option Int))) : Nat → Nat → Nat → List Int → Option (List Int)
  | 0, _, _, _ => none
  | t + 1, d, a, cs =>
    if cellT rows d a = goT ls rows d a then
      if d = 7 then some cs else walkT os ls rows t (d + 1) (max a (lackAt ls (d + 1))) cs
    else
      match firstT os rows d a with
      | none => none
      | some k => walkT os ls rows t d (a - ((os.getD k ⟨0, 0, 0⟩).size.toNat)) (cs.set k (cs.getD k 0 + 1))
structure Walked (os : List Offer) (ls : List Int) (d a : Nat) (c : Int) (cs cs' : List Int) : Prop where
  len : cs'.length = cs.length
  nn : ∀ x ∈ cs', 0 ≤ x
  cost : costOf os cs' = costOf os cs + c
  here : heldOn os cs d + a ≤ heldOn os cs' d
  behind : ∀ e : Nat, d < e → e ≤ 7 → heldOn os cs e + lackAt ls e ≤ heldOn os cs' e
  ahead : ∀ e : Nat, e ≤ d → heldOn os cs' d - heldOn os cs d = heldOn os cs' e - heldOn os cs e
theorem walk_ok (T : IsTable os ls M rows) (hg : ∀ o ∈ os, GoodOffer o) :
    ∀ (t j d a : Nat) (c : Int) (cs : List Int), d + j = 7 → 1 ≤ d → a ≤ M → max a (mxA ls j) + j + 1 ≤ t → cs.length = os.length → (∀ x ∈ cs, 0 ≤ x) → cellT rows d a = some c →
      ∃ cs', walkT os ls rows t d a cs = some cs' ∧ Walked os ls d a c cs cs' := by
  intro t
  induction t with
  | zero => intro j d a c cs _ _ _ h; omega
  | succ t ih =>
    intro j d a c cs hd h1 ha ht hlen hn hc
    unfold walkT
    by_cases eg : cellT rows d a = goT ls rows d a
    · rw [if_pos eg]
      rw [hc] at eg
      by_cases d7 : d = 7
      · rw [if_pos d7]
        subst d7
        unfold goT at eg
        rw [if_neg (by decide)] at eg
        split at eg
        · rename_i a0
          subst a0
          have := Option.some.inj eg
          subst this
          exact ⟨cs, rfl, rfl, hn, by omega, by omega, fun e h h' => by omega, fun e _ => by omega⟩
        · cases eg
      · rw [if_neg d7]
        cases j with
        | zero => omega
        | succ j =>
          have hL : lackAt ls (7 - j) = lackAt ls (d + 1) := by congr 1; omega
          unfold goT at eg
          rw [if_pos (by omega)] at eg
          have hm := T.most (d + 1)
          unfold mxA at ht
          rw [hL] at ht
          obtain ⟨cs', e', W⟩ := ih j (d + 1) (max a (lackAt ls (d + 1))) c cs (by omega) (by omega) (by omega) (by omega) hlen hn eg.symm
          have w1 := W.here
          refine ⟨cs', e', W.len, W.nn, W.cost, ?_, fun e h h' => ?_, fun e h => ?_⟩
          · have := W.ahead d (by omega)
            omega
          · by_cases e1 : e = d + 1
            · subst e1; omega
            · exact W.behind e (by omega) h'
          · -- of those of a later day each holds on all days up to d alike
            have a1 := W.ahead e (by omega)
            have a2 := W.ahead d (by omega)
            omega
    · rw [if_neg eg]
      rcases T.from_ d a c h1 (by omega) ha hc with e | ⟨h0, o, r, ho, hdo, hr, rfl⟩
      · rw [hc, e] at eg; exact absurd rfl eg
      · have ff : fits rows d a o = true := fits_iff.mpr ⟨hdo, r, hr, hc.symm⟩
        cases ef : firstT os rows d a with
        | none =>
          have := List.findIdx?_eq_none_iff.mp ef o ho
          rw [ff] at this; cases this
        | some k =>
          obtain ⟨hk, fk, _⟩ := List.findIdx?_eq_some_iff_getElem.mp ef
          obtain ⟨hdk, r', hr', hs⟩ := fits_iff.mp fk
          have eo : os.getD k ⟨0, 0, 0⟩ = os[k] := by rw [List.getD_eq_getElem?_getD, List.getElem?_eq_getElem hk]; rfl
          have ec : cs.getD k 0 = cs[k]'(by omega) := by rw [List.getD_eq_getElem?_getD, List.getElem?_eq_getElem (by omega)]; rfl
          rw [hc] at hs
          have hs' := Option.some.inj hs
          have gk := hg _ (List.getElem_mem hk)
          have g1 := gk.size1
          have hst : mxA ls j < a := by
            by_cases z : a ≤ mxA ls j
            · have := tab_stay T hg hd h1 a a _ (Nat.le_refl _) z hc
              rw [hc, this] at eg
              exact absurd rfl eg
            · omega
          show ∃ cs', walkT os ls rows t d (a - ((os.getD k ⟨0, 0, 0⟩).size.toNat)) (cs.set k (cs.getD k 0 + 1)) = some cs' ∧ _
          rw [eo, ec]
          have hco := List.getElem?_eq_getElem (show k < cs.length by omega)
          have hoo := List.getElem?_eq_getElem hk
          have c0 := hn _ (List.getElem_mem (show k < cs.length by omega))
          obtain ⟨cs', e', W⟩ := ih j d (a - os[k].size.toNat) r' (cs.set k (cs[k]'(by omega) + 1)) hd h1 (by omega) (by omega) (by rw [List.length_set]; exact hlen) (nn_set hn (by omega)) hr'
          have wc := wsum_set Offer.price 1 os cs k _ _ hoo hco
          have wh : ∀ e : Int, heldOn os (cs.set k (cs[k]'(by omega) + 1)) e = heldOn os cs e + onto e os[k] * 1 := fun e => by
            rw [heldOn_w, heldOn_w]
            exact wsum_set (onto e) 1 os cs k _ _ hoo hco
          have on : ∀ e : Nat, e ≤ d → onto e os[k] = os[k].size := day_on hdk h1
          refine ⟨cs', e', by rw [W.len, List.length_set], W.nn, ?_, ?_, fun e h h' => ?_, fun e h => ?_⟩
          · rw [W.cost, costOf_w, wc, ← costOf_w]; omega
          · have := W.here
            rw [wh, on d (Nat.le_refl _)] at this
            omega
          · have b := W.behind e h h'
            rw [wh] at b
            have := onto_nonneg gk e
            omega
          · have b := W.ahead e h
            rw [wh, wh, on e h, on d (Nat.le_refl _)] at b
            omega
end
end Lar
namespace Lar
open PySem PySem.Spec PyProof.Rows L2
theorem min7 (o : Offer) : (if (7 : Int) < o.last then (7 : Int) else o.last) = dayOf o := by
  unfold dayOf
  split <;> split <;> omega
def cellV : Option Int → V
  | none => .non
  | some x => .int x
theorem cellV_inj {x y : Option Int} (h : cellV x = cellV y) : x = y := by
  cases x with
  | none => cases y with
    | none => rfl
    | some y => cases h
  | some x => cases y with
    | none => cases h
    | some y => rw [V.int.inj h]
theorem cellV_scal (x y : Option Int) : scal (cellV x) (cellV y) = true := by cases x <;> cases y <;> rfl
theorem it_some {A B : Prop} {x : Option Int} (h1 : ∀ z, x = some z → A) (h2 : x = none → B) : if (!decide (cellV x = V.non)) = true then A else B := by
  cases x with
  | none => exact iteF (h2 rfl)
  | some z => exact iteT (h1 z rfl)
theorem it_none {A B : Prop} {x : Option Int} (h1 : x = none → A) (h2 : ∀ z, x = some z → B) : if decide (cellV x = V.non) = true then A else B := by
  cases x with
  | none => exact iteT (h1 rfl)
  | some z => exact iteF (h2 z rfl)
theorem dp_ints {K : PySem.W.Frag} {H : Hp} : ∀ zs : List Int, DpAll K H (zs.map V.int) (zs.map PyData.int)
  | [] => .nil
  | z :: r => .cons (.int z) (dp_ints r)
theorem int_lay : ∀ zs : List Int, PyData.canLayAll0 (zs.map PyData.int) = true
  | [] => by simp [PyData.canLayAll0]
  | z :: r => by
    rw [List.map_cons, PyData.canLayAll0, int_lay r]
    simp [PyData.canLay0]
theorem int_deep : ∀ zs : List Int, PyData.depthAll (zs.map PyData.int) = 0
  | [] => by simp [PyData.depthAll]
  | z :: r => by
    rw [List.map_cons, PyData.depthAll, int_deep r]
    simp [PyData.depth]
theorem int_shaped (zs : List Int) : SeqAt.shaped (.list (zs.map PyData.int)) = true := by
  unfold SeqAt.shaped
  rw [PyData.canLay0, int_lay, PyData.depth, int_deep]
  rfl
theorem nil_eqv (zs : List Int) : PyData.eqv (.list (zs.map PyData.int)) (.list []) = zs.isEmpty := by
  rw [PyData.eqv]
  cases zs with
  | nil => simp [PyData.eqvAll]
  | cons z r => simp [PyData.eqvAll]
def RowAt (H : Hp) (v : V) (r : List (Option Int)) : Prop := ∃ t, v = .ref t ∧ H t = some (.tup (r.map cellV))
theorem RowAt.mono : MonoT RowAt := fun _ _ _ _ e ⟨t, h1, h2⟩ => ⟨t, h1, e _ _ h2⟩
abbrev RowsAt : Hp → V → List (List (Option Int)) → Prop := TupAll RowAt
theorem RowsAt.mono : MonoT RowsAt := TupAll.mono RowAt.mono
/-- the greatest -/
def mostL (ls : List Int) : Nat := (ls.map Int.toNat).foldr max 0
theorem mostL_ge : ∀ (ls : List Int) (x : Int), x ∈ ls → x.toNat ≤ mostL ls
  | [], x, h => nomatch h
  | y :: r, x, h => by
    unfold mostL
    rw [List.map_cons, List.foldr_cons]
    rcases List.mem_cons.mp h with e | e
    · subst e; omega
    · have := mostL_ge r x e
      unfold mostL at this
      omega
theorem mostL_mem : ∀ (ls : List Int), ls ≠ [] → ∃ x ∈ ls, x.toNat = mostL ls
  | [], h => absurd rfl h
  | [y], _ => ⟨y, List.mem_singleton.mpr rfl, by unfold mostL; simp⟩
  | y :: z :: r, _ => by
    obtain ⟨x, hx, e⟩ := mostL_mem (z :: r) (by simp)
    unfold mostL at e ⊢
    rw [List.map_cons, List.foldr_cons]
    by_cases h : y.toNat ≤ ((z :: r).map Int.toNat).foldr max 0
    · exact ⟨x, List.mem_cons_of_mem _ hx, by rw [e]; omega⟩
    · exact ⟨y, List.mem_cons_self, by omega⟩
theorem mostL_eq {ls : List Int} (g : GoodLs ls) {m : Int} (h1 : m ∈ ls) (h2 : ∀ y ∈ ls, y ≤ m) : m = mostL ls := by
  have a := mostL_ge ls m h1
  obtain ⟨x, hx, e⟩ := mostL_mem ls (List.ne_nil_of_mem h1)
  have b := h2 x hx
  have c := (g.2 m h1).1
  have d := (g.2 x hx).1
  omega
theorem GoodLs.most {ls : List Int} (g : GoodLs ls) : mostL ls ≤ 200 := by
  obtain ⟨x, hx, e⟩ := mostL_mem ls (by intro z; have := g.1; rw [z] at this; cases this)
  have := g.2 x hx
  omega
theorem GoodLs.lack {ls : List Int} (g : GoodLs ls) (d : Nat) : lackAt ls d ≤ mostL ls := by
  unfold lackAt
  rw [List.getD_eq_getElem?_getD]
  cases e : ls[d - 1]? with
  | none => exact Nat.zero_le _
  | some x => exact mostL_ge ls x (List.mem_of_getElem? e)
theorem GoodLs.at {ls : List Int} (g : GoodLs ls) {d : Nat} (h1 : 1 ≤ d) (h7 : d ≤ 7) : ls[d - 1]? = some (lackAt ls d : Int) := by
  have hl : d - 1 < ls.length := by rw [g.1]; omega
  have e := List.getElem?_eq_getElem hl
  rw [e]
  congr 1
  unfold lackAt
  rw [List.getD_eq_getElem?_getD, e]
  have := (g.2 _ (List.getElem_mem hl)).1
  show _ = ((ls[d - 1].toNat : Nat) : Int)
  omega
theorem cell_at' {rows : List (List (Option Int))} {M d a : Nat} (hl : rows.length = 7) (he : ∀ r ∈ rows, r.length = M + 1) (h1 : 1 ≤ d) (h7 : d ≤ 7) (ha : a ≤ M) : ∃ r, rows[d - 1]? = some r ∧ r[a]? = some (cellT rows d a) := by
  have h : d - 1 < rows.length := by omega
  have e := List.getElem?_eq_getElem h
  refine ⟨_, e, ?_⟩
  have hr := he _ (List.getElem_mem h)
  unfold cellT
  rw [List.getD_eq_getElem?_getD, List.getD_eq_getElem?_getD, e]
  show _ = some ((rows[d - 1])[a]?.getD none)
  rw [List.getElem?_eq_getElem (by omega)]; rfl
/-- what is told for a cell -/
def candT (rows : List (List (Option Int))) (d a : Nat) (o : Offer) : Option Int := if 0 < a ∧ dayOf o = d then (match cellT rows d (a - o.size.toNat) with | none => none | some r => some (r + o.price)) else none
def dueT (os : List Offer) (ls : List Int) (rows : List (List (Option Int))) (d a : Nat) : List Int := (goT ls rows d a).toList ++ os.filterMap (candT rows d a)
section
variable {os : List Offer} {ls : List Int} {M : Nat} {rows : List (List (Option Int))} {d a : Nat}
theorem due_mem (T : IsTable os ls M rows) (h1 : 1 ≤ d) (h7 : d ≤ 7) (ha : a ≤ M) {z : Int} (hz : z ∈ dueT os ls rows d a) : ∃ c, cellT rows d a = some c ∧ c ≤ z := by
  rcases List.mem_append.mp hz with h | h
  · rw [Option.mem_toList] at h
    exact T.go d a z h1 h7 ha h
  · obtain ⟨o, ho, e⟩ := List.mem_filterMap.mp h
    unfold candT at e
    split at e
    · rename_i hc
      split at e
      · cases e
      · rename_i r hr
        cases e
        exact T.take d a o r h1 h7 ha hc.1 ho hc.2 hr
    · cases e
theorem due_of (T : IsTable os ls M rows) (h1 : 1 ≤ d) (h7 : d ≤ 7) (ha : a ≤ M) {c : Int} (hc : cellT rows d a = some c) : c ∈ dueT os ls rows d a := by
  rcases T.from_ d a c h1 h7 ha hc with e | ⟨h0, o, r, ho, hdo, hr, rfl⟩
  · exact List.mem_append_left _ (by rw [e]; simp)
  · refine List.mem_append_right _ (List.mem_filterMap.mpr ⟨o, ho, ?_⟩)
    unfold candT
    rw [if_pos ⟨h0, hdo⟩, hr]
theorem due_none (T : IsTable os ls M rows) (h1 : 1 ≤ d) (h7 : d ≤ 7) (ha : a ≤ M) (h : dueT os ls rows d a = []) : cellT rows d a = none := by
  cases e : cellT rows d a with
  | none => rfl
  | some c =>
    have := due_of T h1 h7 ha e
    rw [h] at this
    cases this
theorem due_min (T : IsTable os ls M rows) (h1 : 1 ≤ d) (h7 : d ≤ 7) (ha : a ≤ M) {m : Int} (hm : m ∈ dueT os ls rows d a) (hl : ∀ y ∈ dueT os ls rows d a, m ≤ y) : cellT rows d a = some m := by
  obtain ⟨c, e, l⟩ := due_mem T h1 h7 ha hm
  have := hl c (due_of T h1 h7 ha e)
  rw [e]
  congr 1
  omega
end
def spTable : Sp := fun vs H Q _ => ∃ (v : V) (c : Addr) (os : List Offer) (ls : List Int), vs = [v, .ref c] ∧ OffersAt H v os ∧ H c = some (.tup (ls.map V.int)) ∧ os.length ≤ 60 ∧ (∀ o ∈ os, GoodOffer o) ∧ GoodLs ls ∧
  ∀ v' rows H', Same H H' → RowsAt H' v' rows → IsTable os ls (mostL ls) rows → Q v' H'
def boughtT (os : List Offer) (ls : List Int) (rows : List (List (Option Int))) : Option (List Int) := if cellT rows 1 (lackAt ls 1) = none then none else walkT os ls rows 220 1 (lackAt ls 1) (List.replicate os.length 0)
def spBought : Sp := fun vs H Q _ => ∃ (v : V) (c : Addr) (os : List Offer) (ls : List Int), vs = [v, .ref c] ∧ OffersAt H v os ∧ H c = some (.tup (ls.map V.int)) ∧ os.length ≤ 60 ∧ (∀ o ∈ os, GoodOffer o) ∧ GoodLs ls ∧
  ∀ rows H', Same H H' → IsTable os ls (mostL ls) rows → (boughtT os ls rows = none → Q .non H') ∧ (∀ cs p, boughtT os ls rows = some cs → H' p = some (.tup (cs.map V.int)) → Q (.ref p) H')
end Lar
namespace Lar
open PySem PySem.Spec PyProof.Rows L2
/-! ### min(xs, default=None) of a list of ints -/
section
variable {prog : Program} {w : World} {A : Around} {E : Value → Shared → Prop} {s : Shared} {l : Addr}
theorem min_dflt {xs : Array (Int × Tok)} {d : Value} {Q : Value → Shared → Prop} (hh : A.handled = none) (hl : s.heap.IsList l (intItems xs))
    (h0 : xs.size = 0 → ∀ h' tk, (∀ b o, s.heap.get? b = some o → h'.get? b = some o) → Q d { s with heap := h', toks := tk })
    (h : 0 < xs.size → ∀ v h' tk, (intItems xs)[argBest (fun i j => decide (numAt xs i < numAt xs j)) (xs.size - 1)]? = some v → (∀ b o, s.heap.get? b = some o → h'.get? b = some o) → Q v { s with heap := h', toks := tk }) :
    wpAny (model prog w) A (call (.builtin "min") [.ref l] [(Str.ofString "default", d)]) Q E s := by
  have hz : (intItems xs).size = xs.size := by simp [intItems]
  refine call_min_walkD (PySem.W.iter_listW (A := A.in1) hh hl fun s₂ e W st hfp hw hk => ?_)
  refine ⟨_, _, _, _, _, _, _, s.heap, (fun i j => decide (numAt xs i < numAt xs j)), rfl, W, st, hfp, hw, hk, fun hz0 s' m => ?_, fun hp => ⟨fun i j vi vj s Q E _ hi hj hq => CmpOf.ints_lt (numAt xs) (fun _ _ => intItems_at) i j vi vj s Q E hi hj hq, fun v s' hP m => ?_⟩⟩
  · obtain ⟨h', tk, rfl, hk'⟩ := PySem.W.moved_old e rfl m
    exact h0 (by omega) h' tk hk'
  · obtain ⟨h', tk, rfl, hk'⟩ := PySem.W.moved_old e rfl m
    rw [hz] at hP
    exact h (by omega) v h' tk hP hk'
end
section
variable {X : Cx} {K : PySem.W.Frag}
def tMinD (K : PySem.W.Frag) (t : TA) : TE := fun σ H Q => t σ H fun vs H1 => ∃ (a : Addr) (ns : List Int), vs = [V.ref a] ∧ SqL K H1 a (ns.map V.int) ∧ (ns = [] → Q .non H1) ∧ ∀ m, m ∈ ns → (∀ y, y ∈ ns → m ≤ y) → Q (.int m) H1
theorem kpe_minD (K : PySem.W.Frag) {e : Expr} {p pos np kp : Pos} {k : Nat} {t : TA} (hc : X.calm = true) (hg : Gl X "min") (hm : X.mg "min" = none) (ha : PA X [e] t) (hK : X.K = K := by rfl)
    (he : backTo pos (starEach [e] X.env) = (false, eval e X.env) :: backTo pos (starEach [] X.env) := by rfl) (hpl : (backTo pos (starEach [e] X.env)).any (·.1) = false := by rfl) :
    PE X (.Call (.Name "min" p) [e] [⟨some "default", .Constant .none k np, kp⟩] pos) (tMinD K t) := by
  subst hK
  refine ⟨fun pins s σ H Q I h => ?_⟩
  refine wpAny_Call_Name_kw (ld_blt I hg hm (by decide +kernel) (callWith_kw (id := "min") (thn (ha.run pos pins s σ H _ I h) fun us s1 ⟨vs, H1, I1, r1, q1⟩ => ?_) he hpl))
  obtain ⟨a, ns, rfl, hs, q0, q⟩ := q1
  obtain ⟨its, rv, hl, _⟩ := I1.list hs
  rw [Vals.ref1 r1]
  refine kws_cons (Constant_none (kws_nil ?_))
  have hi : IntsAre its ns := rv.ints
  obtain ⟨xs, e⟩ := hi.allInts.items
  have hn : numsOf (intItems xs).toList = ns := by rw [← e]; exact hi.numsOf
  rw [nums_intItems] at hn
  have hl2 : s1.heap.IsList a (intItems xs) := by rw [← e]; exact hl.isList
  refine min_dflt (I1.ok.hd hc) hl2 (fun hz h' tk hk => ?_) (fun hz v h' tk hv hk => ?_)
  · have : ns = [] := by rw [← hn]; simpa using hz
    exact ⟨.non, H1, I1.kept hk, rfl, q0 this⟩
  · obtain ⟨t', rfl⟩ := intItems_at hv
    obtain ⟨h1, h2⟩ := argBest_lt (numAt xs) (xs.size - 1)
    refine ⟨.int _, H1, I1.kept hk, ⟨_, rfl⟩, q _ ?_ fun y hy => ?_⟩
    · rw [numAt_eq, hn]; exact PySem.getD_mem (by rw [← hn, List.length_map, Array.length_toList]; omega)
    · rw [← hn] at hy
      obtain ⟨j, hj, rfl⟩ := mem_getD hy
      rw [List.length_map, Array.length_toList] at hj
      rw [← numAt_eq]; exact h2 j (by omega)
/-! ### xs[i] += e of a list -/
theorem kget_list (K : PySem.W.Frag) (hK : X.K = K := by rfl) : PGet X (rIxL K) := by
  subst hK
  intro pins s σ H x y v u Q I rx ry h
  obtain ⟨p, xs, i, z, rfl, rfl, hq, he, q⟩ := h
  cases rx
  obtain ⟨t, rfl⟩ := ry
  obtain ⟨its, r, pl, hz⟩ := I.list hq
  obtain ⟨j, h1, h2, h3, h4, h5⟩ := atI_get he
  obtain ⟨w, ew, rw'⟩ := r.get h2
  have hl := r.length
  have hn := line63
  have fin : EP X pins σ Q w s := ⟨z, H, I, rw', q⟩
  by_cases h0 : 0 ≤ i
  · have hj : i.toNat = j := by
      rw [seqIndex_of h0 h5] at h1
      exact Option.some.inj h1
    exact wpAny_getItem_list pl.isList h0 (by omega) (by rw [hj]; simpa using ew) fin
  · have hj : (i + (its.toArray.size : Int)).toNat = j := by
      rw [seqIndex_neg (by omega) h4] at h1
      rw [List.size_toArray, ← hl]
      exact Option.some.inj h1
    exact wpAny_getItem_list_neg pl.isList (by omega) (by rw [List.size_toArray] <;> omega) (by omega) (by rw [hj]; simpa using ew) fin
end
end Lar
namespace Lar
open PySem PySem.Spec PyProof.Rows L2
/-! ### a table, row by row -/
/-- c is the least of xs, none where all are -/
structure IsLeast (c : Option Int) (xs : List (Option Int)) : Prop where
  le : ∀ z, some z ∈ xs → ∃ c', c = some c' ∧ c' ≤ z
  mem : ∀ c', c = some c' → some c' ∈ xs
theorem least_none {xs : List (Option Int)} (h : xs.filterMap id = []) : IsLeast none xs := by
  refine ⟨fun z hz => ?_, fun c' e => nomatch e⟩
  have : z ∈ xs.filterMap id := List.mem_filterMap.mpr ⟨some z, hz, rfl⟩
  rw [h] at this
  cases this
theorem least_some {xs : List (Option Int)} {m : Int} (hm : m ∈ xs.filterMap id) (hl : ∀ y ∈ xs.filterMap id, m ≤ y) : IsLeast (some m) xs := by
  refine ⟨fun z hz => ⟨m, rfl, hl z (List.mem_filterMap.mpr ⟨some z, hz, rfl⟩)⟩, fun c' e => ?_⟩
  cases e
  obtain ⟨a, ha, e⟩ := List.mem_filterMap.mp hm
  have : a = some m := e
  rw [← this]
  exact ha
def goG (ls : List Int) (nxt : List (Option Int)) (d a : Nat) : Option Int := if d < 7 then nxt.getD (max a (lackAt ls (d + 1))) none else if a = 0 then some 0 else none
def withO (r : List (Option Int)) (a : Nat) (s p : Int) : Option Int := match r.getD (a - s.toNat) none with | none => none | some z => some (p + z)
def soldL (os : List Offer) (d : Nat) : List (Nat × Offer) := (List.range os.length).filterMap fun k => if dayOf (os.getD k ⟨0, 0, 0⟩) = d then some (k, os.getD k ⟨0, 0, 0⟩) else none
def SoldAt (H : Hp) (v : V) (x : Nat × Offer) : Prop := ∃ t, v = .ref t ∧ H t = some (.tup [.int (x.1 : Nat), .int x.2.size, .int x.2.price])
theorem SoldAt.mono : MonoT SoldAt := fun _ _ _ _ e ⟨t, h1, h2⟩ => ⟨t, h1, e _ _ h2⟩
theorem sold_mem {os : List Offer} {d : Nat} {k : Nat} {o : Offer} : (k, o) ∈ soldL os d ↔ os[k]? = some o ∧ dayOf o = d := by
  unfold soldL
  rw [List.mem_filterMap]
  constructor
  · rintro ⟨k', hk, e⟩
    have hk' := List.mem_range.mp hk
    split at e
    · rename_i hd
      cases e
      have e1 : os.getD k ⟨0, 0, 0⟩ = os[k] := by rw [List.getD_eq_getElem?_getD, List.getElem?_eq_getElem hk']; rfl
      rw [e1] at hd ⊢
      exact ⟨List.getElem?_eq_getElem hk', hd⟩
    · cases e
  · rintro ⟨e, hd⟩
    have hk := (List.getElem?_eq_some_iff.mp e).1
    have e1 : os.getD k ⟨0, 0, 0⟩ = o := by rw [List.getD_eq_getElem?_getD, e]; rfl
    exact ⟨k, List.mem_range.mpr hk, by rw [e1, if_pos hd]⟩
theorem sold_len (os : List Offer) (d : Nat) : (soldL os d).length ≤ os.length := by
  have := List.length_filterMap_le (fun k => if dayOf (os.getD k ⟨0, 0, 0⟩) = d then some (k, os.getD k ⟨0, 0, 0⟩) else none) (List.range os.length)
  rw [List.length_range] at this
  exact this
/-- what the cell of an amount above 0 is the least of -/
def dues (os : List Offer) (ls : List Int) (nxt r : List (Option Int)) (d a : Nat) : List (Option Int) := goG ls nxt d a :: (soldL os d).map fun x => withO r a x.2.size x.2.price
structure RowIs (os : List Offer) (ls : List Int) (M d : Nat) (nxt r : List (Option Int)) : Prop where
  len : r.length = M + 1
  zero : r.getD 0 none = goG ls nxt d 0
  more : ∀ a : Nat, 0 < a → a ≤ M → IsLeast (r.getD a none) (dues os ls nxt r d a)
/-- rows rs of the days 7 - n + 1 to 7 -/
def Chain (os : List Offer) (ls : List Int) (M : Nat) (rs : List (List (Option Int))) : Prop := ∀ j : Nat, j < rs.length → RowIs os ls M (8 - rs.length + j) (rs.getD (j + 1) []) (rs.getD j [])
theorem getD_app {α : Type} {xs : List α} {x z : α} {j : Nat} (h : j < xs.length) : (xs ++ [x]).getD j z = xs.getD j z := by
  rw [List.getD_eq_getElem?_getD, List.getD_eq_getElem?_getD, List.getElem?_append_left h]
/-- a row that grows: what it is so far -/
structure RowTo (os : List Offer) (ls : List Int) (d : Nat) (nxt : List (Option Int)) (r : List (Option Int)) : Prop where
  pos : 0 < r.length
  zero : r.getD 0 none = goG ls nxt d 0
  more : ∀ a : Nat, 0 < a → a < r.length → IsLeast (r.getD a none) (dues os ls nxt r d a)
theorem withO_app {r : List (Option Int)} {c : Option Int} {a : Nat} {s p : Int} (hs : 1 ≤ s) (h0 : 0 < a) (ha : a ≤ r.length) : withO (r ++ [c]) a s p = withO r a s p := by
  unfold withO
  rw [getD_app (by omega)]
theorem dues_app {os : List Offer} (hg : ∀ o ∈ os, GoodOffer o) {ls : List Int} {nxt r : List (Option Int)} {c : Option Int} {d a : Nat} (h0 : 0 < a) (ha : a ≤ r.length) : dues os ls nxt (r ++ [c]) d a = dues os ls nxt r d a := by
  unfold dues
  congr 1
  apply List.map_congr_left
  rintro ⟨k, o⟩ hx
  have ho := (sold_mem.mp hx).1
  exact withO_app (hg o (List.mem_of_getElem? ho)).size1 h0 ha
theorem RowTo.next {os : List Offer} (hg : ∀ o ∈ os, GoodOffer o) {ls : List Int} {nxt r : List (Option Int)} {c : Option Int} {d : Nat} (R : RowTo os ls d nxt r) (h : IsLeast c (dues os ls nxt r d r.length)) : RowTo os ls d nxt (r ++ [c]) := by
  refine ⟨by rw [List.length_append]; have := R.pos; omega, by rw [getD_app R.pos]; exact R.zero, fun a h0 ha => ?_⟩
  rw [List.length_append] at ha
  have ha' : a ≤ r.length := by simpa using Nat.lt_succ_iff.mp ha
  rw [dues_app hg h0 ha']
  by_cases e : a = r.length
  · subst e
    have : (r ++ [c]).getD r.length none = c := by rw [List.getD_eq_getElem?_getD]; simp
    rw [this]
    exact h
  · rw [getD_app (by omega)]
    exact R.more a h0 (by omega)
theorem RowTo.is {os : List Offer} {ls : List Int} {nxt r : List (Option Int)} {d M : Nat} (R : RowTo os ls d nxt r) (h : r.length = M + 1) : RowIs os ls M d nxt r := ⟨h, R.zero, fun a h0 ha => R.more a h0 (by omega)⟩
theorem table_of {os : List Offer} {ls : List Int} {M : Nat} {rs : List (List (Option Int))} (hg : ∀ o ∈ os, GoodOffer o) (h7 : rs.length = 7) (hm : ∀ d : Nat, lackAt ls d ≤ M) (C : Chain os ls M rs) : IsTable os ls M rs := by
  have rowAt : ∀ d : Nat, 1 ≤ d → d ≤ 7 → RowIs os ls M d (rs.getD d []) (rs.getD (d - 1) []) := fun d h1 h2 => by
    have := C (d - 1) (by omega)
    rw [show d - 1 + 1 = d by omega, show 8 - rs.length + (d - 1) = d by omega] at this
    exact this
  have go_eq : ∀ d a : Nat, goT ls rs d a = goG ls (rs.getD d []) d a := fun d a => by
    unfold goT goG cellT
    rfl
  have with_eq : ∀ (d a : Nat) (o : Offer), withO (rs.getD (d - 1) []) a o.size o.price = (cellT rs d (a - o.size.toNat)).map fun z => o.price + z := fun d a o => by
    unfold withO cellT
    cases (rs.getD (d - 1) []).getD (a - o.size.toNat) none <;> rfl
  refine ⟨h7, fun r hr => ?_, hm, fun d a c h1 h2 ha hc => ?_, fun d a g h1 h2 ha hgo => ?_, fun d a o r h1 h2 ha h0 ho hd hr => ?_⟩
  · obtain ⟨j, hj, rfl⟩ := List.getElem_of_mem hr
    have := (rowAt (j + 1) (by omega) (by omega)).len
    rw [Nat.add_sub_cancel, List.getD_eq_getElem?_getD, List.getElem?_eq_getElem hj] at this
    exact this
  · have R := rowAt d h1 h2
    by_cases z : a = 0
    · subst z
      left
      rw [go_eq, ← R.zero]
      exact hc
    · have := (R.more a (by omega) ha).mem c hc
      rcases List.mem_cons.mp this with e | e
      · left; rw [go_eq, ← e]
      · right
        obtain ⟨⟨k, o⟩, hx, e2⟩ := List.mem_map.mp e
        obtain ⟨hk, hd⟩ := sold_mem.mp hx
        rw [with_eq] at e2
        cases er : cellT rs d (a - o.size.toNat) with
        | none => rw [er] at e2; cases e2
        | some z =>
          rw [er] at e2
          refine ⟨by omega, o, z, List.mem_of_getElem? hk, hd, er, ?_⟩
          have : o.price + z = c := Option.some.inj e2
          omega
  · have R := rowAt d h1 h2
    rw [go_eq] at hgo
    by_cases z : a = 0
    · subst z
      refine ⟨g, ?_, Int.le_refl _⟩
      rw [← hgo, ← R.zero]; rfl
    · exact (R.more a (by omega) ha).le g (List.mem_cons.mpr (.inl hgo.symm))
  · have R := rowAt d h1 h2
    obtain ⟨k, hk, rfl⟩ := List.getElem_of_mem ho
    have hx : (k, os[k]) ∈ soldL os d := sold_mem.mpr ⟨List.getElem?_eq_getElem hk, hd⟩
    refine (R.more a h0 ha).le (r + os[k].price) (List.mem_cons.mpr (.inr (List.mem_map.mpr ⟨_, hx, ?_⟩)))
    rw [with_eq, hr]
    show some (os[k].price + r) = _
    congr 1
    omega
/-! ### what the table's functions promise -/
def spLeast (K : PySem.W.Frag) : Sp := fun vs H Q _ => ∃ (p : Addr) (xs : List (Option Int)), vs = [.ref p] ∧ SqL K H p (xs.map cellV) ∧ xs.length ≤ 1000 ∧ ∀ c H', Same H H' → IsLeast c xs → Q (cellV c) H'
def spWithOffer (K : PySem.W.Frag) : Sp := fun vs H Q _ => ∃ (p : Addr) (r : List (Option Int)) (a : Nat) (s c : Int), vs = [.ref p, .int a, .int s, .int c] ∧ SqA K H p (r.map cellV) ∧ 0 ≤ s ∧ a - s.toNat < r.length ∧ Q (cellV (withO r a s c)) H
def spGoingOn (K : PySem.W.Frag) : Sp := fun vs H Q _ => ∃ (b p : Addr) (ls : List Int) (us : List V) (nxt : List (Option Int)) (M d a : Nat), vs = [.ref b, .ref p, .int d, .int a] ∧ H b = some (.tup (ls.map V.int)) ∧ GoodLs ls ∧ SqA K H p us ∧ 1 ≤ d ∧ d ≤ 7 ∧ a ≤ M ∧ (∀ d : Nat, lackAt ls d ≤ M) ∧
  (d < 7 → ∃ t, us[d]? = some (.ref t) ∧ H t = some (.tup (nxt.map cellV)) ∧ nxt.length = M + 1) ∧ Q (cellV (goG ls nxt d a)) H
def spSoldOn : Sp := fun vs H Q _ => ∃ (v : V) (os : List Offer) (d : Nat), vs = [v, .int d] ∧ OffersAt H v os ∧ os.length ≤ 60 ∧ (∀ o ∈ os, GoodOffer o) ∧ ∀ p us H', Same H H' → H p = none → H' p = some (.lst us) → Held SoldAt H' us (soldL os d) → Q (.ref p) H'
def spRowOf (K : PySem.W.Frag) : Sp := fun vs H Q _ => ∃ (v : V) (b p : Addr) (os : List Offer) (ls : List Int) (us : List V) (nxt : List (Option Int)) (d : Nat), vs = [v, .ref b, .ref p, .int d] ∧ OffersAt H v os ∧ os.length ≤ 60 ∧ (∀ o ∈ os, GoodOffer o) ∧ H b = some (.tup (ls.map V.int)) ∧ GoodLs ls ∧ SqA K H p us ∧ 1 ≤ d ∧ d ≤ 7 ∧
  (d < 7 → ∃ t, us[d]? = some (.ref t) ∧ H t = some (.tup (nxt.map cellV)) ∧ nxt.length = mostL ls + 1) ∧ ∀ v' r H', Same H H' → RowAt H' v' r → RowIs os ls (mostL ls) d nxt r → Q v' H'
end Lar
namespace Lar
open PySem PySem.Spec PyProof.Rows L2
/-! ### all but one object as it was -/
def SameBut (c : Addr) (H H' : Hp) : Prop := ∀ b x, b ≠ c → H b = some x → H' b = some x
theorem SameBut.of {c : Addr} {H H' : Hp} (e : Same H H') : SameBut c H H' := fun b x _ h => e b x h
theorem SameBut.refl (c : Addr) (H : Hp) : SameBut c H H := fun _ _ _ h => h
theorem SameBut.trans {c : Addr} {H H1 H2 : Hp} (a : SameBut c H H1) (b : SameBut c H1 H2) : SameBut c H H2 := fun d o n h => b d o n (a d o n h)
theorem SameBut.put {c : Addr} {H H' : Hp} {o : HO} (a : SameBut c H H') : SameBut c H (upd H' c o) := fun b x n h => by
  rw [upd_ne n]
  exact a b x n h
theorem SameBut.over {c : Addr} {H0 H H' : Hp} (s : Same H0 H) (h : H0 c = none) (a : SameBut c H H') : Same H0 H' := fun b x e => a b x (ne_of_none e h) (s b x e)
theorem keepA {K : PySem.W.Frag} {H H' : Hp} {a : Addr} {xs : List V} (h : ∀ x, H a = some x → H' a = some x) (q : SqA K H a xs) : SqA K H' a xs := by
  rcases q with ((q | ⟨o, q⟩) | q) | ((q | ⟨o, q⟩) | q)
  · exact .inl (.inl (.inl (h _ q)))
  · exact .inl (.inl (.inr ⟨o, h _ q⟩))
  · exact .inl (.inr q)
  · exact .inr (.inl (.inl (h _ q)))
  · exact .inr (.inl (.inr ⟨o, h _ q⟩))
  · exact .inr (.inr q)
theorem SameBut.sq {K : PySem.W.Frag} {c : Addr} {H H' : Hp} {a : Addr} {xs : List V} (e : SameBut c H H') (n : a ≠ c) (q : SqA K H a xs) : SqA K H' a xs := keepA (fun x h => e a x n h) q
/-- where c is a list all along, tuples stay -/
theorem SameBut.tup {c : Addr} {H H' : Hp} {zs : List V} (e : SameBut c H H') (h : H c = some (.lst zs)) : SameT H H' := fun b xs hb => e b _ (fun z => by subst z; rw [h] at hb; cases hb) hb
theorem cutV_from (xs : List V) (i : Nat) : cutV xs (some (i : Int)) none = xs.drop i := by
  unfold cutV
  rw [HT.sIx_nat, HT.sIx_none]
  by_cases h : i ≤ xs.length
  · rw [Nat.min_eq_left h]
    exact List.take_of_length_le (by rw [List.length_drop]; exact Nat.le_refl _)
  · rw [Nat.min_eq_right (by omega), List.drop_of_length_le (Nat.le_refl _), List.drop_of_length_le (by omega), List.take_nil]
theorem rep0 (d : Nat) : (List.replicate (d : Int).toNat [V.int 0]).flatten = (List.replicate d (0 : Int)).map V.int := by
  rw [Int.toNat_natCast]
  induction d with
  | zero => rfl
  | succ d ih => rw [List.replicate_succ, List.flatten_cons, ih, List.replicate_succ, List.map_cons]; rfl
/-! ### the offers that fit -/
abbrev oz : Offer := ⟨0, 0, 0⟩
def fitK (os : List Offer) (d : Int) : List Nat := (List.range os.length).filterMap fun k => if d ≤ (os.getD k oz).last then some k else none
theorem fit_mem {os : List Offer} {d : Int} {k : Nat} (h : k ∈ fitK os d) : k < os.length ∧ d ≤ (os.getD k oz).last := by
  obtain ⟨j, hj, e⟩ := List.mem_filterMap.mp h
  split at e
  · rename_i hd
    cases e
    exact ⟨List.mem_range.mp hj, hd⟩
  · cases e
theorem fit_nil {os : List Offer} {d : Int} (h : fitK os d = []) : ∀ o ∈ os, ¬ d ≤ o.last := fun o ho hd => by
  obtain ⟨k, hk, e⟩ := List.getElem_of_mem ho
  have : k ∈ fitK os d := List.mem_filterMap.mpr ⟨k, List.mem_range.mpr hk, by
    have e2 : os.getD k oz = o := by rw [List.getD_eq_getElem?_getD, List.getElem?_eq_getElem hk, ← e]; rfl
    rw [e2, if_pos hd]⟩
  rw [h] at this
  cases this
theorem zip_range (os : List Offer) (cs : List Int) (h : os.length = cs.length) : os.zip cs = (List.range os.length).map fun k => (os.getD k oz, cs.getD k 0) := by
  refine List.ext_getElem (by rw [zip_len h]; simp) fun i h1 h2 => ?_
  have hi : i < os.length := by rw [zip_len h] at h1; exact h1
  rw [List.getElem_zip, List.getElem_map, List.getElem_range]
  rw [List.getD_eq_getElem?_getD, List.getD_eq_getElem?_getD, List.getElem?_eq_getElem hi, List.getElem?_eq_getElem (by omega)]; rfl
theorem sum_fm (p : Nat → Prop) [DecidablePred p] (g : Nat → Int) : ∀ xs : List Nat, ((xs.filterMap fun k => if p k then some k else none).map g).sum = (xs.map fun k => if p k then g k else 0).sum
  | [] => rfl
  | x :: r => by
    rw [List.map_cons, List.sum_cons, ← sum_fm p g r]
    by_cases e : p x
    · simp only [List.filterMap_cons, if_pos e, List.map_cons, List.sum_cons]
    · simp only [List.filterMap_cons, if_neg e]; omega
theorem held_fit (os : List Offer) (cs : List Int) (h : os.length = cs.length) (d : Int) : ((fitK os d).map fun k => (os.getD k oz).size * cs.getD k 0).sum = heldOn os cs d := by
  unfold fitK
  rw [sum_fm]
  unfold heldOn heldZ
  rw [zip_range os cs h, List.map_map]; rfl
/-- what a filling up leaves -/
structure Filled (os : List Offer) (ls : List Int) (M : Nat) (i : Nat) (cs cs' : List Int) : Prop where
  len : cs'.length = cs.length
  nn : ∀ x ∈ cs', 0 ≤ x
  few : sumC cs' ≤ sumC cs + i * M
  serve : ∀ e : Nat, 7 - i < e → e ≤ 7 → (lackAt ls e : Int) ≤ heldOn os cs' e
theorem sumC_add : ∀ (cs : List Int) (k : Nat) (c x : Int), cs[k]? = some c → 0 ≤ c → 0 ≤ x → sumC (cs.set k (c + x)) = sumC cs + x.toNat
  | [], k, c, x, h, _, _ => by simp at h
  | c' :: cs, 0, c, x, h, hc, hx => by
    have e : c' = c := by simpa using h
    subst e
    unfold sumC
    rw [List.set_cons_zero, List.map_cons, List.sum_cons, List.map_cons, List.sum_cons]
    omega
  | c' :: cs, k + 1, c, x, h, hc, hx => by
    have ih := sumC_add cs k c x (by simpa using h) hc hx
    unfold sumC at ih ⊢
    rw [List.set_cons_succ, List.map_cons, List.sum_cons, List.map_cons, List.sum_cons]
    omega
theorem fill_div {l h s : Int} (hs : 1 ≤ s) (hl : h < l) : l - h ≤ s * ((l - h + s - 1) / s) ∧ 0 ≤ (l - h + s - 1) / s ∧ (l - h + s - 1) / s ≤ l - h := by
  have e := Int.mul_ediv_add_emod (l - h + s - 1) s
  have m0 := Int.emod_nonneg (l - h + s - 1) (show s ≠ 0 by omega)
  have m1 := Int.emod_lt_of_pos (l - h + s - 1) (show 0 < s by omega)
  have n0 := Int.ediv_nonneg (show 0 ≤ l - h + s - 1 by omega) (show 0 ≤ s by omega)
  refine ⟨by omega, n0, ?_⟩
  by_cases z : (l - h + s - 1) / s ≤ l - h
  · exact z
  · exfalso
    have z2 : l - h + 1 ≤ (l - h + s - 1) / s := by omega
    have := Int.mul_le_mul_of_nonneg_left z2 (show 0 ≤ s by omega)
    rw [Int.mul_add] at this
    have q : l - h ≤ s * (l - h) := by
      have := Int.mul_le_mul_of_nonneg_right hs (show 0 ≤ l - h by omega)
      omega
    omega
theorem Filled.none {os : List Offer} {ls : List Int} {M i : Nat} {cs cs' : List Int} (F : Filled os ls M i cs cs') (hi : i < 7) (h : (lackAt ls (7 - i) : Int) ≤ heldOn os cs' ((7 - i : Nat) : Int)) : Filled os ls M (i + 1) cs cs' :=
  ⟨F.len, F.nn, by have := F.few; rw [Nat.succ_mul]; omega, fun e h1 h2 => by
    by_cases z : e = 7 - i
    · subst z; exact h
    · exact F.serve e (by omega) h2⟩
theorem Filled.more {os : List Offer} {ls : List Int} {M i : Nat} {cs cs' : List Int} (F : Filled os ls M i cs cs') (hl : os.length = cs.length) (hg : ∀ o ∈ os, GoodOffer o) (hi : i < 7) (hM : lackAt ls (7 - i) ≤ M)
    {k : Nat} (hk : k ∈ fitK os ((7 - i : Nat) : Int)) (h : heldOn os cs' ((7 - i : Nat) : Int) < (lackAt ls (7 - i) : Int)) :
    Filled os ls M (i + 1) cs (cs'.set k (cs'.getD k 0 + ((lackAt ls (7 - i) : Int) - heldOn os cs' ((7 - i : Nat) : Int) + (os.getD k oz).size - 1) / (os.getD k oz).size)) := by
  obtain ⟨hk1, hk2⟩ := fit_mem hk
  have eo : os.getD k oz = os[k] := by rw [List.getD_eq_getElem?_getD, List.getElem?_eq_getElem hk1]; rfl
  have hkc : k < cs'.length := by rw [F.len, ← hl]; exact hk1
  have ec : cs'.getD k 0 = cs'[k] := by rw [List.getD_eq_getElem?_getD, List.getElem?_eq_getElem hkc]; rfl
  rw [eo] at hk2
  rw [eo, ec]
  have g := hg _ (List.getElem_mem hk1)
  have g1 := g.size1
  obtain ⟨d1, d2, d3⟩ := fill_div g1 h
  have c0 := F.nn _ (List.getElem_mem hkc)
  have hh : 0 ≤ heldOn os cs' ((7 - i : Nat) : Int) := by rw [heldOn_w]; exact wsum_nonneg _ _ _ (fun o ho => onto_nonneg (hg o ho) _) F.nn
  generalize hx : ((lackAt ls (7 - i) : Int) - heldOn os cs' ((7 - i : Nat) : Int) + os[k].size - 1) / os[k].size = x at d1 d2 d3 ⊢
  have hw : ∀ e : Int, heldOn os (cs'.set k (cs'[k] + x)) e = heldOn os cs' e + onto e os[k] * x := fun e => by
    rw [heldOn_w, heldOn_w]
    exact wsum_set (onto e) x os cs' k _ _ (List.getElem?_eq_getElem hk1) (List.getElem?_eq_getElem hkc)
  refine ⟨by rw [List.length_set]; exact F.len, nn_set F.nn (by omega), ?_, fun e h1 h2 => ?_⟩
  · have := sumC_add cs' k _ x (List.getElem?_eq_getElem hkc) c0 d2
    have f := F.few
    rw [this, Nat.succ_mul]
    omega
  · rw [hw]
    by_cases z : e = 7 - i
    · subst z
      unfold onto
      rw [if_pos hk2]
      omega
    · have := F.serve e (by omega) h2
      have := Int.mul_nonneg (onto_nonneg g e) d2
      omega
end Lar
namespace Lar
open PySem PySem.Spec PyProof.Rows L2
section
variable {os : List Offer} {ls : List Int} {rows : List (List (Option Int))}
theorem serves_iff (hls : GoodLs ls) (os : List Offer) (cs : List Int) : servesB os cs ls = true ↔ ∀ e : Nat, 1 ≤ e → e ≤ 7 → (lackAt ls e : Int) ≤ heldOn os cs e := by
  have at_ : ∀ e : Nat, 1 ≤ e → e ≤ 7 → ls.getD (e - 1) 0 = lackAt ls e := fun e h1 h7 => by
    rw [List.getD_eq_getElem?_getD, hls.at h1 h7]; rfl
  unfold servesB
  rw [List.all_eq_true]
  constructor
  · intro h e h1 h7
    have := of_decide_eq_true (h (e - 1) (List.mem_range.mpr (by omega)))
    rw [at_ e h1 h7] at this
    have e2 : (1 : Int) + ((e - 1 : Nat) : Int) = (e : Int) := by omega
    rw [e2] at this
    exact this
  · intro h i hi
    have hi7 := List.mem_range.mp hi
    have := h (i + 1) (by omega) (by omega)
    have e1 := at_ (i + 1) (by omega) (by omega)
    rw [Nat.add_sub_cancel] at e1
    have e2 : (1 : Int) + (i : Int) = ((i + 1 : Nat) : Int) := by omega
    refine decide_eq_true ?_
    rw [e1, e2]
    exact this
theorem costOf_zeros (os : List Offer) (n : Nat) : costOf os (List.replicate n 0) = 0 := by rw [costOf_w]; exact wsum_zeros _ _ _
theorem heldOn_zeros (os : List Offer) (n : Nat) (d : Int) : heldOn os (List.replicate n 0) d = 0 := by rw [heldOn_w]; exact wsum_zeros _ _ _
theorem bought_ok (T : IsTable os ls (mostL ls) rows) (hg : ∀ o ∈ os, GoodOffer o) (hls : GoodLs ls) {c : Int} (hc : cellT rows 1 (lackAt ls 1) = some c) :
    ∃ cs, boughtT os ls rows = some cs ∧ cs.length = os.length ∧ (∀ x ∈ cs, 0 ≤ x) ∧ costOf os cs = c ∧ servesB os cs ls = true := by
  have hm := hls.most
  have h1 := T.most 1
  have h2 := mxA_le T 6
  obtain ⟨cs, e, W⟩ := walk_ok T hg 220 6 1 (lackAt ls 1) c (List.replicate os.length 0) (by decide) (by decide) h1 (by omega) List.length_replicate (fun x hx => by rw [(List.mem_replicate.mp hx).2]; exact Int.le_refl _) hc
  refine ⟨cs, ?_, by rw [W.len, List.length_replicate], W.nn, by rw [W.cost, costOf_zeros]; omega, ?_⟩
  · unfold boughtT
    rw [hc, if_neg (by intro z; cases z)]
    exact e
  · rw [serves_iff hls]
    intro e h1 h7
    by_cases z : e = 1
    · subst z
      have := W.here
      rw [heldOn_zeros] at this
      omega
    · have := W.behind e (by omega) h7
      rw [heldOn_zeros] at this
      omega
theorem bought_none (hc : cellT rows 1 (lackAt ls 1) = none) : boughtT os ls rows = none := by
  unfold boughtT
  rw [if_pos hc]
/-- what serves costs no less than the cell -/
theorem serve_cell (T : IsTable os ls (mostL ls) rows) (hg : ∀ o ∈ os, GoodOffer o) (hls : GoodLs ls) {cs : List Int} (hn : ∀ x ∈ cs, 0 ≤ x) (h : servesB os cs ls = true) :
    ∃ c, cellT rows 1 (lackAt ls 1) = some c ∧ c ≤ costOf os cs := by
  rw [serves_iff hls] at h
  exact under T hg (fun o ho => ho) 6 (sumC cs) 1 (lackAt ls 1) cs (by decide) (by decide) rfl hn (T.most 1) (h 1 (by decide) (by decide)) (fun e h1 h7 => h e (by omega) h7)
end
theorem it_eqC {A B : Prop} {x y : Option Int} (h1 : x = y → A) (h2 : x ≠ y → B) : if decide (cellV x = cellV y) = true then A else B := ite2 (fun h => h1 (cellV_inj (of_decide_eq_true h))) (fun h => h2 fun z => h (decide_eq_true (congrArg cellV z)))
end Lar
namespace Lar
open PySem PySem.Spec PyProof.Rows L2
/-! ### the program's walk over the table -/
theorem it_neC {A B : Prop} {x y : Option Int} (h1 : x ≠ y → A) (h2 : x = y → B) : if (!decide (cellV x = cellV y)) = true then A else B := by
  by_cases e : x = y
  · subst e
    rw [decide_eq_true rfl]
    exact iteF (h2 rfl)
  · rw [decide_eq_false (fun z => e (cellV_inj z))]
    exact iteT (h1 e)
structure Walking (os : List Offer) (ls : List Int) (rows : List (List (Option Int))) (W0 : Option (List Int)) (d a : Nat) (cs : List Int) : Prop where
  am : a ≤ mostL ls
  len : cs.length = os.length
  nn : ∀ x ∈ cs, 0 ≤ x
  ex : ∃ t c, W0 = walkT os ls rows t d a cs ∧ max a (mxA ls (7 - d)) + (7 - d) + 1 ≤ t ∧ cellT rows d a = some c
section
variable {os : List Offer} {ls : List Int} {rows : List (List (Option Int))} {W0 : Option (List Int)} {d a : Nat} {cs : List Int}
theorem walking_start (T : IsTable os ls (mostL ls) rows) (hls : GoodLs ls) {c : Int} (hc : cellT rows 1 (lackAt ls 1) = some c) : Walking os ls rows (boughtT os ls rows) 1 (lackAt ls 1) (List.replicate os.length 0) := by
  have hm := hls.most
  have h1 := T.most 1
  have h2 := mxA_le T 6
  refine ⟨h1, List.length_replicate, fun x hx => by rw [(List.mem_replicate.mp hx).2]; exact Int.le_refl _, 220, c, ?_, by show max _ (mxA ls 6) + 6 + 1 ≤ 220; omega, hc⟩
  unfold boughtT
  rw [hc, if_neg (by intro z; cases z)]
theorem Walking.cell (W : Walking os ls rows W0 d a cs) : ∃ c, cellT rows d a = some c := by
  obtain ⟨t, c, _, _, h⟩ := W.ex
  exact ⟨c, h⟩
theorem Walking.last (W : Walking os ls rows W0 7 a cs) (h : cellT rows 7 a = goT ls rows 7 a) : W0 = some cs := by
  obtain ⟨t, c, e, hf, hc⟩ := W.ex
  cases t with
  | zero => omega
  | succ t =>
    unfold walkT at e
    rw [if_pos h, if_pos rfl] at e
    exact e
theorem Walking.next (W : Walking os ls rows W0 d a cs) (T : IsTable os ls (mostL ls) rows) (h7 : d < 7) (h : cellT rows d a = goT ls rows d a) : Walking os ls rows W0 (d + 1) (max a (lackAt ls (d + 1))) cs := by
  obtain ⟨t, c, e, hf, hc⟩ := W.ex
  have hm := T.most (d + 1)
  have ha := W.am
  refine ⟨by omega, W.len, W.nn, ?_⟩
  cases t with
  | zero => omega
  | succ t =>
    unfold walkT at e
    rw [if_pos h, if_neg (by omega)] at e
    refine ⟨t, c, e, ?_, ?_⟩
    · rw [show 7 - d = (7 - (d + 1)) + 1 by omega] at hf
      unfold mxA at hf
      rw [show 7 - (7 - (d + 1)) = d + 1 by omega] at hf
      omega
    · rw [hc] at h
      unfold goT at h
      rw [if_pos h7] at h
      exact h.symm
theorem Walking.take (W : Walking os ls rows W0 d a cs) (T : IsTable os ls (mostL ls) rows) (hg : ∀ o ∈ os, GoodOffer o) (h1 : 1 ≤ d) (h7 : d ≤ 7) (h : cellT rows d a ≠ goT ls rows d a) :
    ∃ (k : Nat) (hk : k < os.length), firstT os rows d a = some k ∧ 1 ≤ os[k].size ∧ 0 < a ∧ Walking os ls rows W0 d (a - os[k].size.toNat) (cs.set k (cs.getD k 0 + 1)) := by
  obtain ⟨t, c, e, hf, hc⟩ := W.ex
  have ha := W.am
  rcases T.from_ d a c h1 h7 ha hc with e1 | ⟨h0, o, r, ho, hdo, hr, rfl⟩
  · rw [hc, e1] at h; exact absurd rfl h
  · have ff : fits rows d a o = true := fits_iff.mpr ⟨hdo, r, hr, hc.symm⟩
    cases ef : firstT os rows d a with
    | none =>
      have := List.findIdx?_eq_none_iff.mp ef o ho
      rw [ff] at this; cases this
    | some k =>
      obtain ⟨hk, fk, _⟩ := List.findIdx?_eq_some_iff_getElem.mp ef
      obtain ⟨hdk, r', hr', hs⟩ := fits_iff.mp fk
      have eo : os.getD k ⟨0, 0, 0⟩ = os[k] := by rw [List.getD_eq_getElem?_getD, List.getElem?_eq_getElem hk]; rfl
      have g1 := (hg _ (List.getElem_mem hk)).size1
      have hst : mxA ls (7 - d) < a := by
        by_cases z : a ≤ mxA ls (7 - d)
        · have := tab_stay T hg (j := 7 - d) (d := d) (by omega) h1 a a _ (Nat.le_refl _) z hc
          rw [hc, this] at h
          exact absurd rfl h
        · omega
      have hkc : k < cs.length := by rw [W.len]; exact hk
      have ec : cs.getD k 0 = cs[k] := by rw [List.getD_eq_getElem?_getD, List.getElem?_eq_getElem hkc]; rfl
      have c0 := W.nn _ (List.getElem_mem hkc)
      refine ⟨k, hk, rfl, g1, h0, by omega, by rw [List.length_set]; exact W.len, nn_set W.nn (by rw [ec]; omega), ?_⟩
      cases t with
      | zero => omega
      | succ t =>
        unfold walkT at e
        rw [if_neg h, ef] at e
        replace e : W0 = walkT os ls rows t d (a - ((os.getD k ⟨0, 0, 0⟩).size.toNat)) (cs.set k (cs.getD k 0 + 1)) := e
        rw [eo] at e
        exact ⟨t, r', e, by omega, hr'⟩
end
/-- the first that fits, as the program looks for it -/
theorem first_of {os : List Offer} {rows : List (List (Option Int))} {r : List (Option Int)} {d a k : Nat} {c : Int} (hr : rows.getD (d - 1) [] = r) (hc : r.getD a none = some c) (hf : firstT os rows d a = some k) :
    ∃ rest, (soldL os d).filterMap (fun x => if withO r a x.2.size x.2.price = some c then some x.1 else none) = k :: rest := by
  obtain ⟨hk, fk, hj⟩ := List.findIdx?_eq_some_iff_getElem.mp hf
  have ct : ∀ x, cellT rows d x = r.getD x none := fun x => by unfold cellT; rw [hr]
  have wf : ∀ o : Offer, dayOf o = d → (withO r a o.size o.price = some c ↔ fits rows d a o = true) := fun o hd => by
    rw [fits_iff, ct, ct, hc]
    unfold withO
    cases e : r.getD (a - o.size.toNat) none with
    | none => simp
    | some z =>
      simp only [Option.some.injEq]
      constructor
      · intro h; exact ⟨hd, z, rfl, by omega⟩
      · rintro ⟨_, z', e', h⟩; omega
  have gd : ∀ j (hj : j < os.length), os.getD j ⟨0, 0, 0⟩ = os[j] := fun j hj => by rw [List.getD_eq_getElem?_getD, List.getElem?_eq_getElem hj]; rfl
  have en : List.range os.length = List.range k ++ k :: (List.range' (k + 1) (os.length - k - 1)) := by
    have h1 : os.length = k + ((os.length - k - 1) + 1) := by omega
    rw [List.range_eq_range', List.range_eq_range']
    conv => lhs; rw [h1]
    rw [← List.range'_append_1, List.range'_succ]
    simp
  unfold soldL
  rw [List.filterMap_filterMap, en, List.filterMap_append]
  have e0 : (List.range k).filterMap (fun j => (if dayOf (os.getD j ⟨0, 0, 0⟩) = d then some (j, os.getD j ⟨0, 0, 0⟩) else none).bind fun x => if withO r a x.2.size x.2.price = some c then some x.1 else none) = [] := by
    rw [List.filterMap_eq_nil_iff]
    intro j hjm
    have hjk := List.mem_range.mp hjm
    have hjo : j < os.length := by omega
    rw [gd j hjo]
    by_cases hd : dayOf os[j] = d
    · rw [if_pos hd]
      show (if withO r a os[j].size os[j].price = some c then some j else none) = none
      rw [if_neg]
      intro z
      have := (wf os[j] hd).mp z
      exact hj j hjk this
    · rw [if_neg hd]; rfl
  have hdk := (fits_iff.mp fk).1
  rw [e0, List.nil_append]
  refine ⟨_, List.filterMap_cons_some ?_⟩
  rw [gd k hk, if_pos hdk]
  show (if withO r a os[k].size os[k].price = some c then some k else none) = some k
  rw [if_pos ((wf os[k] hdk).mpr fk)]
def spFirstFit (K : PySem.W.Frag) : Sp := fun vs H Q _ => ∃ (sp p : Addr) (sus : List V) (os : List Offer) (rows : List (List (Option Int))) (r : List (Option Int)) (d a k : Nat) (c : Int), vs = [.ref sp, .ref p, .int a] ∧ SqL K H sp sus ∧ Held SoldAt H sus (soldL os d) ∧ SqA K H p (r.map cellV) ∧ os.length ≤ 60 ∧ (∀ o ∈ os, GoodOffer o) ∧
  rows.getD (d - 1) [] = r ∧ a < r.length ∧ r.getD a none = some c ∧ firstT os rows d a = some k ∧ ∀ H', Same H H' → Q (.int (k : Nat)) H'
end Lar
namespace Lar
open PySem PySem.Spec PyProof.Rows L2
/-! ### uses: tuples of pairs (batch, amount) -/
abbrev Use := Nat × Int
def UseAt (H : Hp) (v : V) (p : Use) : Prop := ∃ t, v = .ref t ∧ H t = some (.tup [.int (p.1 : Int), .int p.2])
theorem UseAt.mono : MonoT UseAt := fun _ _ _ _ e ⟨t, h1, h2⟩ => ⟨t, h1, e _ _ h2⟩
abbrev PairsAt : Hp → V → List Use → Prop := TupAll UseAt
theorem PairsAt.mono : MonoT PairsAt := TupAll.mono UseAt.mono
abbrev UsesAt : Hp → V → List (List Use) → Prop := TupAll PairsAt
theorem UsesAt.mono : MonoT UsesAt := TupAll.mono PairsAt.mono
/-- a tuple of ints -/
def IntsT (H : Hp) (v : V) (xs : List Int) : Prop := ∃ t, v = .ref t ∧ H t = some (.tup (xs.map V.int))
theorem IntsT.mono : MonoT IntsT := fun _ _ _ _ e ⟨t, h1, h2⟩ => ⟨t, h1, e _ _ h2⟩
/-- how much of a batch is used -/
def usedP (ps : List Use) (k : Nat) : Int := (ps.map fun p => if p.1 = k then p.2 else 0).sum
def usedOf (us : List (List Use)) (k : Nat) : Int := (us.map fun ps => usedP ps k).sum
theorem usedP_snoc (ps : List Use) (p : Use) (k : Nat) : usedP (ps ++ [p]) k = usedP ps k + if p.1 = k then p.2 else 0 := by
  unfold usedP
  rw [List.map_append, List.sum_append]; simp
theorem usedOf_snoc (us : List (List Use)) (ps : List Use) (k : Nat) : usedOf (us ++ [ps]) k = usedOf us k + usedP ps k := by
  unfold usedOf
  rw [List.map_append, List.sum_append]; simp
abbrev bz : Batch := ⟨"", 0, 0⟩
def endOf (b : Batch) (used : Int) : List Int := if b.last < 7 then [used, b.amount - used, 0] else [used, 0, b.amount - used]
def endsL (lar : List Batch) (us : List (List Use)) : List (List Int) := (List.range lar.length).map fun k => endOf (lar.getD k bz) (usedOf us k)
def spEnds : Sp := fun vs H Q _ => ∃ (v u : V) (lar : List Batch) (us : List (List Use)), vs = [v, u] ∧ LarderAt H v lar ∧ UsesAt H u us ∧ lar.length ≤ 50000 ∧ us.length ≤ 1000 ∧ (∀ ps ∈ us, ps.length ≤ 50000 ∧ ∀ p ∈ ps, p.1 < lar.length ∧ 1 ≤ p.2) ∧ (∀ k, k < lar.length → usedOf us k ≤ (lar.getD k bz).amount) ∧
  ∀ v' H', Same H H' → TupAll IntsT H' v' (endsL lar us) → Q v' H'
/-! ### what is left of the batches -/
def leftL (lar : List Batch) (f : Nat → Int) : List Int := (List.range lar.length).map fun k => (lar.getD k bz).amount - f k
theorem leftL_len (lar : List Batch) (f : Nat → Int) : (leftL lar f).length = lar.length := by unfold leftL; simp
theorem leftL_at {lar : List Batch} {f : Nat → Int} {k : Nat} (h : k < lar.length) : (leftL lar f)[k]? = some ((lar.getD k bz).amount - f k) := by
  unfold leftL
  rw [List.getElem?_map, List.getElem?_range h]; rfl
theorem leftL_set {lar : List Batch} {f g : Nat → Int} {k : Nat} {z : Int} (h : k < lar.length) (h1 : (lar.getD k bz).amount - g k = z) (h2 : ∀ j, j < lar.length → j ≠ k → g j = f j) : (leftL lar f).set k z = leftL lar g := by
  refine List.ext_getElem? fun j => ?_
  rw [List.getElem?_set]
  by_cases e : k = j
  · subst e
    rw [if_pos rfl, leftL_len, if_pos h, leftL_at h, h1]
  · rw [if_neg e]
    by_cases hj : j < lar.length
    · rw [leftL_at hj, leftL_at hj, h2 j hj (fun z => e z.symm)]
    · rw [List.getElem?_eq_none (by rw [leftL_len]; omega), List.getElem?_eq_none (by rw [leftL_len]; omega)]
theorem getD_at {α : Type} {xs : List α} {k : Nat} {x d : α} (h : xs[k]? = some x) : xs.getD k d = x := by rw [List.getD_eq_getElem?_getD, h]; rfl
theorem at_getD {α : Type} {xs : List α} {k : Nat} (h : k < xs.length) (d : α) : xs[k]? = some (xs.getD k d) := by rw [List.getD_eq_getElem?_getD, List.getElem?_eq_getElem h]; rfl
/-- what is told of each can be told of all -/
theorem Held.choose {α β : Type} {R : Hp → V → β → Prop} {P : α → β → Prop} {H : Hp} : ∀ {vs : List V} {xs : List α}, Held (fun H v x => ∃ y, R H v y ∧ P x y) H vs xs → ∃ ys : List β, Held R H vs ys ∧ ys.length = xs.length ∧ ∀ (i : Nat) x y, xs[i]? = some x → ys[i]? = some y → P x y
  | [], [], _ => ⟨[], Held.nil, rfl, fun i x y h => by simp at h⟩
  | [], _ :: _, h => by have := h.len; simp at this
  | _ :: _, [], h => by have := h.len; simp at this
  | v :: vs, x :: xs, h => by
    obtain ⟨ys, a, b, c⟩ := Held.choose (vs := vs) (xs := xs) (R := R) (P := P) (H := H) ⟨by have := h.len; simpa using this, fun i v' x' h1 h2 => h.all (i + 1) v' x' (by simpa using h1) (by simpa using h2)⟩
    obtain ⟨y, r, p⟩ := h.all 0 v x rfl rfl
    refine ⟨y :: ys, ⟨by simp [a.len], fun i v' y' h1 h2 => ?_⟩, by simp [b], fun i x' y' h1 h2 => ?_⟩
    · cases i with
      | zero =>
        have e1 : v = v' := by simpa using h1
        have e2 : y = y' := by simpa using h2
        subst e1 e2
        exact r
      | succ i => exact a.all i v' y' (by simpa using h1) (by simpa using h2)
    · cases i with
      | zero =>
        have e1 : x = x' := by simpa using h1
        have e2 : y = y' := by simpa using h2
        subst e1 e2
        exact p
      | succ i => exact c i x' y' (by simpa using h1) (by simpa using h2)
/-- a tuple and one that is not empty -/
theorem cat_tup {K : PySem.W.Frag} {H : Hp} {Q : VK} {a b : Addr} {xs ys : List V} (ha : SqT K H a xs) (hb : H b = some (.tup ys)) (hz : xs.length + ys.length ≤ sizeLine) (ny : ys ≠ []) (h : ∀ p H', Same H H' → H' p = some (.tup (xs ++ ys)) → Q (.ref p) H') : rCatA K (.ref a) (.ref b) H Q := by
  refine ⟨a, b, xs, ys, rfl, rfl, ha, sqT hb, hz, fun e => ?_, fun _ e => absurd e ny, fun _ _ p hp => ?_⟩
  · subst e
    exact h b H (Same.refl _) hb
  · exact h p _ (same_upd hp) upd_same
theorem endOf_len (b : Batch) (u : Int) : (endOf b u).length = 3 := by unfold endOf; split <;> rfl
end Lar
namespace Lar
open PySem PySem.Spec PyProof.Rows L2
/-! ### a dict of what is used of the batches -/
def kI (k : Nat) : L2.Key := Sum.inl (k : Int)
theorem kI_inj {i j : Nat} (h : kI i = kI j) : i = j := by
  have : (i : Int) = (j : Int) := Sum.inl.inj h
  omega
structure Tally (kvs : List (L2.Key × V)) (n : Nat) (f : Nat → Int) : Prop where
  keys : ∃ ns : List Nat, kvs.map (·.1) = ns.map kI ∧ ns.Nodup ∧ ∀ k ∈ ns, k < n
  val : ∀ k : Nat, (valV kvs (kI k)).getD (.int 0) = .int (f k)
theorem Tally.nil {n : Nat} : Tally [] n (fun _ => 0) := ⟨⟨[], rfl, List.nodup_nil, fun _ h => nomatch h⟩, fun _ => rfl⟩
theorem Tally.len {kvs : List (L2.Key × V)} {n : Nat} {f : Nat → Int} (T : Tally kvs n f) : kvs.length ≤ n := by
  obtain ⟨ns, e, hn, hl⟩ := T.keys
  have h1 : kvs.length = ns.length := by rw [← List.length_map (f := (·.1)), e, List.length_map]
  have h2 := nat_nodup_len ns (List.range n) hn fun k hk => List.mem_range.mpr (hl k hk)
  rw [List.length_range] at h2
  omega
theorem Tally.put {kvs : List (L2.Key × V)} {n : Nat} {f g : Nat → Int} (T : Tally kvs n f) {k : Nat} {z : Int} (hk : k < n) (h1 : g k = z) (h2 : ∀ j, j ≠ k → g j = f j) : Tally (putK kvs (kI k) (.int z)) n g := by
  refine ⟨?_, fun j => ?_⟩
  · obtain ⟨ns, e, hn, hl⟩ := T.keys
    cases hv : valV kvs (kI k) with
    | none =>
      refine ⟨ns ++ [k], ?_, ?_, fun j hj => ?_⟩
      · rw [putK_new _ hv, List.map_append, List.map_append, e]; rfl
      · refine nd_snoc hn fun z => ?_
        have := valV_not hv
        rw [e] at this
        exact this (List.mem_map.mpr ⟨k, z, rfl⟩)
      · rcases List.mem_append.mp hj with z | z
        · exact hl j z
        · rw [List.mem_singleton.mp z]; exact hk
    | some v =>
      refine ⟨ns, ?_, hn, hl⟩
      unfold putK
      rw [valV_any, hv]
      rw [if_pos (show (some v).isSome = true from rfl), List.map_map, ← e]
      apply List.map_congr_left
      intro p _
      show (if p.1 = kI k then (p.1, V.int z) else p).1 = p.1
      split <;> rfl
  · rw [valV_put]
    by_cases e : kI j = kI k
    · rw [if_pos e, kI_inj e, h1]; rfl
    · rw [if_neg e, h2 j (fun z => e (by rw [z]))]
      exact T.val j
def spSumsOf : Sp := fun vs H Q _ => ∃ (v : V) (us : List (List Use)) (n : Nat), vs = [v] ∧ UsesAt H v us ∧ us.length ≤ 1000 ∧ n ≤ 50000 ∧ (∀ ps ∈ us, ps.length ≤ 50000 ∧ ∀ p ∈ ps, p.1 < n) ∧ ∀ d kvs H', Same H H' → H' d = some (.dK kvs) → Tally kvs n (usedOf us) → Q (.ref d) H'
def spEndOf : Sp := fun vs H Q _ => ∃ (b : Batch) (u : Int), vs = [.int b.amount, .int b.last, .int u] ∧ ∀ v' H', Same H H' → IntsT H' v' (endOf b u) → Q v' H'
end Lar
namespace Lar
open PySem PySem.Spec PyProof.Rows L2
/-! ### packs -/
structure Pack where
  name : Str
  size : Int
  price : Int
  last : Int
def PackAt (H : Hp) (v : V) (p : Pack) : Prop := ∃ t, v = .ref t ∧ H t = some (.tup [.str p.name, .int p.size, .int p.price, .int p.last])
theorem PackAt.mono : MonoT PackAt := fun _ _ _ _ e ⟨t, h1, h2⟩ => ⟨t, h1, e _ _ h2⟩
abbrev PacksAt : Hp → V → List Pack → Prop := TupAll PackAt
theorem PacksAt.mono : MonoT PacksAt := TupAll.mono PackAt.mono
structure GoodPack (seed : Int) (p : Pack) : Prop where
  size1 : 1 ≤ p.size
  size2 : p.size ≤ 200
  price0 : 0 ≤ p.price
  price2 : p.price ≤ 1000000
  last1 : 1 ≤ p.last
  last2 : p.last ≤ 99
  name : NameOf seed p.name
structure FinePack (p : Pack) : Prop where
  size1 : 1 ≤ p.size
  size2 : p.size ≤ 200
  price0 : 0 ≤ p.price
  price2 : p.price ≤ 1000000
  last1 : 1 ≤ p.last
  last2 : p.last ≤ 99
  ok : OkS p.name
  few : p.name.length ≤ 16
def totalP (ps : List Pack) (cs : List Int) : Int := ((ps.zip cs).map fun p => p.1.price * p.2).sum
def batchOf (p : Pack) : Batch := ⟨p.name, p.size, p.last⟩
def stockZ (zs : List (Pack × Int)) : List Batch := zs.flatMap fun p => List.replicate p.2.toNat (batchOf p.1)
def stockL (lar : List Batch) (ps : List Pack) (cs : List Int) : List Batch := lar ++ stockZ (ps.zip cs)
def rowS (p : Pack) (c : Int) : Str := Txt.join " " [Str.ofString (toString c), p.name, Str.ofString (toString p.size), Str.ofString (toString (p.price * c))]
def rowsS (zs : List (Pack × Int)) : Str := zs.foldl (fun acc p => if 0 < p.2 then acc ++ rowS p.1 p.2 ++ ("\n" : Str) else acc) ("" : Str)
def listedS (ps : List Pack) (cs : List Int) : Str := rowsS (ps.zip cs) ++ ("total " : Str) ++ Str.ofString (toString (totalP ps cs))
def spTotal : Sp := fun vs H Q _ => ∃ (v : V) (b : Addr) (ps : List Pack) (cs : List Int), vs = [v, .ref b] ∧ PacksAt H v ps ∧ H b = some (.tup (cs.map V.int)) ∧ ps.length = cs.length ∧ ps.length ≤ 1000 ∧ (∀ p ∈ ps, FinePack p) ∧ (∀ c ∈ cs, 0 ≤ c) ∧
  ∀ H', Same H H' → Q (.int (totalP ps cs)) H'
def spStocked : Sp := fun vs H Q _ => ∃ (u v : V) (b : Addr) (lar : List Batch) (ps : List Pack) (cs : List Int), vs = [u, v, .ref b] ∧ LarderAt H u lar ∧ PacksAt H v ps ∧ H b = some (.tup (cs.map V.int)) ∧ ps.length = cs.length ∧ ps.length ≤ 1000 ∧ (∀ p ∈ ps, FinePack p) ∧ (∀ c ∈ cs, 0 ≤ c) ∧ lar.length + sumC cs ≤ 16000000 ∧
  ∀ v' H', Same H H' → LarderAt H' v' (stockL lar ps cs) → Q v' H'
def spListed : Sp := fun vs H Q _ => ∃ (v : V) (b : Addr) (ps : List Pack) (cs : List Int), vs = [v, .ref b] ∧ PacksAt H v ps ∧ H b = some (.tup (cs.map V.int)) ∧ ps.length = cs.length ∧ ps.length ≤ 60 ∧ (∀ p ∈ ps, FinePack p) ∧ (∀ c ∈ cs, 0 ≤ c ∧ c ≤ 200) ∧
  ∀ H', Same H H' → Q (.str (listedS ps cs)) H'
/-! ### lengths -/
theorem num_len {n : Int} {k : Nat} (h0 : 0 ≤ n) (hk : 0 < k) (h : n < 10 ^ k) : (Str.ofString (toString n)).length ≤ k := toString_length_le h0 hk h
theorem join_len (sep : Str) (ys : List Str) : (Txt.join sep ys).length ≤ (ys.map (·.length)).sum + ys.length * sep.length := by
  have h : (Txt.join sep ys).length = (ys.map (·.length)).sum + (ys.length - 1) * sep.length := size_glued sep ys
  rw [h]
  have := Nat.mul_le_mul_right sep.length (Nat.sub_le ys.length 1)
  omega
theorem words_len : ∀ x ∈ words, x.length ≤ 16 := by decide +kernel
theorem nameBy_len (seed k : Int) : (nameBy seed k).length ≤ 16 := by
  unfold nameBy
  split
  · rw [List.getD_eq_getElem?_getD]
    cases e : words[((seed / 6 + k) % 11).toNat]? with
    | none => exact Nat.zero_le _
    | some x => exact words_len x (List.mem_of_getElem? e)
  · have m1 := Int.emod_nonneg (seed / 6) (show (7 : Int) ≠ 0 by decide)
    have m2 := Int.emod_lt_of_pos (seed / 6) (show (0 : Int) < 7 by decide)
    have hn := nmNm_len (seed / 6) (1 + seed / 6 % 7).toNat
    simp only
    generalize nmNm (seed / 6) (1 + seed / 6 % 7).toNat = nm at *
    have hl : nm.length ≤ 7 := by omega
    split
    · rw [app_len, app_len, app_len, sg_len, sg_len]
      have a := cutS_length nm none (some (min6 (seed / 6 / 4550 % (((1 + seed / 6 % 7).toNat : Nat) : Int))))
      have b := cutS_length nm (some (min6 (seed / 6 / 4550 % (((1 + seed / 6 % 7).toNat : Nat) : Int)))) (some 6)
      omega
    · split
      · rw [app_len, sg_len]; omega
      · split
        · rw [app_len, app_len, sg_len]
          have a := cutS_length nm none (some (seed / 6 / 4550 % (((1 + seed / 6 % 7).toNat : Nat) : Int)))
          have b := cutS_length nm (some (seed / 6 / 4550 % (((1 + seed / 6 % 7).toNat : Nat) : Int) + 1)) none
          omega
        · rw [app_len, List.getD_eq_getElem?_getD]
          have hz : ∀ x ∈ [("" : Str), "", sg (nmAt (seed / 6) (1 + seed / 6 % 7).toNat), sg (nmAt (seed / 6) (1 + seed / 6 % 7).toNat + 1)], x.length ≤ 1 := fun x hx => by
            simp only [List.mem_cons, List.mem_nil_iff, or_false] at hx
            rcases hx with e | e | e | e <;> subst e
            · decide
            · decide
            · exact Nat.le_refl _
            · exact Nat.le_refl _
          cases e : ([("" : Str), "", sg (nmAt (seed / 6) (1 + seed / 6 % 7).toNat), sg (nmAt (seed / 6) (1 + seed / 6 % 7).toNat + 1)])[k.toNat]? with
          | none => show nm.length + 0 ≤ 16; omega
          | some x => have := hz x (List.mem_of_getElem? e); show nm.length + x.length ≤ 16; omega
theorem GoodPack.fine {seed : Int} {p : Pack} (g : GoodPack seed p) : FinePack p := ⟨g.size1, g.size2, g.price0, g.price2, g.last1, g.last2, by obtain ⟨k, _, e⟩ := g.name; rw [e]; exact nameBy_ok _ _, by obtain ⟨k, _, e⟩ := g.name; rw [e]; exact nameBy_len _ _⟩
/-! ### larders as data -/
def batchD (b : Batch) : PyData := .tuple [.str b.name, .int b.amount, .int b.last]
theorem dp_batch {K : PySem.W.Frag} {H : Hp} {v : V} {b : Batch} (h : BatchAt H v b) : Dp K H v (batchD b) := by
  obtain ⟨t, rfl, ht⟩ := h
  exact .tup (sqT ht) (.cons (.str _) (.cons (.int _) (.cons (.int _) .nil)))
theorem dp_held {K : PySem.W.Frag} {H : Hp} : ∀ {vs : List V} {lar : List Batch}, Held BatchAt H vs lar → DpAll K H vs (lar.map batchD)
  | [], [], _ => .nil
  | [], _ :: _, h => by have := h.len; simp at this
  | _ :: _, [], h => by have := h.len; simp at this
  | v :: vs, b :: lar, h => .cons (dp_batch (h.all 0 v b rfl rfl)) (dp_held ⟨by have := h.len; simpa using this, fun i v' x' h1 h2 => h.all (i + 1) v' x' (by simpa using h1) (by simpa using h2)⟩)
theorem dp_larder {K : PySem.W.Frag} {H : Hp} {v : V} {lar : List Batch} (h : LarderAt H v lar) : Dp K H v (.tuple (lar.map batchD)) := by
  obtain ⟨t, vs, rfl, ht, hh⟩ := h
  exact .tup (sqT ht) (dp_held hh)
theorem batch_lay {b : Batch} (h : OkS b.name) : (batchD b).canLay0 = true := by
  unfold batchD
  rw [PyData.canLay0]
  simp only [PyData.canLayAll0, h.lay]
  simp [PyData.canLay0]
theorem larder_lay : ∀ {lar : List Batch}, (∀ b ∈ lar, OkS b.name) → PyData.canLayAll0 (lar.map batchD) = true
  | [], _ => by simp [PyData.canLayAll0]
  | b :: r, h => by
    have ih := larder_lay (lar := r) fun z hz => h z (List.mem_cons_of_mem _ hz)
    rw [List.map_cons, PyData.canLayAll0, batch_lay (h b List.mem_cons_self), ih]
    rfl
theorem larder_deep : ∀ lar : List Batch, PyData.depthAll (lar.map batchD) ≤ 1
  | [] => by simp [PyData.depthAll]
  | b :: r => by
    rw [List.map_cons, PyData.depthAll]
    have := larder_deep r
    have e : (batchD b).depth = 1 := by unfold batchD; simp [PyData.depth, PyData.depthAll]
    omega
theorem larder_shaped {lar : List Batch} (h : ∀ b ∈ lar, OkS b.name) : SeqAt.shaped (.tuple (lar.map batchD)) = true := by
  have h1 := larder_lay h
  have h2 := larder_deep lar
  unfold SeqAt.shaped
  rw [PyData.canLay0, h1, PyData.depth, Bool.true_and]
  exact decide_eq_true (by omega)
theorem larder_self {lar : List Batch} (h : ∀ b ∈ lar, OkS b.name) : PyData.eqv (.tuple (lar.map batchD)) (.tuple (lar.map batchD)) = true := by
  refine SeqAt.eqv_refl _ ?_
  rw [PyData.canLay0]
  exact larder_lay h
/-! ### the rows of a list -/
theorem rowsS_snoc (zs : List (Pack × Int)) (p : Pack × Int) : rowsS (zs ++ [p]) = if 0 < p.2 then rowsS zs ++ rowS p.1 p.2 ++ ("\n" : Str) else rowsS zs := by
  unfold rowsS
  rw [List.foldl_append]; rfl
theorem stockZ_snoc (zs : List (Pack × Int)) (p : Pack × Int) : stockZ (zs ++ [p]) = stockZ zs ++ List.replicate p.2.toNat (batchOf p.1) := by
  unfold stockZ
  rw [List.flatMap_append]; simp
def totalZ (zs : List (Pack × Int)) : Int := (zs.map fun p => p.1.price * p.2).sum
theorem totalP_z (ps : List Pack) (cs : List Int) : totalP ps cs = totalZ (ps.zip cs) := rfl
theorem totalZ_snoc (zs : List (Pack × Int)) (p : Pack × Int) : totalZ (zs ++ [p]) = totalZ zs + p.1.price * p.2 := by
  unfold totalZ
  rw [List.map_append, List.sum_append]; simp
/-- a pack and its count, as the list may hold them -/
def Bit (p : Pack × Int) : Prop := FinePack p.1 ∧ 0 ≤ p.2 ∧ p.2 ≤ 200
theorem Bit.cost {p : Pack × Int} (h : Bit p) : 0 ≤ p.1.price * p.2 ∧ p.1.price * p.2 ≤ 200000000 := by
  obtain ⟨f, h0, h1⟩ := h
  have a := Int.mul_nonneg f.price0 h0
  have b := Int.mul_le_mul_of_nonneg_right f.price2 h0
  have c := Int.mul_le_mul_of_nonneg_left h1 (show (0 : Int) ≤ 1000000 by decide)
  omega
theorem totalZ_few : ∀ zs : List (Pack × Int), (∀ p ∈ zs, Bit p) → 0 ≤ totalZ zs ∧ totalZ zs ≤ zs.length * 200000000
  | [], _ => by unfold totalZ; simp
  | p :: r, h => by
    have ih := totalZ_few r fun q hq => h q (List.mem_cons_of_mem _ hq)
    have c := (h p List.mem_cons_self).cost
    unfold totalZ at ih ⊢
    rw [List.map_cons, List.sum_cons, List.length_cons]
    push_cast
    omega
theorem rowS_len {p : Pack × Int} (h : Bit p) : (rowS p.1 p.2).length ≤ 40 := by
  have c := h.cost
  obtain ⟨f, h0, h1⟩ := h
  have j := join_len " " [Str.ofString (toString p.2), p.1.name, Str.ofString (toString p.1.size), Str.ofString (toString (p.1.price * p.2))]
  have a1 := num_len (k := 3) h0 (by decide) (by omega)
  have a2 := f.few
  have f1 := f.size1
  have f2 := f.size2
  have a3 := num_len (n := p.1.size) (k := 3) (by omega) (by decide) (by omega)
  have a4 := num_len (k := 9) c.1 (by decide) (by omega)
  have a5 : (" " : Str).length = 1 := rfl
  unfold rowS
  simp only [List.map_cons, List.map_nil, List.sum_cons, List.sum_nil, List.length_cons, List.length_nil, a5] at j
  omega
theorem snocRec {α : Type} {P : List α → Prop} (h0 : P []) (h1 : ∀ r p, P r → P (r ++ [p])) : ∀ xs, P xs := fun xs => by
  have : ∀ n, ∀ ys : List α, ys.length = n → P ys := by
    intro n
    induction n with
    | zero => intro ys h; rw [List.length_eq_zero_iff.mp h]; exact h0
    | succ n ih =>
      intro ys h
      have hne : ys ≠ [] := by intro z; rw [z] at h; cases h
      rw [← List.dropLast_concat_getLast hne]
      exact h1 _ _ (ih _ (by rw [List.length_dropLast, h]; rfl))
  exact this _ xs rfl
theorem rowsS_len : ∀ (zs : List (Pack × Int)), (∀ p ∈ zs, Bit p) → (rowsS zs).length ≤ zs.length * 41 := by
  refine snocRec (fun _ => Nat.zero_le _) (fun r p ih h => ?_)
  · skip
    have i := ih fun q hq => h q (List.mem_append_left _ hq)
    have l := rowS_len (h p (List.mem_append_right _ (List.mem_singleton.mpr rfl)))
    rw [rowsS_snoc, List.length_append]
    split
    · rw [app_len, app_len]
      have : ("\n" : Str).length = 1 := rfl
      simp only [List.length_cons, List.length_nil]
      omega
    · simp only [List.length_cons, List.length_nil]
      omega
theorem log_small {i : Int} (h0 : 0 ≤ i) (h : i < 18446744073709551616) : i.natAbs.log2 < 1920 := by
  by_cases z : i.natAbs = 0
  · rw [z]; decide
  · exact (Nat.log2_lt z).mpr (Nat.lt_of_lt_of_le (show i.natAbs < 2 ^ 64 by omega) (Nat.pow_le_pow_right (by decide) (by decide)))
theorem sumC_few (m : Nat) : ∀ cs : List Int, (∀ c ∈ cs, c ≤ m) → sumC cs ≤ cs.length * m
  | [], _ => Nat.zero_le _
  | c :: r, h => by
    have ih := sumC_few m r fun q hq => h q (List.mem_cons_of_mem _ hq)
    have c := h c List.mem_cons_self
    unfold sumC at ih ⊢
    rw [List.map_cons, List.sum_cons, List.length_cons, Nat.succ_mul]
    omega
end Lar
namespace Lar
open PySem PySem.Spec PyProof.Rows L2
/-! ### the plain cooking -/
abbrev Goes (lar : List Batch) (left : List Int) (nm : Str) (day : Int) (k : Nat) : Prop := (lar.getD k bz).name = nm ∧ day ≤ (lar.getD k bz).last ∧ 0 < left.getD k 0
def later (lar : List Batch) (k : Nat) : Option Nat → Option Nat
  | none => some k
  | some j => if (lar.getD k bz).last < (lar.getD j bz).last then some k else some j
def nextStep (lar : List Batch) (left : List Int) (nm : Str) (day : Int) (f : Option Nat) (k : Nat) : Option Nat := if Goes lar left nm day k then later lar k f else f
def nextK (lar : List Batch) (left : List Int) (nm : Str) (day : Int) : Option Nat := (List.range lar.length).foldl (nextStep lar left nm day) none
def mnI (i j : Int) : Int := if j < i then j else i
def metF (lar : List Batch) (nm : Str) (day : Int) : Nat → List Int → Int → List Use → Option (List Use × List Int)
  | 0, left, _, ps => some (ps, left)
  | n + 1, left, amt, ps =>
    if 0 < amt then
      match nextK lar left nm day with
      | none => none
      | some k => metF lar nm day n (left.set k (left.getD k 0 - mnI amt (left.getD k 0))) (amt - mnI amt (left.getD k 0)) (ps ++ [(k, mnI amt (left.getD k 0))])
    else some (ps, left)
def bindE {S T : Type} (x : Except Str S) (f : S → Except Str T) : Except Str T := match x with
  | Except.error e => Except.error e
  | Except.ok s => f s
def foldE {α S : Type} (f : α → S → Except Str S) : List α → S → Except Str S
  | [], s => Except.ok s
  | x :: r, s => bindE (f x s) (foldE f r)
section
variable {α S : Type} {f : α → S → Except Str S}
theorem foldE_app : ∀ (xs ys : List α) (s : S), foldE f (xs ++ ys) s = bindE (foldE f xs s) (foldE f ys)
  | [], _, _ => rfl
  | x :: r, ys, s => by
    show bindE (f x s) (foldE f (r ++ ys)) = bindE (bindE (f x s) (foldE f r)) (foldE f ys)
    cases f x s with
    | error e => rfl
    | ok s' => exact foldE_app r ys s'
theorem foldE_snoc {xs : List α} {x : α} {s s' s2 : S} (h : foldE f xs s = Except.ok s') (h2 : f x s' = Except.ok s2) : foldE f (xs ++ [x]) s = Except.ok s2 := by
  rw [foldE_app, h]
  show bindE (f x s') (foldE f []) = _
  rw [h2]; rfl
theorem foldE_err {xs : List α} {i : Nat} {x : α} {s s' : S} {e : Str} (h : foldE f (xs.take i) s = Except.ok s') (hx : xs[i]? = some x) (h2 : f x s' = Except.error e) : foldE f xs s = Except.error e := by
  obtain ⟨hi, ex⟩ := List.getElem?_eq_some_iff.mp hx
  have : xs = xs.take i ++ (x :: xs.drop (i + 1)) := by
    rw [← ex, List.getElem_cons_drop, List.take_append_drop]
  rw [this, foldE_app, h]
  show bindE (f x s') _ = _
  rw [h2]; rfl
theorem foldE_take {xs : List α} {i : Nat} {x : α} {s s' s2 : S} (h : foldE f (xs.take i) s = Except.ok s') (hx : xs[i]? = some x) (h2 : f x s' = Except.ok s2) : foldE f (xs.take (i + 1)) s = Except.ok s2 := by
  rw [take_succ' hx]
  exact foldE_snoc h h2
end
abbrev dz : Dish := (0, [])
def needF (lar : List Batch) (day : Int) (x : Need) (s : List Use × List Int) : Except Str (List Use × List Int) :=
  match metF lar x.1 day x.2.toNat s.2 x.2 [] with
  | none => Except.error x.1
  | some (qs, left) => Except.ok (s.1 ++ qs, left)
abbrev CkS := List (List Use) × List Int
def dishF (lar : List Batch) (ds : List Dish) (day : Int) (k : Nat) (s : CkS) : Except Str CkS :=
  if (ds.getD k dz).1 = day then bindE (foldE (needF lar day) (ds.getD k dz).2 (s.1.getD k [], s.2)) fun r => Except.ok (s.1.set k r.1, r.2) else Except.ok s
def dayF (lar : List Batch) (ds : List Dish) (d : Nat) (s : CkS) : Except Str CkS := foldE (dishF lar ds (1 + (d : Nat))) (List.range ds.length) s
def cookE (ds : List Dish) (lar : List Batch) : Except Str CkS := foldE (dayF lar ds) (List.range 7) (List.replicate ds.length [], lar.map (·.amount))
def cookedM (ds : List Dish) (lar : List Batch) : Except Str (List (List Use)) := bindE (cookE ds lar) fun s => Except.ok s.1
/-! ### the batch to go first -/
section
variable {lar : List Batch} {left : List Int} {nm : Str} {day : Int}
theorem next_upto : ∀ n : Nat, match (List.range n).foldl (nextStep lar left nm day) none with
    | none => ∀ k, k < n → ¬ Goes lar left nm day k
    | some j => j < n ∧ Goes lar left nm day j ∧ ∀ k, k < n → Goes lar left nm day k → (lar.getD j bz).last ≤ (lar.getD k bz).last
  | 0 => fun k h => absurd h (Nat.not_lt_zero _)
  | n + 1 => by
    have ih := next_upto n
    rw [List.range_succ, List.foldl_append]
    show match nextStep lar left nm day ((List.range n).foldl (nextStep lar left nm day) none) n with | none => _ | some j => _
    cases e : (List.range n).foldl (nextStep lar left nm day) none with
    | none =>
      rw [e] at ih
      unfold nextStep
      by_cases g : Goes lar left nm day n
      · rw [if_pos g]
        refine ⟨Nat.lt_succ_self _, g, fun k hk gk => ?_⟩
        by_cases z : k = n
        · subst z; omega
        · exact absurd gk (ih k (by omega))
      · rw [if_neg g]
        intro k hk
        by_cases z : k = n
        · subst z; exact g
        · exact ih k (by omega)
    | some j =>
      rw [e] at ih
      obtain ⟨h1, h2, h3⟩ := ih
      unfold nextStep
      by_cases g : Goes lar left nm day n
      · rw [if_pos g]
        by_cases l : (lar.getD n bz).last < (lar.getD j bz).last
        · show match (if (lar.getD n bz).last < (lar.getD j bz).last then some n else some j : Option Nat) with | none => _ | some j => _
          rw [if_pos l]
          refine ⟨Nat.lt_succ_self _, g, fun k hk gk => ?_⟩
          by_cases z : k = n
          · subst z; omega
          · have := h3 k (by omega) gk; omega
        · show match (if (lar.getD n bz).last < (lar.getD j bz).last then some n else some j : Option Nat) with | none => _ | some j => _
          rw [if_neg l]
          refine ⟨by omega, h2, fun k hk gk => ?_⟩
          by_cases z : k = n
          · subst z; omega
          · exact h3 k (by omega) gk
      · rw [if_neg g]
        refine ⟨by omega, h2, fun k hk gk => ?_⟩
        by_cases z : k = n
        · subst z; exact absurd gk g
        · exact h3 k (by omega) gk
theorem next_none (h : nextK lar left nm day = none) : ∀ k, k < lar.length → ¬ Goes lar left nm day k := by
  have := next_upto (lar := lar) (left := left) (nm := nm) (day := day) lar.length
  unfold nextK at h
  rw [h] at this
  exact this
theorem next_some {j : Nat} (h : nextK lar left nm day = some j) : j < lar.length ∧ Goes lar left nm day j ∧ ∀ k, k < lar.length → Goes lar left nm day k → (lar.getD j bz).last ≤ (lar.getD k bz).last := by
  have := next_upto (lar := lar) (left := left) (nm := nm) (day := day) lar.length
  unfold nextK at h
  rw [h] at this
  exact this
end
theorem Held.set {α : Type} {R : Hp → V → α → Prop} {H : Hp} {vs : List V} {xs : List α} {k : Nat} {v : V} {x : α} (h : Held R H vs xs) (r : R H v x) : Held R H (vs.set k v) (xs.set k x) := by
  refine ⟨by rw [List.length_set, List.length_set, h.len], fun i v' x' hv hx => ?_⟩
  rw [List.getElem?_set] at hv hx
  by_cases e : k = i
  · rw [if_pos e] at hv hx
    split at hv
    · split at hx
      · cases hv; cases hx; exact r
      · cases hx
    · cases hv
  · rw [if_neg e] at hv hx
    exact h.all i v' x' hv hx
theorem cat_any {K : PySem.W.Frag} {H : Hp} {Q : VK} {a b : Addr} {xs ys : List V} (ha : H a = some (.tup xs)) (hb : H b = some (.tup ys)) (hz : xs.length + ys.length ≤ sizeLine) (h : ∀ p H', Same H H' → H' p = some (.tup (xs ++ ys)) → Q (.ref p) H') : rCatA K (.ref a) (.ref b) H Q := by
  refine ⟨a, b, xs, ys, rfl, rfl, sqT ha, sqT hb, hz, fun e => ?_, fun _ e => ?_, fun _ _ p hp => ?_⟩
  · subst e
    exact h b H (Same.refl _) hb
  · subst e
    exact h a H (Same.refl _) (by rw [List.append_nil]; exact ha)
  · exact h p _ (same_upd hp) upd_same
theorem Held.append {α : Type} {R : Hp → V → α → Prop} {H : Hp} {vs ws : List V} {xs ys : List α} (h : Held R H vs xs) (g : Held R H ws ys) : Held R H (vs ++ ws) (xs ++ ys) := by
  refine ⟨by rw [List.length_append, List.length_append, h.len, g.len], fun i v x hv hx => ?_⟩
  by_cases hi : i < vs.length
  · rw [List.getElem?_append_left hi] at hv
    rw [List.getElem?_append_left (by rw [← h.len]; exact hi)] at hx
    exact h.all i _ _ hv hx
  · rw [List.getElem?_append_right (by omega)] at hv
    rw [List.getElem?_append_right (by have := h.len; omega), ← h.len] at hx
    exact g.all _ _ _ hv hx
theorem set_getD {α : Type} {xs : List α} {k : Nat} {d : α} (h : k < xs.length) : xs.set k (xs.getD k d) = xs := by
  rw [List.getD_eq_getElem?_getD, List.getElem?_eq_getElem h, Option.getD_some, List.set_getElem_self]
theorem range_take_ix {n i : Nat} (h : i < n) : (List.range n)[i]? = some i := by rw [List.getElem?_range h]
end Lar
namespace Lar
open PySem PySem.Spec PyProof.Rows L2
/-- isinstance(e, c), e the exception that the suite holds, with its dict -/
def rIsED (K : PySem.W.Frag) (D a : Addr) (cls : Value) (d : Option Addr) : List V → Hp → VK → Prop := fun xs H Q => ∃ (c : V) (cv : Value) (b : Bool) (dd : Addr) (fs : List (Str × V)), xs = [.ref a, c] ∧ cls = .ref D ∧ (∀ u, RelV c u → u = cv) ∧ PySem.W.kitOne K (.ref D) cv = some b ∧ d = some dd ∧ H dd = some (.xd fs) ∧ Q (.bl b) H
theorem call_isED {X : Cx} {a D : Addr} {oe : Obj} {cls : Value} {d : Option Addr} {pn : List (Addr × Obj)} (C : ExcC X.K D) (hz : Zc cls d oe) (hf : ∃ vs, oe.data = .fields vs) : CallR (X.suite a ((a, oe) :: pn)) (.builtin "isinstance") (rIsED X.K D a cls d) := by
  intro pins s σ H xs us Q I r h
  obtain ⟨c, cv, b, dd, fs, rfl, rfl, hcv, e, rfl, ed, q⟩ := h
  cases r with
  | cons rx rr =>
    cases rr with
    | cons rt rr =>
      cases rr
      cases rx
      have ec := hcv _ rt
      subst ec
      obtain ⟨hget, _⟩ := I.pin (a, oe) (List.mem_append.mpr (.inl List.mem_cons_self))
      obtain ⟨vs, hv⟩ := hf
      have hx : ObjOk X.prog X.w H s.heap dd (.xd fs) := I.hok dd _ ed
      obtain ⟨mA, hns, _⟩ := hx
      obtain ⟨od, ho, _⟩ := lookIn_ns hns
      have J : PySem.W.InstAt s.heap a oe D (some od) := ⟨hget, hz.1, by unfold PySem.W.notCls; rw [hv] <;> rfl, by rw [hz.2]; exact ho⟩
      have hcl : (PySem.W.clsIn X.K D).isSome = true := by
        have hd := C.hd
        unfold PySem.W.hasDictIn at hd
        cases hc : PySem.W.clsIn X.K D with
        | none => rw [hc] at hd; cases hd
        | some cd => rfl
      exact PySem.W.kia_one (PySem.W.kitx_exc hcl C.hg C.hk C.hs C.ha C.hn C.ht C.hm) I.kIn J e (fun z => nomatch z) fun tk => ⟨.bl b, H, I.kept (t' := tk) fun _ _ z => z, rfl, q⟩
/-- a def that may raise, as it is called -/
structure ClbX (P : Program) (w : World) (K : PySem.W.Frag) (mg : Str → Option Value) (base : Heap) (k : Nat) (x : Str) (ps : List Str) (sp : Sp) : Prop where
  ex : ∃ f fd, FnOk P w K mg base (L2.CX P w) k f fd ps sp ∧ mg x = some (.ref f) ∧ PySem.W.keepIn K (.ref f) = true ∧ Binds K fd ps []
/-- called in a try -/
theorem pe_calS {X : Cx} {k : Nat} {x : Str} {ps : List Str} {sp : Sp} {e : Expr} {es : List Expr} {t : TA} {p pos : Pos} {W : WX} (C : ClbX X.prog X.w X.K X.mg X.base k x ps sp) (hr : Room k X.A) (tk : Takes X W) (ha : PA X (e :: es) t) (hg : Gl X x := by rfl)
    (hdb : (x == ("__debug__" : Str)) = false := by decide) (he : starEach (e :: es) X.env = (false, eval e X.env) :: starEach es X.env := by rfl) (hpl : (backTo pos (starEach es X.env)).any (·.1) = false := by rfl) :
    PE X (.Call (.Name x p) (e :: es) [] pos) (tCallS sp (WE W) t) := by
  obtain ⟨f, fd, F, hm, hk, hb⟩ := C.ex
  exact pe_callS F hr hg hm hk hb (fun σ => passAt tk σ) ha hdb he hpl
/-- what the written part says of the program's errors -/
structure ErrAt (K : PySem.W.Frag) (mg : Str → Option Value) (L S T : Addr) : Prop where
  gL : mg "LarderError" = some (.ref L)
  gS : mg "Short" = some (.ref S)
  gT : mg "TooMuch" = some (.ref T)
  eS : ExcC K S
  eT : ExcC K T
  xS : XfC K S
  xT : XfC K T
  nS : PySem.W.findIn K (.ref S) "word" = some none
  nT : PySem.W.findIn K (.ref T) "word" = some none
  mS : PySem.W.exmOne K (.ref S) (.ref L) = some true
  mT : PySem.W.exmOne K (.ref T) (.ref L) = some true
  sT : PySem.W.kitOne K (.ref S) (.ref T) = some false
  sS : PySem.W.kitOne K (.ref S) (.ref S) = some true
  sV : PySem.W.kitOne K (.ref S) (.type "ValueError") = some true
  tT : PySem.W.kitOne K (.ref T) (.ref T) = some true
  tS : PySem.W.kitOne K (.ref T) (.ref S) = some false
  tV : PySem.W.kitOne K (.ref T) (.type "ValueError") = some true
/-- the program's cooking: what the plain one gives, or Short -/
def spCooked (S : Addr) : Sp := fun vs H Q E => ∃ (u v : V) (ds : List Dish) (lar : List Batch), vs = [u, v] ∧ DishesAt H u ds ∧ LarderAt H v lar ∧ ds.length ≤ 1000 ∧ (∀ d ∈ ds, d.2.length ≤ 20 ∧ 1 ≤ d.1 ∧ d.1 ≤ 7 ∧ ∀ x ∈ d.2, 1 ≤ x.2 ∧ x.2 ≤ 200) ∧ lar.length ≤ 16000000 ∧ (∀ b ∈ lar, 1 ≤ b.amount ∧ b.amount ≤ 200 ∧ 1 ≤ b.last) ∧
  ∀ H', Same H H' → (∀ nm d, cookedM ds lar = Except.error nm → H d = none → H' d = some (.xd [("word", .str nm)]) → E (.ref S) (some d) H') ∧
    (∀ us v', cookedM ds lar = Except.ok us → UsesAt H' v' us → us.length = ds.length → (∀ ps ∈ us, ps.length ≤ 100000) → Q v' H')
/-! ### uses as data -/
def useD (x : Use) : PyData := .tuple [.int (x.1 : Int), .int x.2]
def pairsD (ps : List Use) : PyData := .tuple (ps.map useD)
def usesD (us : List (List Use)) : PyData := .tuple (us.map pairsD)
theorem dp_all {α : Type} {K : PySem.W.Frag} {H : Hp} {R : Hp → V → α → Prop} {f : α → PyData} (h : ∀ v x, R H v x → Dp K H v (f x)) : ∀ {vs : List V} {xs : List α}, Held R H vs xs → DpAll K H vs (xs.map f)
  | [], [], _ => .nil
  | [], _ :: _, g => by have := g.len; simp at this
  | _ :: _, [], g => by have := g.len; simp at this
  | v :: vs, b :: lar, g => .cons (h v b (g.all 0 v b rfl rfl)) (dp_all h ⟨by have := g.len; simpa using this, fun i v' x' h1 h2 => g.all (i + 1) v' x' (by simpa using h1) (by simpa using h2)⟩)
theorem dp_use {K : PySem.W.Frag} {H : Hp} (v : V) (x : Use) (h : UseAt H v x) : Dp K H v (useD x) := by
  obtain ⟨t, rfl, ht⟩ := h
  exact .tup (sqT ht) (.cons (.int _) (.cons (.int _) .nil))
theorem dp_pairs {K : PySem.W.Frag} {H : Hp} (v : V) (ps : List Use) (h : PairsAt H v ps) : Dp K H v (pairsD ps) := by
  obtain ⟨t, vs, rfl, ht, hh⟩ := h
  exact .tup (sqT ht) (dp_all dp_use hh)
theorem dp_uses {K : PySem.W.Frag} {H : Hp} (v : V) (us : List (List Use)) (h : UsesAt H v us) : Dp K H v (usesD us) := by
  obtain ⟨t, vs, rfl, ht, hh⟩ := h
  exact .tup (sqT ht) (dp_all dp_pairs hh)
theorem lay_all {α : Type} {f : α → PyData} (h : ∀ x, (f x).canLay0 = true) : ∀ xs : List α, PyData.canLayAll0 (xs.map f) = true
  | [] => by simp [PyData.canLayAll0]
  | x :: r => by rw [List.map_cons, PyData.canLayAll0, h x, lay_all h r]; rfl
theorem deep_all {α : Type} {f : α → PyData} {n : Nat} (h : ∀ x, (f x).depth ≤ n) : ∀ xs : List α, PyData.depthAll (xs.map f) ≤ n
  | [] => by simp [PyData.depthAll]
  | x :: r => by
    rw [List.map_cons, PyData.depthAll]
    have := deep_all h r
    have := h x
    omega
theorem useD_lay (x : Use) : (useD x).canLay0 = true := by unfold useD; simp [PyData.canLay0, PyData.canLayAll0]
theorem useD_deep (x : Use) : (useD x).depth ≤ 1 := by unfold useD; simp [PyData.depth, PyData.depthAll]
theorem pairsD_lay (ps : List Use) : (pairsD ps).canLay0 = true := by unfold pairsD; rw [PyData.canLay0]; exact lay_all useD_lay ps
theorem pairsD_deep (ps : List Use) : (pairsD ps).depth ≤ 2 := by unfold pairsD; rw [PyData.depth]; have := deep_all useD_deep ps; omega
theorem usesD_lay (us : List (List Use)) : (usesD us).canLay0 = true := by unfold usesD; rw [PyData.canLay0]; exact lay_all pairsD_lay us
theorem usesD_shaped (us : List (List Use)) : SeqAt.shaped (usesD us) = true := by
  have h1 := usesD_lay us
  unfold SeqAt.shaped
  rw [h1, Bool.true_and]
  refine decide_eq_true ?_
  unfold usesD
  rw [PyData.depth]
  have := deep_all pairsD_deep us
  omega
theorem usesD_self (us : List (List Use)) : PyData.eqv (usesD us) (usesD us) = true := SeqAt.eqv_refl _ (usesD_lay us)
/-! ### whose name a refusal tells -/
theorem foldE_errs {α S : Type} {f : α → S → Except Str S} {e : Str} : ∀ (xs : List α) (s : S), foldE f xs s = Except.error e → ∃ x ∈ xs, ∃ s', f x s' = Except.error e
  | [], s, h => by cases h
  | x :: r, s, h => by
    cases hf : f x s with
    | error e' =>
      have h' : bindE (f x s) (foldE f r) = Except.error e := h
      rw [hf] at h'
      exact ⟨x, List.mem_cons_self, s, by rw [hf]; exact h'⟩
    | ok s' =>
      have h' : bindE (f x s) (foldE f r) = Except.error e := h
      rw [hf] at h'
      obtain ⟨y, hy, z⟩ := foldE_errs r s' h'
      exact ⟨y, List.mem_cons_of_mem _ hy, z⟩
theorem cooked_name {ds : List Dish} {lar : List Batch} {nm : Str} (h : cookedM ds lar = Except.error nm) : ∃ d ∈ ds, ∃ x ∈ d.2, x.1 = nm := by
  have h1 : cookE ds lar = Except.error nm := by
    unfold cookedM at h
    cases e : cookE ds lar with
    | error e' =>
      rw [e] at h
      have h' : (Except.error e' : Except Str (List (List Use))) = Except.error nm := h
      rw [Except.error.inj h']
    | ok s => rw [e] at h; cases h
  obtain ⟨i, _, s1, h2⟩ := foldE_errs _ _ h1
  obtain ⟨k, hk, s2, h3⟩ := foldE_errs _ _ h2
  have hkd := List.mem_range.mp hk
  unfold dishF at h3
  split at h3
  · have h4 : foldE (needF lar (1 + (i : Nat))) (ds.getD k dz).2 (s2.1.getD k [], s2.2) = Except.error nm := by
      cases e : foldE (needF lar (1 + (i : Nat))) (ds.getD k dz).2 (s2.1.getD k [], s2.2) with
      | error e' =>
        rw [e] at h3
        have h' : (Except.error e' : Except Str CkS) = Except.error nm := h3
        rw [Except.error.inj h']
      | ok s => rw [e] at h3; cases h3
    obtain ⟨x, hx, s3, h5⟩ := foldE_errs _ _ h4
    refine ⟨ds.getD k dz, ix_mem (at_getD hkd dz), x, hx, ?_⟩
    unfold needF at h5
    split at h5
    · cases h5; rfl
    · cases h5
  · cases h3
end Lar
namespace Lar
open PySem PySem.Spec PyProof.Rows L2
/-! ### sums over places -/
def sumR (n : Nat) (f : Nat → Int) : Int := ((List.range n).map f).sum
theorem sumR_succ (n : Nat) (f : Nat → Int) : sumR (n + 1) f = sumR n f + f n := by
  unfold sumR
  rw [List.range_succ, List.map_append, List.sum_append]; simp
theorem sumR_congr {f g : Nat → Int} : ∀ {n : Nat}, (∀ j, j < n → f j = g j) → sumR n f = sumR n g
  | 0, _ => rfl
  | n + 1, h => by rw [sumR_succ, sumR_succ, sumR_congr fun j hj => h j (by omega), h n (by omega)]
theorem sumR_upd {f g : Nat → Int} {k : Nat} : ∀ {n : Nat}, k < n → (∀ j, j < n → j ≠ k → f j = g j) → sumR n g = sumR n f + (g k - f k)
  | 0, h, _ => absurd h (Nat.not_lt_zero _)
  | n + 1, h, e => by
    rw [sumR_succ, sumR_succ]
    by_cases z : k = n
    · subst z
      rw [sumR_congr fun j hj => (e j (by omega) (by omega)).symm]
      omega
    · rw [sumR_upd (n := n) (by omega) fun j hj => e j (by omega), e n (by omega) (by omega)]
      omega
theorem sumR_zero {f : Nat → Int} {n : Nat} (h : ∀ j, j < n → f j = 0) : sumR n f = 0 := by
  rw [sumR_congr (g := fun _ => 0) h]
  induction n with
  | zero => rfl
  | succ n ih => rw [sumR_succ, ih fun j hj => h j (by omega)]; rfl
theorem sumR_nonneg {f : Nat → Int} : ∀ {n : Nat}, (∀ j, j < n → 0 ≤ f j) → 0 ≤ sumR n f
  | 0, _ => Int.le_refl _
  | n + 1, h => by
    rw [sumR_succ]
    have := sumR_nonneg (n := n) fun j hj => h j (by omega)
    have := h n (by omega)
    omega
/-! ### what is left of a name that keeps to a day -/
def leftTo (lar : List Batch) (left : List Int) (nm : Str) (d : Int) : Int := sumR lar.length fun k => if (lar.getD k bz).name = nm ∧ d ≤ (lar.getD k bz).last then left.getD k 0 else 0
section
variable {lar : List Batch} {left : List Int} {nm : Str} {day : Int}
theorem getD_set_self {xs : List Int} {k : Nat} {z : Int} (h : k < xs.length) : (xs.set k z).getD k 0 = z := by
  rw [List.getD_eq_getElem?_getD, List.getElem?_set_self h]; rfl
theorem getD_set_ne {xs : List Int} {k j : Nat} {z : Int} (h : j ≠ k) : (xs.set k z).getD j 0 = xs.getD j 0 := by
  rw [List.getD_eq_getElem?_getD, List.getD_eq_getElem?_getD, List.getElem?_set_ne (fun e => h e.symm)]
theorem leftTo_take {k : Nat} {s : Int} (hl : left.length = lar.length) (hk : k < lar.length) (nm : Str) (d : Int) :
    leftTo lar (left.set k (left.getD k 0 - s)) nm d = leftTo lar left nm d - if (lar.getD k bz).name = nm ∧ d ≤ (lar.getD k bz).last then s else 0 := by
  unfold leftTo
  rw [sumR_upd (k := k) (f := fun j => if (lar.getD j bz).name = nm ∧ d ≤ (lar.getD j bz).last then left.getD j 0 else 0) hk fun j _ hj => by
    show _ = if _ then (left.set k (left.getD k 0 - s)).getD j 0 else 0
    rw [getD_set_ne hj]]
  simp only [getD_set_self (show k < left.length by omega)]
  by_cases c : (lar.getD k bz).name = nm ∧ d ≤ (lar.getD k bz).last
  · rw [if_pos c, if_pos c, if_pos c]; omega
  · rw [if_neg c, if_neg c, if_neg c]; omega
/-- where no batch can go, nothing is left -/
theorem leftTo_none (hn : ∀ x ∈ left, 0 ≤ x) (hl : left.length = lar.length) (h : nextK lar left nm day = none) : leftTo lar left nm day = 0 := by
  refine sumR_zero fun k hk => ?_
  by_cases c : (lar.getD k bz).name = nm ∧ day ≤ (lar.getD k bz).last
  · rw [if_pos c]
    have := next_none h k hk
    have hp : ¬ 0 < left.getD k 0 := fun z => this ⟨c.1, c.2, z⟩
    have := hn _ (ix_mem (at_getD (show k < left.length by omega) 0))
    omega
  · rw [if_neg c]
/-- up to the first batch's last day as much is left as at the day -/
theorem leftTo_first {k : Nat} (hn : ∀ x ∈ left, 0 ≤ x) (hl : left.length = lar.length) (h : nextK lar left nm day = some k) {d : Int} (h1 : day ≤ d) (h2 : d ≤ (lar.getD k bz).last) : leftTo lar left nm d = leftTo lar left nm day := by
  obtain ⟨hk, _, hmin⟩ := next_some h
  refine sumR_congr fun j hj => ?_
  by_cases c : (lar.getD j bz).name = nm ∧ day ≤ (lar.getD j bz).last
  · rw [if_pos c]
    by_cases p : 0 < left.getD j 0
    · have := hmin j hj ⟨c.1, c.2, p⟩
      rw [if_pos ⟨c.1, by omega⟩]
    · have := hn _ (ix_mem (at_getD (show j < left.length by omega) 0))
      have z : left.getD j 0 = 0 := by omega
      rw [z]
      split <;> rfl
  · rw [if_neg c, if_neg (fun z => c ⟨z.1, by omega⟩)]
/-- what a need leaves of each name -/
structure After (lar : List Batch) (nm : Str) (day amt : Int) (left left' : List Int) : Prop where
  len : left'.length = left.length
  nn : ∀ x ∈ left', 0 ≤ x
  other : ∀ nm' d, nm' ≠ nm → leftTo lar left' nm' d = leftTo lar left nm' d
  here : ∀ d, d ≤ day → leftTo lar left' nm d = leftTo lar left nm d - amt
  behind : ∀ d, day < d → leftTo lar left' nm d ≤ leftTo lar left nm d ∧ (leftTo lar left nm d ≤ leftTo lar left' nm d ∨ leftTo lar left' nm day ≤ leftTo lar left' nm d)
theorem met_after : ∀ (n : Nat) (left : List Int) (amt : Int) (ps : List Use), left.length = lar.length → (∀ x ∈ left, 0 ≤ x) → 0 ≤ amt → amt.toNat ≤ n →
    match metF lar nm day n left amt ps with
    | none => leftTo lar left nm day < amt
    | some r => After lar nm day amt left r.2 := by
  intro n
  induction n with
  | zero =>
    intro left amt ps hl hn h0 hm
    have : amt = 0 := by omega
    subst this
    exact ⟨rfl, hn, fun _ _ _ => rfl, fun d _ => (Int.sub_zero _).symm, fun d _ => ⟨Int.le_refl _, .inl (Int.le_refl _)⟩⟩
  | succ n ih =>
    intro left amt ps hl hn h0 hm
    unfold metF
    by_cases e : 0 < amt
    · rw [if_pos e]
      cases hx : nextK lar left nm day with
      | none =>
        show leftTo lar left nm day < amt
        rw [leftTo_none hn hl hx]
        exact e
      | some k =>
        obtain ⟨hk, ⟨g1, g2, g3⟩, _⟩ := next_some hx
        show match metF lar nm day n (left.set k (left.getD k 0 - mnI amt (left.getD k 0))) (amt - mnI amt (left.getD k 0)) (ps ++ [(k, mnI amt (left.getD k 0))]) with | none => _ | some r => _
        have hs : 1 ≤ mnI amt (left.getD k 0) ∧ mnI amt (left.getD k 0) ≤ amt ∧ mnI amt (left.getD k 0) ≤ left.getD k 0 := by unfold mnI; split <;> omega
        generalize mnI amt (left.getD k 0) = s at *
        have hl' : (left.set k (left.getD k 0 - s)).length = lar.length := by rw [List.length_set]; exact hl
        have hn' := nn_set (cs := left) (k := k) (z := left.getD k 0 - s) hn (by omega)
        have tk := leftTo_take (s := s) hl hk
        have := ih (left.set k (left.getD k 0 - s)) (amt - s) (ps ++ [(k, s)]) hl' hn' (by omega) (by omega)
        cases hM : metF lar nm day n (left.set k (left.getD k 0 - s)) (amt - s) (ps ++ [(k, s)]) with
        | none =>
          rw [hM] at this
          replace this : leftTo lar (left.set k (left.getD k 0 - s)) nm day < amt - s := this
          rw [tk nm day, if_pos ⟨g1, g2⟩] at this
          show leftTo lar left nm day < amt
          omega
        | some r =>
          rw [hM] at this
          replace this : After lar nm day (amt - s) (left.set k (left.getD k 0 - s)) r.2 := this
          refine ⟨by rw [this.len, List.length_set], this.nn, fun nm' d ne => ?_, fun d hd => ?_, fun d hd => ?_⟩
          · rw [this.other nm' d ne, tk nm' d, if_neg (fun z => ne (z.1.symm.trans g1))]; omega
          · rw [this.here d hd, tk nm d, if_pos ⟨g1, by omega⟩]; omega
          · have b := this.behind d hd
            rw [tk nm d] at b
            have hh := this.here day (Int.le_refl _)
            by_cases c : d ≤ (lar.getD k bz).last
            · rw [if_pos ⟨g1, c⟩] at b
              have f := leftTo_first hn hl hx (Int.le_of_lt hd) c
              rw [tk nm day, if_pos ⟨g1, g2⟩] at hh
              refine ⟨by omega, ?_⟩
              rcases b.2 with b2 | b2
              · right; omega
              · right; exact b2
            · rw [if_neg (fun z => c z.2)] at b
              refine ⟨by omega, ?_⟩
              rcases b.2 with b2 | b2
              · left; omega
              · right; exact b2
    · rw [if_neg e]
      have : amt = 0 := by omega
      subst this
      exact ⟨rfl, hn, fun _ _ _ => rfl, fun d _ => (Int.sub_zero _).symm, fun d _ => ⟨Int.le_refl _, .inl (Int.le_refl _)⟩⟩
end
end Lar
namespace Lar
open PySem PySem.Spec PyProof.Rows L2
/-! ### the needs in their order, one list -/
abbrev Task := Int × Str × Int
def taskF (lar : List Batch) (t : Task) (left : List Int) : Except Str (List Int) :=
  match metF lar t.2.1 t.1 t.2.2.toNat left t.2.2 [] with
  | none => Except.error t.2.1
  | some r => Except.ok r.2
def needT (ts : List Task) (nm : Str) (d : Int) : Int := (ts.map fun t => if t.2.1 = nm ∧ d ≤ t.1 then t.2.2 else 0).sum
theorem needT_cons (t : Task) (r : List Task) (nm : Str) (d : Int) : needT (t :: r) nm d = (if t.2.1 = nm ∧ d ≤ t.1 then t.2.2 else 0) + needT r nm d := by
  unfold needT
  rw [List.map_cons, List.sum_cons]
theorem needT_app (xs ys : List Task) (nm : Str) (d : Int) : needT (xs ++ ys) nm d = needT xs nm d + needT ys nm d := by
  unfold needT
  rw [List.map_append, List.sum_append]
theorem needT_mono {nm : Str} {d d' : Int} (h : d ≤ d') : ∀ ts : List Task, (∀ t ∈ ts, 0 ≤ t.2.2) → 0 ≤ needT ts nm d' ∧ needT ts nm d' ≤ needT ts nm d
  | [], _ => ⟨Int.le_refl _, Int.le_refl _⟩
  | t :: r, hn => by
    have ih := needT_mono (nm := nm) h r fun x hx => hn x (List.mem_cons_of_mem _ hx)
    have h0 := hn t List.mem_cons_self
    rw [needT_cons, needT_cons]
    by_cases c : t.2.1 = nm ∧ d' ≤ t.1
    · rw [if_pos c, if_pos ⟨c.1, by omega⟩]; omega
    · rw [if_neg c]; split <;> omega
section
variable {lar : List Batch}
theorem task_after {t : Task} {left : List Int} (hl : left.length = lar.length) (hn : ∀ x ∈ left, 0 ≤ x) (h0 : 0 ≤ t.2.2) :
    match taskF lar t left with
    | Except.error e => e = t.2.1 ∧ leftTo lar left t.2.1 t.1 < t.2.2
    | Except.ok left' => After lar t.2.1 t.1 t.2.2 left left' := by
  have := met_after (lar := lar) (nm := t.2.1) (day := t.1) t.2.2.toNat left t.2.2 [] hl hn h0 (Nat.le_refl _)
  unfold taskF
  cases e : metF lar t.2.1 t.1 t.2.2.toNat left t.2.2 [] with
  | none => rw [e] at this; exact ⟨rfl, this⟩
  | some r => rw [e] at this; exact this
theorem run_ok : ∀ (ts : List Task) (left left' : List Int), left.length = lar.length → (∀ x ∈ left, 0 ≤ x) → (∀ t ∈ ts, 0 ≤ t.2.2) → foldE (taskF lar) ts left = Except.ok left' → ∀ nm d, needT ts nm d ≤ leftTo lar left nm d
  | [], left, _, hl, hn, _, _, nm, d => by
    show (0 : Int) ≤ _
    refine sumR_nonneg fun k hk => ?_
    split
    · exact hn _ (ix_mem (at_getD (by omega) 0))
    · exact Int.le_refl _
  | t :: r, left, left', hl, hn, h0, h, nm, d => by
    have A := task_after (t := t) hl hn (h0 t List.mem_cons_self)
    have h' : bindE (taskF lar t left) (foldE (taskF lar) r) = Except.ok left' := h
    cases e : taskF lar t left with
    | error e' => rw [e] at h'; cases h'
    | ok left1 =>
      rw [e] at h' A
      replace A : After lar t.2.1 t.1 t.2.2 left left1 := A
      have ih := run_ok r left1 left' (by rw [A.len]; exact hl) A.nn (fun x hx => h0 x (List.mem_cons_of_mem _ hx)) h' nm d
      rw [needT_cons]
      by_cases c : t.2.1 = nm
      · by_cases l : d ≤ t.1
        · rw [if_pos ⟨c, l⟩]
          have := A.here d l
          rw [c] at this
          omega
        · rw [if_neg (fun z => l z.2)]
          have := (A.behind d (by omega)).1
          rw [c] at this
          omega
      · rw [if_neg (fun z => c z.1)]
        have := A.other nm d (fun z => c z.symm)
        omega
theorem run_err {nm : Str} : ∀ (ts : List Task) (left : List Int), left.length = lar.length → (∀ x ∈ left, 0 ≤ x) → (∀ t ∈ ts, 0 ≤ t.2.2) → (∀ d, needT ts nm d ≤ leftTo lar left nm d) → foldE (taskF lar) ts left ≠ Except.error nm
  | [], _, _, _, _, _ => fun h => by cases h
  | t :: r, left, hl, hn, h0, hI => fun h => by
    have A := task_after (t := t) hl hn (h0 t List.mem_cons_self)
    have h' : bindE (taskF lar t left) (foldE (taskF lar) r) = Except.error nm := h
    have hr0 : ∀ x ∈ r, 0 ≤ x.2.2 := fun x hx => h0 x (List.mem_cons_of_mem _ hx)
    cases e : taskF lar t left with
    | error e' =>
      rw [e] at h' A
      have e2 : e' = nm := Except.error.inj h'
      obtain ⟨a1, a2⟩ := A
      subst e2
      have := hI t.1
      rw [needT_cons, if_pos ⟨a1.symm, Int.le_refl _⟩, a1] at this
      have := (needT_mono (nm := t.2.1) (Int.le_refl t.1) r hr0).1
      omega
    | ok left1 =>
      rw [e] at h' A
      replace A : After lar t.2.1 t.1 t.2.2 left left1 := A
      refine run_err r left1 (by rw [A.len]; exact hl) A.nn hr0 (fun d => ?_) h'
      have hd := hI d
      rw [needT_cons] at hd
      by_cases c : t.2.1 = nm
      · have low : ∀ d', d' ≤ t.1 → needT r nm d' ≤ leftTo lar left1 nm d' := fun d' l => by
          have hd' := hI d'
          rw [needT_cons, if_pos ⟨c, l⟩] at hd'
          have := A.here d' l
          rw [c] at this
          omega
        by_cases l : d ≤ t.1
        · exact low d l
        · rw [if_neg (fun z => l z.2)] at hd
          have b := (A.behind d (by omega)).2
          rw [c] at b
          rcases b with b | b
          · omega
          · have := low t.1 (Int.le_refl _)
            have := (needT_mono (nm := nm) (show t.1 ≤ d by omega) r hr0).2
            omega
      · rw [if_neg (fun z => c z.1)] at hd
        have := A.other nm d (fun z => c z.symm)
        omega
/-! ### the cooking runs through that list -/
theorem foldE_sim {α β S T : Type} {f : α → S → Except Str S} {g : β → T → Except Str T} {π : S → T} {h : α → List β} (H : ∀ x s, bindE (f x s) (fun s' => Except.ok (π s')) = foldE g (h x) (π s)) :
    ∀ (xs : List α) (s : S), bindE (foldE f xs s) (fun s' => Except.ok (π s')) = foldE g (xs.flatMap h) (π s)
  | [], _ => rfl
  | x :: r, s => by
    show bindE (bindE (f x s) (foldE f r)) _ = _
    rw [List.flatMap_cons, foldE_app, ← H x s]
    cases f x s with
    | error e => rfl
    | ok s' => exact foldE_sim H r s'
def tasksK (ds : List Dish) (i k : Nat) : List Task := if (ds.getD k dz).1 = 1 + (i : Nat) then (ds.getD k dz).2.map fun x => ((1 + (i : Nat) : Int), x.1, x.2) else []
def tasks (ds : List Dish) : List Task := (List.range 7).flatMap fun i => (List.range ds.length).flatMap fun k => tasksK ds i k
theorem flatMap_one {α β : Type} (f : α → β) : ∀ xs : List α, xs.flatMap (fun x => [f x]) = xs.map f
  | [] => rfl
  | x :: r => by rw [List.flatMap_cons, flatMap_one f r]; rfl
theorem need_sim (day : Int) (x : Need) (s : List Use × List Int) : bindE (needF lar day x s) (fun s' => Except.ok s'.2) = foldE (taskF lar) [(day, x.1, x.2)] s.2 := by
  show _ = bindE (taskF lar (day, x.1, x.2) s.2) (foldE (taskF lar) [])
  unfold needF taskF
  cases metF lar x.1 day x.2.toNat s.2 x.2 [] with
  | none => rfl
  | some r => rfl
theorem dish_sim (ds : List Dish) (i k : Nat) (s : CkS) : bindE (dishF lar ds (1 + (i : Nat)) k s) (fun s' => Except.ok s'.2) = foldE (taskF lar) (tasksK ds i k) s.2 := by
  unfold dishF tasksK
  by_cases c : (ds.getD k dz).1 = 1 + (i : Nat)
  · rw [if_pos c, if_pos c]
    have := foldE_sim (h := fun x : Need => [((1 + (i : Nat) : Int), x.1, x.2)]) (need_sim (lar := lar) (1 + (i : Nat))) (ds.getD k dz).2 (s.1.getD k [], s.2)
    have e : (ds.getD k dz).2.flatMap (fun x : Need => [((1 + (i : Nat) : Int), x.1, x.2)]) = (ds.getD k dz).2.map fun x => ((1 + (i : Nat) : Int), x.1, x.2) := flatMap_one _ _
    rw [e] at this
    rw [← this]
    cases foldE (needF lar (1 + (i : Nat))) (ds.getD k dz).2 (s.1.getD k [], s.2) with
    | error e => rfl
    | ok r => rfl
  · rw [if_neg c, if_neg c]; rfl
theorem cook_sim (ds : List Dish) (lar : List Batch) : bindE (cookE ds lar) (fun s' => Except.ok s'.2) = foldE (taskF lar) (tasks ds) (lar.map (·.amount)) :=
  foldE_sim (fun i s => foldE_sim (dish_sim ds i) (List.range ds.length) s) (List.range 7) _
end
end Lar
namespace Lar
open PySem PySem.Spec PyProof.Rows L2
theorem needT_flat {α : Type} {h : α → List Task} {nm : Str} {d : Int} : ∀ xs : List α, needT (xs.flatMap h) nm d = (xs.map fun x => needT (h x) nm d).sum
  | [] => rfl
  | x :: r => by rw [List.flatMap_cons, needT_app, needT_flat r, List.map_cons, List.sum_cons]
theorem needT_one (day : Int) (nm : Str) (d : Int) : ∀ ns : List Need, needT (ns.map fun x => (day, x.1, x.2)) nm d = if d ≤ day then (ns.filterMap fun x => if x.1 = nm then some x.2 else none).sum else 0
  | [] => by unfold needT; simp
  | x :: r => by
    rw [List.map_cons, needT_cons, needT_one day nm d r]
    by_cases e : d ≤ day
    · rw [if_pos e, if_pos e]
      by_cases c : x.1 = nm
      · rw [if_pos ⟨c, e⟩]
        simp only [List.filterMap_cons, if_pos c, List.sum_cons]
      · rw [if_neg (fun z => c z.1)]
        simp only [List.filterMap_cons, if_neg c]
        omega
    · rw [if_neg e, if_neg e, if_neg (fun z => e z.2)]; rfl
theorem sumR_add (f g : Nat → Int) : ∀ n : Nat, sumR n f + sumR n g = sumR n fun k => f k + g k
  | 0 => rfl
  | n + 1 => by rw [sumR_succ, sumR_succ, sumR_succ, ← sumR_add f g n]; omega
theorem map_getD {α β : Type} (f : α → β) (z : α) (xs : List α) : xs.map f = (List.range xs.length).map fun k => f (xs.getD k z) := by
  refine List.ext_getElem (by simp) fun i h1 h2 => ?_
  have hi : i < xs.length := by simpa using h1
  rw [List.getElem_map, List.getElem_map, List.getElem_range, List.getD_eq_getElem?_getD, List.getElem?_eq_getElem hi]; rfl
theorem tasks_need (ds : List Dish) (hd : ∀ x ∈ ds, 1 ≤ x.1 ∧ x.1 ≤ 7) (nm : Str) (d : Int) : needT (tasks ds) nm d = needFrom ds nm d := by
  unfold tasks
  rw [needT_flat]
  have one : ∀ i k : Nat, needT (tasksK ds i k) nm d = if (ds.getD k dz).1 = 1 + (i : Nat) then (if d ≤ 1 + (i : Nat) then needOf (ds.getD k dz) nm else 0) else 0 := fun i k => by
    unfold tasksK
    by_cases c : (ds.getD k dz).1 = 1 + (i : Nat)
    · rw [if_pos c, if_pos c, needT_one]; rfl
    · rw [if_neg c, if_neg c]; rfl
  have day : ∀ i : Nat, needT ((List.range ds.length).flatMap fun k => tasksK ds i k) nm d = sumR ds.length fun k => if (ds.getD k dz).1 = 1 + (i : Nat) then (if d ≤ 1 + (i : Nat) then needOf (ds.getD k dz) nm else 0) else 0 := fun i => by
    rw [needT_flat]
    exact sumR_congr fun k _ => one i k
  have e7 : ((List.range 7).map fun i => needT ((List.range ds.length).flatMap fun k => tasksK ds i k) nm d).sum = sumR ds.length fun k => if d ≤ (ds.getD k dz).1 then needOf (ds.getD k dz) nm else 0 := by
    rw [seven (fun i => needT ((List.range ds.length).flatMap fun k => tasksK ds i k) nm d)]
    simp only [List.sum_cons, List.sum_nil, day, Int.add_zero]
    rw [sumR_add, sumR_add, sumR_add, sumR_add, sumR_add, sumR_add]
    refine sumR_congr fun k hk => ?_
    have b := hd _ (ix_mem (at_getD hk dz))
    generalize (ds.getD k dz) = x at *
    have : x.1 = 1 ∨ x.1 = 2 ∨ x.1 = 3 ∨ x.1 = 4 ∨ x.1 = 5 ∨ x.1 = 6 ∨ x.1 = 7 := by omega
    rcases this with e | e | e | e | e | e | e <;> rw [e] <;> simp
  rw [e7]
  unfold needFrom sumR
  rw [map_getD (fun x : Dish => if d ≤ x.1 then needOf x nm else 0) dz ds]
theorem left_kept (lar : List Batch) (nm : Str) (d : Int) : leftTo lar (lar.map (·.amount)) nm d = keptTo lar nm d := by
  unfold leftTo keptTo sumR
  rw [map_getD (fun b : Batch => if b.name = nm ∧ d ≤ b.last then b.amount else 0) bz lar]
  congr 1
  apply List.map_congr_left
  intro k hk
  have hk' := List.mem_range.mp hk
  have : (lar.map (·.amount)).getD k 0 = (lar.getD k bz).amount := by
    rw [List.getD_eq_getElem?_getD, List.getD_eq_getElem?_getD, List.getElem?_map, List.getElem?_eq_getElem hk']; rfl
  rw [this]
theorem tasks_nn {ds : List Dish} (h : ∀ x ∈ ds, ∀ y ∈ x.2, 0 ≤ y.2) : ∀ t ∈ tasks ds, 0 ≤ t.2.2 := fun t ht => by
  unfold tasks at ht
  obtain ⟨i, _, h1⟩ := List.mem_flatMap.mp ht
  obtain ⟨k, hk, h2⟩ := List.mem_flatMap.mp h1
  unfold tasksK at h2
  split at h2
  · obtain ⟨y, hy, rfl⟩ := List.mem_map.mp h2
    exact h _ (ix_mem (at_getD (List.mem_range.mp hk) dz)) y hy
  · cases h2
section
variable {ds : List Dish} {lar : List Batch}
theorem left0_nn (h : ∀ b ∈ lar, 0 ≤ b.amount) : ∀ x ∈ lar.map (·.amount), 0 ≤ x := fun x hx => by
  obtain ⟨b, hb, rfl⟩ := List.mem_map.mp hx
  exact h b hb
/-- cooked: of each name no more is needed from a day on than is kept to it -/
theorem cook_ok (hd : ∀ x ∈ ds, 1 ≤ x.1 ∧ x.1 ≤ 7) (hn : ∀ x ∈ ds, ∀ y ∈ x.2, 0 ≤ y.2) (hb : ∀ b ∈ lar, 0 ≤ b.amount) {us : List (List Use)} (h : cookedM ds lar = Except.ok us) (nm : Str) (d : Int) : needFrom ds nm d ≤ keptTo lar nm d := by
  rw [← tasks_need ds hd, ← left_kept]
  have e := cook_sim ds lar
  cases ec : cookE ds lar with
  | error x => unfold cookedM at h; rw [ec] at h; cases h
  | ok s =>
    rw [ec] at e
    exact run_ok (tasks ds) _ _ (by simp) (left0_nn hb) (tasks_nn hn) e.symm nm d
/-- refused: of the name told more is needed from some day on than is kept to it -/
theorem cook_err (hd : ∀ x ∈ ds, 1 ≤ x.1 ∧ x.1 ≤ 7) (hn : ∀ x ∈ ds, ∀ y ∈ x.2, 0 ≤ y.2) (hb : ∀ b ∈ lar, 0 ≤ b.amount) {nm : Str} (h : cookedM ds lar = Except.error nm) : ∃ d, keptTo lar nm d < needFrom ds nm d := by
  have e := cook_sim ds lar
  cases ec : cookE ds lar with
  | ok s => unfold cookedM at h; rw [ec] at h; cases h
  | error x =>
    have hx : x = nm := by
      unfold cookedM at h
      rw [ec] at h
      have h' : (Except.error x : Except Str (List (List Use))) = Except.error nm := h
      exact Except.error.inj h'
    subst hx
    rw [ec] at e
    by_cases z : ∀ d, needT (tasks ds) x d ≤ leftTo lar (lar.map (·.amount)) x d
    · exact absurd e.symm (run_err (tasks ds) _ (by simp) (left0_nn hb) (tasks_nn hn) z)
    · have ⟨d, hz⟩ := Classical.not_forall.mp z
      refine ⟨d, ?_⟩
      rw [← tasks_need ds hd, ← left_kept]
      omega
/-- .. from some day of the week on -/
theorem cook_err7 (hd : ∀ x ∈ ds, 1 ≤ x.1 ∧ x.1 ≤ 7) (hn : ∀ x ∈ ds, ∀ y ∈ x.2, 0 ≤ y.2) (hb : ∀ b ∈ lar, 0 ≤ b.amount ∧ 1 ≤ b.last) {nm : Str} (h : cookedM ds lar = Except.error nm) : ∃ e : Nat, 1 ≤ e ∧ e ≤ 7 ∧ keptTo lar nm e < needFrom ds nm e := by
  obtain ⟨d, h1⟩ := cook_err hd hn (fun b hb' => (hb b hb').1) h
  by_cases l : d < 1
  · refine ⟨1, by decide, by decide, ?_⟩
    have e1 : keptTo lar nm ((1 : Nat) : Int) = keptTo lar nm d := by
      unfold keptTo
      congr 1
      apply List.map_congr_left
      intro b hb'
      have := (hb b hb').2
      by_cases c : b.name = nm
      · rw [if_pos ⟨c, by show (1 : Int) ≤ _; omega⟩, if_pos ⟨c, by omega⟩]
      · rw [if_neg (fun z => c z.1), if_neg (fun z => c z.1)]
    have e2 : needFrom ds nm ((1 : Nat) : Int) = needFrom ds nm d := by
      unfold needFrom
      congr 1
      apply List.map_congr_left
      intro x hx
      have := (hd x hx).1
      rw [if_pos (show ((1 : Nat) : Int) ≤ x.1 by omega), if_pos (by omega)]
    rw [e1, e2]
    exact h1
  · by_cases g : 7 < d
    · exfalso
      have e2 : needFrom ds nm d = 0 := by
        unfold needFrom
        have : ds.map (fun x => if d ≤ x.1 then needOf x nm else 0) = ds.map fun _ => 0 := List.map_congr_left fun x hx => by
          have := (hd x hx).2
          rw [if_neg (by omega)]
        rw [this]
        clear this h1 h hd hn
        induction ds with
        | nil => rfl
        | cons x r ih => rw [List.map_cons, List.sum_cons, ih]; rfl
      have e1 : 0 ≤ keptTo lar nm d := by
        rw [← left_kept]
        refine sumR_nonneg fun k hk => ?_
        split
        · exact left0_nn (fun b hb' => (hb b hb').1) _ (ix_mem (at_getD (by simpa using hk) 0))
        · exact Int.le_refl _
      omega
    · refine ⟨d.toNat, by omega, by omega, ?_⟩
      have : ((d.toNat : Nat) : Int) = d := by omega
      rw [this]
      exact h1
end
end Lar
namespace Lar
open PySem PySem.Spec PyProof.Rows L2
/-! ### the packs of a name, as offers -/
abbrev pz : Pack := ⟨"", 0, 0, 0⟩
def offerOf (p : Pack) : Offer := ⟨p.size, p.price, p.last⟩
def ofK (ps : List Pack) (nm : Str) : List Nat := (List.range ps.length).filterMap fun k => if (ps.getD k pz).name = nm then some k else none
def offersOf (ps : List Pack) (nm : Str) : List Offer := (ofK ps nm).map fun k => offerOf (ps.getD k pz)
def countsOf (cs : List Int) (ks : List Nat) : List Int := ks.map fun k => cs.getD k 0
theorem of_mem {ps : List Pack} {nm : Str} {k : Nat} (h : k ∈ ofK ps nm) : k < ps.length ∧ (ps.getD k pz).name = nm := by
  obtain ⟨j, hj, e⟩ := List.mem_filterMap.mp h
  split at e
  · rename_i hd
    cases e
    exact ⟨List.mem_range.mp hj, hd⟩
  · cases e
theorem offer_good {p : Pack} (h : FinePack p) : GoodOffer (offerOf p) := ⟨h.size1, h.size2, h.price0, h.price2, h.last1, h.last2⟩
theorem offers_good {ps : List Pack} (h : ∀ p ∈ ps, FinePack p) (nm : Str) : ∀ o ∈ offersOf ps nm, GoodOffer o := fun o ho => by
  obtain ⟨k, hk, rfl⟩ := List.mem_map.mp ho
  exact offer_good (h _ (ix_mem (at_getD (of_mem hk).1 pz)))
theorem counts_nn {cs : List Int} (h : ∀ c ∈ cs, 0 ≤ c) (ks : List Nat) : ∀ c ∈ countsOf cs ks, 0 ≤ c := fun c hc => by
  obtain ⟨k, _, rfl⟩ := List.mem_map.mp hc
  by_cases l : k < cs.length
  · exact h _ (ix_mem (at_getD l 0))
  · rw [List.getD_eq_getElem?_getD, List.getElem?_eq_none (by omega)]; exact Int.le_refl _
theorem keptTo_app (xs ys : List Batch) (nm : Str) (d : Int) : keptTo (xs ++ ys) nm d = keptTo xs nm d + keptTo ys nm d := by
  unfold keptTo
  rw [List.map_append, List.sum_append]
theorem keptTo_rep (b : Batch) (nm : Str) (d : Int) : ∀ n : Nat, keptTo (List.replicate n b) nm d = if b.name = nm ∧ d ≤ b.last then b.amount * n else 0
  | 0 => by unfold keptTo; simp
  | n + 1 => by
    have ih := keptTo_rep b nm d n
    unfold keptTo at ih ⊢
    rw [List.replicate_succ, List.map_cons, List.sum_cons, ih]
    split
    · rw [Int.natCast_succ, Int.mul_add]; omega
    · rfl
theorem zipP_range (ps : List Pack) (cs : List Int) (h : ps.length = cs.length) : ps.zip cs = (List.range ps.length).map fun k => (ps.getD k pz, cs.getD k 0) := by
  refine List.ext_getElem (by rw [zip_len h]; simp) fun i h1 h2 => ?_
  have hi : i < ps.length := by rw [zip_len h] at h1; exact h1
  rw [List.getElem_zip, List.getElem_map, List.getElem_range]
  rw [List.getD_eq_getElem?_getD, List.getD_eq_getElem?_getD, List.getElem?_eq_getElem hi, List.getElem?_eq_getElem (by omega)]; rfl
theorem kept_stockZ (nm : Str) (d : Int) : ∀ zs : List (Pack × Int), (∀ p ∈ zs, 0 ≤ p.2) → keptTo (stockZ zs) nm d = (zs.map fun p => if p.1.name = nm ∧ d ≤ p.1.last then p.1.size * p.2 else 0).sum
  | [], _ => rfl
  | p :: r, h => by
    have ih := kept_stockZ nm d r fun q hq => h q (List.mem_cons_of_mem _ hq)
    have h0 := h p List.mem_cons_self
    have e : stockZ (p :: r) = List.replicate p.2.toNat (batchOf p.1) ++ stockZ r := by unfold stockZ; rw [List.flatMap_cons]
    rw [e, keptTo_app, keptTo_rep, ih, List.map_cons, List.sum_cons]
    have e2 : ((p.2.toNat : Nat) : Int) = p.2 := by omega
    rw [e2]; rfl
theorem zip_map2 {α β γ : Type} (f : α → β) (g : α → γ) : ∀ xs : List α, (xs.map f).zip (xs.map g) = xs.map fun x => (f x, g x)
  | [] => rfl
  | x :: r => by rw [List.map_cons, List.map_cons, List.zip_cons_cons, zip_map2 f g r, List.map_cons]
theorem held_of (ps : List Pack) (cs : List Int) (h : ps.length = cs.length) (hn : ∀ c ∈ cs, 0 ≤ c) (nm : Str) (d : Int) : keptTo (stockZ (ps.zip cs)) nm d = heldOn (offersOf ps nm) (countsOf cs (ofK ps nm)) d := by
  rw [kept_stockZ nm d _ fun p hp => hn _ (List.of_mem_zip hp).2]
  unfold heldOn heldZ offersOf countsOf
  rw [zip_map2, List.map_map]
  unfold ofK
  rw [sum_fm, zipP_range ps cs h, List.map_map]
  congr 1
  apply List.map_congr_left
  intro k _
  show (if (ps.getD k pz).name = nm ∧ d ≤ (ps.getD k pz).last then (ps.getD k pz).size * cs.getD k 0 else 0) = if (ps.getD k pz).name = nm then (if d ≤ (ps.getD k pz).last then (ps.getD k pz).size * cs.getD k 0 else 0) else 0
  by_cases c : (ps.getD k pz).name = nm
  · rw [if_pos c]
    by_cases l : d ≤ (ps.getD k pz).last
    · rw [if_pos l, if_pos ⟨c, l⟩]
    · rw [if_neg l, if_neg (fun z => l z.2)]
  · rw [if_neg c, if_neg (fun z => c z.1)]
theorem kept_stockL (lar : List Batch) (ps : List Pack) (cs : List Int) (h : ps.length = cs.length) (hn : ∀ c ∈ cs, 0 ≤ c) (nm : Str) (d : Int) : keptTo (stockL lar ps cs) nm d = keptTo lar nm d + heldOn (offersOf ps nm) (countsOf cs (ofK ps nm)) d := by
  unfold stockL
  rw [keptTo_app, held_of ps cs h hn]
/-! ### what lacks is served where enough is kept with what is bought -/
theorem lackW_len (ds : List Dish) (lar : List Batch) (nm : Str) : (lackW ds lar nm).length = 7 := by unfold lackW; simp
theorem lackW_at (ds : List Dish) (lar : List Batch) (nm : Str) {i : Nat} (hi : i < 7) : (lackW ds lar nm).getD i 0 = lackDay ds lar nm (1 + (i : Nat)) := by
  unfold lackW
  rw [List.getD_eq_getElem?_getD, List.getElem?_map, List.getElem?_range hi]; rfl
theorem lackW_nn (ds : List Dish) (lar : List Batch) (nm : Str) : ∀ x ∈ lackW ds lar nm, 0 ≤ x := fun x hx => by
  obtain ⟨i, _, rfl⟩ := List.mem_map.mp hx
  unfold lackDay mx0
  split <;> omega
theorem served_iff (ds : List Dish) (lar : List Batch) (ps : List Pack) (cs : List Int) (h : ps.length = cs.length) (hp : ∀ p ∈ ps, FinePack p) (hn : ∀ c ∈ cs, 0 ≤ c) (nm : Str) :
    servesB (offersOf ps nm) (countsOf cs (ofK ps nm)) (lackW ds lar nm) = true ↔ ∀ e : Nat, 1 ≤ e → e ≤ 7 → needFrom ds nm e ≤ keptTo (stockL lar ps cs) nm e := by
  have held0 : ∀ d : Int, 0 ≤ heldOn (offersOf ps nm) (countsOf cs (ofK ps nm)) d := fun d => by
    rw [heldOn_w]
    exact wsum_nonneg _ _ _ (fun o ho => onto_nonneg (offers_good hp nm o ho) _) (counts_nn hn _)
  unfold servesB
  rw [List.all_eq_true]
  constructor
  · intro H e h1 h7
    have := of_decide_eq_true (H (e - 1) (List.mem_range.mpr (by omega)))
    rw [lackW_at ds lar nm (by omega)] at this
    have e2 : (1 : Int) + ((e - 1 : Nat) : Int) = (e : Int) := by omega
    rw [e2] at this
    rw [kept_stockL lar ps cs h hn]
    unfold lackDay mx0 at this
    split at this
    · omega
    · have := held0 e; omega
  · intro H i hi
    have hi7 := List.mem_range.mp hi
    have := H (i + 1) (by omega) (by omega)
    rw [kept_stockL lar ps cs h hn] at this
    have e2 : (1 : Int) + (i : Int) = ((i + 1 : Nat) : Int) := by omega
    refine decide_eq_true ?_
    rw [lackW_at ds lar nm hi7, e2]
    have := held0 ((i + 1 : Nat) : Int)
    unfold lackDay mx0
    split <;> omega
/-- cooking with what is bought is refused just where something lacks; the name told is one of these -/
theorem whole_err {ds : List Dish} {lar : List Batch} {ps : List Pack} {cs : List Int} (h : ps.length = cs.length) (hp : ∀ p ∈ ps, FinePack p) (hn : ∀ c ∈ cs, 0 ≤ c) (hd : ∀ x ∈ ds, 1 ≤ x.1 ∧ x.1 ≤ 7) (hx : ∀ x ∈ ds, ∀ y ∈ x.2, 0 ≤ y.2) (hb : ∀ b ∈ lar, 0 ≤ b.amount ∧ 1 ≤ b.last)
    {nm : Str} (hc : cookedM ds (stockL lar ps cs) = Except.error nm) : servesB (offersOf ps nm) (countsOf cs (ofK ps nm)) (lackW ds lar nm) = false := by
  have hb' : ∀ b ∈ stockL lar ps cs, 0 ≤ b.amount ∧ 1 ≤ b.last := fun b hbm => by
    rcases List.mem_append.mp hbm with z | z
    · exact hb b z
    · obtain ⟨p, hpm, hr⟩ := List.mem_flatMap.mp z
      rw [(List.mem_replicate.mp hr).2]
      have f := hp _ (List.of_mem_zip hpm).1
      exact ⟨by have := f.size1; show 0 ≤ p.1.size; omega, f.last1⟩
  obtain ⟨e, h1, h7, hl⟩ := cook_err7 hd hx hb' hc
  cases hs : servesB (offersOf ps nm) (countsOf cs (ofK ps nm)) (lackW ds lar nm) with
  | false => rfl
  | true =>
    have := (served_iff ds lar ps cs h hp hn nm).mp hs e h1 h7
    omega
theorem whole_ok {ds : List Dish} {lar : List Batch} {ps : List Pack} {cs : List Int} (h : ps.length = cs.length) (hp : ∀ p ∈ ps, FinePack p) (hn : ∀ c ∈ cs, 0 ≤ c) (hd : ∀ x ∈ ds, 1 ≤ x.1 ∧ x.1 ≤ 7) (hx : ∀ x ∈ ds, ∀ y ∈ x.2, 0 ≤ y.2) (hb : ∀ b ∈ lar, 0 ≤ b.amount)
    {us : List (List Use)} (hc : cookedM ds (stockL lar ps cs) = Except.ok us) (nm : Str) : servesB (offersOf ps nm) (countsOf cs (ofK ps nm)) (lackW ds lar nm) = true := by
  have hb' : ∀ b ∈ stockL lar ps cs, 0 ≤ b.amount := fun b hbm => by
    rcases List.mem_append.mp hbm with z | z
    · exact hb b z
    · obtain ⟨p, hpm, hr⟩ := List.mem_flatMap.mp z
      rw [(List.mem_replicate.mp hr).2]
      have f := hp _ (List.of_mem_zip hpm).1
      have := f.size1
      show 0 ≤ p.1.size
      omega
  exact (served_iff ds lar ps cs h hp hn nm).mpr fun e _ _ => cook_ok hd hx hb' hc nm e
/-! ### slices and sums of tuples, whichever object it is -/
theorem slA_of {K : PySem.W.Frag} {H : Hp} {Q : VK} {a : Addr} {xs : List V} {lo hi : Option Int} (ha : H a = some (.tup xs)) (h : ∀ p H', Same H H' → H' p = some (.tup (cutV xs lo hi)) → Q (.ref p) H') : rSlA K (.ref a) lo hi H Q := by
  refine ⟨a, xs, rfl, sqT ha, fun z => ?_, fun _ p hp => h p _ (same_upd hp) upd_same⟩
  refine h a H (Same.refl _) ?_
  have : cutV xs lo hi = xs := by
    unfold cutV
    rw [z.1, z.2, List.drop_zero, Nat.sub_zero, List.take_length]
  rw [this]
  exact ha
theorem cutV_to (xs : List V) (i : Nat) : cutV xs none (some (i : Int)) = xs.take i := by
  unfold cutV
  rw [HT.sIx_nat, HT.sIx_none, List.drop_zero, Nat.sub_zero]
  by_cases h : i ≤ xs.length
  · rw [Nat.min_eq_left h]
  · rw [Nat.min_eq_right (by omega), List.take_length, List.take_of_length_le (by omega)]
theorem Held.take {α : Type} {R : Hp → V → α → Prop} {H : Hp} {vs : List V} {xs : List α} (h : Held R H vs xs) (n : Nat) : Held R H (vs.take n) (xs.take n) := by
  refine ⟨by rw [List.length_take, List.length_take, h.len], fun i v x hv hx => ?_⟩
  rw [List.getElem?_take] at hv hx
  split at hv
  · rename_i c
    rw [if_pos c] at hx
    exact h.all i v x hv hx
  · cases hv
theorem Held.drop {α : Type} {R : Hp → V → α → Prop} {H : Hp} {vs : List V} {xs : List α} (h : Held R H vs xs) (n : Nat) : Held R H (vs.drop n) (xs.drop n) := by
  refine ⟨by rw [List.length_drop, List.length_drop, h.len], fun i v x hv hx => ?_⟩
  rw [List.getElem?_drop] at hv hx
  exact h.all (n + i) v x hv hx
theorem needOf_nn {d : Dish} {nm : Str} (h : ∀ x ∈ d.2, 0 ≤ x.2) : 0 ≤ needOf d nm := by
  unfold needOf
  have : ∀ ns : List Need, (∀ x ∈ ns, 0 ≤ x.2) → 0 ≤ (ns.filterMap fun x => if x.1 = nm then some x.2 else none).sum := by
    intro ns
    induction ns with
    | nil => intro _; exact Int.le_refl _
    | cons x r ih =>
      intro hn
      have a := ih fun y hy => hn y (List.mem_cons_of_mem _ hy)
      have b := hn x List.mem_cons_self
      by_cases c : x.1 = nm
      · simp only [List.filterMap_cons, if_pos c, List.sum_cons]; omega
      · simp only [List.filterMap_cons, if_neg c]; exact a
  exact this d.2 h
end Lar
namespace Lar
/-! ### counts set at places, one by one -/
def setK (cs : List Int) : List (Nat × Int) → List Int
  | [] => cs
  | p :: r => setK (cs.set p.1 p.2) r
theorem setK_len : ∀ (zs : List (Nat × Int)) (cs : List Int), (setK cs zs).length = cs.length
  | [], _ => rfl
  | p :: r, cs => by
    show (setK (cs.set p.1 p.2) r).length = _
    rw [setK_len r, List.length_set]
theorem setK_snoc : ∀ (zs : List (Nat × Int)) (cs : List Int) (p : Nat × Int), setK cs (zs ++ [p]) = (setK cs zs).set p.1 p.2
  | [], _, _ => rfl
  | q :: r, cs, p => setK_snoc r (cs.set q.1 q.2) p
theorem setK_nn : ∀ (zs : List (Nat × Int)) (cs : List Int), (∀ x ∈ cs, 0 ≤ x) → (∀ p ∈ zs, 0 ≤ p.2) → ∀ x ∈ setK cs zs, 0 ≤ x
  | [], _, h, _ => h
  | p :: r, cs, h, hz => setK_nn r (cs.set p.1 p.2) (nn_set h (hz p List.mem_cons_self)) fun q hq => hz q (List.mem_cons_of_mem _ hq)
/-- elsewhere as it was -/
theorem setK_ne : ∀ (zs : List (Nat × Int)) (cs : List Int) (k : Nat), (∀ p ∈ zs, p.1 ≠ k) → (setK cs zs).getD k 0 = cs.getD k 0
  | [], _, _, _ => rfl
  | p :: r, cs, k, h => by
    show (setK (cs.set p.1 p.2) r).getD k 0 = _
    rw [setK_ne r _ k fun q hq => h q (List.mem_cons_of_mem _ hq), getD_set_ne (fun e => h p List.mem_cons_self e.symm)]
/-- at the places what is set, where no place comes twice -/
theorem setK_at : ∀ (ks : List Nat) (zs : List Int) (cs : List Int), ks.Nodup → ks.length = zs.length → (∀ k ∈ ks, k < cs.length) → countsOf (setK cs (ks.zip zs)) ks = zs
  | [], [], _, _, _, _ => rfl
  | [], _ :: _, _, _, h, _ => by simp at h
  | _ :: _, [], _, _, h, _ => by simp at h
  | k :: ks, z :: zs, cs, hn, hl, hk => by
    have hn' := List.nodup_cons.mp hn
    have ih := setK_at ks zs (cs.set k z) hn'.2 (by simpa using hl) (fun j hj => by rw [List.length_set]; exact hk j (List.mem_cons_of_mem _ hj))
    show (setK (cs.set k z) (ks.zip zs)).getD k 0 :: countsOf (setK (cs.set k z) (ks.zip zs)) ks = z :: zs
    rw [ih, setK_ne _ _ k fun p hp => fun e => hn'.1 (e ▸ (List.of_mem_zip hp).1), getD_set_self (hk k List.mem_cons_self)]
theorem sumC_set_le : ∀ (cs : List Int) (k : Nat) (z : Int), sumC (cs.set k z) ≤ sumC cs + z.toNat
  | [], _, _ => by simp
  | c :: cs, 0, z => by
    unfold sumC
    rw [List.set_cons_zero, List.map_cons, List.sum_cons, List.map_cons, List.sum_cons]
    omega
  | c :: cs, k + 1, z => by
    have ih := sumC_set_le cs k z
    unfold sumC at ih ⊢
    rw [List.set_cons_succ, List.map_cons, List.sum_cons, List.map_cons, List.sum_cons]
    omega
theorem setK_sum : ∀ (ks : List Nat) (zs : List Int) (cs : List Int), sumC (setK cs (ks.zip zs)) ≤ sumC cs + sumC zs
  | [], _, _ => by simp [setK]
  | _ :: _, [], _ => by simp [setK]
  | k :: ks, z :: zs, cs => by
    have ih := setK_sum ks zs (cs.set k z)
    have s := sumC_set_le cs k z
    have e : sumC (z :: zs) = z.toNat + sumC zs := by unfold sumC; rw [List.map_cons, List.sum_cons]
    show sumC (setK (cs.set k z) (ks.zip zs)) ≤ _
    omega
theorem of_nodup (ps : List Pack) (nm : PySem.Str) : (ofK ps nm).Nodup := by
  unfold ofK
  have : ∀ xs : List Nat, xs.Nodup → (xs.filterMap fun k => if (ps.getD k pz).name = nm then some k else none).Nodup := by
    intro xs
    induction xs with
    | nil => intro _; exact List.nodup_nil
    | cons x r ih =>
      intro h
      have h' := List.nodup_cons.mp h
      by_cases c : (ps.getD x pz).name = nm
      · simp only [List.filterMap_cons, if_pos c]
        refine List.nodup_cons.mpr ⟨fun hx => ?_, ih h'.2⟩
        obtain ⟨j, hj, e⟩ := List.mem_filterMap.mp hx
        split at e
        · cases e; exact h'.1 hj
        · cases e
      · simp only [List.filterMap_cons, if_neg c]
        exact ih h'.2
  exact this _ List.nodup_range
/-- another name's counts stay -/
theorem setK_other {ps : List Pack} {nm nm' : PySem.Str} (ne : nm' ≠ nm) (cs zs : List Int) : countsOf (setK cs ((ofK ps nm).zip zs)) (ofK ps nm') = countsOf cs (ofK ps nm') := by
  unfold countsOf
  apply List.map_congr_left
  intro k hk
  refine setK_ne _ _ k fun p hp e => ?_
  have a := (of_mem (List.of_mem_zip hp).1).2
  have b := (of_mem hk).2
  rw [e, b] at a
  exact ne a
end Lar
namespace Lar
open PySem PySem.Spec PyProof.Rows L2
/-! ### sorted of tuples, of any length -/
def rSortD {β : Type} (K : PySem.W.Frag) (b : Bool) (enc : β → PyData) (T : Hp → V → β → Prop) : List V → Hp → VK → Prop := fun vs H Q => ∃ (a : Addr) (us : List V) (bs : List β), vs = [.ref a] ∧ SqL K H a us ∧ Held T H us bs ∧ bs.length ≤ sizeLine ∧
  ∀ (p : Addr) (us' : List V), H p = none → Held T H us' (bs.mergeSort (PySem.W.dataLe b enc)) → Q (.ref p) (upd H p (.lst us'))
theorem held_cons {α : Type} {R : Hp → V → α → Prop} {H : Hp} {v : V} {vs : List V} {x : α} {xs : List α} (h : Held R H (v :: vs) (x :: xs)) : R H v x ∧ Held R H vs xs :=
  ⟨h.all 0 v x rfl rfl, by have := h.len; simpa using this, fun i v' x' h1 h2 => h.all (i + 1) v' x' (by simpa using h1) (by simpa using h2)⟩
theorem cons_held {α : Type} {R : Hp → V → α → Prop} {H : Hp} {v : V} {vs : List V} {x : α} {xs : List α} (r : R H v x) (h : Held R H vs xs) : Held R H (v :: vs) (x :: xs) := by
  refine ⟨by simp [h.len], fun i v' x' h1 h2 => ?_⟩
  cases i with
  | zero => cases h1; cases h2; exact r
  | succ i => exact h.all i v' x' (by simpa using h1) (by simpa using h2)
theorem each_of {β : Type} {T : Hp → V → β → Prop} {H : Hp} : ∀ {us : List V} {ws : List Value} {bs : List β}, Vals us ws → Held T H us bs → PySem.W.EachIs (fun u x => ∃ v, RelV v u ∧ T H v x) ws bs
  | [], _, [], r, _ => by cases r; exact .nil
  | [], _, _ :: _, _, h => by have := h.len; simp at this
  | _ :: _, _, [], _, h => by have := h.len; simp at this
  | v :: us, _, x :: bs, r, h => by
    cases r with
    | cons r1 r2 =>
      obtain ⟨h1, h2⟩ := held_cons h
      exact .cons ⟨v, r1, h1⟩ (each_of r2 h2)
theorem of_each {β : Type} {T : Hp → V → β → Prop} {H : Hp} : ∀ {ws : List Value} {bs : List β}, PySem.W.EachIs (fun u x => ∃ v, RelV v u ∧ T H v x) ws bs → ∃ us : List V, Vals us ws ∧ Held T H us bs
  | _, _, .nil => ⟨[], .nil, Held.nil⟩
  | _, _, .cons ⟨v, r, t⟩ e => by
    obtain ⟨us, h1, h2⟩ := of_each e
    exact ⟨v :: us, .cons r h1, cons_held t h2⟩
section
variable {X : Cx} {K : PySem.W.Frag} {β : Type} {enc : β → PyData} {T : Hp → V → β → Prop}
theorem sortD_end {pins : List (Addr × Obj)} {s : Shared} {σ : L2.St} {H : Hp} {Q : VK} {its : List Value} {bs : List β} {b : Bool} (I : Inv X pins σ H s) (hz : bs.length ≤ sizeLine)
    (q : ∀ (p : Addr) (us' : List V), H p = none → Held T H us' (bs.mergeSort (PySem.W.dataLe b enc)) → Q (.ref p) (upd H p (.lst us'))) (out : List Value) (hl : out.length = bs.length) (e : PySem.W.EachIs (fun u x => ∃ v, RelV v u ∧ T H v x) out (bs.mergeSort (PySem.W.dataLe b enc))) :
    EP X pins σ Q (.ref (s.heap.objs.size + 1)) { s with heap := sortedAll s.heap its (List.toArray out) } := by
  obtain ⟨us, h1, h2⟩ := of_each e
  obtain ⟨ep, he'⟩ := PyProof.Rows.sortedAll_at s.heap its (List.toArray out)
  have hlen : us.length ≤ sizeLine := by rw [h1.length, hl]; exact hz
  exact ⟨.ref _, upd H (s.heap.objs.size + 1) (.lst us), I.laid (t' := s.toks) (fun _ _ => PyProof.Rows.sortedAll_old) (Nat.le_succ _) ⟨hlen, out, ep, h1, by simpa using he'⟩, rfl, q _ _ (I.hok.fresh (Nat.le_succ _)) h2⟩
theorem kcr_sortD (K : PySem.W.Frag) (hu : X.A.units + 64 < cLine) (hal : ∀ x y, PySem.W.alike (enc x) (enc y) = true) (hs : ∀ x, ∃ z r, enc x = .tuple (z :: r)) (hd : ∀ x, (enc x).depth ≤ 4) (hdp : ∀ (H : Hp) (v : V) (x : β), T H v x → Dp K H v (enc x)) (hK : X.K = K := by rfl) : CallR X (.builtin "sorted") (rSortD K false enc T) := by
  subst hK
  intro pins s σ H vs us Q I r h
  obtain ⟨a, uvs, bs, rfl, hq, hh, hz, q⟩ := h
  obtain ⟨its, rv, hl, _⟩ := I.list hq
  rw [Vals.ref1 r]
  have e := each_of rv hh
  exact PySem.W.sorted_data (R := fun u x => ∃ v, RelV v u ∧ T H v x) (enc := enc) hl.isList e (e.mono fun u x ⟨v, r1, t1⟩ => Dp.reads I (enc x) v u (hdp H v x t1) r1) (PySem.W.AllAlike.of hal) (PySem.W.Sortable.tuples hs) hz (fun b _ => by have := hd b; omega) (sortD_end I hz q)
theorem kcr_sortRevD (K : PySem.W.Frag) (hu : X.A.units + 64 < cLine) (hal : ∀ x y, PySem.W.alike (enc x) (enc y) = true) (hs : ∀ x, ∃ z r, enc x = .tuple (z :: r)) (hd : ∀ x, (enc x).depth ≤ 4) (hdp : ∀ (H : Hp) (v : V) (x : β), T H v x → Dp K H v (enc x)) (hK : X.K = K := by rfl) :
    CallRK X (.builtin "sorted") [Str.ofString "reverse"] (fun vs zs H Q => zs = [.bl true] ∧ rSortD K true enc T vs H Q) := by
  subst hK
  intro pins s σ H vs zs us ws Q I r rz h
  obtain ⟨rfl, a, uvs, bs, rfl, hq, hh, hz, q⟩ := h
  obtain ⟨its, rv, hl, _⟩ := I.list hq
  obtain rfl := Vals.ref1 r
  obtain ⟨w1, rfl, e1⟩ := vals1 rz
  obtain rfl : w1 = Value.bool true := e1
  have e := each_of rv hh
  exact PySem.W.sorted_rev_data (R := fun u x => ∃ v, RelV v u ∧ T H v x) (enc := enc) (b := true) hl.isList e (e.mono fun u x ⟨v, r1, t1⟩ => Dp.reads I (enc x) v u (hdp H v x t1) r1) (PySem.W.AllAlike.of hal) (PySem.W.Sortable.tuples hs) hz (fun b _ => by have := hd b; omega) (sortD_end I hz q)
end
end Lar
namespace Lar
open PySem PySem.Spec PyProof.Rows L2
/-! ### the lines of batches, the first to go at the end -/
abbrev lastK (lar : List Batch) (k : Nat) : Int := (lar.getD k bz).last
abbrev nameK (lar : List Batch) (k : Nat) : Str := (lar.getD k bz).name
def Asc (lar : List Batch) (i j : Nat) : Prop := lastK lar i < lastK lar j ∨ (lastK lar i = lastK lar j ∧ i < j)
/-- line, the first to go first -/
structure Stack (lar : List Batch) (left : List Int) (nm : Str) (day : Int) (ks : List Nat) : Prop where
  asc : ks.Pairwise (Asc lar)
  ok : ∀ k ∈ ks, k < lar.length ∧ nameK lar k = nm ∧ 0 < left.getD k 0
  all : ∀ k, k < lar.length → nameK lar k = nm → 0 < left.getD k 0 → day ≤ lastK lar k → k ∈ ks
section
variable {lar : List Batch} {left : List Int} {nm : Str} {day : Int}
theorem next_first : ∀ n : Nat, ∀ j, (List.range n).foldl (nextStep lar left nm day) none = some j → ∀ k, k < n → Goes lar left nm day k → lastK lar j < lastK lar k ∨ (lastK lar j = lastK lar k ∧ j ≤ k)
  | 0 => fun j h => by cases h
  | n + 1 => fun j h k hk gk => by
    rw [List.range_succ, List.foldl_append] at h
    replace h : nextStep lar left nm day ((List.range n).foldl (nextStep lar left nm day) none) n = some j := h
    have up := next_upto (lar := lar) (left := left) (nm := nm) (day := day) n
    cases e : (List.range n).foldl (nextStep lar left nm day) none with
    | none =>
      rw [e] at h up
      unfold nextStep at h
      by_cases g : Goes lar left nm day n
      · rw [if_pos g] at h
        have ej : n = j := Option.some.inj h
        subst ej
        by_cases z : k = n
        · subst z; exact .inr ⟨rfl, Nat.le_refl _⟩
        · exact absurd gk (up k (by omega))
      · rw [if_neg g] at h
        cases h
    | some i =>
      have ih := next_first n i e
      rw [e] at h up
      unfold nextStep at h
      by_cases g : Goes lar left nm day n
      · rw [if_pos g] at h
        unfold later at h
        dsimp only at h
        by_cases l : (lar.getD n bz).last < (lar.getD i bz).last
        · rw [if_pos l] at h
          have ej : n = j := Option.some.inj h
          subst ej
          by_cases z : k = n
          · subst z; exact .inr ⟨rfl, Nat.le_refl _⟩
          · have := ih k (by omega) gk
            left
            rcases this with h1 | ⟨h1, _⟩
            · exact Int.lt_trans l h1
            · rw [← h1]; exact l
        · rw [if_neg l] at h
          have ej : i = j := Option.some.inj h
          subst ej
          by_cases z : k = n
          · subst z
            by_cases le : lastK lar i = lastK lar k
            · exact .inr ⟨le, Nat.le_of_lt up.1⟩
            · left
              have : lastK lar i ≤ lastK lar k := Int.not_lt.mp l
              omega
          · exact ih k (by omega) gk
      · rw [if_neg g] at h
        have ej : i = j := Option.some.inj h
        subst ej
        by_cases z : k = n
        · subst z; exact absurd gk g
        · exact ih k (by omega) gk
theorem next_empty (S : Stack lar left nm day []) : nextK lar left nm day = none := by
  cases e : nextK lar left nm day with
  | none => rfl
  | some j =>
    obtain ⟨h1, ⟨h2, h3, h4⟩, _⟩ := next_some e
    exact nomatch S.all j h1 h2 h4 h3
theorem next_head {k : Nat} {r : List Nat} (S : Stack lar left nm day (k :: r)) (hd : day ≤ lastK lar k) : nextK lar left nm day = some k := by
  obtain ⟨k1, k2, k3⟩ := S.ok k List.mem_cons_self
  cases e : nextK lar left nm day with
  | none => exact absurd ⟨k2, hd, k3⟩ (next_none e k k1)
  | some j =>
    obtain ⟨h1, ⟨h2, h3, h4⟩, _⟩ := next_some e
    have hf := next_first lar.length j e k k1 ⟨k2, hd, k3⟩
    rcases List.mem_cons.mp (S.all j h1 h2 h4 h3) with z | z
    · rw [z]
    · have := (List.pairwise_cons.mp S.asc).1 j z
      unfold Asc at this
      omega
theorem Stack.drop {k : Nat} {r : List Nat} (S : Stack lar left nm day (k :: r)) (hd : lastK lar k < day) : Stack lar left nm day r := by
  refine ⟨(List.pairwise_cons.mp S.asc).2, fun j hj => S.ok j (List.mem_cons_of_mem _ hj), fun j h1 h2 h3 h4 => ?_⟩
  rcases List.mem_cons.mp (S.all j h1 h2 h3 h4) with z | z
  · subst z; omega
  · exact z
theorem Stack.notin {k : Nat} {r : List Nat} (S : Stack lar left nm day (k :: r)) : k ∉ r := fun z => by
  have := (List.pairwise_cons.mp S.asc).1 k z
  unfold Asc at this
  omega
theorem Stack.len {ks : List Nat} (S : Stack lar left nm day ks) : ks.length ≤ lar.length := by
  have hn : ks.Nodup := S.asc.imp fun {a b} h z => by subst z; unfold Asc at h; omega
  have := L2.nat_nodup_len ks (List.range lar.length) hn fun k hk => List.mem_range.mpr (S.ok k hk).1
  rwa [List.length_range] at this
/-- some of the first is used -/
theorem Stack.some {k : Nat} {r : List Nat} (S : Stack lar left nm day (k :: r)) (hl : left.length = lar.length) {z : Int} (hz : 0 < z) : Stack lar (left.set k z) nm day (k :: r) := by
  have k1 := (S.ok k List.mem_cons_self).1
  have at_ : ∀ j, (left.set k z).getD j 0 = if j = k then z else left.getD j 0 := fun j => by
    by_cases e : j = k
    · subst e; rw [if_pos rfl, getD_set_self (by omega)]
    · rw [if_neg e, getD_set_ne e]
  refine ⟨S.asc, fun j hj => ?_, fun j h1 h2 h3 h4 => ?_⟩
  · obtain ⟨a, b, c⟩ := S.ok j hj
    refine ⟨a, b, ?_⟩
    rw [at_]
    split
    · exact hz
    · exact c
  · by_cases e : j = k
    · subst e; exact List.mem_cons_self
    · rw [at_, if_neg e] at h3
      exact S.all j h1 h2 h3 h4
/-- all of the first is used -/
theorem Stack.whole {k : Nat} {r : List Nat} (S : Stack lar left nm day (k :: r)) (hl : left.length = lar.length) : Stack lar (left.set k 0) nm day r := by
  have k1 := (S.ok k List.mem_cons_self).1
  refine ⟨(List.pairwise_cons.mp S.asc).2, fun j hj => ?_, fun j h1 h2 h3 h4 => ?_⟩
  · obtain ⟨a, b, c⟩ := S.ok j (List.mem_cons_of_mem _ hj)
    have e : j ≠ k := fun e => S.notin (e ▸ hj)
    exact ⟨a, b, by rw [getD_set_ne e]; exact c⟩
  · have e : j ≠ k := fun e => by
      subst e
      rw [getD_set_self (by omega)] at h3
      omega
    rw [getD_set_ne e] at h3
    rcases List.mem_cons.mp (S.all j h1 h2 h3 h4) with z | z
    · exact absurd z e
    · exact z
theorem Stack.later {ks : List Nat} {day' : Int} (S : Stack lar left nm day ks) (h : day ≤ day') : Stack lar left nm day' ks := ⟨S.asc, S.ok, fun k h1 h2 h3 h4 => S.all k h1 h2 h3 (by omega)⟩
theorem Stack.other {ks : List Nat} {left' : List Int} (S : Stack lar left nm day ks) (h : ∀ k, nameK lar k = nm → left'.getD k 0 = left.getD k 0) : Stack lar left' nm day ks :=
  ⟨S.asc, fun k hk => ⟨(S.ok k hk).1, (S.ok k hk).2.1, by rw [h k (S.ok k hk).2.1]; exact (S.ok k hk).2.2⟩, fun k h1 h2 h3 h4 => S.all k h1 h2 (by rw [← h k h2]; exact h3) h4⟩
end
/-- what stands in a line for a batch -/
def entOf (lar : List Batch) (left : List Int) (k : Nat) : Int × Nat × Int := (lastK lar k, k, left.getD k 0)
def EntAt (H : Hp) (v : V) (x : Int × Nat × Int) : Prop := ∃ t, v = .ref t ∧ H t = some (.tup [.int x.1, .int (x.2.1 : Nat), .int x.2.2])
theorem EntAt.mono : MonoT EntAt := fun _ _ _ _ e ⟨t, h1, h2⟩ => ⟨t, h1, e _ _ h2⟩
theorem ent_set {lar : List Batch} {left : List Int} {k : Nat} {z : Int} {r : List Nat} (h : k ∉ r) : r.map (entOf lar (left.set k z)) = r.map (entOf lar left) := by
  apply List.map_congr_left
  intro j hj
  unfold entOf
  have e : j ≠ k := fun e => h (e ▸ hj)
  rw [getD_set_ne e]
theorem ent_other {lar : List Batch} {left left' : List Int} {r : List Nat} (h : ∀ k ∈ r, left'.getD k 0 = left.getD k 0) : r.map (entOf lar left') = r.map (entOf lar left) := by
  apply List.map_congr_left
  intro j hj
  unfold entOf
  rw [h j hj]
/-! ### one need, met -/
section
variable {lar : List Batch} {nm : Str} {day : Int}
theorem met_len : ∀ (n : Nat) (left : List Int) (amt : Int) (ps qs : List Use) (left' : List Int), metF lar nm day n left amt ps = some (qs, left') → left'.length = left.length ∧ qs.length ≤ ps.length + n ∧ ∀ k, nameK lar k ≠ nm → left'.getD k 0 = left.getD k 0
  | 0, left, amt, ps, qs, left', h => by
    unfold metF at h
    cases h
    exact ⟨rfl, Nat.le_refl _, fun _ _ => rfl⟩
  | n + 1, left, amt, ps, qs, left', h => by
    unfold metF at h
    by_cases p : 0 < amt
    · rw [if_pos p] at h
      cases e : nextK lar left nm day with
      | none => rw [e] at h; cases h
      | some k =>
        rw [e] at h
        obtain ⟨a, b, c⟩ := met_len n _ _ _ _ _ h
        rw [List.length_set] at a
        rw [List.length_append] at b
        refine ⟨a, by simp only [List.length_cons, List.length_nil] at b; omega, fun j hj => ?_⟩
        rw [c j hj]
        refine getD_set_ne fun z => ?_
        subst z
        exact hj (next_some e).2.1.1
    · rw [if_neg p] at h
      cases h
      exact ⟨rfl, by omega, fun _ _ => rfl⟩
theorem met_done {n : Nat} {left : List Int} {amt : Int} {ps : List Use} (h : ¬ 0 < amt) : metF lar nm day n left amt ps = some (ps, left) := by
  cases n with
  | zero => rfl
  | succ n => unfold metF; rw [if_neg h]
end
/-! ### the order of cooking -/
theorem perm_one {α : Type} {R : α → α → Prop} (as : ∀ a b, R a b → ¬ R b a) : ∀ {l m : List α}, l.Perm m → l.Pairwise R → m.Pairwise R → l = m
  | [], m, p, _, _ => (List.Perm.nil_eq p)
  | a :: l, [], p, _, _ => absurd p.length_eq (by simp)
  | a :: l, b :: m, p, h1, h2 => by
    obtain ⟨a1, a2⟩ := List.pairwise_cons.mp h1
    obtain ⟨b1, b2⟩ := List.pairwise_cons.mp h2
    have e : a = b := by
      have ha : a ∈ b :: m := p.subset List.mem_cons_self
      have hb : b ∈ a :: l := p.symm.subset List.mem_cons_self
      rcases List.mem_cons.mp ha with z | z
      · exact z
      · rcases List.mem_cons.mp hb with y | y
        · exact y.symm
        · exact absurd (b1 a z) (as _ _ (a1 b y))
    subst e
    rw [perm_one as (List.Perm.cons_inv p) a2 b2]
abbrev dayK (ds : List Dish) (k : Nat) : Int := (ds.getD k dz).1
def Ahead (ds : List Dish) (i j : Nat) : Prop := dayK ds i < dayK ds j ∨ (dayK ds i = dayK ds j ∧ i < j)
def dayD (ds : List Dish) (k : Nat) : PyData := .tuple [.int (dayK ds k), .int (k : Nat)]
def orderL (ds : List Dish) : List Nat := (List.range ds.length).mergeSort (PySem.W.dataLe false (dayD ds))
def byDays (ds : List Dish) : List Nat := (List.range 7).flatMap fun i => (List.range ds.length).filter fun k => decide (dayK ds k = 1 + (i : Nat))
theorem order_pair (ds : List Dish) : (orderL ds).Pairwise (Ahead ds) := by
  have h1 := PySem.W.sort_pairwise (show PySem.W.TotalLe (PySem.W.dataLe false (dayD ds)) from PySem.W.sortLe_total _ _ _) (List.range ds.length)
  have e := PySem.W.dataLe_ii (β := Nat) (fun k => dayK ds k) (fun k => (k : Int))
  have hp : (orderL ds).Perm (List.range ds.length) := List.mergeSort_perm _ _
  have hn : (orderL ds).Nodup := hp.nodup_iff.mpr List.nodup_range
  have h2 : (orderL ds).Pairwise fun a b => PySem.W.dataLe false (dayD ds) a b = true := h1
  refine (List.Pairwise.and h2 hn).imp fun {a b} hq => ?_
  obtain ⟨q, hab⟩ := hq
  have q2 : decide (dayK ds a < dayK ds b ∨ (dayK ds a = dayK ds b ∧ (a : Int) ≤ (b : Int))) = true := by
    have := congrFun (congrFun e a) b
    rw [← this]
    exact q
  have := of_decide_eq_true q2
  unfold Ahead
  omega
theorem order_mem (ds : List Dish) (k : Nat) : k ∈ orderL ds ↔ k < ds.length := by
  have hp : (orderL ds).Perm (List.range ds.length) := List.mergeSort_perm _ _
  rw [hp.mem_iff, List.mem_range]
theorem ahead_asym (ds : List Dish) (a b : Nat) (h : Ahead ds a b) : ¬ Ahead ds b a := by
  unfold Ahead at *
  omega
theorem filter_perm {n : Nat} {f : Nat → Int} : ∀ (m : Nat), ((List.range m).flatMap fun i => (List.range n).filter fun k => decide (f k = 1 + (i : Nat))).Perm ((List.range n).filter fun k => decide (1 ≤ f k ∧ f k ≤ m))
  | 0 => by
    have : (List.range n).filter (fun k => decide (1 ≤ f k ∧ f k ≤ ((0 : Nat) : Int))) = [] := List.filter_eq_nil_iff.mpr fun k _ h => by
      have := of_decide_eq_true h
      omega
    rw [this]
    exact List.Perm.refl _
  | m + 1 => by
    have ih := filter_perm (n := n) (f := f) m
    rw [List.range_succ, List.flatMap_append]
    refine (List.Perm.append_right _ ih).trans ?_
    have e : ([m].flatMap fun i : Nat => (List.range n).filter fun k => decide (f k = 1 + (i : Nat))) = (List.range n).filter fun k => decide (f k = 1 + (m : Nat)) := by simp
    rw [e]
    generalize List.range n = l
    induction l with
    | nil => exact List.Perm.refl _
    | cons x l ih2 =>
      by_cases a : 1 ≤ f x ∧ f x ≤ (m : Nat)
      · have b : ¬ f x = 1 + (m : Nat) := by omega
        have c : 1 ≤ f x ∧ f x ≤ ((m + 1 : Nat) : Int) := by omega
        simp only [List.filter_cons, decide_eq_true a, decide_eq_false b, decide_eq_true c, if_true]
        exact List.Perm.cons _ ih2
      · by_cases b : f x = 1 + (m : Nat)
        · have c : 1 ≤ f x ∧ f x ≤ ((m + 1 : Nat) : Int) := by omega
          simp only [List.filter_cons, decide_eq_false a, decide_eq_true b, decide_eq_true c, if_true]
          exact List.perm_middle.trans (List.Perm.cons _ ih2)
        · have c : ¬ (1 ≤ f x ∧ f x ≤ ((m + 1 : Nat) : Int)) := by omega
          simp only [List.filter_cons, decide_eq_false a, decide_eq_false b, decide_eq_false c]
          exact ih2
theorem order_days {ds : List Dish} (hd : ∀ d ∈ ds, 1 ≤ d.1 ∧ d.1 ≤ 7) : orderL ds = byDays ds := by
  refine perm_one (ahead_asym ds) ?_ (order_pair ds) ?_
  · have hp : (orderL ds).Perm (List.range ds.length) := List.mergeSort_perm _ _
    refine hp.trans (List.Perm.symm ((filter_perm (n := ds.length) (f := dayK ds) 7).trans ?_))
    have : (List.range ds.length).filter (fun k => decide (1 ≤ dayK ds k ∧ dayK ds k ≤ ((7 : Nat) : Int))) = List.range ds.length := List.filter_eq_self.mpr fun k hk => by
      have hk' := List.mem_range.mp hk
      have e : ds.getD k dz = ds[k] := by rw [List.getD_eq_getElem?_getD, List.getElem?_eq_getElem hk']; rfl
      have := hd _ (List.getElem_mem hk')
      unfold dayK
      rw [e]
      exact decide_eq_true ⟨this.1, by omega⟩
    rw [this]
  · unfold byDays
    rw [List.flatMap_def, List.pairwise_flatten]
    refine ⟨fun l hl => ?_, ?_⟩
    · obtain ⟨i, _, rfl⟩ := List.mem_map.mp hl
      refine List.Pairwise.imp_of_mem ?_ (List.pairwise_lt_range.filter _)
      intro a b ha hb hab
      have h1 := of_decide_eq_true (List.mem_filter.mp ha).2
      have h2 := of_decide_eq_true (List.mem_filter.mp hb).2
      right
      exact ⟨h1.trans h2.symm, hab⟩
    · rw [List.pairwise_map]
      refine List.Pairwise.imp ?_ List.pairwise_lt_range
      intro i j hij a ha b hb
      have h1 := of_decide_eq_true (List.mem_filter.mp ha).2
      have h2 := of_decide_eq_true (List.mem_filter.mp hb).2
      left
      rw [h1, h2]
      omega
/-- one dish, cooked -/
def useF (lar : List Batch) (ds : List Dish) (k : Nat) (s : CkS) : Except Str CkS :=
  bindE (foldE (needF lar (dayK ds k)) (ds.getD k dz).2 (s.1.getD k [], s.2)) fun r => Except.ok (s.1.set k r.1, r.2)
theorem day_filter (lar : List Batch) (ds : List Dish) (i : Nat) : ∀ (l : List Nat) (s : CkS), foldE (dishF lar ds (1 + (i : Nat))) l s = foldE (useF lar ds) (l.filter fun k => decide (dayK ds k = 1 + (i : Nat))) s
  | [], _ => rfl
  | k :: l, s => by
    show bindE (dishF lar ds (1 + (i : Nat)) k s) (foldE _ l) = _
    by_cases e : dayK ds k = 1 + (i : Nat)
    · rw [List.filter_cons, if_pos (decide_eq_true e)]
      show _ = bindE (useF lar ds k s) (foldE _ _)
      have h : dishF lar ds (1 + (i : Nat)) k s = useF lar ds k s := by
        unfold dishF useF
        rw [if_pos e, ← e]
      rw [h]
      cases useF lar ds k s with
      | error z => rfl
      | ok s' => exact day_filter lar ds i l s'
    · rw [List.filter_cons, if_neg (by simp [e])]
      have h : dishF lar ds (1 + (i : Nat)) k s = Except.ok s := by unfold dishF; rw [if_neg e]
      rw [h]
      exact day_filter lar ds i l s
theorem cook_days (lar : List Batch) (ds : List Dish) : ∀ (l : List Nat) (s : CkS), foldE (dayF lar ds) l s = foldE (useF lar ds) (l.flatMap fun i => (List.range ds.length).filter fun k => decide (dayK ds k = 1 + (i : Nat))) s
  | [], _ => rfl
  | i :: l, s => by
    rw [List.flatMap_cons, foldE_app]
    show bindE (dayF lar ds i s) (foldE _ l) = _
    have h : dayF lar ds i s = foldE (useF lar ds) ((List.range ds.length).filter fun k => decide (dayK ds k = 1 + (i : Nat))) s := day_filter lar ds i _ s
    rw [h]
    cases foldE (useF lar ds) ((List.range ds.length).filter fun k => decide (dayK ds k = 1 + (i : Nat))) s with
    | error z => rfl
    | ok s' => exact cook_days lar ds l s'
theorem cook_order {ds : List Dish} {lar : List Batch} (hd : ∀ d ∈ ds, 1 ≤ d.1 ∧ d.1 ≤ 7) : cookE ds lar = foldE (useF lar ds) (orderL ds) (List.replicate ds.length [], lar.map (·.amount)) := by
  rw [order_days hd]
  exact cook_days lar ds _ _
end Lar
namespace Lar
open PySem PySem.Spec PyProof.Rows L2
theorem foldN_len {lar : List Batch} {day : Int} : ∀ (xs : List Need) (s s' : List Use × List Int), foldE (needF lar day) xs s = Except.ok s' → s'.2.length = s.2.length
  | [], s, s', h => by cases h; rfl
  | x :: r, s, s', h => by
    replace h : bindE (needF lar day x s) (foldE (needF lar day) r) = Except.ok s' := h
    cases e : needF lar day x s with
    | error z => rw [e] at h; cases h
    | ok t =>
      rw [e] at h
      have h1 := foldN_len r t s' h
      unfold needF at e
      cases em : metF lar x.1 day x.2.toNat s.2 x.2 [] with
      | none => rw [em] at e; cases e
      | some y =>
        rw [em] at e
        cases e
        have := (met_len _ _ _ _ _ _ em).1
        rw [h1]
        exact this
theorem nodup_at {α : Type} : ∀ {l : List α}, l.Nodup → ∀ (i j : Nat) (hi : i < l.length) (hj : j < l.length), l[i] = l[j] → i = j := fun {l} hn i j hi hj e => by
  have hp := List.pairwise_iff_getElem.mp hn
  rcases Nat.lt_trichotomy i j with h | h | h
  · exact absurd e (hp i j hi hj h)
  · exact h
  · exact absurd e.symm (hp j i hj hi h)
end Lar
namespace Lar
open PySem PySem.Spec PyProof.Rows L2
/-! ### defs that raise -/
theorem DefAt.clbX {P : Program} {w : World} {K : PySem.W.Frag} {mg : Str → Option Value} {base : Heap} {x : Str} {st : Stmt} {N ps : List Str} {k : Nat} {sp : Sp} (D : DefAt K mg x st)
    (S : FnScope N ps (defScope st)) (len : ∀ vs H Q E, sp vs H Q E → vs.length = ps.length)
    (hb : ∀ (kV doc pm : Value) (an : Option Addr) (cdv ct : Value) (us : List Value), us.length = ps.length → bindArgs (PySem.W.fnOf x x (defArgs st) (defBody st) (defScope st) .none kV doc pm an cdv ct) ⟨us, []⟩ = pure (ps.zip us))
    (hbody : ∀ (f : Addr) (cdv : Value) (A : Around) (outer : List Env) (s : Shared) (H : Hp) (vs : List V) (Q : VK) (E : XK), Room k (A.deeper (envOfC x (defScope st) s.heap.objs.size f cdv)) → sp vs H Q E →
      ∃ t, PSs (cxOf (L2.CX P w) P w K mg base N x (defScope st) f cdv A outer s H E) (defBody st) t ∧ t { nx := fun _ H' => Q .non H', rt := Q } (start N vs) H) : ClbX P w K mg base (k + 1) x ps sp := by
  obtain ⟨f, fd, F, hm⟩ := D.ex
  exact ⟨f, fd, F.okX S len (fun cdv A outer s H vs Q E hr h => hbody f cdv A outer s H vs Q E hr h), hm, F.kp, F.binds hb⟩
/-- the error's own __init__: its word in the field word -/
def spInit (K : PySem.W.Frag) : Sp := fun vs H Q _ => ∃ (a C : Addr) (nm : Str), vs = [.ref a, .str nm] ∧ H a = some (exo a C none) ∧ OexC K C ∧ PySem.W.findIn K (.ref C) "word" = some none ∧
  ∀ dx, H dx = none → dx ≠ a → Q .non (upd (upd H dx (exd dx [("word", .str nm)])) a (exo a C (some dx)))
structure MkAt (P : Program) (w : World) (K : PySem.W.Frag) (mg : Str → Option Value) (base : Heap) (k : Nat) (x : Str) (C : Addr) : Prop where
  g : mg x = some (.ref C)
  oe : OexC K C
  nw : PySem.W.findIn K (.ref C) "word" = some none
  ex : ∃ fI fd, PySem.W.findIn K (.ref C) "__init__" = some (some (.ref fI)) ∧ PySem.W.typeIn K (.ref fI) = some (.type "function") ∧ FnOk P w K mg base CX0 k fI fd ["self", "word"] (spInit K) ∧ Binds K fd ["self", "word"] []
def tRaiseN (K : PySem.W.Frag) (C : Addr) (W : WX) (te : TE) : TS := fun _ σ H => tMkO C (spInit K) [] (tCons te tNil) σ H fun cls d H' => W cls d σ H'
theorem ps_raiseN {X : Cx} {k : Nat} {x : Str} {C : Addr} {W : WX} {e : Expr} {te : TE} {p pos pos' : Pos} {K : PySem.W.Frag} (M : MkAt X.prog X.w K X.mg X.base k x C) (hc : X.calm = true) (hr : Room (k + 1) X.A) (tk : Takes X W) (he : PE X e te) (hK : X.K = K := by rfl) (hg : Gl X x := by rfl)
    (hdb : (x == ("__debug__" : Str)) = false := by decide) (hst : starEach [e] X.env = (false, eval e X.env) :: starEach [] X.env := by rfl) (hpl : (backTo pos (starEach [] X.env)).any (·.1) = false := by rfl) :
    PS X (.Raise (some (.Call (.Name x p) [e] [] pos)) none pos') (tRaiseN K C W te) := by
  subst hK
  obtain ⟨fI, fd, h1, h2, F, hb⟩ := M.ex
  exact ps_raise (W := W) hc tk (pmk_oex M.oe h1 h2 F hr hb .nil (fun _ _ _ _ _ _ _ h => h.elim) hg M.g (pa_cons he pa_nil hst) hdb hst hpl)
/-- what is left of it to be shown -/
theorem mk_word {K : PySem.W.Frag} {C : Addr} (T : OexC K C) (nw : PySem.W.findIn K (.ref C) "word" = some none) {nm : Str} {H1 : Hp} {Q : XK} (q : ∀ d, H1 d = none → Q (.ref C) (some d) (upd H1 d (.xd [("word", .str nm)]))) :
    ([V.str nm] : List V).length ≤ 1000 ∧ ∀ a, H1 a = none → spInit K (.ref a :: ([V.str nm] ++ [])) (upd H1 a (exo a C none)) (fun v H2 => v = .non ∧ ∃ (d : Addr) (fs : List (Str × V)), H2 a = some (exo a C (some d)) ∧ H2 d = some (exd d fs) ∧ H1 d = none ∧ Q (.ref C) (some d) (upd (del H2 a) d (.xd fs))) (fun _ _ _ => False) := by
  refine ⟨(show 1 ≤ 1000 by decide), fun a ha => ⟨a, C, nm, rfl, upd_same, T, nw, fun dx hdx hne => ⟨rfl, dx, [("word", .str nm)], upd_same, ?_, ?_, ?_⟩⟩⟩
  · rw [upd_ne hne, upd_same]
  · rw [upd_ne hne] at hdx
    exact hdx
  · have hdx1 : H1 dx = none := by rw [upd_ne hne] at hdx; exact hdx
    have e : upd (del (upd (upd (upd H1 a (exo a C none)) dx (exd dx [("word", .str nm)])) a (exo a C (some dx))) a) dx (.xd [("word", .str nm)]) = upd H1 dx (.xd [("word", .str nm)]) := by
      funext b
      by_cases h1 : b = dx
      · rw [h1, upd_same, upd_same]
      · rw [upd_ne h1, upd_ne h1]
        by_cases h2 : b = a
        · rw [h2, del_same, ha]
        · rw [del_ne h2, upd_ne h2, upd_ne h1, upd_ne h2]
    rw [e]
    exact q dx hdx1
theorem kpe_bm0 {X : Cx} (K : PySem.W.Frag) {T name id : String} {r : V → List V → Hp → VK → Prop} {o : Expr} {to : TE} {apos cpos : Pos} (pa : PlainAttrs T) (slot : Slot T name id) (hty : typeOf (.builtin id) = pure (.type "method_descriptor")) (hm : MtR X id r) (ho : PE X o to) (hK : X.K = K := by rfl)
    (hbase : attributeBase o name X.env (eval o X.env) = eval o X.env := by rfl) (hline : (apos.endLine == cpos.line) = true := by rfl) : PE X (.Call (.Attribute o name apos) [] [] cpos) (tBM0 K T r to) := by subst hK; exact pe_bm0 pa slot hty hm ho hbase hline
end Lar
namespace Lar
open PySem PySem.Spec PyProof.Rows L2
section
variable {α β γ : Type} {J : It} {n : Nat} {G : Hp → Prop} {Y : Nat → Hp → V → Hp → Prop}
/-- lc_rel, for as many as a list may hold -/
theorem lc_relB (w : Walk J n G Y) {xs : List α} (hn : xs.length = n) {f : α → Option β} {R : Hp → V → β → Prop} (mR : MonoT R) {g : TG} {tt : TT} {te : TE} {ws : List Nat} {σ : L2.St} {H1 : Hp} {D : Addr} {Qd : Hp → Prop}
    (hD : H1 D = none) (hG : ∀ H, Same H1 H → G H) (hz : n ≤ sizeLine)
    (hs : ∀ (i : Nat) (v : V) (x : α) (H H' : Hp) (Ky : V → Hp → Prop) (Kn : Hp → Prop), xs[i]? = some x → Same H1 H → Y i H v H' → (∀ y b H4, f x = some b → Same H H4 → R H4 y b → Ky y H4) → (∀ H3, f x = none → Same H H3 → Kn H3) →
      g v (wipe σ ws) H' fun σ2 H2 => wipe σ2 ws = wipe σ ws ∧ tt σ2 H2 fun b H3 => if b = true then te σ2 H3 Ky else Kn H3)
    (hd : ∀ H' ys, Same H1 H' → H' D = some (.lst ys) → Held R H' ys (xs.filterMap f) → Qd H') :
    ∃ W : Nat → Nat → Hp → Prop, (∃ m, W 0 m (upd H1 D (.lst []))) ∧ ∀ i m H, W i m H →
      (J.stop i H ∧ Qd H) ∨ (J.go i H ∧ ∃ Nx : Hp → Prop, (∀ H', Nx H' → ∃ m', m' < m ∧ W (i + 1) m' H') ∧ ∀ x H', J.yld i H x H' → g x (wipe σ ws) H' fun σ2 H2 => wipe σ2 ws = wipe σ ws ∧ tt σ2 H2 fun b H3 =>
        if b = true then te σ2 H3 fun y H4 => ∃ acc, H4 D = some (.lst acc) ∧ acc.length < sizeLine ∧ Nx (upd H4 D (.lst (acc ++ [y]))) else Nx H3) := by
  refine lc_it w (fun i H => Same H1 H ∧ ∃ ys, H D = some (.lst ys) ∧ Held R H ys ((xs.take i).filterMap f)) ⟨same_upd hD, [], upd_same, Held.nil⟩ (fun i H _ p => hG H p.1) (fun i v H H' hi p y => ?_) (fun H p => ?_)
  · obtain ⟨sm, ys, hDl, hh⟩ := p
    have hx : xs[i]? = some (xs[i]'(by omega)) := List.getElem?_eq_getElem (by omega)
    refine hs i v _ H H' _ _ hx sm y (fun y b H4 e s4 r => ?_) (fun H3 e s3 => ?_)
    · refine ⟨_, s4 _ _ hDl, ?_, (sm.trans s4).mut hD, ys ++ [y], upd_same, ?_⟩
      · have h1 := List.length_filterMap_le f (xs.take i)
        rw [List.length_take] at h1
        exact Nat.lt_of_lt_of_le (show ys.length < n by rw [hh.len]; omega) hz
      · have st := SameT.lst (o := .lst (ys ++ [y])) (s4 _ _ hDl)
        rw [take_succ' hx, List.filterMap_append]
        have e2 : List.filterMap f [xs[i]'(by omega)] = [b] := by rw [List.filterMap_cons_some e]; rfl
        rw [e2]
        exact (hh.mono mR ((SameT.of s4).trans st)).snoc (mR _ _ _ _ st r)
    · refine ⟨sm.trans s3, ys, s3 _ _ hDl, ?_⟩
      rw [take_succ' hx, List.filterMap_append]
      have e2 : List.filterMap f [xs[i]'(by omega)] = [] := by rw [List.filterMap_cons_none e]; rfl
      rw [e2, List.append_nil]
      exact hh.mono mR (SameT.of s3)
  · obtain ⟨sm, ys, hDl, hh⟩ := p
    rw [← hn, List.take_length] at hh
    exact hd H ys sm hDl hh
end
/-- a walk over a list or a tuple -/
def iAny (K : PySem.W.Frag) (tl : TE) : TI := fun σ H R => tl σ H fun x H1 => ∃ a xs, x = .ref a ∧ ((SqL K H1 a xs ∧ R (Itl K a) H1) ∨ (SqT K H1 a xs ∧ R (Itt K a) H1))
theorem kpi_any {X : Cx} (K : PySem.W.Frag) {tg l : Expr} {tl : TE} (hl : PE X l tl) (hK : X.K = K := by rfl) : PI X tg l (iAny K tl) := by
  subst hK
  refine ⟨fun pins s σ H R I h => ?_⟩
  refine thn (hl.run pins s σ H _ I h) fun v s1 ⟨x, H1, I1, r1, q1⟩ => ?_
  obtain ⟨a, xs, e, q⟩ := q1
  subst e
  cases r1
  rcases q with ⟨hq, q⟩ | ⟨hq, q⟩
  · obtain ⟨its, rv, p, hz⟩ := I1.list hq
    refine wpAny_pyIter_list p.isList ?_
    refine ⟨s1.heap.objs.size, [s1.heap.objs.size], _, _, H1, rfl, I1.kept (t' := s1.toks) fun b o e => Heap.get?_push_of_some _ e, turn_list a _, ⟨_, Heap.get?_push_size _ rfl, rfl, rfl⟩, fun b hb => ?_, q⟩
    have e : b = s1.heap.objs.size := by simpa using hb
    subst e
    exact I1.fpOk (Nat.le_refl _) (I1.hok.fresh (Nat.le_refl _))
  · obtain ⟨its, rv, p, hz⟩ := I1.tuple hq
    refine wpAny_pyIter_tuple (show s1.heap.IsTuple a its.toArray from p) ?_
    refine ⟨s1.heap.objs.size, [s1.heap.objs.size], _, _, H1, rfl, I1.kept (t' := s1.toks) fun b o e => Heap.get?_push_of_some _ e, turn_tuple a _, ⟨_, Heap.get?_push_size _ rfl, rfl, rfl⟩, fun b hb => ?_, q⟩
    have e : b = s1.heap.objs.size := by simpa using hb
    subst e
    exact I1.fpOk (Nat.le_refl _) (I1.hok.fresh (Nat.le_refl _))
/-! ### packs as offers -/
def offOf (p : Pack) : Offer := ⟨p.size, p.price, p.last⟩
theorem offOf_good {p : Pack} (h : FinePack p) : GoodOffer (offOf p) := ⟨h.size1, h.size2, h.price0, h.price2, h.last1, h.last2⟩
def PacksIn (K : PySem.W.Frag) (H : Hp) (v : V) (ps : List Pack) : Prop := ∃ a us, v = .ref a ∧ SqA K H a us ∧ Held PackAt H us ps
theorem PacksAt.in {K : PySem.W.Frag} {H : Hp} {v : V} {ps : List Pack} (h : PacksAt H v ps) : PacksIn K H v ps := by
  obtain ⟨a, us, h1, h2, h3⟩ := h
  exact ⟨a, us, h1, SqA.t h2, h3⟩
theorem costOf_packs : ∀ (ps : List Pack) (cs : List Int), costOf (ps.map offOf) cs = totalP ps cs
  | [], cs => by simp [costOf, totalP]
  | p :: ps, [] => by simp [costOf, totalP]
  | p :: ps, c :: cs => by
    have ih := costOf_packs ps cs
    unfold costOf totalP at ih ⊢
    rw [List.map_cons, List.zip_cons_cons, List.zip_cons_cons, List.map_cons, List.map_cons, List.sum_cons, List.sum_cons, ih]
    rfl
def spOffersOf (K : PySem.W.Frag) : Sp := fun vs H Q _ => ∃ (v : V) (ps : List Pack), vs = [v] ∧ PacksIn K H v ps ∧ ps.length ≤ 1000 ∧ ∀ v' H', Same H H' → OffersAt H' v' (ps.map offOf) → Q v' H'
/-! ### the rows, as the program writes them -/
theorem str_ext {x y : Str} (h : x.cps.toList = y.cps.toList) : x = y := by
  cases x; cases y
  congr 1
  exact Array.toList_inj.mp h
theorem app_list (x y : Str) : (x ++ y).cps.toList = x.cps.toList ++ y.cps.toList := by
  show (x.cps ++ y.cps).toList = _
  exact Array.toList_append
theorem app_assoc (x y z : Str) : (x ++ y) ++ z = x ++ (y ++ z) := str_ext (by simp only [app_list, List.append_assoc])
theorem empty_app (x : Str) : Str.empty ++ x = x := str_ext (by rw [app_list]; rfl)
theorem join_eq (sep : Str) (ys : List Str) : Txt.join sep ys = Str.join sep ys := StrLaws.glued_eq_join sep ys
theorem rowS_eq (p : Pack) (c : Int) : rowS p c = Str.empty ++ Str.ofString (toString c) ++ " " ++ p.name ++ " " ++ Str.ofString (toString p.size) ++ " " ++ Str.ofString (toString (p.price * c)) := by
  unfold rowS
  rw [join_eq, join_cons_cons, join_cons_cons, join_cons_cons, join_one, empty_app]
  simp only [app_assoc]
/-- the rows that are told -/
def rowsL (zs : List (Pack × Int)) : List Str := zs.filterMap fun p => if 0 < p.2 then some (rowS p.1 p.2) else none
theorem join_snoc (sep : Str) (z : Str) : ∀ ys : List Str, Str.join sep (ys ++ [z]) = ys.foldr (fun y acc => y ++ sep ++ acc) z
  | [] => rfl
  | [y] => rfl
  | y :: x :: r => by
    have ih := join_snoc sep z (x :: r)
    show Str.join sep (y :: x :: (r ++ [z])) = _
    rw [join_cons_cons]
    rw [show x :: (r ++ [z]) = (x :: r) ++ [z] from rfl, ih]
    rfl
theorem rows_fold (z : Str) : ∀ zs : List (Pack × Int), (rowsL zs).foldr (fun y acc => y ++ ("\n" : Str) ++ acc) z = rowsS zs ++ z := by
  refine snocRec ?_ (fun r p ih => ?_)
  · exact (empty_app z).symm
  · have key : ∀ w : Str, (rowsL r).foldr (fun y acc => y ++ ("\n" : Str) ++ acc) w = rowsS r ++ w := fun w => by
      have g : ∀ (l : List Str) (w : Str), l.foldr (fun y acc => y ++ ("\n" : Str) ++ acc) w = l.foldr (fun y acc => y ++ ("\n" : Str) ++ acc) Str.empty ++ w := fun l w => by
        induction l with
        | nil => exact (empty_app w).symm
        | cons y l ih => rw [List.foldr_cons, List.foldr_cons, ih]; simp only [app_assoc]
      have e1 := g (rowsL r) z
      rw [g]
      have : (rowsL r).foldr (fun y acc => y ++ ("\n" : Str) ++ acc) Str.empty = rowsS r := by
        have h : ((rowsL r).foldr (fun y acc => y ++ ("\n" : Str) ++ acc) Str.empty ++ z) = rowsS r ++ z := by rw [← e1, ih]
        have h2 := congrArg (fun x : Str => x.cps.toList) h
        simp only [app_list] at h2
        exact str_ext (List.append_cancel_right h2)
      rw [this]
    unfold rowsL at key ⊢
    rw [List.filterMap_append, rowsS_snoc]
    by_cases e : 0 < p.2
    · rw [if_pos e]
      simp only [List.filterMap_cons, if_pos e, List.filterMap_nil, List.foldr_append, List.foldr_cons, List.foldr_nil]
      rw [key]
      simp only [app_assoc]
    · rw [if_neg e]
      simp only [List.filterMap_cons, if_neg e, List.filterMap_nil, List.append_nil]
      exact key z
theorem listed_eq (ps : List Pack) (cs : List Int) : Txt.join "\n" (rowsL (ps.zip cs) ++ [Str.empty ++ "total " ++ Str.ofString (toString (totalP ps cs))]) = listedS ps cs := by
  rw [join_eq, join_snoc, rows_fold]
  unfold listedS
  rw [empty_app, app_assoc]
theorem rowsL_len : ∀ zs : List (Pack × Int), (∀ p ∈ zs, Bit p) → ((rowsL zs).map (·.length)).sum ≤ zs.length * 40
  | [], _ => Nat.zero_le _
  | p :: r, h => by
    have ih := rowsL_len r fun q hq => h q (List.mem_cons_of_mem _ hq)
    have l := rowS_len (h p List.mem_cons_self)
    unfold rowsL at ih ⊢
    rw [List.length_cons]
    by_cases e : 0 < p.2
    · simp only [List.filterMap_cons, if_pos e, List.map_cons, List.sum_cons]
      omega
    · simp only [List.filterMap_cons, if_neg e]
      omega
end Lar
namespace Lar
open PySem PySem.Spec PyProof.Rows L2
theorem held_app {α : Type} {R : Hp → V → α → Prop} {H : Hp} {vs ws : List V} {xs ys : List α} (h : Held R H vs xs) (g : Held R H ws ys) : Held R H (vs ++ ws) (xs ++ ys) := by
  have hl := h.len
  refine ⟨by rw [List.length_append, List.length_append, h.len, g.len], fun i v x hv hx => ?_⟩
  by_cases hi : i < vs.length
  · rw [List.getElem?_append_left hi] at hv
    rw [List.getElem?_append_left (by omega)] at hx
    exact h.all i v x hv hx
  · rw [List.getElem?_append_right (by omega)] at hv hx
    rw [← hl] at hx
    exact g.all _ v x hv hx
theorem stockZ_le : ∀ (ps : List Pack) (cs : List Int) (i : Nat), (stockZ ((ps.zip cs).take i)).length ≤ sumC cs
  | [], cs, i => by simp [stockZ]
  | p :: ps, [], i => by simp [stockZ]
  | p :: ps, c :: cs, 0 => by simp [stockZ]
  | p :: ps, c :: cs, i + 1 => by
    have ih := stockZ_le ps cs i
    unfold stockZ sumC at *
    rw [List.zip_cons_cons, List.take_succ_cons, List.flatMap_cons, List.length_append, List.length_replicate, List.map_cons, List.sum_cons]
    omega
end Lar
namespace Lar
open PySem PySem.Spec PyProof.Rows L2
def rJoin (K : PySem.W.Frag) : V → List V → Hp → VK → Prop := fun x xs H Q => ∃ a p, ∃ ys : List Str, x = .str a ∧ xs = [.ref p] ∧ (SqL K H p (ys.map V.str) ∨ SqT K H p (ys.map V.str)) ∧ (ys.map (·.length)).sum + ys.length * a.length ≤ 16777216 ∧ Q (.str (Txt.join a ys)) H
theorem kpe_join {X : Cx} (K : PySem.W.Frag) {o e : Expr} {to te : TE} {apos pos : Pos} (ho : PE X o to) (he : PE X e te) (hK : X.K = K := by rfl) (hs : starEach [e] X.env = [(false, eval e X.env)] := by rfl) (hbase : attributeBase o "join" X.env (eval o X.env) = eval o X.env := by rfl) (hline : (apos.endLine == pos.line) = true := by rfl) :
    PE X (.Call (.Attribute o "join" apos) [e] [] pos) (tM1 (rJoin K) to te) := by subst hK; exact pe_join ho he hs hbase hline
end Lar
namespace Lar
open PySem PySem.Spec PyProof.Rows L2
def tJoined (ts : List TE) : TE := fun σ H Q => tJs ts Str.empty σ H fun out H1 => Q (.str out) H1
theorem kpe_joined {X : Cx} {v1 v2 : Expr} {rest : List Expr} {ts : List TE} {pos : Pos} (h : PJ X (v1 :: v2 :: rest) ts) : PE X (.JoinedStr (v1 :: v2 :: rest) pos) (tJoined ts) := pe_joined h
end Lar
namespace Lar
open PySem PySem.Spec PyProof.Rows L2
/-! ### the batches, in the order in which they go, the last first -/
def batD (lar : List Batch) (k : Nat) : PyData := .tuple [.int (lastK lar k), .int (k : Nat), .str (nameK lar k), .int (lar.getD k bz).amount]
def Bat4At (lar : List Batch) (H : Hp) (v : V) (k : Nat) : Prop := ∃ t, v = .ref t ∧ H t = some (.tup [.int (lastK lar k), .int (k : Nat), .str (nameK lar k), .int (lar.getD k bz).amount])
theorem Bat4At.mono (lar : List Batch) : MonoT (Bat4At lar) := fun _ _ _ _ e ⟨t, h1, h2⟩ => ⟨t, h1, e _ _ h2⟩
def descL (lar : List Batch) : List Nat := (List.range lar.length).mergeSort (PySem.W.dataLe true (batD lar))
theorem bat_alike (lar : List Batch) (x y : Nat) : PySem.W.alike (batD lar x) (batD lar y) = true := by
  unfold batD
  simp [PySem.W.alike, PySem.W.alikeAll]
theorem bat_tup (lar : List Batch) (x : Nat) : ∃ z r, batD lar x = .tuple (z :: r) := ⟨_, _, rfl⟩
theorem bat_deep (lar : List Batch) (x : Nat) : (batD lar x).depth ≤ 4 := by
  unfold batD
  simp [PyData.depth, PyData.depthAll]
theorem bat_dp {K : PySem.W.Frag} (lar : List Batch) (H : Hp) (v : V) (x : Nat) (h : Bat4At lar H v x) : Dp K H v (batD lar x) := by
  obtain ⟨t, rfl, ht⟩ := h
  exact .tup (sqT ht) (.cons (.int _) (.cons (.int _) (.cons (.str _) (.cons (.int _) .nil))))
theorem bat_lt {lar : List Batch} {i j : Nat} (h : Asc lar i j) : PySem.W.dataLt (batD lar i) (batD lar j) = true := by
  unfold batD
  rw [PySem.W.dataLt_tuple, PySem.W.dataLt_cons (by simp [PySem.W.alike])]
  rcases h with h | ⟨h1, h2⟩
  · have e : PyData.eqv (.int (lastK lar i)) (.int (lastK lar j)) = false := by
      simp only [PyData.eqv, beq_eq_false_iff_ne, ne_eq]
      omega
    rw [e, if_neg Bool.false_ne_true, PySem.W.dataLt_int]
    exact decide_eq_true h
  · have e : PyData.eqv (.int (lastK lar i)) (.int (lastK lar j)) = true := by
      simp only [PyData.eqv, beq_iff_eq]
      exact h1
    rw [e, if_pos rfl, PySem.W.dataLt_cons (by simp [PySem.W.alike])]
    have e2 : PyData.eqv (.int (i : Nat)) (.int (j : Nat)) = false := by
      simp only [PyData.eqv, beq_eq_false_iff_ne, ne_eq]
      omega
    rw [e2, if_neg Bool.false_ne_true, PySem.W.dataLt_int]
    exact decide_eq_true (by omega)
theorem desc_pair (lar : List Batch) : (descL lar).Pairwise (fun a b => Asc lar b a) := by
  have h1 := PySem.W.sort_pairwise (show PySem.W.TotalLe (PySem.W.dataLe true (batD lar)) from PySem.W.sortLe_total _ _ _) (List.range lar.length)
  have hp : (descL lar).Perm (List.range lar.length) := List.mergeSort_perm _ _
  have hn : (descL lar).Nodup := hp.nodup_iff.mpr List.nodup_range
  have h2 : (descL lar).Pairwise fun a b => PySem.W.dataLe true (batD lar) a b = true := h1
  refine (List.Pairwise.and h2 hn).imp fun {a b} hq => ?_
  obtain ⟨q, hab⟩ := hq
  have q2 : (!PySem.W.dataLt (batD lar a) (batD lar b)) = true := q
  have na : ¬ Asc lar a b := fun z => by rw [bat_lt z] at q2; cases q2
  unfold Asc at *
  omega
theorem desc_mem (lar : List Batch) (k : Nat) : k ∈ descL lar ↔ k < lar.length := by
  have hp : (descL lar).Perm (List.range lar.length) := List.mergeSort_perm _ _
  rw [hp.mem_iff, List.mem_range]
theorem desc_len (lar : List Batch) : (descL lar).length = lar.length := by
  have hp : (descL lar).Perm (List.range lar.length) := List.mergeSort_perm _ _
  rw [hp.length_eq, List.length_range]
/-! ### lines of batches in a dict, by their names -/
abbrev kS (nm : Str) : L2.Key := Sum.inr nm
theorem kS_inj {a b : Str} (h : kS a = kS b) : a = b := Sum.inr.inj h
structure Lines (H : Hp) (d : Addr) (kvs : List (L2.Key × V)) (F : Str → List (Int × Nat × Int)) : Prop where
  dict : H d = some (.dK kvs)
  nol : ∀ nm, valV kvs (kS nm) = none → F nm = []
  lin : ∀ nm v, valV kvs (kS nm) = some v → ∃ l vs, v = .ref l ∧ H l = some (.lst vs) ∧ Held EntAt H vs (F nm)
  inj : ∀ nm nm' l, valV kvs (kS nm) = some (.ref l) → valV kvs (kS nm') = some (.ref l) → nm = nm'
/-- where the lines stand -/
def LineOf (kvs : List (L2.Key × V)) (a : Addr) : Prop := ∃ nm, valV kvs (kS nm) = some (.ref a)
/-- all but the lines stands as it stood -/
def SameOff (kvs : List (L2.Key × V)) (H H' : Hp) : Prop := ∀ b x, ¬ LineOf kvs b → H b = some x → H' b = some x
theorem SameOff.refl (kvs : List (L2.Key × V)) (H : Hp) : SameOff kvs H H := fun _ _ _ h => h
theorem SameOff.trans {kvs : List (L2.Key × V)} {H H1 H2 : Hp} (a : SameOff kvs H H1) (b : SameOff kvs H1 H2) : SameOff kvs H H2 := fun c x n h => b c x n (a c x n h)
theorem SameOff.of {kvs : List (L2.Key × V)} {H H' : Hp} (s : Same H H') : SameOff kvs H H' := fun c x _ h => s c x h
theorem SameOff.but {kvs : List (L2.Key × V)} {H H' : Hp} {l : Addr} {nm : Str} (h : valV kvs (kS nm) = some (.ref l)) (s : SameBut l H H') : SameOff kvs H H' := fun c x n e => s c x (fun z => n ⟨nm, z ▸ h⟩) e
section
variable {H H' : Hp} {d : Addr} {kvs : List (L2.Key × V)} {F G : Str → List (Int × Nat × Int)}
theorem Lines.line (L : Lines H d kvs F) {a : Addr} (h : LineOf kvs a) : ∃ vs, H a = some (.lst vs) := by
  obtain ⟨nm, e⟩ := h
  obtain ⟨l, vs, e2, h2, _⟩ := L.lin nm _ e
  cases e2
  exact ⟨vs, h2⟩
theorem Lines.tup (L : Lines H d kvs F) (s : SameOff kvs H H') : SameT H H' := fun b xs hb => s b _ (fun z => by obtain ⟨vs, e⟩ := L.line z; rw [hb] at e; cases e) hb
theorem Lines.keep (L : Lines H d kvs F) (s : Same H H') : Lines H' d kvs F := by
  refine ⟨s _ _ L.dict, L.nol, fun nm v h => ?_, L.inj⟩
  obtain ⟨l, vs, e1, e2, e3⟩ := L.lin nm v h
  exact ⟨l, vs, e1, s _ _ e2, e3.mono EntAt.mono (SameT.of s)⟩
theorem Lines.ofEq (L : Lines H d kvs F) (h : ∀ nm, F nm = G nm) : Lines H d kvs G := by
  have : F = G := funext h
  rw [← this]
  exact L
/-- one line changes -/
theorem Lines.put (L : Lines H d kvs F) {nm : Str} {l : Addr} {vs ws : List V} (hl : valV kvs (kS nm) = some (.ref l)) (hv : H l = some (.lst ws)) (s : SameBut l H H') (h : H' l = some (.lst vs)) (hh : Held EntAt H' vs (G nm)) (ho : ∀ nm', nm' ≠ nm → G nm' = F nm') : Lines H' d kvs G := by
  have hd : d ≠ l := fun z => by
    have := L.dict
    rw [z, hv] at this
    cases this
  have st : SameT H H' := fun b xs hb => s b _ (fun z => by rw [z, hv] at hb; cases hb) hb
  refine ⟨s _ _ hd L.dict, fun nm' hn => ?_, fun nm' v hn => ?_, L.inj⟩
  · by_cases e : nm' = nm
    · rw [e, hl] at hn; cases hn
    · rw [ho nm' e]; exact L.nol nm' hn
  · by_cases e : nm' = nm
    · subst e
      rw [hl] at hn
      cases hn
      exact ⟨l, vs, rfl, h, hh⟩
    · obtain ⟨l', vs', e1, e2, e3⟩ := L.lin nm' v hn
      subst e1
      have ne : l' ≠ l := fun z => e (L.inj nm' nm l' hn (by rw [z]; exact hl))
      exact ⟨l', vs', rfl, s _ _ ne e2, by rw [ho nm' e]; exact e3.mono EntAt.mono st⟩
/-- a line for a new name -/
theorem Lines.new (L : Lines H d kvs F) {nm : Str} {l : Addr} {vs : List V} (hl : valV kvs (kS nm) = none) (hn : ∀ nm' l', valV kvs (kS nm') = some (.ref l') → l' ≠ l) (hld : l ≠ d) (h : H l = some (.lst vs)) (hh : Held EntAt H vs (F nm)) : Lines (upd H d (.dK (putK kvs (kS nm) (.ref l)))) d (putK kvs (kS nm) (.ref l)) F := by
  have st : SameT H (upd H d (.dK (putK kvs (kS nm) (.ref l)))) := SameT.dict L.dict
  refine ⟨upd_same, fun nm' h1 => ?_, fun nm' v h1 => ?_, fun a b x h1 h2 => ?_⟩
  · rw [valV_put] at h1
    split at h1
    · cases h1
    · exact L.nol nm' h1
  · rw [valV_put] at h1
    split at h1
    · rename_i e
      cases h1
      have := kS_inj e
      subst this
      exact ⟨l, vs, rfl, by rw [upd_ne hld]; exact h, hh.mono EntAt.mono st⟩
    · obtain ⟨l', vs', e1, e2, e3⟩ := L.lin nm' v h1
      refine ⟨l', vs', e1, ?_, e3.mono EntAt.mono st⟩
      rw [upd_ne (fun z => by rw [z, L.dict] at e2; cases e2)]
      exact e2
  · rw [valV_put] at h1 h2
    split at h1
    · rename_i e1
      split at h2
      · rename_i e2
        exact (kS_inj e1).trans (kS_inj e2).symm
      · cases h1
        exact absurd rfl (hn _ _ h2)
    · split at h2
      · cases h2
        exact absurd rfl (hn _ _ h1)
      · exact L.inj a b x h1 h2
end
/-- the lines, as the cooking needs them -/
structure Stacks (H : Hp) (d : Addr) (kvs : List (L2.Key × V)) (lar : List Batch) (left : List Int) (day : Int) (Ks : Str → List Nat) : Prop where
  lines : Lines H d kvs (fun nm => (Ks nm).reverse.map (entOf lar left))
  stack : ∀ nm, Stack lar left nm day (Ks nm)
theorem Stacks.later {H : Hp} {d : Addr} {kvs : List (L2.Key × V)} {lar : List Batch} {left : List Int} {day day' : Int} {Ks : Str → List Nat} (S : Stacks H d kvs lar left day Ks) (h : day ≤ day') : Stacks H d kvs lar left day' Ks := ⟨S.lines, fun nm => (S.stack nm).later h⟩
theorem Stacks.keep {H H' : Hp} {d : Addr} {kvs : List (L2.Key × V)} {lar : List Batch} {left : List Int} {day : Int} {Ks : Str → List Nat} (S : Stacks H d kvs lar left day Ks) (s : Same H H') : Stacks H' d kvs lar left day Ks := ⟨S.lines.keep s, S.stack⟩
/-! ### at first -/
theorem amt_at (lar : List Batch) {k : Nat} (h : k < lar.length) : (lar.map (·.amount)).getD k 0 = (lar.getD k bz).amount := by
  rw [List.getD_eq_getElem?_getD, List.getElem?_map, List.getElem?_eq_getElem h, List.getD_eq_getElem?_getD, List.getElem?_eq_getElem h]; rfl
def lineOf (lar : List Batch) (nm : Str) (ks : List Nat) : List Nat := ks.filter fun k => decide (nameK lar k = nm ∧ 0 < (lar.getD k bz).amount)
theorem stack0 (lar : List Batch) (nm : Str) (day : Int) : Stack lar (lar.map (·.amount)) nm day (lineOf lar nm (descL lar)).reverse := by
  unfold lineOf
  refine ⟨?_, fun k hk => ?_, fun k h1 h2 h3 _ => ?_⟩
  · rw [List.pairwise_reverse]
    exact (desc_pair lar).filter _
  · rw [List.mem_reverse] at hk
    obtain ⟨a, b⟩ := List.mem_filter.mp hk
    have c := of_decide_eq_true b
    have d := (desc_mem lar k).mp a
    exact ⟨d, c.1, by rw [amt_at lar d]; exact c.2⟩
  · rw [List.mem_reverse]
    refine List.mem_filter.mpr ⟨(desc_mem lar k).mpr h1, decide_eq_true ⟨h2, ?_⟩⟩
    rw [← amt_at lar h1]
    exact h3
/-! ### what the program's functions promise -/
def spLinesOf : Sp := fun vs H Q _ => ∃ (v : V) (lar : List Batch), vs = [v] ∧ LarderAt H v lar ∧ lar.length ≤ 16000000 ∧ ∀ d kvs H' Ks, Same H H' → H d = none → (∀ l, LineOf kvs l → H l = none) → Stacks H' d kvs lar (lar.map (·.amount)) 1 Ks → Q (.ref d) H'
def spTaken (S : Addr) : Sp := fun vs H Q E => ∃ (l : Addr) (ws : List V) (lar : List Batch) (left : List Int) (nm : Str) (day amt : Int) (ks : List Nat), vs = [.ref l, .int day, .str nm, .int amt] ∧ H l = some (.lst ws) ∧ Held EntAt H ws (ks.reverse.map (entOf lar left)) ∧ Stack lar left nm day ks ∧ left.length = lar.length ∧ lar.length ≤ 16000000 ∧ amt ≤ 200 ∧
  ∀ H', SameBut l H H' → (∀ dd, metF lar nm day amt.toNat left amt [] = none → H dd = none → H' dd = some (.xd [("word", .str nm)]) → E (.ref S) (some dd) H') ∧
    (∀ qs left' p pus ws' ks', metF lar nm day amt.toNat left amt [] = some (qs, left') → H p = none → H' p = some (.lst pus) → Held UseAt H' pus qs → H' l = some (.lst ws') → Held EntAt H' ws' (ks'.reverse.map (entOf lar left')) → Stack lar left' nm day ks' → Q (.ref p) H')
def spUsedBy (S : Addr) : Sp := fun vs H Q E => ∃ (v : V) (d : Addr) (kvs : List (L2.Key × V)) (dish : Dish) (lar : List Batch) (left : List Int) (Ks : Str → List Nat), vs = [v, .ref d] ∧ DishAt H v dish ∧ Stacks H d kvs lar left dish.1 Ks ∧ left.length = lar.length ∧ lar.length ≤ 16000000 ∧ dish.2.length ≤ 20 ∧ (∀ x ∈ dish.2, 1 ≤ x.2 ∧ x.2 ≤ 200) ∧
  ∀ H', SameOff kvs H H' → (∀ nm dd, foldE (needF lar dish.1) dish.2 ([], left) = Except.error nm → H dd = none → H' dd = some (.xd [("word", .str nm)]) → E (.ref S) (some dd) H') ∧
    (∀ ps left' v' Ks', foldE (needF lar dish.1) dish.2 ([], left) = Except.ok (ps, left') → PairsAt H' v' ps → Stacks H' d kvs lar left' dish.1 Ks' → ps.length ≤ 4000 → Q v' H')
end Lar
namespace Lar
open PySem PySem.Spec PyProof.Rows L2
theorem held_last {α : Type} {R : Hp → V → α → Prop} {H : Hp} {ws : List V} {xs : List α} {x : α} (h : Held R H ws (xs ++ [x])) : ∃ vs v, ws = vs ++ [v] ∧ Held R H vs xs ∧ R H v x := by
  have hl := h.len
  rw [List.length_append] at hl
  have hne : ws ≠ [] := by intro z; rw [z] at hl; simp at hl
  have e := List.dropLast_concat_getLast hne
  have ll : ws.dropLast.length = xs.length := by rw [List.length_dropLast, hl]; simp
  refine ⟨ws.dropLast, ws.getLast hne, e.symm, ⟨ll, fun i v y hv hy => ?_⟩, ?_⟩
  · refine h.all i v y ?_ (by rw [List.getElem?_append_left (List.getElem?_eq_some_iff.mp hy).1]; exact hy)
    rw [← e, List.getElem?_append_left (List.getElem?_eq_some_iff.mp hv).1]
    exact hv
  · refine h.all xs.length _ x ?_ (by rw [List.getElem?_append_right (Nat.le_refl _), Nat.sub_self]; rfl)
    have hx : ws.length - 1 = xs.length := by simp at hl; omega
    rw [List.getLast_eq_getElem, ← hx]
    exact List.getElem?_eq_getElem _
theorem met_empty {lar : List Batch} {left : List Int} {nm : Str} {day amt : Int} {ps : List Use} {n : Nat} (S : Stack lar left nm day []) (h : 0 < amt) (hn : amt.toNat ≤ n) : metF lar nm day n left amt ps = none := by
  cases n with
  | zero => omega
  | succ n => unfold metF; rw [if_pos h, next_empty S]
theorem met_head {lar : List Batch} {left : List Int} {nm : Str} {day amt : Int} {ps : List Use} {n k : Nat} {r : List Nat} (S : Stack lar left nm day (k :: r)) (hd : day ≤ lastK lar k) (h : 0 < amt) (hn : amt.toNat ≤ n + 1) :
    metF lar nm day (n + 1) left amt ps = metF lar nm day n (left.set k (left.getD k 0 - mnI amt (left.getD k 0))) (amt - mnI amt (left.getD k 0)) (ps ++ [(k, mnI amt (left.getD k 0))]) := by
  rw [metF, if_pos h, next_head S hd]
/-- between two turns of one need's loop -/
structure TakeInv (lar : List Batch) (left : List Int) (nm : Str) (day amt : Int) (l p : Addr) (H : Hp) (m : Nat) (H' : Hp) (a : Int) (qs : List Use) (lf : List Int) (ks : List Nat) : Prop where
  same : SameBut l H H'
  pairs : ∃ pus, H' p = some (.lst pus) ∧ Held UseAt H' pus qs
  line : ∃ ws, H' l = some (.lst ws) ∧ Held EntAt H' ws (ks.reverse.map (entOf lar lf))
  stack : Stack lar lf nm day ks
  len : lf.length = lar.length
  fold : ∃ n, metF lar nm day amt.toNat left amt [] = metF lar nm day n lf a qs ∧ a.toNat ≤ n
  most : a ≤ 200
  few : qs.length + a.toNat ≤ 200
  meas : m = ks.length + a.toNat
end Lar
namespace Lar
open PySem PySem.Spec PyProof.Rows L2
/-! ### for the laws over the whole program -/
theorem kop_in {X : Cx} (K : PySem.W.Frag) (hK : X.K = K := by rfl) : OpR X (compareOp .In) (rIn K false) := by subst hK; exact op_in_seq
theorem strs_flat : ∀ xs : List Str, (xs.map V.str).all flatV = true
  | [] => rfl
  | x :: r => by rw [List.map_cons, List.all_cons, strs_flat r]; rfl
theorem names_mem {ds : List Dish} {d : Dish} {x : Need} (hd : d ∈ ds) (hx : x ∈ d.2) : x.1 ∈ namesOf ds := by
  unfold namesOf
  rw [insAll_mem]
  right
  unfold allS
  exact List.mem_flatMap.mpr ⟨d, hd, List.mem_map.mpr ⟨x, hx, rfl⟩⟩
theorem sumC_set_down : ∀ (cs : List Int) (k : Nat) (c z : Int), cs[k]? = some c → z ≤ c ∨ z ≤ 0 → sumC (cs.set k z) ≤ sumC cs
  | [], _, _, _, _, _ => by simp
  | c :: cs, 0, c', z, h, hz => by
    cases h
    unfold sumC
    rw [List.set_cons_zero, List.map_cons, List.sum_cons, List.map_cons, List.sum_cons]
    omega
  | c :: cs, k + 1, c', z, h, hz => by
    have ih := sumC_set_down cs k c' z (by simpa using h) hz
    unfold sumC at ih ⊢
    rw [List.set_cons_succ, List.map_cons, List.sum_cons, List.map_cons, List.sum_cons]
    omega
theorem need_most (nm : Str) : ∀ ns : List Need, (∀ y ∈ ns, 0 ≤ y.2 ∧ y.2 ≤ 200) → 0 ≤ (ns.filterMap fun x => if x.1 = nm then some x.2 else none).sum ∧ (ns.filterMap fun x => if x.1 = nm then some x.2 else none).sum ≤ 200 * ns.length
  | [], _ => by simp
  | y :: r, h => by
    have ih := need_most nm r fun z hz => h z (List.mem_cons_of_mem _ hz)
    have hy := h y List.mem_cons_self
    rw [List.length_cons]
    by_cases e : y.1 = nm
    · simp only [List.filterMap_cons, if_pos e, List.sum_cons]
      omega
    · simp only [List.filterMap_cons, if_neg e]
      omega
theorem from_most (nm : Str) (day : Int) : ∀ ds : List Dish, (∀ d ∈ ds, d.2.length ≤ 20) → (∀ d ∈ ds, ∀ y ∈ d.2, 0 ≤ y.2 ∧ y.2 ≤ 200) → 0 ≤ needFrom ds nm day ∧ needFrom ds nm day ≤ 4000 * ds.length
  | [], _, _ => by simp [needFrom]
  | d :: r, h1, h2 => by
    have ih := from_most nm day r (fun z hz => h1 z (List.mem_cons_of_mem _ hz)) (fun z hz => h2 z (List.mem_cons_of_mem _ hz))
    have a := h1 d List.mem_cons_self
    have b := need_most nm d.2 (h2 d List.mem_cons_self)
    unfold needFrom at ih ⊢
    rw [List.map_cons, List.sum_cons, List.length_cons]
    have : 0 ≤ needOf d nm ∧ needOf d nm ≤ 4000 := ⟨b.1, by have := b.2; unfold needOf; omega⟩
    split <;> omega
theorem kept_nn (nm : Str) (day : Int) : ∀ lar : List Batch, (∀ b ∈ lar, 0 ≤ b.amount) → 0 ≤ keptTo lar nm day
  | [], _ => by simp [keptTo]
  | b :: r, h => by
    have ih := kept_nn nm day r fun z hz => h z (List.mem_cons_of_mem _ hz)
    have a := h b List.mem_cons_self
    unfold keptTo at ih ⊢
    rw [List.map_cons, List.sum_cons]
    split <;> omega
theorem mostL_le {ls : List Int} {B : Nat} (h : ∀ x ∈ ls, x ≤ B) : mostL ls ≤ B := by
  by_cases e : ls = []
  · subst e; exact Nat.zero_le _
  · obtain ⟨x, hx, e2⟩ := mostL_mem ls e
    have := h x hx
    omega
theorem lack_most {ds : List Dish} {lar : List Batch} (nm : Str) (hl : ds.length ≤ 26) (h1 : ∀ d ∈ ds, d.2.length ≤ 20) (h2 : ∀ d ∈ ds, ∀ y ∈ d.2, 0 ≤ y.2 ∧ y.2 ≤ 200) (hb : ∀ b ∈ lar, 0 ≤ b.amount) : mostL (lackW ds lar nm) ≤ 104000 := by
  refine mostL_le fun x hx => ?_
  unfold lackW at hx
  obtain ⟨i, _, rfl⟩ := List.mem_map.mp hx
  have a := from_most nm (1 + (i : Nat)) ds h1 h2
  have b := kept_nn nm (1 + (i : Nat)) lar hb
  unfold lackDay mx0
  split <;> omega
end Lar
namespace Lar
open PySem PySem.Spec PyProof.Rows L2
/-! ### zip of a list and a tuple -/
/-- an iterator at i over what stands at l, as it stands at each turn -/
structure Feed (prog : Program) (w : World) (i l : Addr) (P : Nat → Heap → Prop) (items : Array Value) : Prop where
  next : ∀ {A : Around} {E : Value → Shared → Prop} {s : Shared} {k : Nat} {x : Value} {Q : Value → Shared → Prop}, P k s.heap → items[k]? = some x → (∀ h', P (k + 1) h' → Heap.SameBut i s.heap h' → Q x { s with heap := h' }) →
    wpAny (model prog w) A (Builtin.SmallTypes.nextOf (.ref i)) Q E s
  stop : ∀ {A : Around} {E : Value → Shared → Prop} {s : Shared} {k : Nat} {Q : Value → Shared → Prop}, A.handled = none → P k s.heap → items[k]? = none → (∀ h' e, Heap.ExtBut i s.heap h' → (∃ o, h'.get? e = some o ∧ o.cls = .type "StopIteration") → E (.ref e) { s with heap := h' }) →
    wpAny (model prog w) A (Builtin.SmallTypes.nextOf (.ref i)) Q E s
  keep : ∀ {k : Nat} {h h' : Heap}, P k h → (∀ b, b = i ∨ b = l → ∀ o, h.get? b = some o → h'.get? b = some o) → P k h'
  obj : ∀ {k : Nat} {h : Heap}, P k h → ∃ o, h.get? i = some o ∧ ∀ v, o.data ≠ .cell v
theorem Feed.but {prog : Program} {w : World} {i l c : Addr} {P : Nat → Heap → Prop} {items : Array Value} (F : Feed prog w i l P items) {k : Nat} {h h' : Heap} (p : P k h) (x : Heap.ExtBut c h h') (n1 : i ≠ c) (n2 : l ≠ c) : P k h' :=
  F.keep p fun b hb o e => x _ _ (by rcases hb with rfl | rfl <;> assumption) e
theorem feed_list {prog : Program} {w : World} {i l : Addr} {xs : Array Value} (n : l ≠ i) : Feed prog w i l (fun k h => h.IsListIter i l k ∧ h.IsList l xs) xs where
  next := fun {A E s k x Q} p hx q => wpAny_nextOf_list_item p.1 p.2 hx fun h' a b => q h' ⟨a, p.2.extBut b.extBut n⟩ b
  stop := fun {A E s k Q} hh p hx q => wpAny_nextOf_list_end hh p.1 p.2 hx fun h' e a b => q h' e a b
  keep := fun {k h h'} p x => ⟨p.1.at fun o e => x i (.inl rfl) o e, p.2.at fun o e => x l (.inr rfl) o e⟩
  obj := fun {k h} p => by obtain ⟨o, e, _, d⟩ := p.1; exact ⟨o, e, fun v z => by rw [d] at z; cases z⟩
theorem feed_tup {prog : Program} {w : World} {i l : Addr} {xs : Array Value} (n : l ≠ i) : Feed prog w i l (fun k h => h.IsTupleIter i l k ∧ h.IsTuple l xs) xs where
  next := fun {A E s k x Q} p hx q => RZ.nextOf_tuple_item p.1 p.2 hx fun h' a b => q h' ⟨a, p.2.extBut b.extBut n⟩ b
  stop := fun {A E s k Q} hh p hx q => RZ.nextOf_tuple_end hh p.1 p.2 hx fun h' e a b => q h' e a b
  keep := fun {k h h'} p x => ⟨p.1.at fun o e => x i (.inl rfl) o e, p.2.at fun o e => x l (.inr rfl) o e⟩
  obj := fun {k h} p => by obtain ⟨o, e, _, d⟩ := p.1; exact ⟨o, e, fun v z => by rw [d] at z; cases z⟩
section
variable {prog : Program} {w : World} {A : Around} {E : Value → Shared → Prop} {s : Shared} {z TI TO i1 i2 l1 l2 : Addr} {k : Nat} {xs ys : Array Value} {P1 P2 : Nat → Heap → Prop}
/-- only z, TO, i1, i2 were written -/
def Four (z TO i1 i2 : Addr) (h h' : Heap) : Prop := ∀ c o, c ≠ z → c ≠ TO → c ≠ i1 → c ≠ i2 → h.get? c = some o → h'.get? c = some o
theorem zipF_item {x y a b : Value} {Q : Value → Shared → Prop} (D : ZipApart z TI TO i1 i2 l1 l2) (F1 : Feed prog w i1 l1 P1 xs) (F2 : Feed prog w i2 l2 P2 ys)
    (hz : IsZip s.heap z TI TO .none) (hTI : IsPair s.heap TI (.ref i1) (.ref i2)) (hTO : IsPair s.heap TO a b) (h1 : P1 k s.heap) (h2 : P2 k s.heap) (hx : xs[k]? = some x) (hy : ys[k]? = some y)
    (hQ : ∀ h', IsZip h' z TI TO (rawInt s.heap.objs.size) → IsPair h' TO x y → P1 (k + 1) h' → P2 (k + 1) h' → IsPair h' s.heap.objs.size x y → h'.objs.size = s.heap.objs.size + 1 → Four z TO i1 i2 s.heap h' → Q (.ref s.heap.objs.size) { s with heap := h' }) :
    wpAny (model prog w) A (Builtin.«zip.__next__» ⟨[.ref z], []⟩) (fun fin s' => ∃ v, fin = .done (.ret v) ∧ Q v s') E s := by
  show wpAny _ _ (field (.ref z) 2 >>= _) _ _ _
  refine wpAny_bind (wpAny_field hz rfl (x := .bool false) rfl ?_)
  show wpAny _ _ (field (.ref z) 3 >>= _) _ _ _
  refine wpAny_bind (wpAny_field hz rfl (x := .ref TI) rfl (wpAny_bind (wpAny_seqItems hTI rfl ?_)))
  show wpAny _ _ (Builtin.SmallTypes.ownedTupleIsFree (.ref z) >>= _) _ _ _
  refine wpAny_bind ?_
  unfold Builtin.SmallTypes.ownedTupleIsFree
  refine wpAny_bind (wpAny_field hz rfl (x := .none) rfl (wpAny_pure ?_))
  simp only [if_true]
  refine wpAny_bind (wpAny_rule (wpAny_bind (wpAny_field hz rfl (x := .ref TO) rfl (wpAny_bind (wpAny_setField_rec hz (by simp) fun g1 zg1 b1 => ?_)))))
  replace zg1 : IsZip g1 z TI TO .ellipsis := zg1
  refine wpAny_bind ?_
  simp only [List.zipIdx_cons, List.zipIdx_nil, List.forIn_cons, List.forIn_nil]
  refine wpAny_bind (wpAny_bind (wpAny_onRaise ?_))
  show wpAny _ _ (Builtin.SmallTypes.nextOf (.ref i1) >>= _) _ _ _
  refine wpAny_bind (F1.next (F1.but h1 b1.extBut D.i1z D.l1z) hx fun g2 q1 b2 => wpAny_pure ?_)
  have t2 : IsPair g2 TO a b := b2.extBut _ _ D.TOi1 (b1.extBut _ _ D.TOz hTO)
  refine wpAny_bind (wpAny_seqItems t2 rfl (wpAny_bind (wpAny_updateSeq_pair t2 fun g3 t3 b3 => wpAny_bind (wpAny_letGo (wpAny_pure ?_)))))
  replace t3 : IsPair g3 TO x b := t3
  refine wpAny_bind (wpAny_bind (wpAny_onRaise ?_))
  show wpAny _ _ (Builtin.SmallTypes.nextOf (.ref i2) >>= _) _ _ _
  have p2 : P2 k g3 := F2.but (F2.but (F2.but h2 b1.extBut D.i2z D.l2z) b2.extBut D.i12.symm D.l2i1) b3.extBut D.TOi2.symm D.l2TO
  refine wpAny_bind (F2.next p2 hy fun g4 q2 b4 => wpAny_pure ?_)
  have t4 : IsPair g4 TO x b := b4.extBut _ _ D.TOi2 t3
  refine wpAny_bind (wpAny_seqItems t4 rfl (wpAny_bind (wpAny_updateSeq_pair t4 fun g5 t5 b5 => wpAny_bind (wpAny_letGo (wpAny_pure (wpAny_pure ?_))))))
  replace t5 : IsPair g5 TO x y := t5
  refine wpAny_bind (wpAny_seqItems t5 rfl (wpAny_bind (wpAny_newTuple ?_)))
  have sz : g5.objs.size = s.heap.objs.size := by rw [b5.1, b4.1, b3.1, b2.1, b1.1]
  have z5 : IsZip g5 z TI TO .ellipsis := b5.extBut _ _ D.TOz.symm (b4.extBut _ _ D.i2z.symm (b3.extBut _ _ D.TOz.symm (b2.extBut _ _ D.i1z.symm zg1)))
  have f5 : Four z TO i1 i2 s.heap g5 := fun c o c1 c2 c3 c4 e => b5.extBut _ _ c2 (b4.extBut _ _ c4 (b3.extBut _ _ c2 (b2.extBut _ _ c3 (b1.extBut _ _ c1 e))))
  have r1 : P1 (k + 1) g5 := F1.but (F1.but (F1.but q1 b3.extBut D.TOi1.symm D.l1TO) b4.extBut D.i12 D.l1i2) b5.extBut D.TOi1.symm D.l1TO
  have r2 : P2 (k + 1) g5 := F2.but q2 b5.extBut D.TOi2.symm D.l2TO
  have zl : z < g5.objs.size := Heap.lt_size z5
  show wpAny _ _ (Builtin.SmallTypes.ownedTupleHandOut (.ref z) (.ref g5.objs.size) >>= _) _ _ _
  refine wpAny_bind ?_
  unfold Builtin.SmallTypes.ownedTupleHandOut
  have z6 : IsZip (g5.push { cls := .type "tuple", data := .seq #[x, y] }) z TI TO .ellipsis := Heap.get?_push_of_some _ z5
  refine wpAny_bind (wpAny_setField_rec z6 (by simp) fun g7 z7 b7 => ?_)
  replace z7 : IsZip g7 z TI TO (rawInt g5.objs.size) := z7
  refine wpAny_setField_rec z7 (by simp) fun g8 z8 b8 => wpAny_pure ⟨_, rfl, ?_⟩
  replace z8 : IsZip g8 z TI TO (rawInt g5.objs.size) := z8
  have up : ∀ c o, c ≠ z → g5.get? c = some o → g8.get? c = some o := fun c o c1 e => b8.extBut _ _ c1 (b7.extBut _ _ c1 (Heap.get?_push_of_some _ e))
  have t8 : IsPair g8 g5.objs.size x y := b8.extBut _ _ (Nat.ne_of_gt zl) (b7.extBut _ _ (Nat.ne_of_gt zl) (Heap.get?_push_size _ rfl))
  have s8 : g8.objs.size = g5.objs.size + 1 := by rw [b8.1, b7.1, Heap.size_push]
  rw [sz] at z8 t8 s8
  show Q (.ref g5.objs.size) _
  rw [sz]
  exact hQ g8 z8 (up _ _ D.TOz t5) (F1.keep r1 fun b hb o e => up b o (by rcases hb with rfl | rfl <;> first | exact D.i1z | exact D.l1z) e) (F2.keep r2 fun b hb o e => up b o (by rcases hb with rfl | rfl <;> first | exact D.i2z | exact D.l2z) e) t8 s8 fun c o c1 c2 c3 c4 e => up c o c1 (f5 c o c1 c2 c3 c4 e)
theorem zipF_end {a b : Value} {Q : Fin → Shared → Prop} (hh : A.handled = none) (D : ZipApart z TI TO i1 i2 l1 l2) (F1 : Feed prog w i1 l1 P1 xs) (F2 : Feed prog w i2 l2 P2 ys)
    (hz : IsZip s.heap z TI TO .none) (hTI : IsPair s.heap TI (.ref i1) (.ref i2)) (hTO : IsPair s.heap TO a b) (h1 : P1 k s.heap) (h2 : P2 k s.heap) (hend : xs[k]? = none ∨ ys[k]? = none)
    (hE : ∀ h' e, Four z TO i1 i2 s.heap h' → (∃ o, h'.get? e = some o ∧ o.cls = .type "StopIteration") → E (.ref e) { s with heap := h' }) :
    wpAny (model prog w) A (Builtin.«zip.__next__» ⟨[.ref z], []⟩) Q E s := by
  show wpAny _ _ (field (.ref z) 2 >>= _) _ _ _
  refine wpAny_bind (wpAny_field hz rfl (x := .bool false) rfl ?_)
  show wpAny _ _ (field (.ref z) 3 >>= _) _ _ _
  refine wpAny_bind (wpAny_field hz rfl (x := .ref TI) rfl (wpAny_bind (wpAny_seqItems hTI rfl ?_)))
  show wpAny _ _ (Builtin.SmallTypes.ownedTupleIsFree (.ref z) >>= _) _ _ _
  refine wpAny_bind ?_
  unfold Builtin.SmallTypes.ownedTupleIsFree
  refine wpAny_bind (wpAny_field hz rfl (x := .none) rfl (wpAny_pure ?_))
  simp only [if_true]
  refine wpAny_bind (wpAny_rule (wpAny_bind (wpAny_field hz rfl (x := .ref TO) rfl (wpAny_bind (wpAny_setField_rec hz (by simp) fun g1 zg1 b1 => ?_)))))
  replace zg1 : IsZip g1 z TI TO .ellipsis := zg1
  refine wpAny_bind ?_
  simp only [List.zipIdx_cons, List.zipIdx_nil, List.forIn_cons, List.forIn_nil]
  refine wpAny_bind (wpAny_bind (wpAny_onRaise ?_))
  show wpAny _ _ (Builtin.SmallTypes.nextOf (.ref i1) >>= _) _ _ _
  have notZ : ∀ {g : Heap} {e : Addr} {o : Obj}, IsZip g z TI TO .ellipsis → g.get? e = some o → o.cls = .type "StopIteration" → e ≠ z := fun {g e o} q he hc y => by
    rw [y, q] at he
    cases he
    simp at hc
  have p1 : P1 k g1 := F1.but h1 b1.extBut D.i1z D.l1z
  cases hx : xs[k]? with
  | none =>
    refine wpAny_bind (F1.stop hh p1 hx fun g2 e b2 he => ?_)
    obtain ⟨o, ho, hc⟩ := he
    have z2 : IsZip g2 z TI TO .ellipsis := b2 _ _ D.i1z.symm zg1
    exact wpAny_setField_rec z2 (by simp) fun g3 _ b3 => hE g3 e (fun c o c1 _ c3 _ x => b3.extBut _ _ c1 (b2 _ _ c3 (b1.extBut _ _ c1 x))) ⟨o, b3.extBut _ _ (notZ z2 ho hc) ho, hc⟩
  | some x =>
    have hy : ys[k]? = none := hend.resolve_left fun q => by rw [hx] at q; cases q
    refine wpAny_bind (F1.next p1 hx fun g2 q1 b2 => wpAny_pure ?_)
    have t2 : IsPair g2 TO a b := b2.extBut _ _ D.TOi1 (b1.extBut _ _ D.TOz hTO)
    refine wpAny_bind (wpAny_seqItems t2 rfl (wpAny_bind (wpAny_updateSeq_pair t2 fun g3 t3 b3 => wpAny_bind (wpAny_letGo (wpAny_pure ?_)))))
    refine wpAny_bind (wpAny_bind (wpAny_onRaise ?_))
    show wpAny _ _ (Builtin.SmallTypes.nextOf (.ref i2) >>= _) _ _ _
    have p2 : P2 k g3 := F2.but (F2.but (F2.but h2 b1.extBut D.i2z D.l2z) b2.extBut D.i12.symm D.l2i1) b3.extBut D.TOi2.symm D.l2TO
    refine wpAny_bind (F2.stop hh p2 hy fun g4 e b4 he => ?_)
    obtain ⟨o, ho, hc⟩ := he
    have z4 : IsZip g4 z TI TO .ellipsis := b4 _ _ D.i2z.symm (b3.extBut _ _ D.TOz.symm (b2.extBut _ _ D.i1z.symm zg1))
    exact wpAny_setField_rec z4 (by simp) fun g5 _ b5 => hE g5 e (fun c o c1 c2 c3 c4 x => b5.extBut _ _ c1 (b4 _ _ c4 (b3.extBut _ _ c2 (b2.extBut _ _ c3 (b1.extBut _ _ c1 x))))) ⟨o, b5.extBut _ _ (notZ z4 ho hc) ho, hc⟩
end
section
variable {prog : Program} {w : World} {A : Around} {E : Value → Shared → Prop} {s : Shared} {z TI TO i1 i2 l1 l2 : Addr} {k : Nat} {xs ys : Array Value} {P1 P2 : Nat → Heap → Prop}
theorem pyNext_zipF_item {x y a b : Value} {Q : Option Value → Shared → Prop} (D : ZipApart z TI TO i1 i2 l1 l2) (F1 : Feed prog w i1 l1 P1 xs) (F2 : Feed prog w i2 l2 P2 ys)
    (hz : IsZip s.heap z TI TO .none) (hTI : IsPair s.heap TI (.ref i1) (.ref i2)) (hTO : IsPair s.heap TO a b) (h1 : P1 k s.heap) (h2 : P2 k s.heap) (hx : xs[k]? = some x) (hy : ys[k]? = some y)
    (hQ : ∀ h', IsZip h' z TI TO (rawInt s.heap.objs.size) → IsPair h' TO x y → P1 (k + 1) h' → P2 (k + 1) h' → IsPair h' s.heap.objs.size x y → h'.objs.size = s.heap.objs.size + 1 → Four z TO i1 i2 s.heap h' → Q (some (.ref s.heap.objs.size)) { s with heap := h' }) :
    wpAny (model prog w) A (pyNext (.ref z)) Q E s := by
  have hT : s.TypeIs (.ref z) "zip" := ⟨_, hz, rfl⟩
  unfold pyNext
  exact wpAny_bind (wpAny_attempt (wpAny_callSpecial?_slot (name := Str.ofString "__next__") hT F.slot_zip_next (wpAny_call_entry F.slot_zip_next hT F.entry_zip_next
    (zipF_item D F1 F2 hz hTI hTO h1 h2 hx hy fun h' a1 a2 a3 a4 a5 a6 a7 => wpAny_pure (hQ h' a1 a2 a3 a4 a5 a6 a7)) (F.args_zip_next_1 _))))
theorem pyNext_zipF_end {a b : Value} {Q : Option Value → Shared → Prop} (hh : A.handled = none) (D : ZipApart z TI TO i1 i2 l1 l2) (F1 : Feed prog w i1 l1 P1 xs) (F2 : Feed prog w i2 l2 P2 ys)
    (hz : IsZip s.heap z TI TO .none) (hTI : IsPair s.heap TI (.ref i1) (.ref i2)) (hTO : IsPair s.heap TO a b) (h1 : P1 k s.heap) (h2 : P2 k s.heap) (hend : xs[k]? = none ∨ ys[k]? = none)
    (hQ : ∀ h', Four z TO i1 i2 s.heap h' → Q none { s with heap := h' }) : wpAny (model prog w) A (pyNext (.ref z)) Q E s := by
  have hT : s.TypeIs (.ref z) "zip" := ⟨_, hz, rfl⟩
  unfold pyNext
  refine wpAny_bind (wpAny_attempt (wpAny_callSpecial?_slot (name := Str.ofString "__next__") hT F.slot_zip_next (wpAny_call_entry F.slot_zip_next hT F.entry_zip_next
    (zipF_end hh D F1 F2 hz hTI hTO h1 h2 hend fun h' e f he => ?_) (F.args_zip_next_1 _))))
  obtain ⟨o, ho, hc⟩ := he
  exact wpAny_bind (wpAny_isInstance (T := "StopIteration") (b := true) ⟨o, ho, hc⟩ isSubtype_stop (wpAny_pure (hQ _ f)))
end
/-! ### the call -/
abbrev zmA (h : Heap) (l1 : Addr) : Heap := h.push { cls := .type "list_iterator", data := .fields #[.ref l1, .int 0 0] }
abbrev zmB (h : Heap) (l1 l2 : Addr) : Heap := (zmA h l1).push { cls := .type "tuple_iterator", data := .fields #[.ref l2, .int 0 0] }
abbrev zmC (h : Heap) (l1 l2 : Addr) : Heap := (zmB h l1 l2).push { cls := .type "tuple", data := .seq #[.ref h.objs.size, .ref (zmA h l1).objs.size] }
abbrev zmD (h : Heap) (l1 l2 : Addr) : Heap := (zmC h l1 l2).push { cls := .type "tuple", data := .seq #[.none, .none] }
abbrev zmE (h : Heap) (l1 l2 : Addr) : Heap := (zmD h l1 l2).push { cls := .type "zip", data := .fields #[.none, .bool false, .bool false, .ref (zmB h l1 l2).objs.size, .ref (zmC h l1 l2).objs.size] }
theorem meets_zm (l1 l2 : Addr) (xs ys : Array Value) :
    Meets (Builtin.«zip.__new__» ⟨[.type "zip", .ref l1, .ref l2], []⟩) (fun _ R s => s.heap.IsList l1 xs ∧ s.heap.IsTuple l2 ys ∧
      R (.ok (.ret (.ref (zmD s.heap l1 l2).objs.size))) { s with heap := zmE s.heap l1 l2 }) :=
  .of_wp fun prog w A R s h => by
    obtain ⟨hp, g, d, tk, os⟩ := s; obtain ⟨hl1, hl2, h⟩ := h
    have hsub := sub_zip
    have hL1 : Heap.IsList (Shared.heap ⟨hp, g, d, tk, os⟩) l1 xs := hl1
    have hL2 : Heap.IsTuple (Shared.heap ⟨hp.push { cls := .type "list_iterator", data := .fields #[.ref l1, .int 0 0] }, g, d, tk, os⟩) l2 ys := Heap.IsTuple.push hl2 _
    wp_walk using wpAny_pyIter_list hL1, wpAny_pyIter_tuple hL2
    exact ⟨_, rfl, h⟩
theorem call_zm {prog : Program} {w : World} {A : Around} {E : Value → Shared → Prop} {s : Shared} {l1 l2 : Addr} {xs ys : Array Value} {Q : Value → Shared → Prop} (hl1 : s.heap.IsList l1 xs) (hl2 : s.heap.IsTuple l2 ys)
    (h : ∀ h', IsZip h' (s.heap.objs.size + 4) (s.heap.objs.size + 2) (s.heap.objs.size + 3) .none → IsPair h' (s.heap.objs.size + 2) (.ref s.heap.objs.size) (.ref (s.heap.objs.size + 1)) →
      IsPair h' (s.heap.objs.size + 3) .none .none → h'.IsListIter s.heap.objs.size l1 0 → h'.IsTupleIter (s.heap.objs.size + 1) l2 0 →
      (∀ c o, s.heap.get? c = some o → h'.get? c = some o) → Q (.ref (s.heap.objs.size + 4)) { s with heap := h' }) :
    wpAny (model prog w) A (call (.type "zip") [.ref l1, .ref l2]) Q E s := by
  refine callType_new F.called_zip (by decide) (F.typeCall_zip_2 _ _) (F.newCall_zip_2 _ _) (fun obj => F.args_object_init_3 obj _ _) F.entry_zip_new
    (meets_zm l1 l2 xs ys) ⟨hl1, hl2, ?_⟩
  have z1 : (zmA s.heap l1).objs.size = s.heap.objs.size + 1 := Heap.size_push ..
  have z2 : (zmB s.heap l1 l2).objs.size = s.heap.objs.size + 2 := by rw [Heap.size_push, z1]
  have z3 : (zmC s.heap l1 l2).objs.size = s.heap.objs.size + 3 := by rw [Heap.size_push, z2]
  have z4 : (zmD s.heap l1 l2).objs.size = s.heap.objs.size + 4 := by rw [Heap.size_push, z3]
  have up : ∀ {h : Heap} {o : Obj} {c u}, h.get? c = some u → (h.push o).get? c = some u := fun e => Heap.get?_push_of_some _ e
  have e5 : (zmE s.heap l1 l2).get? (zmD s.heap l1 l2).objs.size = some _ := Heap.get?_push_size _ rfl
  have e4 : (zmE s.heap l1 l2).get? (zmC s.heap l1 l2).objs.size = some _ := up (Heap.get?_push_size _ rfl)
  have e3 : (zmE s.heap l1 l2).get? (zmB s.heap l1 l2).objs.size = some _ := up (up (Heap.get?_push_size _ rfl))
  have e2 : (zmE s.heap l1 l2).get? (zmA s.heap l1).objs.size = some _ := up (up (up (Heap.get?_push_size _ rfl)))
  have e1 : (zmE s.heap l1 l2).get? s.heap.objs.size = some _ := up (up (up (up (Heap.get?_push_size _ rfl))))
  show _ ∧ _
  rw [z2, z3, z4] at e5
  rw [z1, z2] at e3
  rw [z3] at e4
  rw [z1] at e2
  rw [z4]
  exact ⟨⟨_, e5, rfl⟩, h _ e5 e3 e4 ⟨_, e1, rfl, rfl⟩ ⟨_, e2, rfl, rfl⟩ fun c o x => up (up (up (up (up x))))⟩
/-! ### the walk -/
/-- the list at a and the tuple at b as they stand at each turn, the items in new pairs -/
def ItzM (K : PySem.W.Frag) (a b : Addr) : It :=
  ⟨fun i H => ∃ (xs ys : List V) (x y : V), SqL K H a xs ∧ SqT K H b ys ∧ xs[i]? = some x ∧ ys[i]? = some y,
    fun i H v H' => ∃ T x y, v = .ref T ∧ H T = none ∧ H' = upd H T (.tup [x, y]) ∧ (∀ xs, SqL K H a xs → xs[i]? = some x) ∧ ∀ ys, SqT K H b ys → ys[i]? = some y,
    fun i H => ∃ xs ys : List V, SqL K H a xs ∧ SqT K H b ys ∧ (xs.length ≤ i ∨ ys.length ≤ i)⟩
theorem turn_zm {P : Program} {w : World} {K : PySem.W.Frag} {elts : List Expr} {kk : Nat} {tpos : Pos} {a b z TI TO i1 i2 : Addr} (D : ZipApart z TI TO i1 i2 a b) :
    Turn P w K (.Tuple elts kk tpos) (ItzM K a b) [z, TI, TO, i1, i2] z (fun i h => IsZip h z TI TO .none ∧ IsPair h TI (.ref i1) (.ref i2) ∧ (∃ x y, IsPair h TO x y) ∧ h.IsListIter i1 a i ∧ h.IsTupleIter i2 b i) where
  mem := by simp
  obj := fun i h st c hc => by
    obtain ⟨hz, hTI, ⟨x, y, hTO⟩, ⟨o1, e1, _, d1⟩, ⟨o2, e2, _, d2⟩⟩ := st
    have e' : c = z ∨ c = TI ∨ c = TO ∨ c = i1 ∨ c = i2 := by simpa using hc
    rcases e' with rfl | rfl | rfl | rfl | rfl
    · exact ⟨_, hz, fun v q => nomatch q⟩
    · exact ⟨_, hTI, fun v q => nomatch q⟩
    · exact ⟨_, hTO, fun v q => nomatch q⟩
    · exact ⟨o1, e1, fun v q => by rw [d1] at q; cases q⟩
    · exact ⟨o2, e2, fun v q => by rw [d2] at q; cases q⟩
  keep := fun i h h' st k => by
    obtain ⟨hz, hTI, ⟨x, y, hTO⟩, h1, h2⟩ := st
    exact ⟨k z (by simp) _ hz, k TI (by simp) _ hTI, ⟨x, y, k TO (by simp) _ hTO⟩, h1.at fun o q => k i1 (by simp) o q, h2.at fun o q => k i2 (by simp) o q⟩
  item := by
    intro X hP hw hK hc i pins s σ H E I hf st hg
    subst hP hw hK
    obtain ⟨hz, hTI, ⟨x0, y0, hTO⟩, h1, h2⟩ := st
    obtain ⟨xs, ys, x, y, hqx, hqy, hx, hy⟩ := hg
    obtain ⟨its, rv, p, _⟩ := I.list hqx
    obtain ⟨its2, rv2, p2, _⟩ := I.tuple hqy
    obtain ⟨u, hu, ru⟩ := rv.get hx
    obtain ⟨u2, hu2, ru2⟩ := rv2.get hy
    have zl : z < s.heap.objs.size := Heap.lt_size hz
    refine pyNext_zipF_item D (feed_list D.l1i1) (feed_tup D.l2i2) hz hTI hTO ⟨h1, p.isList⟩ ⟨h2, p2⟩ (x := u) (y := u2) (by simpa using hu) (by simpa using hu2) fun h' z' TO' q1 q2 hT _ hk => ?_
    refine ⟨_, rfl, wpAny_letOwnedTupleGo_zip (s := { s with heap := h' }) z' fun h'' z'' sb => ?_⟩
    have hT2 : h''.get? s.heap.objs.size = some { cls := .type "tuple", data := .seq #[u, u2] } := (sb.2 _ (Nat.ne_of_gt zl)).trans hT
    have new : ObjOk X.prog X.w (upd H s.heap.objs.size (.tup [x, y])) h'' s.heap.objs.size (.tup [x, y]) :=
      ⟨by show 2 ≤ sizeLine; decide, [u, u2], .cons ru (.cons ru2 .nil), ⟨_, hT2, rfl, _, rfl⟩⟩
    have I1 : Inv X pins σ (upd H s.heap.objs.size (.tup [x, y])) { s with heap := h'' } :=
      I.turnedNew (t' := s.toks) (ch := [z, TI, TO, i1, i2]) (fun c o hb q => (sb.2 c (fun q' => hb (by simp [q']))).trans (hk c o (fun q' => hb (by simp [q'])) (fun q' => hb (by simp [q'])) (fun q' => hb (by simp [q'])) (fun q' => hb (by simp [q'])) q)) hf (Nat.le_refl _) new
    refine ⟨.ref s.heap.objs.size, _, I1, rfl, ⟨_, x, y, rfl, I.hok.fresh (Nat.le_refl _), rfl, fun l hl => by rw [I.list_inj hl hqx]; exact hx, fun l hl => by rw [I.tuple_inj hl hqy]; exact hy⟩, ⟨z'', ?_, ⟨u, u2, ?_⟩, ?_, ?_⟩, fun c hcm => ?_⟩
    · exact (sb.2 _ D.TIz).trans (hk _ _ D.TIz D.TITO D.TIi1 D.TIi2 hTI)
    · exact (sb.2 _ D.TOz).trans TO'
    · exact q1.1.at fun o q => (sb.2 _ D.i1z).trans q
    · exact q2.1.at fun o q => (sb.2 _ D.i2z).trans q
    · have hlt : c < s.heap.objs.size := by
        have e' : c = z ∨ c = TI ∨ c = TO ∨ c = i1 ∨ c = i2 := by simpa using hcm
        obtain ⟨_, e1, _⟩ := h1
        obtain ⟨_, e2, _⟩ := h2
        rcases e' with rfl | rfl | rfl | rfl | rfl
        · exact zl
        · exact Heap.lt_size hTI
        · exact Heap.lt_size hTO
        · exact Heap.lt_size e1
        · exact Heap.lt_size e2
      rw [upd_ne (Nat.ne_of_lt hlt)]
      exact (hf c hcm).1
  done := by
    intro X hP hw hK hc i pins s σ H E I hf st hg
    subst hP hw hK
    obtain ⟨hz, hTI, ⟨x0, y0, hTO⟩, h1, h2⟩ := st
    obtain ⟨xs, ys, hqx, hqy, hend⟩ := hg
    obtain ⟨its, rv, p, _⟩ := I.list hqx
    obtain ⟨its2, rv2, p2, _⟩ := I.tuple hqy
    have l1 := rv.length
    have l2 := rv2.length
    have he : its.toArray[i]? = none ∨ its2.toArray[i]? = none := by
      rcases hend with q | q
      · exact .inl (by simp; omega)
      · exact .inr (by simp; omega)
    exact pyNext_zipF_end (I.ok.hd hc) D (feed_list D.l1i1) (feed_tup D.l2i2) hz hTI hTO ⟨h1, p.isList⟩ ⟨h2, p2⟩ he fun h' hk => ⟨rfl, I.turnedL (t' := s.toks) (ch := [z, TI, TO, i1, i2]) (fun c o hb q =>
      hk c o (fun q' => hb (by simp [q'])) (fun q' => hb (by simp [q'])) (fun q' => hb (by simp [q'])) (fun q' => hb (by simp [q'])) q) hf⟩
  self := fun A i s Q E st h => wpAny_pyIter_zip st.1 h
def iZipM (K : PySem.W.Frag) (ta : TA) : TI := fun σ H R => ta σ H fun vs H1 => ∃ a b xs ys, vs = [.ref a, .ref b] ∧ SqL K H1 a xs ∧ SqT K H1 b ys ∧ R (ItzM K a b) H1
theorem kpi_zipM {X : Cx} (K : PySem.W.Frag) {e e2 : Expr} {ta : TA} {p pos tpos : Pos} {elts : List Expr} {kk : Nat} (hg : Gl X "zip") (hm : X.mg "zip" = none) (ha : PA X [e, e2] ta) (hK : X.K = K := by rfl)
    (hs : starEach [e, e2] X.env = (false, eval e X.env) :: starEach [e2] X.env := by rfl) (hpl : (backTo pos (starEach [e2] X.env)).any (·.1) = false := by rfl) :
    PI X (.Tuple elts kk tpos) (.Call (.Name "zip" p) [e, e2] [] pos) (iZipM K ta) := by
  subst hK
  refine ⟨fun pins s σ H R I h => ?_⟩
  refine Call_ (ld_blt I hg hm PyProof.Rows.boot_zip (PyProof.Rows.callWith_type1 (thn (ha.run pos pins s σ H _ I h) fun us s1 ⟨vs, H1, I1, r1, q1⟩ => ?_) hs hpl))
  obtain ⟨a, b, xs, ys, rfl, hqx, hqy, q⟩ := q1
  cases r1 with
  | cons r rr =>
    cases rr with
    | cons r' rr =>
      cases rr
      cases r
      cases r'
      obtain ⟨its, rv, p1, _⟩ := I1.list hqx
      obtain ⟨its2, rv2, p2, _⟩ := I1.tuple hqy
      obtain ⟨o2, ho2, _⟩ := id p2
      refine call_zm p1.isList (show s1.heap.IsTuple b its2.toArray from p2) fun h' hz hTI hTO h1 h2 hk => wpAny_pyIter_zip hz ?_
      have I2 : Inv X pins σ H1 { s1 with heap := h' } := I1.kept (t' := s1.toks) hk
      refine ⟨s1.heap.objs.size + 4, [s1.heap.objs.size + 4, s1.heap.objs.size + 2, s1.heap.objs.size + 3, s1.heap.objs.size, s1.heap.objs.size + 1], _, _, H1, rfl, I2, turn_zm (PySem.W.ktu_apart s1.heap.objs.size a b p1.lt (Heap.lt_size ho2)), ⟨hz, hTI, ⟨_, _, hTO⟩, h1, h2⟩, fun c hcm => ?_, q⟩
      have hle : s1.heap.objs.size ≤ c := by
        have e' : c = s1.heap.objs.size + 4 ∨ c = s1.heap.objs.size + 2 ∨ c = s1.heap.objs.size + 3 ∨ c = s1.heap.objs.size ∨ c = s1.heap.objs.size + 1 := by simpa using hcm
        rcases e' with z | z | z | z | z
        · rw [z]; exact Nat.le_add_right _ _
        · rw [z]; exact Nat.le_add_right _ _
        · rw [z]; exact Nat.le_add_right _ _
        · rw [z]; exact Nat.le_refl _
        · rw [z]; exact Nat.le_add_right _ _
      exact I1.fpOk hle (I1.hok.fresh hle)
/-- the walk over a list and a tuple -/
theorem walk_zm {K : PySem.W.Frag} {a b : Addr} {xs ys : List V} {n : Nat} (hn : n = min xs.length ys.length) : Walk (ItzM K a b) n (fun H => SqL K H a xs ∧ SqT K H b ys) (YPair (fun i => xs[i]?) (fun i => ys[i]?)) := by
  subst hn
  refine ⟨fun i _ hi q => ?_, fun _ q => ⟨xs, ys, q.1, q.2, by omega⟩, fun i H v H' _ q y => ?_⟩
  · have h1 : i < xs.length := by omega
    have h2 : i < ys.length := by omega
    exact ⟨xs, ys, xs[i], ys[i], q.1, q.2, by simp [h1], by simp [h2]⟩
  · obtain ⟨T, x, z, h1, h2, h3, h4, h5⟩ := y
    exact ⟨T, x, z, h1, h2, h3, h4 xs q.1, h5 ys q.2⟩
end Lar
namespace Lar
open PySem PySem.Spec PyProof.Rows L2 L2H
/-! ### a def that is handed the error that a suite holds -/
abbrev SpE := Addr → Value → Option Addr → Sp
structure FnE (P : Program) (w : World) (K : PySem.W.Frag) (mg : Str → Option Value) (base : Heap) (k : Nat) (f : Addr) (fd : FuncData) (ps : List Str) (sp : SpE) : Prop where
  len : ∀ a c d vs H Q E, sp a c d vs H Q E → vs.length = ps.length
  run : ∀ (A : Around) (outer : List Env) (s : Shared) (H : Hp) (args : Args) (us : List Value) (vs : List V) (Q : VK) (E : XK) (p : Addr × Obj) (cls : Value) (d : Option Addr), RoomH k A → Zc cls d p.2 → (∃ vs, p.2.data = .fields vs) → PinOk outer H s p → Env0 P w K mg base A outer s H → BindsTo s fd args (ps.zip us) → Vals vs us → sp p.1 cls d vs H Q E →
    codeAny (model P w) A (.call (.ref f) args) (CR CX0 outer P w H s Q E) s
theorem Fun.okE {P : Program} {w : World} {K : PySem.W.Frag} {mg : Str → Option Value} {base : Heap} {x qual : Str} {st : Stmt} {f : Addr} {fd : FuncData} {N ps : List Str} {k : Nat} {sp : SpE} (F : Fun K x qual st f fd)
    (S : FnScope N ps (defScope st)) (len : ∀ a c d vs H Q E, sp a c d vs H Q E → vs.length = ps.length)
    (hbody : ∀ (cdv : Value) (A : Around) (outer : List Env) (s : Shared) (H : Hp) (vs : List V) (Q : VK) (E : XK) (p : Addr × Obj) (cls : Value) (d : Option Addr), Zc cls d p.2 → (∃ vs, p.2.data = .fields vs) → sp p.1 cls d vs H Q E →
      ∃ t, PSs (cxH CX0 P w K mg base N qual (defScope st) f cdv A outer s H E p) (defBody st) t ∧ t { nx := fun _ H' => Q .non H', rt := Q } (L2.start N vs) H) : FnE P w K mg base (k + 1) f fd ps sp := by
  obtain ⟨oc, od, kV, doc, pm, an, cdv, ct, osl, rfl, lk, hcd⟩ := F.ex
  refine ⟨len, fun A outer s H args us vs Q E p cls d hr hz hf hpin e0 hb r hsp => ?_⟩
  have hl := len _ _ _ _ _ _ _ hsp
  have KX : K.In s.heap := e0.mod.kin.keeps fun b o e => (e0.bs b o e).1
  have lim : s.heap.NoLimit := e0.mod.nolimit.keeps fun b o e => (e0.bs b o e).1
  have hkind : ∀ y ∈ ps.zip us, (defScope st).names.lookup y.1 = some .local ∨ ((defScope st).names.lookup y.1 = some .cell ∧ ((cellsFrom (s.heap.objs.size + 1) (defScope st).names []).lookup y.1).isSome = true) := fun ⟨n, v⟩ hy => by
    rcases S.par n (List.of_mem_zip hy).1 with q | q
    · exact .inl q
    · exact .inr ⟨q, PySem.W.cellsFrom_some _ _ _ (.inl q)⟩
  refine codeAny_call_function hr.depth (KX _ _ lk) rfl S.co S.gen rfl (PySem.W.codeRec_of KX hcd) (hb _ _ _ _ ?_)
  refine wpAny_newFunctionEnv_cells S.kind hkind fun env he s1 x => ?_
  subst he
  refine ⟨lim.keeps x.toInCall.keep, codeAny_func ?_⟩
  obtain ⟨t, ht, hq⟩ := hbody cdv A outer s H vs Q E p cls d hz hf hsp
  have I : Inv (cxH CX0 P w K mg base N qual (defScope st) f cdv A outer s H E p) [] (L2.start N vs) H s1 := inv_startH S hpin e0 hl r x
  refine wpAny_mono (ht.run [] s1 (L2.start N vs) H _ I hq) (fun fl s' hs => ?_) fun e s' hs => hs
  have fin : ∀ {σ' : L2.St} {H' : Hp} {v : V} {u : Value}, Inv (cxH CX0 P w K mg base N qual (defScope st) f cdv A outer s H E p) [] σ' H' s' → RelV v u → Q v H' → CE outer P w H s Q u s' :=
    fun {σ' H' v u} J rv q => ⟨v, H', J.os, J.bare, J.base, J.hok, rv, q⟩
  cases fl with
  | ret u =>
    obtain ⟨v, σ', H', J, rv, q⟩ := hs
    exact fin J rv q
  | next =>
    obtain ⟨σ', H', J, q⟩ := hs
    exact fin (v := V.non) (u := Value.none) J rfl q
  | brk =>
    obtain ⟨_, _, _, q⟩ := hs
    exact False.elim q
  | cont =>
    obtain ⟨_, _, _, q⟩ := hs
    exact False.elim q
structure ClbE (P : Program) (w : World) (K : PySem.W.Frag) (mg : Str → Option Value) (base : Heap) (k : Nat) (x : Str) (ps : List Str) (sp : SpE) : Prop where
  ex : ∃ f fd, FnE P w K mg base k f fd ps sp ∧ mg x = some (.ref f) ∧ PySem.W.keepIn K (.ref f) = true ∧ Binds K fd ps []
theorem DefAt.clbE {P : Program} {w : World} {K : PySem.W.Frag} {mg : Str → Option Value} {base : Heap} {x : Str} {st : Stmt} {N ps : List Str} {k : Nat} {sp : SpE} (D : DefAt K mg x st)
    (S : FnScope N ps (defScope st)) (len : ∀ a c d vs H Q E, sp a c d vs H Q E → vs.length = ps.length)
    (hb : ∀ (kV doc pm : Value) (an : Option Addr) (cdv ct : Value) (us : List Value), us.length = ps.length → bindArgs (PySem.W.fnOf x x (defArgs st) (defBody st) (defScope st) .none kV doc pm an cdv ct) ⟨us, []⟩ = pure (ps.zip us))
    (hbody : ∀ (f : Addr) (cdv : Value) (A : Around) (outer : List Env) (s : Shared) (H : Hp) (vs : List V) (Q : VK) (E : XK) (p : Addr × Obj) (cls : Value) (d : Option Addr), Zc cls d p.2 → (∃ vs, p.2.data = .fields vs) → sp p.1 cls d vs H Q E →
      ∃ t, PSs (cxH CX0 P w K mg base N x (defScope st) f cdv A outer s H E p) (defBody st) t ∧ t { nx := fun _ H' => Q .non H', rt := Q } (L2.start N vs) H) : ClbE P w K mg base (k + 1) x ps sp := by
  obtain ⟨f, fd, F, hm⟩ := D.ex
  exact ⟨f, fd, Fun.okE F S len (fun cdv A outer s H vs Q E p cls d hz hf h => hbody f cdv A outer s H vs Q E p cls d hz hf h), hm, F.kp, F.binds hb⟩
def tCallE (sp : SpE) (a : Addr) (cls : Value) (d : Option Addr) (t : TA) : TE := fun σ H Q => t σ H fun vs H1 => sp a cls d vs H1 Q E0
theorem pe_calE {X : Cx} {k : Nat} {x : Str} {ps : List Str} {sp : SpE} {e : Expr} {es : List Expr} {t : TA} {p pos : Pos} {a : Addr} {oe : Obj} {cls : Value} {d : Option Addr} {pn : List (Addr × Obj)} (C : ClbE X.prog X.w X.K X.mg X.base k x ps sp) (hr : Room k X.A)
    (hz : Zc cls d oe) (hf : ∃ vs, oe.data = .fields vs) (ha : PA (X.suite a ((a, oe) :: pn)) (e :: es) t) (hg : Gl X x := by rfl)
    (hdb : (x == ("__debug__" : Str)) = false := by decide) (he : starEach (e :: es) X.env = (false, eval e X.env) :: starEach es X.env := by rfl) (hpl : (backTo pos (starEach es X.env)).any (·.1) = false := by rfl) :
    PE (X.suite a ((a, oe) :: pn)) (.Call (.Name x p) (e :: es) [] pos) (tCallE sp a cls d t) := by
  obtain ⟨f, fd, F, hm, hk, hb⟩ := C.ex
  refine ⟨fun pins s σ H Q I h => ?_⟩
  refine wpAny_Call_Name_kw (ld_glob I hg hm ?_ hdb)
  refine PySem.W.callWith_K (h₀ := X.base) I.ok.mod.kin hk (thn (ha.run pos pins s σ H _ I h) fun us s1 ⟨vs, H1, I1, r, q⟩ => ⟨I1.kIn, ?_⟩) he hpl
  have hl : us.length = ps.length := by rw [← r.length]; exact F.len _ _ _ _ _ _ _ q
  have b := hb s1 us I1.kIn (by rw [List.append_nil]; exact hl)
  rw [List.append_nil] at b
  have P1 := I1.pin (a, oe) (List.mem_append_left _ List.mem_cons_self)
  have hpin : PinOk X.stack H1 s1 (a, oe) := ⟨P1.1, P1.2.1, fun hm => (List.mem_cons.mp (I1.stkSub a hm)).elim P1.2.2.1 P1.2.2.2.1, P1.2.2.2.2⟩
  refine wpAny_call (codeAny_mono (F.run (X.A.mark (some (.ref a))) X.stack s1 H1 ⟨us, []⟩ us vs Q E0 (a, oe) cls d ⟨hr.dp, hr.un⟩ hz hf hpin I1.env0 b r q) fun r s' hq => ?_)
  cases r with
  | error e => exact hq.elim
  | ok fl =>
    cases fl with
    | ret u => exact I1.after hq
    | next => exact False.elim hq
    | brk => exact False.elim hq
    | cont => exact False.elim hq
/-! ### what such a def does with it -/
theorem call_isE {X : Cx} {a D : Addr} {oe : Obj} {cls : Value} {d : Option Addr} (C : ExcC X.K D) (hz : Zc cls d oe) (hf : ∃ vs, oe.data = .fields vs) (hmem : (a, oe) ∈ X.pn) : CallR X (.builtin "isinstance") (rIsED X.K D a cls d) := by
  intro pins s σ H xs us Q I r h
  obtain ⟨c, cv, b, dd, fs, rfl, rfl, hcv, e, rfl, ed, q⟩ := h
  cases r with
  | cons rx rr =>
    cases rr with
    | cons rt rr =>
      cases rr
      cases rx
      have ec := hcv _ rt
      subst ec
      obtain ⟨hget, _⟩ := I.pin (a, oe) (List.mem_append.mpr (.inl hmem))
      obtain ⟨vs, hv⟩ := hf
      have hx : ObjOk X.prog X.w H s.heap dd (.xd fs) := I.hok dd _ ed
      obtain ⟨mA, hns, _⟩ := hx
      obtain ⟨od, ho, _⟩ := lookIn_ns hns
      have J : PySem.W.InstAt s.heap a oe D (some od) := ⟨hget, hz.1, by unfold PySem.W.notCls; rw [hv] <;> rfl, by rw [hz.2]; exact ho⟩
      have hcl : (PySem.W.clsIn X.K D).isSome = true := by
        have hd := C.hd
        unfold PySem.W.hasDictIn at hd
        cases hc : PySem.W.clsIn X.K D with
        | none => rw [hc] at hd; cases hd
        | some cd => rfl
      exact PySem.W.kia_one (PySem.W.kitx_exc hcl C.hg C.hk C.hs C.ha C.hn C.ht C.hm) I.kIn J e (fun z => nomatch z) fun tk => ⟨.bl b, H, I.kept (t' := tk) fun _ _ z => z, rfl, q⟩
theorem pe_xfE {X : Cx} {a C : Addr} {oe : Obj} {cls : Value} {d : Option Addr} {e : Expr} {te : TE} {pos : Pos} {n : Str} (T : XfC X.K C) (hno : PySem.W.findIn X.K (.ref C) n = some none)
    (hz : Zc cls d oe) (hf : ∃ vs, oe.data = .fields vs) (hmem : (a, oe) ∈ X.pn) (he : PE X e te) (hb : attributeBase e n X.env (eval e X.env) = eval e X.env := by rfl) :
    PE X (.Attribute e n pos) (tXf a cls d C n te) := by
  refine ⟨fun pins s σ H Q I h => ?_⟩
  refine attr_of hb (thn (he.run pins s σ H _ I h) fun u s1 hh => ?_)
  obtain ⟨x, H1, I1, rx, ex, ec, dd, fs, v, ed, ea, l, q⟩ := hh
  subst ex
  obtain rfl : u = Value.ref a := rx
  subst ec
  subst ed
  obtain ⟨ha, _⟩ := I1.pin (a, oe) (List.mem_append_left _ hmem)
  obtain ⟨vs, hd⟩ := hf
  have hx : ObjOk X.prog X.w H1 s1.heap dd (.xd fs) := I1.hok dd _ ea
  obtain ⟨mA, hns, hr⟩ := hx
  obtain ⟨od, ho, hl⟩ := lookIn_ns hns
  obtain ⟨u, hu, ru⟩ := RelO.some_of (v := v) (o := mA n) (by rw [← l]; exact hr n)
  have J : PySem.W.InstAt s1.heap a oe C (some od) := ⟨ha, hz.1, by unfold PySem.W.notCls; rw [hd] <;> rfl, by rw [hz.2]; exact ho⟩
  exact HandSPX.exc_get I1.kIn J T.ga T.gg T.exC (PySem.W.findObj_own T.hdC hno rfl (by rw [hl, hu])) (handed_of ru) ⟨v, H1, I1.tok _, ru, q⟩
end Lar
namespace Lar
open PySem PySem.Spec PyProof.Rows L2
/-- a loop over zip of a list and a tuple of one length -/
theorem for_zipM {K : PySem.W.Frag} {a b : Addr} {xs ys : List V} {g : TG} {tb : TS} {D : Ends} {σ : L2.St} {H : Hp} (hl : xs.length = ys.length) (Pv : Nat → L2.St → Hp → Prop) (h0 : Pv 0 σ H) (hq : ∀ i σ H, Pv i σ H → SqL K H a xs ∧ SqT K H b ys)
    (hs : ∀ (i : Nat) (x y : V) (T : Addr) (σ : L2.St) (H : Hp), xs[i]? = some x → ys[i]? = some y → Pv i σ H → H T = none → g (.ref T) σ (upd H T (.tup [x, y])) fun σ2 H2 => tb { D with nx := Pv (i + 1), ct := Pv (i + 1), bk := D.nx } σ2 H2) (hd : ∀ σ H, Pv xs.length σ H → D.nx σ H) :
    ∃ W : Nat → Nat → L2.St → Hp → Prop, (∃ m, W 0 m σ H) ∧ ∀ i m σ H, W i m σ H →
      ((ItzM K a b).stop i H ∧ D.nx σ H) ∨ ((ItzM K a b).go i H ∧ ∃ N : L2.St → Hp → Prop, (∀ σ' H', N σ' H' → ∃ m', m' < m ∧ W (i + 1) m' σ' H') ∧ ∀ v H', (ItzM K a b).yld i H v H' → g v σ H' fun σ2 H2 => tb { D with nx := N, ct := N, bk := D.nx } σ2 H2) := by
  refine ⟨fun i m σ H => m = xs.length - i ∧ i ≤ xs.length ∧ Pv i σ H, ⟨xs.length, rfl, Nat.zero_le _, h0⟩, ?_⟩
  rintro i m σ H ⟨rfl, hi, p⟩
  obtain ⟨qx, qy⟩ := hq i σ H p
  by_cases hlt : i < xs.length
  · have hx : xs[i]? = some xs[i] := List.getElem?_eq_getElem hlt
    have hlt2 : i < ys.length := by omega
    have hy : ys[i]? = some ys[i] := List.getElem?_eq_getElem hlt2
    refine .inr ⟨⟨xs, ys, _, _, qx, qy, hx, hy⟩, Pv (i + 1), fun σ' H' p' => ⟨xs.length - (i + 1), by omega, rfl, hlt, p'⟩, fun v H' y => ?_⟩
    obtain ⟨T, x', y', rfl, hT, rfl, f1, f2⟩ := y
    exact hs i x' y' T σ H (f1 xs qx) (f2 ys qy) p hT
  · have e : i = xs.length := by omega
    subst e
    exact .inl ⟨⟨xs, ys, qx, qy, Or.inl (Nat.le_refl _)⟩, hd σ H p⟩
/-! ### what is needed of a name in all -/
def allOf (ds : List Dish) (nm : Str) : Int := (ds.map fun d => needOf d nm).sum
theorem needFrom_one (nm : Str) : ∀ ds : List Dish, (∀ d ∈ ds, 1 ≤ d.1 ∧ d.1 ≤ 7) → needFrom ds nm 1 = allOf ds nm
  | [], _ => rfl
  | d :: r, h => by
    have ih := needFrom_one nm r fun x hx => h x (List.mem_cons_of_mem _ hx)
    unfold needFrom allOf at ih ⊢
    rw [List.map_cons, List.sum_cons, List.map_cons, List.sum_cons, ih, if_pos (h d List.mem_cons_self).1]
theorem sum_needed (ds : List Dish) (nm : Str) (h : ∀ d ∈ ds, 1 ≤ d.1 ∧ d.1 ≤ 7) : (neededL ds nm).sum = allOf ds nm := by
  have e := from_needed nm ds h 0 (by decide)
  rw [List.drop_zero] at e
  rw [e]
  exact needFrom_one nm ds h
theorem needFrom_le (nm : Str) (day : Int) : ∀ ds : List Dish, (∀ d ∈ ds, ∀ x ∈ d.2, 0 ≤ x.2) → needFrom ds nm day ≤ allOf ds nm
  | [], _ => Int.le_refl _
  | d :: r, h => by
    have ih := needFrom_le nm day r fun x hx => h x (List.mem_cons_of_mem _ hx)
    have n := needOf_nn (nm := nm) (h d List.mem_cons_self)
    unfold needFrom allOf at ih ⊢
    rw [List.map_cons, List.sum_cons, List.map_cons, List.sum_cons]
    split <;> omega
theorem lack_good {ds : List Dish} {lar : List Batch} {nm : Str} (h : ∀ d ∈ ds, ∀ x ∈ d.2, 0 ≤ x.2) (hb : ∀ b ∈ lar, 0 ≤ b.amount) (hm : allOf ds nm ≤ 200) : GoodLs (lackW ds lar nm) := by
  refine ⟨lackW_len _ _ _, fun x hx => ⟨lackW_nn _ _ _ x hx, ?_⟩⟩
  unfold lackW at hx
  obtain ⟨i, _, rfl⟩ := List.mem_map.mp hx
  have a := needFrom_le nm (1 + (i : Nat)) ds h
  have b := kept_nn nm (1 + (i : Nat)) lar hb
  unfold lackDay mx0
  split <;> omega
/-! ### which lacks can be served -/
def fitB (os : List Offer) (ls : List Int) : Bool := (List.range 7).all fun i => decide (ls.getD i 0 ≤ 0) || os.any fun o => decide ((1 + (i : Nat) : Int) ≤ o.last)
def Bought (os : List Offer) (ls : List Int) (cs : List Int) : Prop := ∃ rows, IsTable os ls (mostL ls) rows ∧ boughtT os ls rows = some cs
theorem Bought.one {os : List Offer} {ls cs cs' : List Int} (hg : ∀ o ∈ os, GoodOffer o) (a : Bought os ls cs) (b : Bought os ls cs') : cs = cs' := by
  obtain ⟨r1, t1, e1⟩ := a
  obtain ⟨r2, t2, e2⟩ := b
  have := tab_one t1 t2 hg
  subst this
  rw [e1] at e2
  exact Option.some.inj e2
theorem many_serve (day : Int) (N : Nat) : ∀ os : List Offer, (∀ o ∈ os, 0 ≤ onto day o) → (∃ o ∈ os, 1 ≤ onto day o) → (N : Int) ≤ wsum (onto day) os (List.replicate os.length (N : Int))
  | [], _, h => by obtain ⟨_, h, _⟩ := h; cases h
  | o :: r, h0, h => by
    rw [List.length_cons, List.replicate_succ, wsum_cons]
    have rest := wsum_nonneg (onto day) r (List.replicate r.length (N : Int)) (fun x hx => h0 x (List.mem_cons_of_mem _ hx)) fun c hc => by rw [(List.mem_replicate.mp hc).2]; exact Int.natCast_nonneg _
    obtain ⟨x, hx, h1⟩ := h
    rcases List.mem_cons.mp hx with rfl | hx
    · have := Int.mul_le_mul_of_nonneg_right h1 (Int.natCast_nonneg N)
      omega
    · have ih := many_serve day N r (fun x hx => h0 x (List.mem_cons_of_mem _ hx)) ⟨x, hx, h1⟩
      have := Int.mul_nonneg (h0 o List.mem_cons_self) (Int.natCast_nonneg N)
      omega
theorem bought_fit {os : List Offer} {ls : List Int} {rows : List (List (Option Int))} (T : IsTable os ls (mostL ls) rows) (hg : ∀ o ∈ os, GoodOffer o) (hls : GoodLs ls) (h : fitB os ls = true) : ∃ cs, boughtT os ls rows = some cs ∧ cs.length = os.length ∧ (∀ x ∈ cs, 0 ≤ x) ∧ servesB os cs ls = true := by
  have hsv : servesB os (List.replicate os.length ((200 : Nat) : Int)) ls = true := by
    rw [serves_iff hls]
    intro e h1 h7
    have he := List.all_eq_true.mp h (e - 1) (List.mem_range.mpr (by omega))
    have hlen := hls.1
    have hle : (lackAt ls e : Int) ≤ 200 := by
      unfold lackAt
      have := hls.2 (ls.getD (e - 1) 0) (by rw [List.getD_eq_getElem?_getD, List.getElem?_eq_getElem (by omega)]; exact List.getElem_mem _)
      omega
    have on0 : ∀ o ∈ os, 0 ≤ onto e o := fun o ho => by unfold onto; have := (hg o ho).size1; split <;> omega
    rw [heldOn_w]
    rcases Bool.or_eq_true_iff.mp he with z | z
    · have z' := of_decide_eq_true z
      have := wsum_nonneg (onto e) os (List.replicate os.length ((200 : Nat) : Int)) on0 fun c hc => by rw [(List.mem_replicate.mp hc).2]; decide
      unfold lackAt
      omega
    · obtain ⟨o, ho, hd⟩ := List.any_eq_true.mp z
      have hd' := of_decide_eq_true hd
      have := many_serve e 200 os on0 ⟨o, ho, by unfold onto; have := (hg o ho).size1; rw [if_pos (by omega)]; exact this⟩
      omega
  obtain ⟨c, hc, _⟩ := serve_cell T hg hls (fun x hx => by rw [(List.mem_replicate.mp hx).2]; decide) hsv
  obtain ⟨cs, a, b, d, _, e⟩ := bought_ok T hg hls hc
  exact ⟨cs, a, b, d, e⟩
theorem bought_unfit {os : List Offer} {ls : List Int} {rows : List (List (Option Int))} (T : IsTable os ls (mostL ls) rows) (hg : ∀ o ∈ os, GoodOffer o) (hls : GoodLs ls) (h : fitB os ls = false) : boughtT os ls rows = none := by
  refine bought_none ?_
  cases hc : cellT rows 1 (lackAt ls 1) with
  | none => rfl
  | some c =>
    obtain ⟨cs, _, _, nn, _, sv⟩ := bought_ok T hg hls hc
    rw [serves_iff hls] at sv
    obtain ⟨i, hi, hf⟩ := List.all_eq_false.mp h
    have i7 := List.mem_range.mp hi
    have hf' : (decide (ls.getD i 0 ≤ 0) || os.any fun o => decide ((1 + (i : Nat) : Int) ≤ o.last)) = false := by
      cases q : (decide (ls.getD i 0 ≤ 0) || os.any fun o => decide ((1 + (i : Nat) : Int) ≤ o.last)) with
      | false => rfl
      | true => exact absurd q hf
    obtain ⟨q1, q2⟩ := Bool.or_eq_false_iff.mp hf'
    have a := sv (i + 1) (by omega) (by omega)
    have q1' := of_decide_eq_false q1
    have b : heldOn os cs ((i + 1 : Nat) : Int) = 0 := by
      rw [heldOn_w]
      refine wsum_zero _ _ _ fun k o c ho _ _ => ?_
      have := List.any_eq_false.mp q2 o (List.mem_of_getElem? ho)
      have n : ¬ ((1 + (i : Nat) : Int) ≤ o.last) := fun z => this (decide_eq_true z)
      unfold onto
      rw [if_neg (by omega)]
    rw [b] at a
    unfold lackAt at a
    rw [Nat.add_sub_cancel] at a
    omega
/-! ### how much is bought -/
theorem sumC_inc (cs : List Int) (k : Nat) : sumC (cs.set k (cs.getD k 0 + 1)) ≤ sumC cs + 1 := by
  have := sumC_set_le
  induction cs generalizing k with
  | nil => simp [sumC]
  | cons c r ih =>
    cases k with
    | zero =>
      unfold sumC
      rw [List.set_cons_zero, List.map_cons, List.sum_cons, List.map_cons, List.sum_cons, List.getD_cons_zero]
      omega
    | succ k =>
      have := ih k
      unfold sumC at this ⊢
      rw [List.set_cons_succ, List.map_cons, List.sum_cons, List.map_cons, List.sum_cons, List.getD_cons_succ]
      omega
theorem walk_few {os : List Offer} {ls : List Int} {rows : List (List (Option Int))} : ∀ (t d a : Nat) (cs cs' : List Int), walkT os ls rows t d a cs = some cs' → sumC cs' ≤ sumC cs + t := by
  intro t
  induction t with
  | zero => intro d a cs cs' h; cases h
  | succ t ih =>
    intro d a cs cs' h
    unfold walkT at h
    split at h
    · split at h
      · cases h; omega
      · have := ih _ _ _ _ h; omega
    · split at h
      · cases h
      · rename_i k _
        have := ih _ _ _ _ h
        have := sumC_inc cs k
        omega
theorem Bought.few {os : List Offer} {ls cs : List Int} (h : Bought os ls cs) : sumC cs ≤ 220 := by
  obtain ⟨rows, _, e⟩ := h
  unfold boughtT at e
  split at e
  · cases e
  · have := walk_few _ _ _ _ _ e
    have z := sumC_few 0 (List.replicate os.length (0 : Int)) fun x hx => by rw [(List.mem_replicate.mp hx).2]; exact Int.le_refl _
    omega
theorem Bought.ok {os : List Offer} {ls cs : List Int} (hg : ∀ o ∈ os, GoodOffer o) (hls : GoodLs ls) (h : Bought os ls cs) : cs.length = os.length ∧ (∀ x ∈ cs, 0 ≤ x) ∧ servesB os cs ls = true ∧ fitB os ls = true := by
  obtain ⟨rows, T, e⟩ := h
  cases f : fitB os ls with
  | false => rw [bought_unfit T hg hls f] at e; cases e
  | true =>
    obtain ⟨cs', e', a, b, c⟩ := bought_fit T hg hls f
    rw [e] at e'
    cases e'
    exact ⟨a, b, c, rfl⟩
/-! ### what is refused first -/
def firstBad (ds : List Dish) (lar : List Batch) (ps : List Pack) : List Str → Option (Bool × Str)
  | [] => none
  | nm :: r => if 200 < allOf ds nm then some (true, nm) else if fitB (offersOf ps nm) (lackW ds lar nm) = true then firstBad ds lar ps r else some (false, nm)
def GoodName (ds : List Dish) (lar : List Batch) (ps : List Pack) (nm : Str) : Prop := allOf ds nm ≤ 200 ∧ fitB (offersOf ps nm) (lackW ds lar nm) = true
theorem firstBad_skip {ds : List Dish} {lar : List Batch} {ps : List Pack} : ∀ (xs ys : List Str), (∀ nm ∈ xs, GoodName ds lar ps nm) → firstBad ds lar ps (xs ++ ys) = firstBad ds lar ps ys
  | [], _, _ => rfl
  | x :: r, ys, h => by
    obtain ⟨a, b⟩ := h x List.mem_cons_self
    show (if 200 < allOf ds x then _ else _) = _
    rw [if_neg (by omega), if_pos b]
    exact firstBad_skip r ys fun nm hn => h nm (List.mem_cons_of_mem _ hn)
theorem firstBad_none {ds : List Dish} {lar : List Batch} {ps : List Pack} {ys : List Str} (h : ∀ nm ∈ ys, GoodName ds lar ps nm) : firstBad ds lar ps ys = none := by
  have := firstBad_skip ys [] h
  rw [List.append_nil] at this
  exact this
theorem firstBad_good {ds : List Dish} {lar : List Batch} {ps : List Pack} : ∀ {ys : List Str}, firstBad ds lar ps ys = none → ∀ nm ∈ ys, GoodName ds lar ps nm
  | [], _, nm, h => nomatch h
  | x :: r, e, nm, h => by
    have e' : (if 200 < allOf ds x then some (true, x) else if fitB (offersOf ps x) (lackW ds lar x) = true then firstBad ds lar ps r else some (false, x)) = none := e
    split at e'
    · cases e'
    · split at e'
      · rename_i a b
        rcases List.mem_cons.mp h with rfl | h
        · exact ⟨by omega, b⟩
        · exact firstBad_good e' nm h
      · cases e'
/-- at the i-th name the first bad one -/
theorem firstBad_at {ds : List Dish} {lar : List Batch} {ps : List Pack} {ys : List Str} {i : Nat} {nm : Str} (hi : ys[i]? = some nm) (h : ∀ x ∈ ys.take i, GoodName ds lar ps x) :
    firstBad ds lar ps ys = if 200 < allOf ds nm then some (true, nm) else if fitB (offersOf ps nm) (lackW ds lar nm) = true then firstBad ds lar ps (ys.drop (i + 1)) else some (false, nm) := by
  have e : ys = ys.take i ++ nm :: ys.drop (i + 1) := by
    have hlt := (List.getElem?_eq_some_iff.mp hi)
    obtain ⟨h1, h2⟩ := hlt
    rw [← h2, ← List.drop_eq_getElem_cons h1, List.take_append_drop]
  have := firstBad_skip (ds := ds) (lar := lar) (ps := ps) (ys.take i) (nm :: ys.drop (i + 1)) h
  rw [← e] at this
  exact this
/-- the counts of a week -/
structure ShopAt (ds : List Dish) (lar : List Batch) (ps : List Pack) (ys : List Str) (cs : List Int) : Prop where
  len : cs.length = ps.length
  nn : ∀ x ∈ cs, 0 ≤ x
  each : ∀ nm ∈ ys, Bought (offersOf ps nm) (lackW ds lar nm) (countsOf cs (ofK ps nm))
  rest : ∀ k, k < ps.length → (ps.getD k pz).name ∉ ys → cs.getD k 0 = 0
  few : sumC cs ≤ ys.length * 220
theorem shop_zero (ds : List Dish) (lar : List Batch) (ps : List Pack) : ShopAt ds lar ps [] (List.replicate ps.length 0) :=
  ⟨List.length_replicate, fun x hx => by rw [(List.mem_replicate.mp hx).2]; exact Int.le_refl _, (fun _ h => nomatch h), fun k h _ => by rw [List.getD_eq_getElem?_getD, List.getElem?_eq_getElem (by rw [List.length_replicate]; exact h), List.getElem_replicate]; rfl,
    by have := sumC_few 0 (List.replicate ps.length (0 : Int)) fun x hx => by rw [(List.mem_replicate.mp hx).2]; exact Int.le_refl _
       omega⟩
theorem ShopAt.snoc {ds : List Dish} {lar : List Batch} {ps : List Pack} {ys : List Str} {cs zs : List Int} {nm : Str} (S : ShopAt ds lar ps ys cs) (hnew : nm ∉ ys) (hl : zs.length = (ofK ps nm).length) (hn : ∀ x ∈ zs, 0 ≤ x) (b : Bought (offersOf ps nm) (lackW ds lar nm) zs) :
    ShopAt ds lar ps (ys ++ [nm]) (setK cs ((ofK ps nm).zip zs)) := by
  refine ⟨by rw [setK_len]; exact S.len, setK_nn _ _ S.nn fun p hp => hn _ (List.of_mem_zip hp).2, fun m hm => ?_, fun k hk hno => ?_, ?_⟩
  · rcases List.mem_append.mp hm with z | z
    · have ne : m ≠ nm := fun e => hnew (e ▸ z)
      rw [setK_other ne]
      exact S.each m z
    · have e := List.mem_singleton.mp z
      subst e
      rw [setK_at _ _ _ (of_nodup ps m) hl.symm fun k hk => by rw [S.len]; exact (of_mem hk).1]
      exact b
  · rw [setK_ne _ _ k fun p hp e => hno ?_]
    · exact S.rest k hk fun z => hno (List.mem_append_left _ z)
    · have a := (of_mem (List.of_mem_zip hp).1).2
      rw [e] at a
      rw [a]
      exact List.mem_append_right _ List.mem_cons_self
  · have a1 := setK_sum (ofK ps nm) zs cs
    have a2 := b.few
    have a3 := S.few
    rw [List.length_append, List.length_singleton, Nat.succ_mul]
    omega
/-- counts of one list of names are one -/
theorem ShopAt.one {ds : List Dish} {lar : List Batch} {ps : List Pack} {ys : List Str} {cs cs' : List Int} (hp : ∀ p ∈ ps, FinePack p) (a : ShopAt ds lar ps ys cs) (b : ShopAt ds lar ps ys cs') : cs = cs' := by
  refine List.ext_getElem (by rw [a.len, b.len]) fun k h1 h2 => ?_
  have hk : k < ps.length := by rw [← a.len]; exact h1
  have g1 : cs.getD k 0 = cs[k] := by rw [List.getD_eq_getElem?_getD, List.getElem?_eq_getElem h1]; rfl
  have g2 : cs'.getD k 0 = cs'[k] := by rw [List.getD_eq_getElem?_getD, List.getElem?_eq_getElem h2]; rfl
  by_cases hm : (ps.getD k pz).name ∈ ys
  · have e := Bought.one (offers_good hp _) (a.each _ hm) (b.each _ hm)
    have hk' : k ∈ ofK ps (ps.getD k pz).name := by
      unfold ofK
      exact List.mem_filterMap.mpr ⟨k, List.mem_range.mpr hk, if_pos rfl⟩
    unfold countsOf at e
    have := (List.map_inj_left.mp e) k hk'
    rw [← g1, ← g2]
    exact this
  · rw [← g1, ← g2, a.rest k hk hm, b.rest k hk hm]
/-! ### promises -/
structure FineShop (ds : List Dish) (lar : List Batch) : Prop where
  dl : ds.length ≤ 100
  dn : ∀ d ∈ ds, d.2.length ≤ 20
  day : ∀ d ∈ ds, 1 ≤ d.1 ∧ d.1 ≤ 7
  need : ∀ d ∈ ds, ∀ x ∈ d.2, 1 ≤ x.2 ∧ x.2 ≤ 200
  names : (namesOf ds).length < 64
  ll : lar.length ≤ 10000
  bat : ∀ b ∈ lar, 1 ≤ b.amount ∧ b.amount ≤ 200 ∧ 1 ≤ b.last
theorem FineShop.good {ds : List Dish} {lar : List Batch} (F : FineShop ds lar) {nm : Str} (h : allOf ds nm ≤ 200) : GoodLs (lackW ds lar nm) :=
  lack_good (fun d hd x hx => by have := F.need d hd x hx; omega) (fun b hb => by have := F.bat b hb; omega) h
abbrev wordX (nm : Str) : HO := .xd [("word", .str nm)]
def spCountsOf (S T : Addr) : Sp := fun vs H Q E => ∃ (u v w : V) (nm : Str) (ds : List Dish) (lar : List Batch) (os : List Offer), vs = [u, v, w, .str nm] ∧ DishesAt H u ds ∧ LarderAt H v lar ∧ OffersAt H w os ∧ FineShop ds lar ∧ os.length ≤ 60 ∧ (∀ o ∈ os, GoodOffer o) ∧ ∀ H', Same H H' →
  (200 < allOf ds nm → ∀ d, H d = none → H' d = some (wordX nm) → E (.ref T) (some d) H') ∧
  (allOf ds nm ≤ 200 → fitB os (lackW ds lar nm) = false → ∀ d, H d = none → H' d = some (wordX nm) → E (.ref S) (some d) H') ∧
  (∀ p cs, allOf ds nm ≤ 200 → Bought os (lackW ds lar nm) cs → H' p = some (.tup (cs.map V.int)) → Q (.ref p) H')
def spShopped (S T : Addr) : Sp := fun vs H Q E => ∃ (u v w : V) (ds : List Dish) (lar : List Batch) (ps : List Pack), vs = [u, v, w] ∧ DishesAt H u ds ∧ LarderAt H v lar ∧ PacksAt H w ps ∧ FineShop ds lar ∧ ps.length ≤ 60 ∧ (∀ p ∈ ps, FinePack p) ∧
  ∀ (ys : List Str) H', Same H H' → ys.Perm (namesOf ds) → sortedS ys = true →
    (∀ nm d, firstBad ds lar ps ys = some (true, nm) → H d = none → H' d = some (wordX nm) → E (.ref T) (some d) H') ∧
    (∀ nm d, firstBad ds lar ps ys = some (false, nm) → H d = none → H' d = some (wordX nm) → E (.ref S) (some d) H') ∧
    (∀ p cs, firstBad ds lar ps ys = none → ShopAt ds lar ps ys cs → H' p = some (.tup (cs.map V.int)) → Q (.ref p) H')
end Lar
namespace Lar
open PySem PySem.Spec PyProof.Rows L2
/-! ### what cooking gives, dish by dish -/
theorem foldE_inv {α S : Type} {f : α → S → Except Str S} {P : Nat → S → Prop} : ∀ (xs : List α) (n : Nat) (s s' : S), P n s → (∀ i x t t', xs[i]? = some x → P (n + i) t → f x t = Except.ok t' → P (n + i + 1) t') → foldE f xs s = Except.ok s' → P (n + xs.length) s'
  | [], n, s, s', h, _, e => by
    have : Except.ok s = (Except.ok s' : Except Str S) := e
    cases this
    exact h
  | x :: r, n, s, s', h, st, e => by
    have e' : bindE (f x s) (foldE f r) = Except.ok s' := e
    cases hx : f x s with
    | error z => rw [hx] at e'; cases e'
    | ok t =>
      rw [hx] at e'
      have := foldE_inv (P := P) r (n + 1) t s' (st 0 x s t rfl h hx) (fun i y a b hy p q => by
        have := st (i + 1) y a b (by rw [List.getElem?_cons_succ]; exact hy) (by rw [show n + (i + 1) = n + 1 + i by omega]; exact p) q
        rw [show n + (i + 1) + 1 = n + 1 + i + 1 by omega] at this
        exact this) e'
      rw [List.length_cons, show n + (r.length + 1) = n + 1 + r.length by omega]
      exact this
def usedN (lar : List Batch) (nm : Str) (ps : List Use) : Int := (ps.map fun p => if (lar.getD p.1 bz).name = nm then p.2 else 0).sum
theorem usedN_app (lar : List Batch) (nm : Str) (xs ys : List Use) : usedN lar nm (xs ++ ys) = usedN lar nm xs + usedN lar nm ys := by
  unfold usedN
  rw [List.map_append, List.sum_append]
theorem usedP_app (xs ys : List Use) (k : Nat) : usedP (xs ++ ys) k = usedP xs k + usedP ys k := by
  unfold usedP
  rw [List.map_append, List.sum_append]
structure MetOk (lar : List Batch) (nm : Str) (day : Int) (left left' : List Int) (amt : Int) (new : List Use) : Prop where
  each : ∀ p ∈ new, p.1 < lar.length ∧ 1 ≤ p.2 ∧ (lar.getD p.1 bz).name = nm ∧ day ≤ (lar.getD p.1 bz).last
  all : (new.map (·.2)).sum = amt
  len : left'.length = left.length
  nn : ∀ x ∈ left', 0 ≤ x
  left_ : ∀ k, left'.getD k 0 = left.getD k 0 - usedP new k
  few : new.length ≤ amt.toNat
theorem met_ok {lar : List Batch} {nm : Str} {day : Int} : ∀ (n : Nat) (left left' : List Int) (amt : Int) (ps qs : List Use), left.length = lar.length → (∀ x ∈ left, 0 ≤ x) → 0 ≤ amt → amt.toNat ≤ n →
    metF lar nm day n left amt ps = some (qs, left') → ∃ new, qs = ps ++ new ∧ MetOk lar nm day left left' amt new := by
  intro n
  have stop : ∀ (left left' : List Int) (amt : Int) (ps qs : List Use), (∀ x ∈ left, 0 ≤ x) → amt = 0 → some (ps, left) = some (qs, left') → ∃ new, qs = ps ++ new ∧ MetOk lar nm day left left' amt new := fun left left' amt ps qs hn h0 e => by
    cases e
    subst h0
    exact ⟨[], (List.append_nil _).symm, (fun _ h => nomatch h), rfl, rfl, hn, fun k => by unfold usedP; simp, Nat.zero_le _⟩
  induction n with
  | zero =>
    intro left left' amt ps qs hl hn h0 hm e
    exact stop left left' amt ps qs hn (by omega) e
  | succ n ih =>
    intro left left' amt ps qs hl hn h0 hm e
    unfold metF at e
    by_cases ha : 0 < amt
    · rw [if_pos ha] at e
      cases hx : nextK lar left nm day with
      | none => rw [hx] at e; cases e
      | some k =>
        rw [hx] at e
        obtain ⟨hk, ⟨g1, g2, g3⟩, _⟩ := next_some hx
        have hs : 1 ≤ mnI amt (left.getD k 0) ∧ mnI amt (left.getD k 0) ≤ amt ∧ mnI amt (left.getD k 0) ≤ left.getD k 0 := by unfold mnI; split <;> omega
        replace e : metF lar nm day n (left.set k (left.getD k 0 - mnI amt (left.getD k 0))) (amt - mnI amt (left.getD k 0)) (ps ++ [(k, mnI amt (left.getD k 0))]) = some (qs, left') := e
        generalize mnI amt (left.getD k 0) = s at *
        obtain ⟨new, e2, M⟩ := ih _ left' _ _ qs (by rw [List.length_set]; exact hl) (nn_set (cs := left) (k := k) (z := left.getD k 0 - s) hn (by omega)) (by omega) (by omega) e
        refine ⟨(k, s) :: new, by rw [e2, List.append_assoc]; rfl, fun p hp => ?_, ?_, by rw [M.len, List.length_set], M.nn, fun j => ?_, ?_⟩
        · rcases List.mem_cons.mp hp with rfl | hp
          · exact ⟨hk, hs.1, g1, g2⟩
          · exact M.each p hp
        · rw [List.map_cons, List.sum_cons, M.all]; omega
        · rw [M.left_ j]
          have e3 : usedP ((k, s) :: new) j = (if k = j then s else 0) + usedP new j := by unfold usedP; rw [List.map_cons, List.sum_cons]
          rw [e3]
          by_cases z : k = j
          · subst z
            rw [getD_set_self (by omega), if_pos rfl]; omega
          · rw [getD_set_ne (fun y => z y.symm), if_neg z]; omega
        · have := M.few
          rw [List.length_cons]
          omega
    · rw [if_neg ha] at e
      exact stop left left' amt ps qs hn (by omega) e
theorem usedN_name {lar : List Batch} {nm nm' : Str} : ∀ {new : List Use}, (∀ p ∈ new, (lar.getD p.1 bz).name = nm) → usedN lar nm' new = if nm = nm' then (new.map (·.2)).sum else 0
  | [], _ => by unfold usedN; simp
  | p :: r, h => by
    have ih := usedN_name (nm' := nm') (new := r) fun q hq => h q (List.mem_cons_of_mem _ hq)
    have a := h p List.mem_cons_self
    unfold usedN at ih ⊢
    rw [List.map_cons, List.sum_cons, ih, a, List.map_cons, List.sum_cons]
    split <;> omega
structure FitsD (lar : List Batch) (d : Dish) (ps : List Use) : Prop where
  each : ∀ p ∈ ps, p.1 < lar.length ∧ 1 ≤ p.2 ∧ d.1 ≤ (lar.getD p.1 bz).last
  all : ∀ nm, usedN lar nm ps = needOf d nm
  few : ps.length ≤ d.2.length * 200
/-- a dish's needs, one by one -/
theorem needs_ok {lar : List Batch} {d : Dish} {left0 : List Int} {r : List Use × List Int} (hl : left0.length = lar.length) (hn : ∀ x ∈ left0, 0 ≤ x) (ham : ∀ x ∈ d.2, 1 ≤ x.2 ∧ x.2 ≤ 200) (h : foldE (needF lar d.1) d.2 ([], left0) = Except.ok r) :
    FitsD lar d r.1 ∧ r.2.length = left0.length ∧ (∀ x ∈ r.2, 0 ≤ x) ∧ ∀ k, r.2.getD k 0 = left0.getD k 0 - usedP r.1 k := by
  have := foldE_inv (P := fun j (s : List Use × List Int) => (∀ p ∈ s.1, p.1 < lar.length ∧ 1 ≤ p.2 ∧ d.1 ≤ (lar.getD p.1 bz).last) ∧ (∀ nm, usedN lar nm s.1 = needOf (d.1, d.2.take j) nm) ∧ s.1.length ≤ j * 200 ∧ s.2.length = left0.length ∧ (∀ x ∈ s.2, 0 ≤ x) ∧ ∀ k, s.2.getD k 0 = left0.getD k 0 - usedP s.1 k) d.2 0 ([], left0) r
    ⟨(fun _ h => nomatch h), fun nm => by unfold usedN needOf; simp, Nat.zero_le _, rfl, hn, fun k => by unfold usedP; simp⟩ (fun i x s s' hx hp he => ?_) h
  · rw [Nat.zero_add, List.take_length] at this
    obtain ⟨a, b, c, e, f, g⟩ := this
    exact ⟨⟨a, b, c⟩, e, f, g⟩
  · rw [Nat.zero_add] at hp ⊢
    obtain ⟨a, b, c, e, f, g⟩ := hp
    have hxm := ham x (List.mem_of_getElem? hx)
    unfold needF at he
    cases hm : metF lar x.1 d.1 x.2.toNat s.2 x.2 [] with
    | none => rw [hm] at he; cases he
    | some q =>
      rw [hm] at he
      obtain ⟨qs, l'⟩ := q
      cases he
      obtain ⟨new, e2, M⟩ := met_ok x.2.toNat s.2 l' x.2 [] qs (by rw [e, hl]) f (by omega) (Nat.le_refl _) hm
      rw [List.nil_append] at e2
      subst e2
      refine ⟨fun p hp => ?_, fun nm => ?_, ?_, by rw [M.len, e], M.nn, fun k => ?_⟩
      · rcases List.mem_append.mp hp with z | z
        · exact a p z
        · have := M.each p z
          exact ⟨this.1, this.2.1, this.2.2.2⟩
      · rw [usedN_app, b, usedN_name (nm := x.1) fun p hp => (M.each p hp).2.2.1, M.all]
        unfold needOf
        show _ = (List.filterMap _ (d.2.take (i + 1))).sum
        rw [take_succ' hx, List.filterMap_append, List.sum_append]
        congr 1
        by_cases z : x.1 = nm
        · simp [z]
        · simp [z]
      · have := M.few
        show (s.1 ++ qs).length ≤ _
        rw [List.length_append, Nat.succ_mul]
        omega
      · show l'.getD k 0 = _ - usedP (s.1 ++ qs) k
        rw [M.left_ k, g k, usedP_app]; omega
theorem usedOf_set (ps : List Use) (j : Nat) : ∀ (us : List (List Use)) (i : Nat), i < us.length → us.getD i [] = [] → usedOf (us.set i ps) j = usedOf us j + usedP ps j
  | [], _, h, _ => absurd h (Nat.not_lt_zero _)
  | u :: r, 0, _, h => by
    have h' : u = [] := h
    subst h'
    unfold usedOf
    rw [List.set_cons_zero, List.map_cons, List.sum_cons, List.map_cons, List.sum_cons]
    have : usedP [] j = 0 := rfl
    omega
  | u :: r, i + 1, h, h2 => by
    have ih := usedOf_set ps j r i (by rw [List.length_cons] at h; omega) h2
    unfold usedOf at ih ⊢
    rw [List.set_cons_succ, List.map_cons, List.sum_cons, List.map_cons, List.sum_cons, ih]
    omega
/-- the state behind some dishes -/
structure CkInv (ds : List Dish) (lar : List Batch) (done : Nat → Prop) (s : CkS) : Prop where
  ul : s.1.length = ds.length
  ll : s.2.length = lar.length
  nn : ∀ x ∈ s.2, 0 ≤ x
  left_ : ∀ k, k < lar.length → s.2.getD k 0 = (lar.getD k bz).amount - usedOf s.1 k
  fits : ∀ i, i < ds.length → done i → FitsD lar (ds.getD i dz) (s.1.getD i [])
  open_ : ∀ i, i < ds.length → ¬ done i → s.1.getD i [] = []
theorem CkInv.imp {ds : List Dish} {lar : List Batch} {P P' : Nat → Prop} {s : CkS} (I : CkInv ds lar P s) (h : ∀ i, i < ds.length → (P i ↔ P' i)) : CkInv ds lar P' s :=
  ⟨I.ul, I.ll, I.nn, I.left_, fun i hi d => I.fits i hi ((h i hi).mpr d), fun i hi d => I.open_ i hi fun z => d ((h i hi).mp z)⟩
theorem dish_ok {ds : List Dish} {lar : List Batch} {P : Nat → Prop} {s s' : CkS} {day : Int} {k : Nat} (I : CkInv ds lar P s) (hk : k < ds.length) (hnew : (ds.getD k dz).1 = day → ¬ P k) (ham : ∀ d ∈ ds, ∀ x ∈ d.2, 1 ≤ x.2 ∧ x.2 ≤ 200) (h : dishF lar ds day k s = Except.ok s') :
    CkInv ds lar (fun i => P i ∨ (i = k ∧ (ds.getD k dz).1 = day)) s' := by
  unfold dishF at h
  by_cases e : (ds.getD k dz).1 = day
  · rw [if_pos e] at h
    have h0 := I.open_ k hk (hnew e)
    rw [h0] at h
    cases hf : foldE (needF lar day) (ds.getD k dz).2 ([], s.2) with
    | error z => rw [hf] at h; cases h
    | ok r =>
      rw [hf] at h
      have h' : (Except.ok (s.1.set k r.1, r.2) : Except Str CkS) = Except.ok s' := h
      cases h'
      have hd : ds.getD k dz ∈ ds := by rw [List.getD_eq_getElem?_getD, List.getElem?_eq_getElem hk]; exact List.getElem_mem hk
      rw [← e] at hf
      obtain ⟨F, a, b, c⟩ := needs_ok I.ll I.nn (ham _ hd) hf
      have hkl : k < s.1.length := by rw [I.ul]; exact hk
      refine ⟨by rw [List.length_set]; exact I.ul, by rw [a]; exact I.ll, b, fun j hj => ?_, fun i hi hd => ?_, fun i hi hd => ?_⟩
      · show r.2.getD j 0 = _ - usedOf (s.1.set k r.1) j
        rw [c j, I.left_ j hj, usedOf_set r.1 j s.1 k hkl h0]; omega
      · show FitsD lar (ds.getD i dz) ((s.1.set k r.1).getD i [])
        by_cases z : i = k
        · subst z
          rw [show (s.1.set i r.1).getD i [] = r.1 by rw [List.getD_eq_getElem?_getD, List.getElem?_set_self hkl]; rfl]
          exact F
        · rw [show (s.1.set k r.1).getD i [] = s.1.getD i [] by rw [List.getD_eq_getElem?_getD, List.getD_eq_getElem?_getD, List.getElem?_set_ne (fun y => z y.symm)]]
          exact I.fits i hi (hd.resolve_right fun y => z y.1)
      · have z : i ≠ k := fun y => hd (.inr ⟨y, e⟩)
        show (s.1.set k r.1).getD i [] = []
        rw [show (s.1.set k r.1).getD i [] = s.1.getD i [] by rw [List.getD_eq_getElem?_getD, List.getD_eq_getElem?_getD, List.getElem?_set_ne (fun y => z y.symm)]]
        exact I.open_ i hi fun y => hd (.inl y)
  · rw [if_neg e] at h
    cases h
    exact I.imp fun i _ => ⟨fun y => .inl y, fun y => y.resolve_right fun z => e z.2⟩
theorem cook_fits {ds : List Dish} {lar : List Batch} {us : List (List Use)} (hday : ∀ d ∈ ds, 1 ≤ d.1 ∧ d.1 ≤ 7) (ham : ∀ d ∈ ds, ∀ x ∈ d.2, 1 ≤ x.2 ∧ x.2 ≤ 200) (hb : ∀ b ∈ lar, 0 ≤ b.amount) (h : cookedM ds lar = Except.ok us) :
    us.length = ds.length ∧ (∀ i, i < ds.length → FitsD lar (ds.getD i dz) (us.getD i [])) ∧ ∀ k, k < lar.length → 0 ≤ (lar.getD k bz).amount - usedOf us k := by
  unfold cookedM at h
  cases hc : cookE ds lar with
  | error z => rw [hc] at h; cases h
  | ok s =>
    rw [hc] at h
    have h' : (Except.ok s.1 : Except Str (List (List Use))) = Except.ok us := h
    cases h'
    unfold cookE at hc
    have day_ : ∀ i, i < ds.length → 1 ≤ (ds.getD i dz).1 ∧ (ds.getD i dz).1 ≤ 7 := fun i hi => by
      rw [List.getD_eq_getElem?_getD, List.getElem?_eq_getElem hi]
      exact hday _ (List.getElem_mem hi)
    have R := foldE_inv (P := fun j (s : CkS) => CkInv ds lar (fun i => (ds.getD i dz).1 ≤ (j : Int)) s) (List.range 7) 0 _ s ?_ (fun j d t t' hd I he => ?_) hc
    · rw [List.length_range] at R
      have R' := R.imp (P' := fun _ => True) fun i hi => ⟨fun _ => trivial, fun _ => by have := day_ i hi; omega⟩
      refine ⟨R'.ul, fun i hi => R'.fits i hi trivial, fun k hk => ?_⟩
      rw [← R'.left_ k hk]
      rw [List.getD_eq_getElem?_getD, List.getElem?_eq_getElem (by rw [R'.ll]; exact hk)]
      exact R'.nn _ (List.getElem_mem _)
    · refine ⟨List.length_replicate, by rw [List.length_map], fun x hx => ?_, fun k hk => ?_, fun i hi z => ?_, fun i hi _ => ?_⟩
      · obtain ⟨b, hbm, rfl⟩ := List.mem_map.mp hx
        exact hb b hbm
      · show (lar.map (·.amount)).getD k 0 = _ - usedOf (List.replicate ds.length []) k
        have e0 : usedOf (List.replicate ds.length []) k = 0 := by
          unfold usedOf
          rw [List.map_replicate]
          induction ds.length with
          | zero => rfl
          | succ n ih => rw [List.replicate_succ, List.sum_cons, ih]; rfl
        rw [e0, List.getD_eq_getElem?_getD, List.getElem?_map, List.getElem?_eq_getElem hk, List.getD_eq_getElem?_getD, List.getElem?_eq_getElem hk]
        exact (Int.sub_zero _).symm
      · have := day_ i hi
        exact absurd z (by show ¬ ((ds.getD i dz).1 ≤ ((0 : Nat) : Int)); omega)
      · show (List.replicate ds.length []).getD i [] = []
        rw [List.getD_eq_getElem?_getD, List.getElem?_eq_getElem (by rw [List.length_replicate]; exact hi), List.getElem_replicate]; rfl
    · obtain ⟨rfl, hd7⟩ := range_ix hd
      rw [Nat.zero_add] at I ⊢
      unfold dayF at he
      have R := foldE_inv (P := fun k (s : CkS) => CkInv ds lar (fun i => (ds.getD i dz).1 ≤ (d : Int) ∨ (i < k ∧ (ds.getD i dz).1 = 1 + (d : Int))) s) (List.range ds.length) 0 t t' (I.imp fun i _ => ⟨fun y => .inl y, fun y => y.resolve_right fun z => absurd z.1 (Nat.not_lt_zero _)⟩) (fun k x a b hx J hj => ?_) he
      · rw [Nat.zero_add, List.length_range] at R
        exact R.imp fun i hi => ⟨fun y => by rcases y with y | y <;> omega, fun y => by
          by_cases z : (ds.getD i dz).1 ≤ (d : Int)
          · exact .inl z
          · exact .inr ⟨hi, by omega⟩⟩
      · obtain ⟨rfl, hx2⟩ := range_ix hx
        rw [Nat.zero_add] at J ⊢
        have := dish_ok J hx2 (fun e z => by rcases z with z | z <;> omega) ham hj
        exact this.imp fun i hi => ⟨fun y => by
          rcases y with y | ⟨y, z⟩
          · rcases y with y | ⟨y, z⟩
            · exact .inl y
            · exact .inr ⟨by omega, z⟩
          · subst y; exact .inr ⟨by omega, z⟩, fun y => by
          rcases y with y | ⟨y, z⟩
          · exact .inl (.inl y)
          · by_cases w : i = x
            · subst w; exact .inr ⟨rfl, z⟩
            · exact .inl (.inr ⟨by omega, z⟩)⟩
/-! ### the week -/
def spWeek (S T : Addr) : Sp := fun vs H Q E => ∃ (u v w : V) (ds : List Dish) (lar : List Batch) (ps : List Pack), vs = [u, v, w] ∧ DishesAt H u ds ∧ LarderAt H v lar ∧ PacksAt H w ps ∧ FineShop ds lar ∧ ps.length ≤ 60 ∧ (∀ p ∈ ps, FinePack p) ∧
  ∀ (ys : List Str) H', Same H H' → ys.Perm (namesOf ds) → sortedS ys = true →
    (∀ nm d, firstBad ds lar ps ys = some (true, nm) → H d = none → H' d = some (wordX nm) → E (.ref T) (some d) H') ∧
    (∀ nm d, firstBad ds lar ps ys = some (false, nm) → H d = none → H' d = some (wordX nm) → E (.ref S) (some d) H') ∧
    (∀ p cp cs sv uv us ev, firstBad ds lar ps ys = none → ShopAt ds lar ps ys cs → H' cp = some (.tup (cs.map V.int)) → LarderAt H' sv (stockL lar ps cs) → cookedM ds (stockL lar ps cs) = Except.ok us → UsesAt H' uv us → TupAll IntsT H' ev (endsL (stockL lar ps cs) us) → H p = none → H' p = some (.tup [.ref cp, sv, uv, ev]) → Q (.ref p) H')
theorem stock_few {lar : List Batch} {ps : List Pack} {cs : List Int} (h : ps.length = cs.length) : (stockL lar ps cs).length ≤ lar.length + sumC cs := by
  unfold stockL
  rw [List.length_append]
  have := stockZ_le ps cs ps.length
  have e : (ps.zip cs).take ps.length = ps.zip cs := List.take_of_length_le (by rw [List.length_zip]; omega)
  rw [e] at this
  omega
theorem stock_fine {lar : List Batch} {ps : List Pack} {cs : List Int} (hl : ∀ b ∈ lar, 1 ≤ b.amount ∧ b.amount ≤ 200 ∧ 1 ≤ b.last) (hp : ∀ p ∈ ps, FinePack p) : ∀ b ∈ stockL lar ps cs, 1 ≤ b.amount ∧ b.amount ≤ 200 ∧ 1 ≤ b.last := fun b hb => by
  rcases List.mem_append.mp hb with z | z
  · exact hl b z
  · obtain ⟨p, hpm, hr⟩ := List.mem_flatMap.mp z
    rw [(List.mem_replicate.mp hr).2]
    have f := hp _ (List.of_mem_zip hpm).1
    exact ⟨f.size1, f.size2, f.last1⟩
/-- with the counts of a week nothing is short -/
theorem shop_cooks {ds : List Dish} {lar : List Batch} {ps : List Pack} {ys : List Str} {cs : List Int} {nm : Str} (F : FineShop ds lar) (pf : ∀ p ∈ ps, FinePack p) (hperm : ys.Perm (namesOf ds)) (hb : firstBad ds lar ps ys = none) (SA : ShopAt ds lar ps ys cs) : cookedM ds (stockL lar ps cs) ≠ Except.error nm := fun h => by
  obtain ⟨d, hd, x, hx, e⟩ := cooked_name h
  have hm : nm ∈ ys := hperm.mem_iff.mpr (e ▸ names_mem hd hx)
  have G := firstBad_good hb nm hm
  have ok := (SA.each nm hm).ok (offers_good pf nm) (F.good G.1)
  have := whole_err SA.len.symm pf SA.nn F.day (fun d hd x hx => by have := F.need d hd x hx; omega) (fun b hb => by have := F.bat b hb; omega) h
  rw [ok.2.2.1] at this
  cases this
end Lar
namespace Lar
open PySem PySem.Spec PyProof.Rows L2
/-! ### what is due, as data -/
def dueV : Option (Bool × Str) → List V
  | none => []
  | some (b, nm) => [.bl b, .bl (!b), .bl false, .bl true, .str nm]
def dueD : Option (Bool × Str) → PyData
  | none => .list []
  | some (b, nm) => .list [.bool b, .bool (!b), .bool false, .bool true, .str nm]
theorem dp_due {K : PySem.W.Frag} {H : Hp} {a : Addr} (r : Option (Bool × Str)) (h : H a = some (.lst (dueV r))) : Dp K H (.ref a) (dueD r) := by
  cases r with
  | none => exact .lst (sqL h) .nil
  | some p =>
    obtain ⟨b, nm⟩ := p
    exact .lst (sqL h) (.cons (.bl _) (.cons (.bl _) (.cons (.bl _) (.cons (.bl _) (.cons (.str _) .nil)))))
theorem due_lay {r : Option (Bool × Str)} (h : ∀ b nm, r = some (b, nm) → OkS nm) : (dueD r).canLay0 = true := by
  cases r with
  | none => unfold dueD; simp [PyData.canLay0, PyData.canLayAll0]
  | some p =>
    obtain ⟨b, nm⟩ := p
    have := (h b nm rfl).lay
    unfold dueD
    rw [PyData.canLay0]
    simp only [PyData.canLayAll0, this]
    simp [PyData.canLay0]
theorem due_shaped {r : Option (Bool × Str)} (h : ∀ b nm, r = some (b, nm) → OkS nm) : SeqAt.shaped (dueD r) = true := by
  have h1 := due_lay h
  unfold SeqAt.shaped
  rw [h1, Bool.true_and]
  refine decide_eq_true ?_
  cases r with
  | none => unfold dueD; simp [PyData.depth, PyData.depthAll]
  | some p => obtain ⟨b, nm⟩ := p; unfold dueD; simp [PyData.depth, PyData.depthAll]
theorem due_self {r : Option (Bool × Str)} (h : ∀ b nm, r = some (b, nm) → OkS nm) : PyData.eqv (dueD r) (dueD r) = true := SeqAt.eqv_refl _ (due_lay h)
theorem nil_shaped : SeqAt.shaped (.list []) = true := by
  unfold SeqAt.shaped
  simp [PyData.canLay0, PyData.canLayAll0, PyData.depth, PyData.depthAll]
theorem due_nil (r : Option (Bool × Str)) : PyData.eqv (dueD r) (.list []) = r.isNone := by
  cases r with
  | none => unfold dueD; simp [PyData.eqv, PyData.eqvAll]
  | some p => obtain ⟨b, nm⟩ := p; unfold dueD; simp [PyData.eqv, PyData.eqvAll]
/-! ### packs as data -/
def packD (p : Pack) : PyData := .tuple [.str p.name, .int p.size, .int p.price, .int p.last]
def packsD (ps : List Pack) : PyData := .list (ps.map packD)
theorem dp_pack {K : PySem.W.Frag} {H : Hp} (v : V) (p : Pack) (h : PackAt H v p) : Dp K H v (packD p) := by
  obtain ⟨t, rfl, ht⟩ := h
  exact .tup (sqT ht) (.cons (.str _) (.cons (.int _) (.cons (.int _) (.cons (.int _) .nil))))
theorem packD_lay {p : Pack} (h : FinePack p) : (packD p).canLay0 = true := by
  have := h.ok.lay
  unfold packD
  rw [PyData.canLay0]
  simp only [PyData.canLayAll0, this]
  simp [PyData.canLay0]
theorem packs_shaped {ps : List Pack} (h : ∀ p ∈ ps, FinePack p) : SeqAt.shaped (packsD ps) = true := by
  have h1 : ∀ ps : List Pack, (∀ p ∈ ps, FinePack p) → PyData.canLayAll0 (ps.map packD) = true := by
    intro ps
    induction ps with
    | nil => intro _; simp [PyData.canLayAll0]
    | cons p r ih => intro h; rw [List.map_cons, PyData.canLayAll0, packD_lay (h p List.mem_cons_self), ih fun q hq => h q (List.mem_cons_of_mem _ hq)]; rfl
  have h2 := deep_all (f := packD) (n := 1) (fun x => by unfold packD; simp [PyData.depth, PyData.depthAll]) ps
  unfold SeqAt.shaped packsD
  rw [PyData.canLay0, h1 ps h, Bool.true_and]
  refine decide_eq_true ?_
  rw [PyData.depth]
  omega
theorem packs_nil (ps : List Pack) : PyData.eqv (packsD ps) (.list []) = ps.isEmpty := by
  cases ps with
  | nil => unfold packsD; simp [PyData.eqv, PyData.eqvAll]
  | cons p r => unfold packsD; simp [PyData.eqv, PyData.eqvAll]
/-! ### the packs that keep -/
def fitsOf (ps : List Pack) (nm : Str) (day : Int) : List Pack := ps.filterMap fun p => if p.name = nm ∧ day ≤ p.last then some p else none
theorem fits_any (ps : List Pack) (nm : Str) (day : Int) : ((offersOf ps nm).any fun o => decide (day ≤ o.last)) = !(fitsOf ps nm day).isEmpty := by
  cases h : (fitsOf ps nm day) with
  | nil =>
    show _ = false
    refine List.any_eq_false.mpr fun o ho z => ?_
    unfold offersOf at ho
    obtain ⟨k, hk, rfl⟩ := List.mem_map.mp ho
    obtain ⟨k1, k2⟩ := of_mem hk
    have : ps.getD k pz ∈ fitsOf ps nm day := by
      unfold fitsOf
      exact List.mem_filterMap.mpr ⟨_, by rw [List.getD_eq_getElem?_getD, List.getElem?_eq_getElem k1]; exact List.getElem_mem k1, if_pos ⟨k2, of_decide_eq_true z⟩⟩
    rw [h] at this
    cases this
  | cons p r =>
    show _ = true
    have hm : p ∈ fitsOf ps nm day := by rw [h]; exact List.mem_cons_self
    unfold fitsOf at hm
    obtain ⟨q, hq, e⟩ := List.mem_filterMap.mp hm
    split at e
    · rename_i c
      cases e
      obtain ⟨k, hk, e2⟩ := List.getElem_of_mem hq
      refine List.any_eq_true.mpr ⟨offerOf (ps.getD k pz), ?_, ?_⟩
      · unfold offersOf
        refine List.mem_map.mpr ⟨k, ?_, rfl⟩
        unfold ofK
        refine List.mem_filterMap.mpr ⟨k, List.mem_range.mpr hk, if_pos ?_⟩
        rw [List.getD_eq_getElem?_getD, List.getElem?_eq_getElem hk]
        show ps[k].name = nm
        rw [e2]; exact c.1
      · refine decide_eq_true ?_
        rw [List.getD_eq_getElem?_getD, List.getElem?_eq_getElem hk]
        show day ≤ ps[k].last
        rw [e2]; exact c.2
    · cases e
theorem fitB_of {ds : List Dish} {lar : List Batch} {ps : List Pack} {nm : Str} (h : ∀ e, e < 7 → (lackW ds lar nm).getD e 0 ≤ 0 ∨ fitsOf ps nm (1 + (e : Nat)) ≠ []) : fitB (offersOf ps nm) (lackW ds lar nm) = true := by
  unfold fitB
  refine List.all_eq_true.mpr fun i hi => ?_
  rcases h i (List.mem_range.mp hi) with z | z
  · rw [decide_eq_true z]; rfl
  · rw [fits_any]
    cases q : fitsOf ps nm (1 + (i : Nat)) with
    | nil => exact absurd q z
    | cons a b => rw [show (!(a :: b).isEmpty) = true from rfl, Bool.or_true]
theorem fitB_not {ds : List Dish} {lar : List Batch} {ps : List Pack} {nm : Str} {e : Nat} (h : e < 7) (h1 : 0 < (lackW ds lar nm).getD e 0) (h2 : fitsOf ps nm (1 + (e : Nat)) = []) : fitB (offersOf ps nm) (lackW ds lar nm) = false := by
  cases q : fitB (offersOf ps nm) (lackW ds lar nm) with
  | false => rfl
  | true =>
    have := List.all_eq_true.mp q e (List.mem_range.mpr h)
    rw [fits_any, h2] at this
    rw [decide_eq_false (by omega)] at this
    cases this
def spDue : Sp := fun vs H Q _ => ∃ (u v w : V) (ds : List Dish) (lar : List Batch) (ps : List Pack), vs = [u, v, w] ∧ DishesAt H u ds ∧ LarderAt H v lar ∧ PacksAt H w ps ∧ FineShop ds lar ∧ ps.length ≤ 60 ∧ (∀ p ∈ ps, FinePack p) ∧
  ∀ p (ys : List Str) H', Same H H' → ys.Perm (namesOf ds) → sortedS ys = true → H' p = some (.lst (dueV (firstBad ds lar ps ys))) → Q (.ref p) H'
/-! ### counts set one pack after the other -/
def ofR (ps : List Pack) (nm : Str) (n : Nat) : List Nat := (List.range n).filterMap fun k => if (ps.getD k pz).name = nm then some k else none
theorem ofR_all (ps : List Pack) (nm : Str) : ofR ps nm ps.length = ofK ps nm := rfl
theorem ofR_yes {ps : List Pack} {nm : Str} {k : Nat} (h : (ps.getD k pz).name = nm) : ofR ps nm (k + 1) = ofR ps nm k ++ [k] := by
  unfold ofR
  rw [List.range_succ, List.filterMap_append]
  simp only [List.filterMap_cons, if_pos h, List.filterMap_nil]
theorem ofR_no {ps : List Pack} {nm : Str} {k : Nat} (h : ¬ (ps.getD k pz).name = nm) : ofR ps nm (k + 1) = ofR ps nm k := by
  unfold ofR
  rw [List.range_succ, List.filterMap_append]
  simp only [List.filterMap_cons, if_neg h, List.filterMap_nil, List.append_nil]
theorem ofR_le {ps : List Pack} {nm : Str} {k n : Nat} (h : k ≤ n) : (ofR ps nm k).length ≤ (ofR ps nm n).length := by
  unfold ofR
  exact (List.Sublist.filterMap _ (List.range_sublist.mpr h)).length_le
theorem zip_more {α β : Type} {z : β} {k : α} : ∀ {xs : List α} {zs : List β}, zs[xs.length]? = some z → (xs ++ [k]).zip zs = xs.zip zs ++ [(k, z)]
  | [], [], h => by cases h
  | [], y :: r, h => by
    have : y = z := Option.some.inj h
    subst this
    rfl
  | x :: xs, [], h => by cases h
  | x :: xs, y :: r, h => by
    have ih := zip_more (k := k) (xs := xs) (zs := r) (by simpa using h)
    rw [List.cons_append, List.zip_cons_cons, ih, List.zip_cons_cons]; rfl
theorem offers_flt (ps : List Pack) (nm : Str) : ps.filterMap (fun p => if p.name = nm then some (offerOf p) else none) = offersOf ps nm := by
  have e := map_getD (fun p : Pack => p) pz ps
  rw [List.map_id'] at e
  unfold offersOf ofK
  conv => lhs; rw [e]
  rw [List.filterMap_map, List.map_filterMap]
  congr 1
  funext k
  show (if (ps.getD k pz).name = nm then some (offerOf (ps.getD k pz)) else none) = Option.map _ (if (ps.getD k pz).name = nm then some k else none)
  by_cases c : (ps.getD k pz).name = nm
  · rw [if_pos c, if_pos c]; rfl
  · rw [if_neg c, if_neg c]; rfl
def spCountsDue : Sp := fun vs H Q _ => ∃ (u v w : V) (ds : List Dish) (lar : List Batch) (ps : List Pack), vs = [u, v, w] ∧ DishesAt H u ds ∧ LarderAt H v lar ∧ PacksAt H w ps ∧ FineShop ds lar ∧ ps.length ≤ 60 ∧ (∀ p ∈ ps, FinePack p) ∧ (∀ nm ∈ namesOf ds, GoodName ds lar ps nm) ∧
  ∀ p cs (ys : List Str) H', Same H H' → ys.Perm (namesOf ds) → sortedS ys = true → ShopAt ds lar ps ys cs → H' p = some (.lst (cs.map V.int)) → Q (.ref p) H'
end Lar
namespace Lar
open PySem PySem.Spec PyProof.Rows L2
/-! ### with packs put in that keep -/
theorem NameOf.ok {seed : Int} {x : Str} (h : NameOf seed x) : OkS x := by obtain ⟨k, _, e⟩ := h; rw [e]; exact nameBy_ok _ _
theorem NameOf.len {seed : Int} {x : Str} (h : NameOf seed x) : x.length ≤ 16 := by obtain ⟨k, _, e⟩ := h; rw [e]; exact nameBy_len _ _
theorem names_good {seed : Int} {ds : List Dish} (dg : ∀ d ∈ ds, GoodDish seed d) : ∀ nm ∈ namesOf ds, NameOf seed nm := fun nm h => by
  have h' : nm ∈ insAll [] (allS ds) := h
  rcases (insAll_mem (allS ds)).mp h' with z | z
  · cases z
  · exact allS_good dg nm z
theorem firstBad_mem {ds : List Dish} {lar : List Batch} {ps : List Pack} {b : Bool} {nm : Str} : ∀ {ys : List Str}, firstBad ds lar ps ys = some (b, nm) → nm ∈ ys
  | [], h => by cases h
  | x :: r, h => by
    have e' : (if 200 < allOf ds x then some (true, x) else if fitB (offersOf ps x) (lackW ds lar x) = true then firstBad ds lar ps r else some (false, x)) = some (b, nm) := h
    split at e'
    · cases e'; exact List.mem_cons_self
    · split at e'
      · exact List.mem_cons_of_mem _ (firstBad_mem e')
      · cases e'; exact List.mem_cons_self
def moreP (ys : List Str) : List Pack := ys.map fun nm => ⟨nm, 9, 5, 7⟩
theorem more_fine {ps : List Pack} {ys : List Str} {seed : Int} (pf : ∀ p ∈ ps, FinePack p) (hy : ∀ nm ∈ ys, NameOf seed nm) : ∀ p ∈ ps ++ moreP ys, FinePack p := fun p hp => by
  rcases List.mem_append.mp hp with z | z
  · exact pf p z
  · obtain ⟨nm, hn, rfl⟩ := List.mem_map.mp z
    exact ⟨by show (1 : Int) ≤ 9; decide, by show (9 : Int) ≤ 200; decide, by show (0 : Int) ≤ 5; decide, by show (5 : Int) ≤ 1000000; decide, by show (1 : Int) ≤ 7; decide, by show (7 : Int) ≤ 99; decide, (hy nm hn).ok, (hy nm hn).len⟩
theorem more_fit {ds : List Dish} {lar : List Batch} {ps : List Pack} {ys : List Str} {nm : Str} (h : nm ∈ ys) : fitB (offersOf (ps ++ moreP ys) nm) (lackW ds lar nm) = true := by
  refine fitB_of fun e he => .inr fun z => ?_
  have : (⟨nm, 9, 5, 7⟩ : Pack) ∈ fitsOf (ps ++ moreP ys) nm (1 + (e : Nat)) := by
    unfold fitsOf
    refine List.mem_filterMap.mpr ⟨⟨nm, 9, 5, 7⟩, List.mem_append_right _ (List.mem_map.mpr ⟨nm, h, rfl⟩), if_pos ⟨rfl, ?_⟩⟩
    show (1 + (e : Nat) : Int) ≤ 7
    omega
  rw [z] at this
  cases this
theorem more_bad {ds : List Dish} {lar : List Batch} {ps : List Pack} {ys : List Str} {nm : Str} : ∀ (zs : List Str), (∀ x ∈ zs, x ∈ ys) → firstBad ds lar (ps ++ moreP ys) zs ≠ some (false, nm)
  | [], _, h => by cases h
  | x :: r, hz, h => by
    have e' : (if 200 < allOf ds x then some (true, x) else if fitB (offersOf (ps ++ moreP ys) x) (lackW ds lar x) = true then firstBad ds lar (ps ++ moreP ys) r else some (false, x)) = some (false, nm) := h
    rw [if_pos (more_fit (hz x List.mem_cons_self))] at e'
    split at e'
    · cases e'
    · exact more_bad r (fun y hy => hz y (List.mem_cons_of_mem _ hy)) e'
theorem GoodDish.fineShop {seed : Int} {ds : List Dish} {lar : List Batch} (dl : ds.length ≤ 26) (ll : lar.length ≤ 120) (dg : ∀ d ∈ ds, GoodDish seed d) (lg : ∀ b ∈ lar, GoodBatch seed b) : FineShop ds lar ∧ (namesOf ds).length ≤ 12 := by
  have few : (namesOf ds).length ≤ 12 := names_few seed (allS ds) (allS_good dg)
  exact ⟨⟨by omega, fun d hd => (dg d hd).many, fun d hd => ⟨(dg d hd).day1, (dg d hd).day7⟩, fun d hd x hx => ((dg d hd).need x hx).1, by omega, by omega, fun b hb => ⟨(lg b hb).am1, (lg b hb).am2, (lg b hb).la1⟩⟩, few⟩
end Lar
namespace Lar
open PySem PySem.Spec PyProof.Rows L2
/-! ### no other counts that serve cost less -/
theorem serves_fit {os : List Offer} {ls cs : List Int} (hls : GoodLs ls) (sv : servesB os cs ls = true) : fitB os ls = true := by
  rw [serves_iff hls] at sv
  unfold fitB
  refine List.all_eq_true.mpr fun i hi => ?_
  have i7 := List.mem_range.mp hi
  cases q2 : os.any fun o => decide ((1 + (i : Nat) : Int) ≤ o.last) with
  | true => exact Bool.or_true _
  | false =>
    rw [Bool.or_false]
    refine decide_eq_true ?_
    have a := sv (i + 1) (by omega) (by omega)
    have b : heldOn os cs ((i + 1 : Nat) : Int) = 0 := by
      rw [heldOn_w]
      refine wsum_zero _ _ _ fun k o c ho _ _ => ?_
      have := List.any_eq_false.mp q2 o (List.mem_of_getElem? ho)
      have n : ¬ ((1 + (i : Nat) : Int) ≤ o.last) := fun z => this (decide_eq_true z)
      unfold onto
      rw [if_neg (by omega)]
    rw [b] at a
    unfold lackAt at a
    rw [Nat.add_sub_cancel] at a
    omega
theorem bought_least {os : List Offer} {ls cs cs' : List Int} (hg : ∀ o ∈ os, GoodOffer o) (hls : GoodLs ls) (b : Bought os ls cs) (hn : ∀ x ∈ cs', 0 ≤ x) (sv : servesB os cs' ls = true) : costOf os cs ≤ costOf os cs' := by
  obtain ⟨rows, T, e⟩ := b
  obtain ⟨c, hc, hle⟩ := serve_cell T hg hls hn sv
  obtain ⟨cs2, e2, _, _, cost, _⟩ := bought_ok T hg hls hc
  rw [e] at e2
  cases e2
  omega
/-- the price of the k-th pack, as often as it is counted -/
def priceAt (ps : List Pack) (cs : List Int) (k : Nat) : Int := (ps.getD k pz).price * cs.getD k 0
theorem total_range (ps : List Pack) (cs : List Int) (h : ps.length = cs.length) : totalP ps cs = sumR ps.length (priceAt ps cs) := by
  unfold totalP sumR
  rw [zipP_range ps cs h, List.map_map]
  rfl
theorem cost_of (ps : List Pack) (cs : List Int) (nm : Str) : costOf (offersOf ps nm) (countsOf cs (ofK ps nm)) = ((ofK ps nm).map (priceAt ps cs)).sum := by
  unfold costOf offersOf countsOf
  rw [zip_map2, List.map_map]
  rfl
theorem sum_flt (g : Nat → Int) (c : Nat → Prop) [DecidablePred c] : ∀ xs : List Nat, ((xs.filterMap fun k => if c k then some k else none).map g).sum = (xs.map fun k => if c k then g k else 0).sum
  | [] => rfl
  | x :: r => by
    have ih := sum_flt g c r
    by_cases h : c x
    · simp only [List.filterMap_cons, if_pos h, List.map_cons, List.sum_cons, ih]
    · simp only [List.filterMap_cons, if_neg h, List.map_cons, List.sum_cons, ih, Int.zero_add]
theorem cost_sum (ps : List Pack) (cs : List Int) (nm : Str) : costOf (offersOf ps nm) (countsOf cs (ofK ps nm)) = sumR ps.length fun k => if (ps.getD k pz).name = nm then priceAt ps cs k else 0 := by
  rw [cost_of]
  unfold ofK sumR
  exact sum_flt (priceAt ps cs) (fun k => (ps.getD k pz).name = nm) (List.range ps.length)
/-- what the packs of these names cost -/
def costIn (ps : List Pack) (cs : List Int) (ys : List Str) : Int := sumR ps.length fun k => if (ps.getD k pz).name ∈ ys then priceAt ps cs k else 0
theorem costIn_cons {ps : List Pack} {cs : List Int} {nm : Str} {ys : List Str} (h : nm ∉ ys) : costIn ps cs (nm :: ys) = costOf (offersOf ps nm) (countsOf cs (ofK ps nm)) + costIn ps cs ys := by
  rw [cost_sum]
  unfold costIn
  rw [sumR_add]
  refine sumR_congr fun k _ => ?_
  by_cases e : (ps.getD k pz).name = nm
  · have n : (ps.getD k pz).name ∉ ys := fun z => h (e ▸ z)
    rw [if_pos (by rw [e]; exact List.mem_cons_self), if_pos e, if_neg n, Int.add_zero]
  · by_cases m : (ps.getD k pz).name ∈ ys
    · rw [if_pos (List.mem_cons_of_mem _ m), if_neg e, if_pos m, Int.zero_add]
    · rw [if_neg (fun z => (List.mem_cons.mp z).elim e m), if_neg e, if_neg m]; rfl
theorem costIn_le {ps : List Pack} {cs cs' : List Int} : ∀ (ys : List Str), ys.Nodup → (∀ nm ∈ ys, costOf (offersOf ps nm) (countsOf cs (ofK ps nm)) ≤ costOf (offersOf ps nm) (countsOf cs' (ofK ps nm))) → costIn ps cs ys ≤ costIn ps cs' ys
  | [], _, _ => by
    unfold costIn
    exact Int.le_of_eq (sumR_congr fun k _ => by rw [if_neg (fun z => nomatch z), if_neg (fun z => nomatch z)])
  | nm :: r, hn, h => by
    have hn' := List.nodup_cons.mp hn
    rw [costIn_cons hn'.1, costIn_cons hn'.1]
    have a := h nm List.mem_cons_self
    have b := costIn_le r hn'.2 fun x hx => h x (List.mem_cons_of_mem _ hx)
    omega
theorem price_nn {ps : List Pack} {cs : List Int} (hp : ∀ p ∈ ps, FinePack p) (hc : ∀ c ∈ cs, 0 ≤ c) {k : Nat} (hk : k < ps.length) : 0 ≤ priceAt ps cs k := by
  unfold priceAt
  refine Int.mul_nonneg ?_ ?_
  · rw [List.getD_eq_getElem?_getD, List.getElem?_eq_getElem hk]
    exact (hp _ (List.getElem_mem hk)).price0
  · rw [List.getD_eq_getElem?_getD]
    cases e : cs[k]? with
    | none => exact Int.le_refl _
    | some c => exact hc c (List.mem_of_getElem? e)
theorem sumR_le {f g : Nat → Int} : ∀ {n : Nat}, (∀ k, k < n → f k ≤ g k) → sumR n f ≤ sumR n g
  | 0, _ => Int.le_refl _
  | n + 1, h => by
    have ih := sumR_le (n := n) fun k hk => h k (by omega)
    have := h n (by omega)
    rw [sumR_succ, sumR_succ]
    omega
theorem shop_least {ds : List Dish} {lar : List Batch} {ps : List Pack} {ys : List Str} {cs cs' : List Int} (F : FineShop ds lar) (pf : ∀ p ∈ ps, FinePack p) (ynd : ys.Nodup) (good : ∀ nm ∈ ys, GoodName ds lar ps nm) (S : ShopAt ds lar ps ys cs) (hl : ps.length = cs'.length) (hn : ∀ c ∈ cs', 0 ≤ c)
    (sv : ∀ nm ∈ ys, servesB (offersOf ps nm) (countsOf cs' (ofK ps nm)) (lackW ds lar nm) = true) : totalP ps cs ≤ totalP ps cs' := by
  have e1 : totalP ps cs = costIn ps cs ys := by
    rw [total_range ps cs S.len.symm]
    unfold costIn
    refine sumR_congr fun k hk => ?_
    by_cases m : (ps.getD k pz).name ∈ ys
    · rw [if_pos m]
    · rw [if_neg m]
      unfold priceAt
      rw [S.rest k hk m, Int.mul_zero]
  have e2 : costIn ps cs' ys ≤ totalP ps cs' := by
    rw [total_range ps cs' hl]
    unfold costIn
    refine sumR_le fun k hk => ?_
    have := price_nn pf hn hk
    split <;> omega
  have := costIn_le (ps := ps) (cs := cs) (cs' := cs') ys ynd fun nm h => bought_least (offers_good pf nm) (F.good (good nm h).1) (S.each nm h) (counts_nn hn _) (sv nm h)
  omega
end Lar
namespace Lar
open PySem PySem.Spec PyProof.Rows L2
/-! ### dicts of sums by names -/
structure NTally (kvs : List (L2.Key × V)) (ks : List Str) (f : Str → Int) : Prop where
  keys : kvs.map (·.1) = ks.map Sum.inr
  nd : ks.Nodup
  val : ∀ nm : Str, (valV kvs (Sum.inr nm : L2.Key)).getD (.int 0) = .int (f nm)
theorem NTally.nil : NTally [] [] (fun _ => 0) := ⟨rfl, List.nodup_nil, fun _ => rfl⟩
theorem NTally.put {kvs : List (L2.Key × V)} {ks : List Str} {f g : Str → Int} (T : NTally kvs ks f) {nm : Str} {z : Int} (h1 : g nm = z) (h2 : ∀ m, m ≠ nm → g m = f m) : NTally (putK kvs (Sum.inr nm) (.int z)) (insS ks nm) g := by
  refine ⟨putK_keys T.keys, insS_nodup T.nd, fun m => ?_⟩
  rw [valV_put]
  by_cases e : (Sum.inr m : L2.Key) = Sum.inr nm
  · rw [if_pos e, Sum.inr.inj e, h1]; rfl
  · rw [if_neg e, h2 m (fun z => e (by rw [z]))]
    exact T.val m
theorem NTally.len {kvs : List (L2.Key × V)} {ks : List Str} {f : Str → Int} (T : NTally kvs ks f) : kvs.length = ks.length := by
  rw [← List.length_map (f := (·.1)), T.keys, List.length_map]
theorem valV_mem : ∀ {kvs : List (L2.Key × V)} {p : L2.Key × V}, (kvs.map (·.1)).Nodup → p ∈ kvs → valV kvs p.1 = some p.2
  | [], _, _, h => nomatch h
  | q :: r, p, hn, h => by
    rw [List.map_cons] at hn
    have hn' := List.nodup_cons.mp hn
    rcases List.mem_cons.mp h with rfl | h
    · exact valV_pos rfl
    · have ne : ¬ q.1 = p.1 := fun e => hn'.1 (e ▸ List.mem_map.mpr ⟨p, h, rfl⟩)
      rw [valV_neg ne]
      exact valV_mem hn'.2 h
theorem nodup_inr : ∀ {ks : List Str}, ks.Nodup → (ks.map (Sum.inr : Str → L2.Key)).Nodup
  | [], _ => List.nodup_nil
  | k :: r, h => by
    have h' := List.nodup_cons.mp h
    rw [List.map_cons]
    refine List.nodup_cons.mpr ⟨fun z => ?_, nodup_inr h'.2⟩
    obtain ⟨y, hy, e⟩ := List.mem_map.mp z
    exact h'.1 (Sum.inr.inj e ▸ hy)
theorem NTally.eq {kvs ls : List (L2.Key × V)} {ks ms : List Str} {f : Str → Int} (T : NTally kvs ks f) (U : NTally ls ms f) (h : ∀ nm, nm ∈ ks ↔ nm ∈ ms) : kvs.length = ls.length ∧ ∀ p ∈ kvs, valV ls p.1 = some p.2 ∧ flatB p.2 = true := by
  refine ⟨?_, fun p hp => ?_⟩
  · rw [T.len, U.len]
    have a := nodup_len ks ms T.nd fun x hx => (h x).mp hx
    have b := nodup_len ms ks U.nd fun x hx => (h x).mpr hx
    omega
  · have hk : p.1 ∈ ks.map Sum.inr := by rw [← T.keys]; exact List.mem_map.mpr ⟨p, hp, rfl⟩
    obtain ⟨nm, hnm, e⟩ := List.mem_map.mp hk
    have v1 := valV_mem (by rw [T.keys]; exact nodup_inr T.nd) hp
    have t := T.val nm
    rw [e, v1] at t
    have t' : p.2 = .int (f nm) := t
    have u := U.val nm
    rw [e] at u
    cases q : valV ls p.1 with
    | none =>
      have := valV_not q
      rw [U.keys] at this
      exact absurd (List.mem_map.mpr ⟨nm, (h nm).mp hnm, e⟩) this
    | some y =>
      rw [q] at u
      have u' : y = .int (f nm) := u
      rw [u', t']
      exact ⟨rfl, rfl⟩
theorem usedN_mem (lar : List Batch) (nm : Str) : ∀ ps : List Use, (∀ p ∈ ps, 1 ≤ p.2) → 0 ≤ usedN lar nm ps ∧ ((∃ p ∈ ps, (lar.getD p.1 bz).name = nm) ↔ 0 < usedN lar nm ps)
  | [], _ => ⟨Int.le_refl _, ⟨(fun ⟨_, h, _⟩ => nomatch h), fun h => absurd h (by show ¬ (0 : Int) < 0; decide)⟩⟩
  | p :: r, h => by
    obtain ⟨a, b⟩ := usedN_mem lar nm r fun q hq => h q (List.mem_cons_of_mem _ hq)
    have hp := h p List.mem_cons_self
    have e : usedN lar nm (p :: r) = (if (lar.getD p.1 bz).name = nm then p.2 else 0) + usedN lar nm r := by unfold usedN; rw [List.map_cons, List.sum_cons]
    rw [e]
    by_cases c : (lar.getD p.1 bz).name = nm
    · rw [if_pos c]
      exact ⟨by omega, ⟨fun _ => by omega, fun _ => ⟨p, List.mem_cons_self, c⟩⟩⟩
    · rw [if_neg c, Int.zero_add]
      refine ⟨a, ⟨fun ⟨q, hq, e2⟩ => ?_, fun z => ?_⟩⟩
      · rcases List.mem_cons.mp hq with rfl | hq
        · exact absurd e2 c
        · exact b.mp ⟨q, hq, e2⟩
      · obtain ⟨q, hq, e⟩ := b.mpr z
        exact ⟨q, List.mem_cons_of_mem _ hq, e⟩
def needS (nm : Str) (xs : List Need) : Int := (xs.filterMap fun x => if x.1 = nm then some x.2 else none).sum
theorem needS_snoc (nm : Str) (xs : List Need) (x : Need) : needS nm (xs ++ [x]) = needS nm xs + if x.1 = nm then x.2 else 0 := by
  unfold needS
  rw [List.filterMap_append, List.sum_append]
  by_cases c : x.1 = nm
  · simp [c]
  · simp [c]
theorem needS_mem (nm : Str) : ∀ xs : List Need, (∀ x ∈ xs, 1 ≤ x.2) → 0 ≤ needS nm xs ∧ ((∃ x ∈ xs, x.1 = nm) ↔ 0 < needS nm xs)
  | [], _ => ⟨Int.le_refl _, ⟨(fun ⟨_, h, _⟩ => nomatch h), fun h => absurd h (by show ¬ (0 : Int) < 0; decide)⟩⟩
  | p :: r, h => by
    obtain ⟨a, b⟩ := needS_mem nm r fun q hq => h q (List.mem_cons_of_mem _ hq)
    have hp := h p List.mem_cons_self
    by_cases c : p.1 = nm
    · have e : needS nm (p :: r) = p.2 + needS nm r := by unfold needS; simp [c]
      rw [e]
      exact ⟨by omega, ⟨fun _ => by omega, fun _ => ⟨p, List.mem_cons_self, c⟩⟩⟩
    · have e : needS nm (p :: r) = needS nm r := by unfold needS; simp [c]
      rw [e]
      refine ⟨a, ⟨fun ⟨q, hq, e2⟩ => ?_, fun z => ?_⟩⟩
      · rcases List.mem_cons.mp hq with rfl | hq
        · exact absurd e2 c
        · exact b.mp ⟨q, hq, e2⟩
      · obtain ⟨q, hq, e⟩ := b.mpr z
        exact ⟨q, List.mem_cons_of_mem _ hq, e⟩
def nameU (lar : List Batch) (p : Use) : Str := (lar.getD p.1 bz).name
/-- the names of what is used are those of what is needed -/
theorem fits_names {lar : List Batch} {d : Dish} {ps : List Use} (F : FitsD lar d ps) (hn : ∀ x ∈ d.2, 1 ≤ x.2) (nm : Str) : nm ∈ insAll [] (ps.map (nameU lar)) ↔ nm ∈ insAll [] (d.2.map (·.1)) := by
  rw [insAll_mem, insAll_mem]
  have a := (usedN_mem lar nm ps fun p hp => (F.each p hp).2.1).2
  have b := (needS_mem nm d.2 hn).2
  have e : usedN lar nm ps = needS nm d.2 := F.all nm
  constructor
  · rintro (z | z)
    · cases z
    · obtain ⟨p, hp, e2⟩ := List.mem_map.mp z
      have := a.mp ⟨p, hp, e2⟩
      obtain ⟨x, hx, e3⟩ := b.mpr (by omega)
      exact .inr (List.mem_map.mpr ⟨x, hx, e3⟩)
  · rintro (z | z)
    · cases z
    · obtain ⟨x, hx, e2⟩ := List.mem_map.mp z
      have := b.mp ⟨x, hx, e2⟩
      obtain ⟨p, hp, e3⟩ := a.mpr (by omega)
      exact .inr (List.mem_map.mpr ⟨p, hp, e3⟩)
def spDishFits : Sp := fun vs H Q _ => ∃ (dv uv lv : V) (l : Addr) (d : Dish) (ps : List Use) (lar : List Batch) (f : Nat → Int), vs = [dv, uv, lv, .ref l] ∧ DishAt H dv d ∧ PairsAt H uv ps ∧ LarderAt H lv lar ∧ H l = some (.lst ((leftL lar f).map V.int)) ∧ FitsD lar d ps ∧ (∀ x ∈ d.2, 1 ≤ x.2) ∧ d.2.length ≤ 20 ∧ lar.length ≤ 50000 ∧
  ∀ H', SameBut l H H' → H' l = some (.lst ((leftL lar fun k => f k + usedP ps k).map V.int)) → Q (.bl true) H'
theorem insAll_app1 (xs : List Str) (x : Str) : insAll [] (xs ++ [x]) = insS (insAll [] xs) x := insAll_snoc [] xs x
end Lar
namespace Lar
open PySem PySem.Spec PyProof.Rows L2
local macro_rules | `(tactic| walk_at "rd") => `(tactic| repeat' first
  | refine ⟨_, rfl, ?_⟩
  | refine ⟨_, _, rfl, rfl, ?_⟩
  | refine ⟨_, _, rfl, ?_⟩
  | refine ⟨rfl, ?_⟩
  | refine ⟨⟨_, rfl⟩, ?_⟩
  | refine ⟨(by show (0 : Int) < _; decide), ?_⟩
  | refine ⟨⟨by decide, by decide⟩, ?_⟩
  | refine ⟨.inr ⟨by decide, by decide⟩, ?_⟩
  | refine ⟨.inl ⟨by decide, by decide⟩, ?_⟩
  | refine ⟨.inl ⟨by omega, by omega⟩, ?_⟩
  | refine ⟨.inr ⟨by omega, by omega⟩, ?_⟩
  | fail "rd")
def topS (i : Nat) : Stmt := PySem.Challenge.pw_larderlist_k10_whole_week_serves.main.body.getD i (.Pass ⟨0, 0, 0, 0⟩)
abbrev s_mix : Stmt := topS 41
theorem sc_mix : FnScope ["_law_cell", "_law_k", "_law_x"] ["_law_cell", "_law_k"] (defScope s_mix) := ⟨rfl, rfl, rfl, by decide +kernel, rfl, by decide +kernel, by decide +kernel⟩
theorem bd_mix : ∀ (kV doc pm : Value) (an : Option Addr) (cdv ct : Value) (us : List Value), us.length = (["_law_cell", "_law_k"] : List Str).length → bindArgs (PySem.W.fnOf "_law_mix" "_law_mix" (defArgs s_mix) (defBody s_mix) (defScope s_mix) .none kV doc pm an cdv ct) ⟨us, []⟩ = pure ((["_law_cell", "_law_k"] : List Str).zip us) := fun _ _ _ _ _ _ us hl => match us, hl with | [_, _], _ => rfl
/-- a cell mixed: between 0 and a bound -/
def spMix : Sp := fun vs H Q _ => ∃ c k : Int, vs = [.int c, .int k] ∧ 0 ≤ k ∧ k ≤ 1000000 ∧ ∀ z : Int, 0 ≤ z → z < 998244353 → Q (.int z) H
theorem ok_mix {P : Program} {w : World} {K : PySem.W.Frag} {mg : Str → Option Value} {base : Heap} (D : DefAt K mg "_law_mix" s_mix) : Clb P w K mg base 1 "_law_mix" ["_law_cell", "_law_k"] spMix := by
  refine D.clb sc_mix (fun vs H Q E h => ?_) bd_mix (fun f cdv A outer s H vs Q E hr h => ?_)
  · obtain ⟨c, k, rfl, _⟩ := h
    rfl
  · obtain ⟨c, k, rfl, h0, h1, q⟩ := h
    refine ⟨_, (pss_cons (ps_set (i := 2) sc_mix.nd rfl (.inl rfl) (pe_op op_mod (pe_op op_add (pe_op op_add (pv 0) (pe_op op_mul pe_int (pv 1))) (pe_op op_mul (pe_op op_mul pe_int (pv 1)) (pv 1))) pe_int))
    (pss_one (ps_ret (pe_op op_mod (pe_op op_mul (pe_op op_mod (pe_op op_mul (pv 2) (pv 2)) pe_int) pe_int) pe_int)))), ?_⟩
    walk_at "rd"
    exact q _ (Int.emod_nonneg _ (by decide)) (Int.emod_lt_of_pos _ (by decide))
/-- the cells: a list of numbers from 0 up -/
def CellsAt (K : PySem.W.Frag) (H : Hp) (a : Addr) : Prop := ∃ cs : List Int, SqL K H a (cs.map V.int) ∧ cs.length ≤ 63 ∧ ∀ c ∈ cs, 0 ≤ c ∧ c < 1000000000000000003
theorem CellsAt.same {K : PySem.W.Frag} {H H' : Hp} {a : Addr} (h : CellsAt K H a) (e : Same H H') : CellsAt K H' a := by
  obtain ⟨cs, h1, h2⟩ := h
  exact ⟨cs, e.seq h1, h2⟩
abbrev s_cell_at : Stmt := topS 40
theorem sc_cell_at : FnScope ["_law_cells", "_law_k"] ["_law_cells", "_law_k"] (defScope s_cell_at) := ⟨rfl, rfl, rfl, by decide +kernel, rfl, by decide +kernel, by decide +kernel⟩
theorem bd_cell_at : ∀ (kV doc pm : Value) (an : Option Addr) (cdv ct : Value) (us : List Value), us.length = (["_law_cells", "_law_k"] : List Str).length → bindArgs (PySem.W.fnOf "_law_cell_at" "_law_cell_at" (defArgs s_cell_at) (defBody s_cell_at) (defScope s_cell_at) .none kV doc pm an cdv ct) ⟨us, []⟩ = pure ((["_law_cells", "_law_k"] : List Str).zip us) := fun _ _ _ _ _ _ us hl => match us, hl with | [_, _], _ => rfl
def spCellAt (K : PySem.W.Frag) : Sp := fun vs H Q _ => ∃ (a : Addr) (k : Int), vs = [.ref a, .int k] ∧ CellsAt K H a ∧ 0 ≤ k ∧ k ≤ 1000 ∧ ∀ z : Int, 0 ≤ z → z < 1000000000000000003 → Q (.int z) H
theorem ok_cell_at {P : Program} {w : World} {K : PySem.W.Frag} {mg : Str → Option Value} {base : Heap} (D : DefAt K mg "_law_cell_at" s_cell_at) (m_len : mg "len" = none) : Clb P w K mg base 1 "_law_cell_at" ["_law_cells", "_law_k"] (spCellAt K) := by
  refine D.clb sc_cell_at (fun vs H Q E h => ?_) bd_cell_at (fun f cdv A outer s H vs Q E hr h => ?_)
  · obtain ⟨a, k, rfl, _⟩ := h
    rfl
  · obtain ⟨a, k, rfl, ⟨cs, hc, hl, hb⟩, h0, h1, q⟩ := h
    refine ⟨_, (pss_cons (ps_if (pt_cmpR op_lt (pv 1) (pe_callB (kcall_len_seq K) (by rfl) m_len (by decide +kernel) (pa_cons (pv 0) pa_nil)) (nomark _))
      (pss_one (ps_ret (pe_ix (kix_list K) (pv 0) (pv 1) (fun _ _ => rfl))))
      pss_nil)
    (pss_one (ps_ret (pe_op op_mul (pe_op op_mul (pe_op op_add (pv 1) pe_int) (pe_op op_add (pv 1) pe_int)) pe_int)))), ?_⟩
    refine ⟨_, rfl, _, rfl, a, _, rfl, .inl hc, ?_⟩
    walk_at "rd"
    refine it_lt (fun hlt => ?_) (fun _ => ?_)
    · rw [List.length_map] at hlt
      have hk : k.toNat < cs.length := by omega
      refine ⟨_, rfl, _, rfl, a, _, _, .int cs[k.toNat], rfl, rfl, hc, at_of (j := k.toNat) (by omega) (ix_map (List.getElem?_eq_getElem hk)), ?_⟩
      exact q _ (hb _ (List.getElem_mem hk)).1 (hb _ (List.getElem_mem hk)).2
    · walk_at "rd"
      have h3 : 0 ≤ (k + 3) * (k + 7) := Int.mul_nonneg (by omega) (by omega)
      have h4 : (k + 3) * (k + 7) ≤ 1003 * (k + 7) := Int.mul_le_mul_of_nonneg_right (by omega) (by omega)
      exact q _ (by show 0 ≤ (k + 3) * (k + 7) * 7919; omega) (by show (k + 3) * (k + 7) * 7919 < _; omega)
abbrev s_mixed : Stmt := topS 39
theorem sc_mixed : FnScope ["_law_script", "_law_found", "_law_more", "_law_cell"] ["_law_script"] (defScope s_mixed) := ⟨rfl, rfl, rfl, by decide +kernel, rfl, by decide +kernel, by decide +kernel⟩
theorem bd_mixed : ∀ (kV doc pm : Value) (an : Option Addr) (cdv ct : Value) (us : List Value), us.length = (["_law_script"] : List Str).length → bindArgs (PySem.W.fnOf "_law_mixed" "_law_mixed" (defArgs s_mixed) (defBody s_mixed) (defScope s_mixed) .none kV doc pm an cdv ct) ⟨us, []⟩ = pure ((["_law_script"] : List Str).zip us) := fun _ _ _ _ _ _ us hl => match us, hl with | [_], _ => rfl
def spMixed (K : PySem.W.Frag) : Sp := fun vs H Q _ => ∃ (a : Addr) (ns : List Int), vs = [.ref a] ∧ SqL K H a (ns.map V.int) ∧ ns.length ≤ 63 ∧ ∀ p H', Same H H' → CellsAt K H' p → Q (.ref p) H'
theorem ok_mixed {P : Program} {w : World} {K : PySem.W.Frag} {mg : Str → Option Value} {base : Heap} (D : DefAt K mg "_law_mixed" s_mixed) : Clb P w K mg base 1 "_law_mixed" ["_law_script"] (spMixed K) := by
  refine D.clb sc_mixed (fun vs H Q E h => ?_) bd_mixed (fun f cdv A outer s H vs Q E hr h => ?_)
  · obtain ⟨a, ns, rfl, _⟩ := h
    rfl
  · obtain ⟨a, ns, rfl, hS, hl, q⟩ := h
    refine ⟨_, (pss_cons (ps_set (i := 1) sc_mixed.nd rfl (.inl rfl) (pe_lst pa_nil))
    (pss_cons (ps_set (i := 2) sc_mixed.nd rfl (.inl rfl) pe_int)
    (pss_cons (ps_for PassesOwn.never rfl (kpi_list K (pv 0)) (pg_name (i := 3) sc_mixed.nd rfl (.inl rfl))
      (pss_cons (ps_set (i := 2) sc_mixed.nd rfl (.inl rfl) (pe_op op_mod (pe_op op_add (pe_op op_add (pe_op op_mul (pv 2) pe_int) (pv 3)) pe_int) pe_int))
    (pss_one (ps_expr (kpe_bm K PySem.F.plainAttrs_list PySem.F.slot_list_append PySem.F.type_list_append mt_append (pv 1) (pa_cons (pv 2) pa_nil))))))
    (pss_one (ps_ret (pv 1)))))), ?_⟩
    refine ⟨Nat.zero_le _, fun p hp => ?_⟩
    refine ⟨_, rfl, a, rfl, ⟨_, (same_upd hp).seq hS⟩, for_list (xs := ns.map V.int) (fun i σ H' => ∃ (cs : List Int) (m : Int) (y : Option V), σ = [some (.ref a), some (.ref p), some (.int m), y] ∧ Same H H' ∧ H' p = some (.lst (cs.map V.int)) ∧ cs.length = i ∧
      (0 ≤ m ∧ m < 1000000000000000003) ∧ ∀ c ∈ cs, 0 ≤ c ∧ c < 1000000000000000003) ⟨[], 1, none, rfl, same_upd hp, upd_same, rfl, by decide, fun _ h => nomatch h⟩ (fun i σ H' _ h => ?_) (fun i x σ H' hx h => ?_) (fun σ H' h => ?_)⟩
    · obtain ⟨cs, m, y, _, sm, _⟩ := h
      exact sm.seq hS
    · obtain ⟨cs, m, y, rfl, sm, hcs, hi, hm, hb⟩ := h
      obtain ⟨n, hn, rfl⟩ := map_ix hx
      have hlt : i < ns.length := (List.getElem?_eq_some_iff.mp hn).1
      walk_at "rd"
      refine ⟨.inl ⟨rfl, _, sqL hcs⟩, ?_⟩
      refine ⟨_, rfl, p, _, _, rfl, rfl, hcs, small' (by rw [List.length_map]; omega), ?_⟩
      have h1 : 0 ≤ (m * 6364136223846793005 + n + 1442695040888963407) % 1000000000000000003 := Int.emod_nonneg _ (by decide)
      have h2 : (m * 6364136223846793005 + n + 1442695040888963407) % 1000000000000000003 < 1000000000000000003 := Int.emod_lt_of_pos _ (by decide)
      refine ⟨cs ++ [(m * 6364136223846793005 + n + 1442695040888963407) % 1000000000000000003], _, _, rfl, sm.mut hp, ?_, ?_, ⟨h1, h2⟩, fun c hc => ?_⟩
      · rw [upd_same, List.map_append]; rfl
      · rw [List.length_append, hi]; rfl
      · rcases List.mem_append.mp hc with z | z
        · exact hb c z
        · rw [List.mem_singleton.mp z]
          exact ⟨h1, h2⟩
    · obtain ⟨cs, m, y, rfl, sm, hcs, hi, hm, hb⟩ := h
      rw [List.length_map] at hi
      exact ⟨_, rfl, q p H' sm ⟨cs, sqL hcs, by omega, hb⟩⟩
abbrev s_whole : Stmt := topS 42
theorem sc_whole : FnScope ["_law_found"] ["_law_found"] (defScope s_whole) := ⟨rfl, rfl, rfl, by decide +kernel, rfl, by decide +kernel, by decide +kernel⟩
theorem bd_whole : ∀ (kV doc pm : Value) (an : Option Addr) (cdv ct : Value) (us : List Value), us.length = (["_law_found"] : List Str).length → bindArgs (PySem.W.fnOf "_law_whole" "_law_whole" (defArgs s_whole) (defBody s_whole) (defScope s_whole) .none kV doc pm an cdv ct) ⟨us, []⟩ = pure ((["_law_found"] : List Str).zip us) := fun _ _ _ _ _ _ us hl => match us, hl with | [_], _ => rfl
def spWhole : Sp := fun vs H Q _ => ∃ n : Int, vs = [.int n] ∧ Q (.bl true) H
theorem ok_whole {P : Program} {w : World} {K : PySem.W.Frag} {mg : Str → Option Value} {base : Heap} (D : DefAt K mg "_law_whole" s_whole) (m_isinstance : mg "isinstance" = none) (m_int : mg "int" = none) (m_bool : mg "bool" = none) :
    Clb P w K mg base 1 "_law_whole" ["_law_found"] spWhole := by
  refine D.clb sc_whole (fun vs H Q E h => ?_) bd_whole (fun f cdv A outer s H vs Q E hr h => ?_)
  · obtain ⟨n, rfl, _⟩ := h
    rfl
  · obtain ⟨n, rfl, q⟩ := h
    refine ⟨_, (pss_one (ps_ret (pe_and (pe_callB (kcall_isi K) (by rfl) m_isinstance (by decide +kernel) (pa_cons (pv 0) (pa_cons (pe_bltn (v := .ty "int") (u := .type "int") (by rfl) m_int (by decide +kernel) rfl) pa_nil))) (pe_one (pe_not (pe_callB (kcall_isi K) (by rfl) m_isinstance (by decide +kernel) (pa_cons (pv 0) (pa_cons (pe_bltn (v := .ty "bool") (u := .type "bool") (by rfl) m_bool (by decide +kernel) rfl) pa_nil)))))))), ?_⟩
    refine ⟨_, rfl, ?_⟩
    refine ⟨_, _, _, _, true, rfl, .ty _, .base (.int n), kit_ty (by decide +kernel), ?_⟩
    refine ⟨_, rfl, iteT ?_⟩
    refine ⟨_, rfl, ?_⟩
    refine ⟨_, _, _, _, false, rfl, .ty _, .base (.int n), kit_ty (by decide +kernel), ?_⟩
    exact ⟨_, rfl, q⟩
abbrev s_numbers : Stmt := topS 43
theorem sc_numbers : FnScope ["_law_found", "_law_due_here", "_law_k"] ["_law_found", "_law_due_here"] (defScope s_numbers) := ⟨rfl, rfl, rfl, by decide +kernel, rfl, by decide +kernel, by decide +kernel⟩
theorem bd_numbers : ∀ (kV doc pm : Value) (an : Option Addr) (cdv ct : Value) (us : List Value), us.length = (["_law_found", "_law_due_here"] : List Str).length → bindArgs (PySem.W.fnOf "_law_numbers" "_law_numbers" (defArgs s_numbers) (defBody s_numbers) (defScope s_numbers) .none kV doc pm an cdv ct) ⟨us, []⟩ = pure ((["_law_found", "_law_due_here"] : List Str).zip us) := fun _ _ _ _ _ _ us hl => match us, hl with | [_, _], _ => rfl
def spNumbers (K : PySem.W.Frag) : Sp := fun vs H Q _ => ∃ (a b : Addr) (ns : List Int), vs = [.ref a, .ref b] ∧ H a = some (.tup (ns.map V.int)) ∧ (SqL K H b (ns.map V.int) ∨ SqT K H b (ns.map V.int)) ∧ ns.length ≤ 1000 ∧ Q (.bl true) H
theorem ok_numbers {P : Program} {w : World} {K : PySem.W.Frag} {mg : Str → Option Value} {base : Heap} (D : DefAt K mg "_law_numbers" s_numbers) (m_isinstance : mg "isinstance" = none) (m_tuple : mg "tuple" = none) (m_len : mg "len" = none) (m_range : mg "range" = none)
    (C_whole : Clb P w K mg base 1 "_law_whole" ["_law_found"] spWhole) :
    Clb P w K mg base 2 "_law_numbers" ["_law_found", "_law_due_here"] (spNumbers K) := by
  refine D.clb sc_numbers (fun vs H Q E h => ?_) bd_numbers (fun f cdv A outer s H vs Q E hr h => ?_)
  · obtain ⟨a, b, ns, rfl, _⟩ := h
    rfl
  · obtain ⟨a, b, ns, rfl, ha, hb, hz, q⟩ := h
    have hT : SqT K H a (ns.map V.int) := sqT ha
    refine ⟨_, (C8.pss_cut (ps_if (PW.pt (pw_or (pt_not (pt_val (pe_callB (kcall_isi K) (by rfl) m_isinstance (by decide +kernel) (pa_cons (pv 0) (pa_cons (pe_bltn (v := .ty "tuple") (u := .type "tuple") (by rfl) m_tuple (by decide +kernel) rfl) pa_nil))))) (pw_or1 (pt_cmpR op_ne (pe_callB (kcall_len_seq K) (by rfl) m_len (by decide +kernel) (pa_cons (pv 0) pa_nil)) (pe_callB (kcall_len_seq K) (by rfl) m_len (by decide +kernel) (pa_cons (pv 1) pa_nil)) (nomark _)))))
      (pss_one (ps_ret pe_bl))
      pss_nil)
    (pss_cons (ps_for PassesOwn.never rfl (pi_range1 (by rfl) m_range (pa_cons (pe_callB (kcall_len_seq K) (by rfl) m_len (by decide +kernel) (pa_cons (pv 1) pa_nil)) pa_nil)) (pg_name (i := 2) sc_numbers.nd rfl (.inl rfl))
      (pss_one (ps_if (PW.pt (pw_or (pt_not (pt_val (pe_cal C_whole (hr.mono (by decide)) (pa_cons (pe_ix (kix_tup K) (pv 0) (pv 2) (fun _ _ => rfl)) pa_nil)))) (pw_or1 (pt_cmpR op_ne (pe_ix (kix_tup K) (pv 0) (pv 2) (fun _ _ => rfl)) (pe_ix (kix_seq K) (pv 1) (pv 2) (fun _ _ => rfl)) (nomark _)))))
      (pss_one (ps_ret pe_bl))
      pss_nil)))
    (pss_one (ps_ret pe_bl)))), ?_⟩
    refine ⟨fun σ' H' => σ' = [some (.ref a), some (.ref b), none] ∧ H = H', ?_, fun σ' H' h => ?_⟩
    · refine ⟨_, rfl, ?_⟩
      refine ⟨_, _, _, _, true, rfl, .ty _, .base (.tup ha), kit_ty (by decide +kernel), ?_⟩
      refine ⟨_, rfl, iteF ?_⟩
      refine ⟨_, rfl, a, _, rfl, .inr hT, ?_⟩
      refine ⟨_, rfl, b, _, rfl, hb, ?_⟩
      walk_at "rd"
      refine it_neI (fun z => absurd rfl z) (fun _ => ?_)
      exact ⟨rfl, rfl⟩
    obtain ⟨rfl, rfl⟩ := h
    refine ⟨_, rfl, b, _, rfl, hb, ?_⟩
    refine ⟨_, rfl, by omega, by rw [List.length_map]; omega, ?_⟩
    refine for_range (lo := 0) (fun i σ H' => ∃ y : Option V, σ = [some (.ref a), some (.ref b), y] ∧ H' = H) ⟨none, rfl, rfl⟩ (fun i σ H' hi h => ?_) (fun σ H' h => ?_)
    · obtain ⟨y, rfl, rfl⟩ := h
      have hi' : i < ns.length := by rw [List.length_map] at hi; omega
      have e1 : (ns.map V.int)[i]? = some (.int ns[i]) := ix_map (List.getElem?_eq_getElem hi')
      refine ⟨_, rfl, _, rfl, a, _, _, _, rfl, rfl, hT, at_of (j := i) (by omega) e1, ?_⟩
      refine ⟨_, rfl, _, rfl, iteF ?_⟩
      refine ⟨_, rfl, _, rfl, a, _, _, _, rfl, rfl, hT, at_of (j := i) (by omega) e1, ?_⟩
      refine ⟨_, rfl, _, rfl, b, _, _, _, rfl, rfl, hb, at_of (j := i) (by omega) e1, ?_⟩
      walk_at "rd"
      refine it_neI (fun z => absurd rfl z) (fun _ => ?_)
      exact ⟨_, rfl, rfl⟩
    · obtain ⟨y, rfl, rfl⟩ := h
      exact q
abbrev s_amount : Stmt := topS 45
theorem sc_amount : FnScope ["_law_cell", "_law_most", "_law_way"] ["_law_cell", "_law_most"] (defScope s_amount) := ⟨rfl, rfl, rfl, by decide +kernel, rfl, by decide +kernel, by decide +kernel⟩
theorem bd_amount : ∀ (kV doc pm : Value) (an : Option Addr) (cdv ct : Value) (us : List Value), us.length = (["_law_cell", "_law_most"] : List Str).length → bindArgs (PySem.W.fnOf "_law_amount" "_law_amount" (defArgs s_amount) (defBody s_amount) (defScope s_amount) .none kV doc pm an cdv ct) ⟨us, []⟩ = pure ((["_law_cell", "_law_most"] : List Str).zip us) := fun _ _ _ _ _ _ us hl => match us, hl with | [_, _], _ => rfl
def spAmount : Sp := fun vs H Q _ => ∃ c : Int, vs = [.int c, .int 200] ∧ ∀ z : Int, 1 ≤ z → z ≤ 200 → Q (.int z) H
theorem ok_amount {P : Program} {w : World} {K : PySem.W.Frag} {mg : Str → Option Value} {base : Heap} (D : DefAt K mg "_law_amount" s_amount) : Clb P w K mg base 1 "_law_amount" ["_law_cell", "_law_most"] spAmount := by
  refine D.clb sc_amount (fun vs H Q E h => ?_) bd_amount (fun f cdv A outer s H vs Q E hr h => ?_)
  · obtain ⟨c, rfl, _⟩ := h
    rfl
  · obtain ⟨c, rfl, q⟩ := h
    refine ⟨_, (pss_cons (ps_set (i := 2) sc_amount.nd rfl (.inl rfl) (pe_op op_mod (pv 0) pe_int))
    (pss_cons (ps_if (pt_cmpR op_eq (pv 2) pe_int (nomark _))
      (pss_one (ps_ret (pe_op op_add pe_int (pe_op op_mod (pe_op op_fdiv (pv 0) pe_int) (pv 1)))))
      pss_nil)
    (pss_cons (ps_if (pt_cmpR op_eq (pv 2) pe_int (nomark _))
      (pss_one (ps_ret (pe_op op_add pe_int (pe_op op_mod (pe_op op_fdiv (pv 0) pe_int) pe_int))))
      pss_nil)
    (pss_one (ps_ret (pe_op op_add pe_int (pe_op op_mod (pe_op op_fdiv (pv 0) pe_int) pe_int))))))), ?_⟩
    have e1 := Int.emod_nonneg (c / 8) (show (200 : Int) ≠ 0 by decide)
    have e2 := Int.emod_lt_of_pos (c / 8) (show (0 : Int) < 200 by decide)
    have e3 := Int.emod_nonneg (c / 8) (show (60 : Int) ≠ 0 by decide)
    have e4 := Int.emod_lt_of_pos (c / 8) (show (0 : Int) < 60 by decide)
    have e5 := Int.emod_nonneg (c / 8) (show (12 : Int) ≠ 0 by decide)
    have e6 := Int.emod_lt_of_pos (c / 8) (show (0 : Int) < 12 by decide)
    walk_at "rd"
    refine it_eqI (fun _ => ?_) (fun _ => ?_)
    · walk_at "rd"
      exact q _ (by show 1 ≤ 1 + _; omega) (by show 1 + _ ≤ (200 : Int); omega)
    · walk_at "rd"
      refine it_eqI (fun _ => ?_) (fun _ => ?_)
      · walk_at "rd"
        exact q _ (by show 1 ≤ 1 + _; omega) (by show 1 + _ ≤ (200 : Int); omega)
      · walk_at "rd"
        exact q _ (by show 1 ≤ 1 + _; omega) (by show 1 + _ ≤ (200 : Int); omega)
abbrev s_last : Stmt := topS 46
theorem sc_last : FnScope ["_law_cell"] ["_law_cell"] (defScope s_last) := ⟨rfl, rfl, rfl, by decide +kernel, rfl, by decide +kernel, by decide +kernel⟩
theorem bd_last : ∀ (kV doc pm : Value) (an : Option Addr) (cdv ct : Value) (us : List Value), us.length = (["_law_cell"] : List Str).length → bindArgs (PySem.W.fnOf "_law_last" "_law_last" (defArgs s_last) (defBody s_last) (defScope s_last) .none kV doc pm an cdv ct) ⟨us, []⟩ = pure ((["_law_cell"] : List Str).zip us) := fun _ _ _ _ _ _ us hl => match us, hl with | [_], _ => rfl
def spLast : Sp := fun vs H Q _ => ∃ c : Int, vs = [.int c] ∧ ∀ z : Int, 1 ≤ z → z ≤ 99 → Q (.int z) H
theorem ok_last {P : Program} {w : World} {K : PySem.W.Frag} {mg : Str → Option Value} {base : Heap} (D : DefAt K mg "_law_last" s_last) : Clb P w K mg base 1 "_law_last" ["_law_cell"] spLast := by
  refine D.clb sc_last (fun vs H Q E h => ?_) bd_last (fun f cdv A outer s H vs Q E hr h => ?_)
  · obtain ⟨c, rfl, _⟩ := h
    rfl
  · obtain ⟨c, rfl, q⟩ := h
    refine ⟨_, (pss_cons (ps_if (pt_cmpR op_eq (pe_op op_mod (pv 0) pe_int) pe_int (nomark _))
      (pss_one (ps_ret (pe_op op_add pe_int (pe_op op_mod (pe_op op_fdiv (pv 0) pe_int) pe_int))))
      pss_nil)
    (pss_cons (ps_if (pt_cmpR op_lt (pe_op op_mod (pv 0) pe_int) pe_int (nomark _))
      (pss_one (ps_ret (pe_op op_add pe_int (pe_op op_mod (pe_op op_fdiv (pv 0) pe_int) pe_int))))
      pss_nil)
    (pss_one (ps_ret (pe_op op_add pe_int (pe_op op_mod (pe_op op_fdiv (pv 0) pe_int) pe_int)))))), ?_⟩
    have e1 := Int.emod_nonneg (c / 6) (show (99 : Int) ≠ 0 by decide)
    have e2 := Int.emod_lt_of_pos (c / 6) (show (0 : Int) < 99 by decide)
    have e3 := Int.emod_nonneg (c / 6) (show (2 : Int) ≠ 0 by decide)
    have e4 := Int.emod_lt_of_pos (c / 6) (show (0 : Int) < 2 by decide)
    have e5 := Int.emod_nonneg (c / 6) (show (9 : Int) ≠ 0 by decide)
    have e6 := Int.emod_lt_of_pos (c / 6) (show (0 : Int) < 9 by decide)
    walk_at "rd"
    refine it_eqI (fun _ => ?_) (fun _ => ?_)
    · walk_at "rd"
      exact q _ (by show 1 ≤ 1 + _; omega) (by show 1 + _ ≤ (99 : Int); omega)
    · walk_at "rd"
      refine it_lt (fun _ => ?_) (fun _ => ?_)
      · walk_at "rd"
        exact q _ (by show 1 ≤ 7 + _; omega) (by show 7 + _ ≤ (99 : Int); omega)
      · walk_at "rd"
        exact q _ (by show 1 ≤ 1 + _; omega) (by show 1 + _ ≤ (99 : Int); omega)
abbrev s_many : Stmt := topS 52
theorem sc_many : FnScope ["_law_cell", "_law_few", "_law_room"] ["_law_cell", "_law_few", "_law_room"] (defScope s_many) := ⟨rfl, rfl, rfl, by decide +kernel, rfl, by decide +kernel, by decide +kernel⟩
theorem bd_many : ∀ (kV doc pm : Value) (an : Option Addr) (cdv ct : Value) (us : List Value), us.length = (["_law_cell", "_law_few", "_law_room"] : List Str).length → bindArgs (PySem.W.fnOf "_law_many" "_law_many" (defArgs s_many) (defBody s_many) (defScope s_many) .none kV doc pm an cdv ct) ⟨us, []⟩ = pure ((["_law_cell", "_law_few", "_law_room"] : List Str).zip us) := fun _ _ _ _ _ _ us hl => match us, hl with | [_, _, _], _ => rfl
def spMany : Sp := fun vs H Q _ => ∃ c few room : Int, vs = [.int c, .int few, .int room] ∧ 0 ≤ few ∧ few ≤ room ∧ ∀ z : Int, 0 ≤ z → z ≤ room → Q (.int z) H
theorem ok_many {P : Program} {w : World} {K : PySem.W.Frag} {mg : Str → Option Value} {base : Heap} (D : DefAt K mg "_law_many" s_many) : Clb P w K mg base 1 "_law_many" ["_law_cell", "_law_few", "_law_room"] spMany := by
  refine D.clb sc_many (fun vs H Q E h => ?_) bd_many (fun f cdv A outer s H vs Q E hr h => ?_)
  · obtain ⟨c, few, room, rfl, _⟩ := h
    rfl
  · obtain ⟨c, few, room, rfl, h0, h1, q⟩ := h
    refine ⟨_, (pss_cons (ps_if (pt_cmpR op_eq (pe_op op_mod (pv 0) pe_int) pe_int (nomark _))
      (pss_one (ps_ret (pe_op op_mod (pe_op op_fdiv (pv 0) pe_int) (pe_op op_add (pv 2) pe_int))))
      pss_nil)
    (pss_one (ps_ret (pe_op op_mod (pe_op op_fdiv (pv 0) pe_int) (pe_op op_add (pv 1) pe_int))))), ?_⟩
    have e1 := Int.emod_nonneg (c / 24) (show room + 1 ≠ 0 by omega)
    have e2 := Int.emod_lt_of_pos (c / 24) (show 0 < room + 1 by omega)
    have e3 := Int.emod_nonneg (c / 24) (show few + 1 ≠ 0 by omega)
    have e4 := Int.emod_lt_of_pos (c / 24) (show 0 < few + 1 by omega)
    walk_at "rd"
    refine it_eqI (fun _ => ?_) (fun _ => ?_)
    · walk_at "rd"
      refine ⟨(by show 0 < room + 1; omega), q _ e1 (by show c / 24 % (room + 1) ≤ room; omega)⟩
    · walk_at "rd"
      refine ⟨(by show 0 < few + 1; omega), q _ e3 (by show c / 24 % (few + 1) ≤ room; omega)⟩
abbrev s_names : Stmt := topS 51
theorem sc_names : FnScope ["_law_cells", "_law_seed", "_law_many_here"] ["_law_cells"] (defScope s_names) := ⟨rfl, rfl, rfl, by decide +kernel, rfl, by decide +kernel, by decide +kernel⟩
theorem bd_names : ∀ (kV doc pm : Value) (an : Option Addr) (cdv ct : Value) (us : List Value), us.length = (["_law_cells"] : List Str).length → bindArgs (PySem.W.fnOf "_law_names" "_law_names" (defArgs s_names) (defBody s_names) (defScope s_names) .none kV doc pm an cdv ct) ⟨us, []⟩ = pure ((["_law_cells"] : List Str).zip us) := fun _ _ _ _ _ _ us hl => match us, hl with | [_], _ => rfl
/-- the seed of the names, how many there are -/
def NamesAt (K : PySem.W.Frag) (H : Hp) (a : Addr) (seed many : Int) : Prop := H a = some (.lst [.int seed, .int many]) ∧ 1 ≤ many ∧ many ≤ 12
theorem NamesAt.same {K : PySem.W.Frag} {H H' : Hp} {a : Addr} {s m : Int} (h : NamesAt K H a s m) (e : Same H H') : NamesAt K H' a s m := ⟨e _ _ h.1, h.2⟩
def spNames (K : PySem.W.Frag) : Sp := fun vs H Q _ => ∃ a : Addr, vs = [.ref a] ∧ CellsAt K H a ∧ ∀ p H' seed many, Same H H' → NamesAt K H' p seed many → Q (.ref p) H'
theorem ok_names {P : Program} {w : World} {K : PySem.W.Frag} {mg : Str → Option Value} {base : Heap} (D : DefAt K mg "_law_names" s_names) (C_cell_at : Clb P w K mg base 1 "_law_cell_at" ["_law_cells", "_law_k"] (spCellAt K)) :
    Clb P w K mg base 2 "_law_names" ["_law_cells"] (spNames K) := by
  refine D.clb sc_names (fun vs H Q E h => ?_) bd_names (fun f cdv A outer s H vs Q E hr h => ?_)
  · obtain ⟨a, rfl, _⟩ := h
    rfl
  · obtain ⟨a, rfl, hc, q⟩ := h
    refine ⟨_, (pss_cons (ps_set (i := 1) sc_names.nd rfl (.inl rfl) (pe_cal C_cell_at (hr.mono (by decide)) (pa_cons (pv 0) (pa_cons pe_int pa_nil))))
    (pss_cons (ps_set (i := 2) sc_names.nd rfl (.inl rfl) (pe_ix (kix_list K) (pe_lst (pa_cons pe_int (pa_cons pe_int (pa_cons pe_int (pa_cons pe_int pa_nil))))) (pe_op op_mod (pe_cal C_cell_at (hr.mono (by decide)) (pa_cons (pv 0) (pa_cons pe_int pa_nil))) pe_int) (fun _ _ => rfl)))
    (C8.pss_cut (ps_if (pt_cmpR op_eq (pe_op op_mod (pe_op op_fdiv (pe_cal C_cell_at (hr.mono (by decide)) (pa_cons (pv 0) (pa_cons pe_int pa_nil))) pe_int) pe_int) pe_int (nomark _))
      (pss_one (ps_set (i := 2) sc_names.nd rfl (.inl rfl) pe_int))
      pss_nil)
    (pss_one (ps_ret (pe_lst (pa_cons (pv 1) (pa_cons (pv 2) pa_nil)))))))), ?_⟩
    refine ⟨_, rfl, a, 0, rfl, hc, by decide, by decide, fun seed s0 s1 => ?_⟩
    refine ⟨small (by show 4 ≤ 100000; decide), fun p hp => ?_⟩
    have sp := same_upd (o := .lst [V.int 1, V.int 2, V.int 3, V.int 4]) hp
    refine ⟨_, rfl, a, 1, rfl, hc.same sp, by decide, by decide, fun c1 _ _ => ?_⟩
    have m1 := Int.emod_nonneg c1 (show (4 : Int) ≠ 0 by decide)
    have m2 := Int.emod_lt_of_pos c1 (show (0 : Int) < 4 by decide)
    have hm : ∃ m : Int, atI [V.int 1, V.int 2, V.int 3, V.int 4] (c1 % 4) = some (.int m) ∧ 1 ≤ m ∧ m ≤ 12 := by
      have : c1 % 4 = 0 ∨ c1 % 4 = 1 ∨ c1 % 4 = 2 ∨ c1 % 4 = 3 := by omega
      rcases this with e | e | e | e <;> rw [e]
      · exact ⟨1, rfl, by decide, by decide⟩
      · exact ⟨2, rfl, by decide, by decide⟩
      · exact ⟨3, rfl, by decide, by decide⟩
      · exact ⟨4, rfl, by decide, by decide⟩
    obtain ⟨m, em, h1, h2⟩ := hm
    walk_at "rd"
    refine ⟨p, _, _, _, rfl, rfl, sqL upd_same, em, ?_⟩
    walk_at "rd"
    refine ⟨fun σ' H' => ∃ m : Int, σ' = [some (.ref a), some (.int seed), some (.int m)] ∧ H' = upd H p (.lst [V.int 1, V.int 2, V.int 3, V.int 4]) ∧ 1 ≤ m ∧ m ≤ 12, ?_, fun σ' H' h => ?_⟩
    · refine ⟨_, rfl, a, 1, rfl, hc.same sp, by decide, by decide, fun c2 _ _ => ?_⟩
      walk_at "rd"
      refine it_eqI (fun _ => ?_) (fun _ => ?_)
      · exact ⟨12, rfl, rfl, by decide, by decide⟩
      · exact ⟨m, rfl, rfl, h1, h2⟩
    · obtain ⟨m, rfl, rfl, h1, h2⟩ := h
      refine ⟨_, rfl, _, rfl, small (by show 2 ≤ 100000; decide), fun r hr => ?_⟩
      exact q r _ seed m (sp.new hr) ⟨upd_same, h1, h2⟩
abbrev s_name_by : Stmt := topS 44
theorem sc_name_by : FnScope ["_law_seed", "_law_k", "_law_signs", "_law_words", "_law_more", "_law_name", "_law_at", "_law_turn", "_law_spot", "_law_two", "_law_sign"] ["_law_seed", "_law_k"] (defScope s_name_by) := ⟨rfl, rfl, rfl, by decide +kernel, rfl, by decide +kernel, by decide +kernel⟩
theorem bd_name_by : ∀ (kV doc pm : Value) (an : Option Addr) (cdv ct : Value) (us : List Value), us.length = (["_law_seed", "_law_k"] : List Str).length → bindArgs (PySem.W.fnOf "_law_name_by" "_law_name_by" (defArgs s_name_by) (defBody s_name_by) (defScope s_name_by) .none kV doc pm an cdv ct) ⟨us, []⟩ = pure ((["_law_seed", "_law_k"] : List Str).zip us) := fun _ _ _ _ _ _ us hl => match us, hl with | [_, _], _ => rfl
def spNameBy : Sp := fun vs H Q _ => ∃ seed k : Int, vs = [.int seed, .int k] ∧ 0 ≤ k ∧ k ≤ 100 ∧ ∀ H', Same H H' → Q (.str (nameBy seed k)) H'
theorem ok_name_by {P : Program} {w : World} {K : PySem.W.Frag} {mg : Str → Option Value} {base : Heap} (D : DefAt K mg "_law_name_by" s_name_by) (m_len : mg "len" = none) (m_min : mg "min" = none) (m_range : mg "range" = none) :
    Clb P w K mg base 1 "_law_name_by" ["_law_seed", "_law_k"] spNameBy := by
  refine D.clb sc_name_by (fun vs H Q E h => ?_) bd_name_by (fun f cdv A outer s H vs Q E hr h => ?_)
  · obtain ⟨seed, k, rfl, _⟩ := h
    rfl
  · obtain ⟨seed, k, rfl, h0, h1, q⟩ := h
    refine ⟨_, (pss_cons (ps_set (i := 2) sc_name_by.nd rfl (.inl rfl) pe_str)
    (pss_cons (ps_set (i := 3) sc_name_by.nd rfl (.inl rfl) (pe_lst (pa_cons pe_str (pa_cons pe_str (pa_cons pe_str (pa_cons pe_str (pa_cons pe_str (pa_cons pe_str (pa_cons pe_str (pa_cons pe_str (pa_cons pe_str (pa_cons pe_str (pa_cons pe_str pa_nil)))))))))))))
    (pss_cons (ps_set (i := 4) sc_name_by.nd rfl (.inl rfl) (pe_op op_fdiv (pv 0) pe_int))
    (C8.pss_cut (ps_if (PW.pt (pw_and (pt_cmpR op_eq (pe_op op_mod (pv 0) pe_int) pe_int (nomark _)) (pw_and1 (pt_cmpR op_lt (pv 1) pe_int (nomark _)))))
      (pss_one (ps_ret (pe_ix (kix_list K) (pv 3) (pe_op op_mod (pe_op op_add (pv 4) (pv 1)) pe_int) (fun _ _ => rfl))))
      pss_nil)
    (pss_cons (ps_set (i := 5) sc_name_by.nd rfl (.inl rfl) pe_str)
    (pss_cons (ps_set (i := 6) sc_name_by.nd rfl (.inl rfl) (pe_op op_fdiv (pv 4) pe_int))
    (pss_cons (ps_for PassesOwn.never rfl (pi_range1 (by rfl) m_range (pa_cons (pe_op op_add pe_int (pe_op op_mod (pv 4) pe_int)) pa_nil)) (pg_name (i := 7) sc_name_by.nd rfl (.inl rfl))
      (pss_cons (ps_set (i := 6) sc_name_by.nd rfl (.inl rfl) (pe_op op_add (pe_op op_add (pv 6) pe_int) (pe_op op_mod (pe_op op_fdiv (pv 4) pe_int) pe_int)))
    (pss_one (ps_set (i := 5) sc_name_by.nd rfl (.inl rfl) (pe_op op_add_str (pv 5) (pe_ix ix_str (pv 2) (pe_op op_mod (pv 6) pe_int) (fun _ _ => rfl)))))))
    (pss_cons (ps_set (i := 8) sc_name_by.nd rfl (.inl rfl) (pe_op op_mod (pe_op op_fdiv (pv 4) pe_int) (pe_callB call_len_str (by rfl) m_len (by decide +kernel) (pa_cons (pv 5) pa_nil))))
    (pss_cons (ps_if (pt_cmpR op_gt (pv 1) pe_int (nomark _))
      (pss_cons (ps_set (i := 9) sc_name_by.nd rfl (.inl rfl) (pe_op op_add_str (pe_ix ix_str (pv 2) (pe_op op_mod (pe_op op_add (pv 6) (pe_op op_fdiv (pv 1) pe_int)) pe_int) (fun _ _ => rfl)) (pe_ix ix_str (pv 2) (pe_op op_mod (pv 1) pe_int) (fun _ _ => rfl))))
    (pss_one (ps_ret (pe_op op_add_str (pe_op op_add_str (pe_slice sl_str (pv 5) po_none (po_some (pe_callB (call_min2 rfl) (by rfl) m_min (by decide +kernel) (pa_cons (pv 8) (pa_cons pe_int pa_nil))))) (pv 9)) (pe_slice sl_str (pv 5) (po_some (pe_callB (call_min2 rfl) (by rfl) m_min (by decide +kernel) (pa_cons (pv 8) (pa_cons pe_int pa_nil)))) (po_some pe_int))))))
      pss_nil)
    (pss_cons (ps_if (pt_cmpR op_gt (pe_op op_mod (pv 0) pe_int) pe_int (nomark _))
      (pss_one (ps_ret (pe_op op_add_str (pe_ix ix_str (pv 2) (pe_op op_mod (pe_op op_add (pe_op op_fdiv (pv 4) pe_int) (pv 1)) pe_int) (fun _ _ => rfl)) (pv 5))))
      pss_nil)
    (pss_cons (ps_if (pt_cmpR op_eq (pv 1) pe_int (nomark _))
      (pss_cons (ps_set (i := 10) sc_name_by.nd rfl (.inl rfl) (pe_ix ix_str (pv 2) (pe_op op_mod (pe_op op_add (pe_m1 PySem.F.slot_str_find PySem.F.type_str_find mt_find (pv 2) (pe_ix ix_str (pv 5) (pv 8) (fun _ _ => rfl))) pe_int) pe_int) (fun _ _ => rfl)))
    (pss_one (ps_ret (pe_op op_add_str (pe_op op_add_str (pe_slice sl_str (pv 5) po_none (po_some (pv 8))) (pv 10)) (pe_slice sl_str (pv 5) (po_some (pe_op op_add (pv 8) pe_int)) po_none)))))
      pss_nil)
    (pss_one (ps_ret (pe_op op_add_str (pv 5) (pe_ix (kix_list K) (pe_lst (pa_cons pe_str (pa_cons pe_str (pa_cons (pe_ix ix_str (pv 2) (pe_op op_mod (pv 6) pe_int) (fun _ _ => rfl)) (pa_cons (pe_ix ix_str (pv 2) (pe_op op_mod (pe_op op_add (pv 6) pe_int) pe_int) (fun _ _ => rfl)) pa_nil))))) (pv 1) (fun _ _ => rfl)))))))))))))))), ?_⟩
    refine ⟨small (by show 11 ≤ 100000; decide), fun p hp => ?_⟩
    have sp := same_upd (o := .lst (words.map V.str)) hp
    walk_at "rd"
    refine ⟨fun σ' H' => σ' = [some (.int seed), some (.int k), some (.str sgn), some (.ref p), some (.int (seed / 6)), none, none, none, none, none, none] ∧ H' = upd H p (.lst (words.map V.str)) ∧ ¬ (seed % 6 = 0 ∧ k < 4), ?_, fun σ' H' h => ?_⟩
    · walk_at "rd"
      refine it_eqI (fun e6 => ?_) (fun e6 => ?_)
      · walk_at "rd"
        refine it_lt (fun ek => ?_) (fun ek => ?_)
        · walk_at "rd"
          have m1 := Int.emod_nonneg (seed / 6 + k) (show (11 : Int) ≠ 0 by decide)
          have m2 := Int.emod_lt_of_pos (seed / 6 + k) (show (0 : Int) < 11 by decide)
          have hl : ((seed / 6 + k) % 11).toNat < words.length := by show _ < 11; omega
          refine ⟨p, words.map V.str, _, _, rfl, rfl, sqL upd_same, at_of (j := ((seed / 6 + k) % 11).toNat) (by omega) (ix_map (List.getElem?_eq_getElem hl)), ?_⟩
          have e : nameBy seed k = words[((seed / 6 + k) % 11).toNat] := by
            unfold nameBy
            rw [if_pos ⟨e6, ek⟩, List.getD_eq_getElem?_getD, List.getElem?_eq_getElem hl]; rfl
          rw [← e]
          exact q _ sp
        · exact ⟨rfl, rfl, fun z => ek z.2⟩
      · exact iteF ⟨rfl, rfl, fun z => e6 z.1⟩
    · obtain ⟨rfl, rfl, hno⟩ := h
      have m1 := Int.emod_nonneg (seed / 6) (show (7 : Int) ≠ 0 by decide)
      have m2 := Int.emod_lt_of_pos (seed / 6) (show (0 : Int) < 7 by decide)
      walk_at "rd"
      refine ⟨by omega, by omega, ?_⟩
      generalize hn : (1 + seed / 6 % 7).toNat = n
      have hn1 : 1 ≤ n := by omega
      have hn7 : n ≤ 7 := by omega
      refine for_range (lo := 0) (fun i σ H' => i ≤ n ∧ (∃ y : Option V, σ = [some (.int seed), some (.int k), some (.str sgn), some (.ref p), some (.int (seed / 6)), some (.str (nmNm (seed / 6) i)), some (.int (nmAt (seed / 6) i)), y, none, none, none]) ∧ H' = upd H p (.lst (words.map V.str)))
        ⟨Nat.zero_le _, ⟨none, rfl⟩, rfl⟩ (fun i σ H' hi h => ?_) (fun σ H' h => ?_)
      · obtain ⟨_, ⟨y, rfl⟩, rfl⟩ := h
        walk_at "rd"
        refine ⟨sgn, _, _, rfl, rfl, small (by rw [sgn_len']; decide), sg_at _, ?_⟩
        refine ⟨_, _, rfl, rfl, small (by rw [nmNm_len]; show i + 1 ≤ 100000; omega), ?_⟩
        exact ⟨hi, ⟨_, rfl⟩, rfl⟩
      · obtain ⟨_, ⟨y, rfl⟩, rfl⟩ := h
        generalize hnm : nmNm (seed / 6) n = nm
        generalize hat : nmAt (seed / 6) n = at'
        have ln : nm.length = n := by rw [← hnm]; exact nmNm_len _ _
        walk_at "rd"
        refine ⟨small (by omega), ?_⟩
        rw [ln]
        have s1 := Int.emod_nonneg (seed / 6 / 4550) (show (n : Int) ≠ 0 by omega)
        have s2 := Int.emod_lt_of_pos (seed / 6 / 4550) (show (0 : Int) < n by omega)
        refine ⟨_, _, rfl, rfl, by show (0 : Int) < n; omega, ?_⟩
        show gName 8 (V.int (seed / 6 / 4550 % (n : Int))) _ _ _
        generalize hsp : seed / 6 / 4550 % (n : Int) = spot at s1 s2
        have key : nameBy seed k = (if 3 < k then cutS nm none (some (min6 spot)) ++ (sg (at' + k / 26) ++ sg k) ++ cutS nm (some (min6 spot)) (some 6)
            else if 3 < seed % 6 then sg (seed / 6 / 7 + k) ++ nm
            else if k = 1 then cutS nm none (some spot) ++ sg (Txt.find sgn ⟨#[nm.cps.toList.getD spot.toNat 0]⟩ + 1) ++ cutS nm (some (spot + 1)) none
            else nm ++ [("" : Str), "", sg at', sg (at' + 1)].getD k.toNat "") := by
          unfold nameBy
          rw [if_neg hno]
          dsimp only
          rw [hn, hnm, hat, hsp]
        have c1 := fun lo hi => cutS_length nm lo hi
        walk_at "rd"
        refine it_lt (fun e3 => ?_) (fun e3 => ?_)
        · -- k > 3
          rw [if_pos e3] at key
          walk_at "rd"
          refine ⟨sgn, _, _, rfl, rfl, small (by rw [sgn_len']; decide), sg_at _, ?_⟩
          walk_at "rd"
          refine ⟨sgn, _, _, rfl, rfl, small (by rw [sgn_len']; decide), sg_at _, ?_⟩
          refine ⟨_, _, rfl, rfl, small (by show 1 + 1 ≤ 100000; decide), ?_⟩
          walk_at "rd"
          refine ⟨small (by omega), ?_⟩
          have q1 := c1 none (some (min6 spot))
          have q2 := c1 (some (min6 spot)) (some 6)
          walk_at "rd"
          refine ⟨small (by show (cutS nm none (some (min6 spot))).length + 2 ≤ 100000; omega), ?_⟩
          walk_at "rd"
          refine ⟨small (by omega), ?_⟩
          refine ⟨_, _, rfl, rfl, small (by
            show (cutS nm none (some (min6 spot)) ++ (sg (at' + k / 26) ++ sg k)).length + (cutS nm (some (min6 spot)) (some 6)).length ≤ 100000
            rw [app_len, app_len, sg_len, sg_len]; omega), ?_⟩
          have z := q _ sp
          rw [key] at z
          exact z
        · rw [if_neg e3] at key
          walk_at "rd"
          refine it_lt (fun e4 => ?_) (fun e4 => ?_)
          · rw [if_pos e4] at key
            walk_at "rd"
            refine ⟨sgn, _, _, rfl, rfl, small (by rw [sgn_len']; decide), sg_at _, ?_⟩
            walk_at "rd"
            refine ⟨small (by show 1 + nm.length ≤ 100000; omega), ?_⟩
            have z := q _ sp
            rw [key] at z
            exact z
          · rw [if_neg e4] at key
            walk_at "rd"
            refine it_eqI (fun e5 => ?_) (fun e5 => ?_)
            · rw [if_pos e5] at key
              have hsl : spot.toNat < nm.cps.toList.length := by
                rw [Array.length_toList]
                show spot.toNat < nm.length
                omega
              have ec : nm.cps.toList[spot.toNat]? = some (nm.cps.toList.getD spot.toNat 0) := by
                rw [List.getD_eq_getElem?_getD, List.getElem?_eq_getElem hsl]; rfl
              walk_at "rd"
              refine ⟨nm, _, _, rfl, rfl, small (by omega), (by have q0 := atI_nat ec; rw [Int.toNat_of_nonneg s1] at q0; exact q0), ?_⟩
              walk_at "rd"
              refine ⟨sgn, _, _, rfl, rfl, small (by rw [sgn_len']; decide), sg_at _, ?_⟩
              have q1 := c1 none (some spot)
              have q2 := c1 (some (spot + 1)) none
              walk_at "rd"
              refine ⟨small (by omega), ?_⟩
              walk_at "rd"
              refine ⟨small (by show (cutS nm none (some spot)).length + 1 ≤ 100000; omega), ?_⟩
              walk_at "rd"
              refine ⟨small (by omega), ?_⟩
              refine ⟨_, _, rfl, rfl, small (by
                show (cutS nm none (some spot) ++ sg (Txt.find sgn ⟨#[nm.cps.toList.getD spot.toNat 0]⟩ + 1)).length + (cutS nm (some (spot + 1)) none).length ≤ 100000
                rw [app_len, sg_len]; omega), ?_⟩
              have z := q _ sp
              rw [key] at z
              exact z
            · rw [if_neg e5] at key
              walk_at "rd"
              refine ⟨sgn, _, _, rfl, rfl, small (by rw [sgn_len']; decide), sg_at _, ?_⟩
              walk_at "rd"
              refine ⟨sgn, _, _, rfl, rfl, small (by rw [sgn_len']; decide), sg_at _, ?_⟩
              refine ⟨small (by show 4 ≤ 100000; decide), fun r hr2 => ?_⟩
              have hk : k = 0 ∨ k = 2 ∨ k = 3 := by omega
              have z := q _ (sp.new (o := .lst [V.str "", V.str "", V.str (sg at'), V.str (sg (at' + 1))]) hr2)
              rw [key] at z
              rcases hk with e | e | e <;> subst e
              · exact ⟨_, rfl, r, _, _, _, rfl, rfl, sqL upd_same, rfl, _, _, rfl, rfl, small (by show nm.length + 0 ≤ 100000; omega), z⟩
              · exact ⟨_, rfl, r, _, _, _, rfl, rfl, sqL upd_same, rfl, _, _, rfl, rfl, small (by show nm.length + 1 ≤ 100000; omega), z⟩
              · exact ⟨_, rfl, r, _, _, _, rfl, rfl, sqL upd_same, rfl, _, _, rfl, rfl, small (by show nm.length + 1 ≤ 100000; omega), z⟩
abbrev s_dishes : Stmt := topS 47
theorem sc_dishes : FnScope ["_law_cells", "_law_names_here", "_law_many_here", "_law_dishes_here", "_law_k", "_law_cell", "_law_needs", "_law_count", "_law_j", "_law_some", "_law_amount_here"] ["_law_cells", "_law_names_here", "_law_many_here"] (defScope s_dishes) := ⟨rfl, rfl, rfl, by decide +kernel, rfl, by decide +kernel, by decide +kernel⟩
theorem bd_dishes : ∀ (kV doc pm : Value) (an : Option Addr) (cdv ct : Value) (us : List Value), us.length = (["_law_cells", "_law_names_here", "_law_many_here"] : List Str).length → bindArgs (PySem.W.fnOf "_law_dishes" "_law_dishes" (defArgs s_dishes) (defBody s_dishes) (defScope s_dishes) .none kV doc pm an cdv ct) ⟨us, []⟩ = pure ((["_law_cells", "_law_names_here", "_law_many_here"] : List Str).zip us) := fun _ _ _ _ _ _ us hl => match us, hl with | [_, _, _], _ => rfl
def spDishes (K : PySem.W.Frag) : Sp := fun vs H Q _ => ∃ (a b : Addr) (m seed many : Int), vs = [.ref a, .ref b, .int m] ∧ CellsAt K H a ∧ NamesAt K H b seed many ∧ 0 ≤ m ∧ m ≤ 60 ∧
  ∀ (v : V) (ds : List Dish) (H' : Hp), Same H H' → DishesAt H' v ds → (ds.length : Int) ≤ m → (∀ d ∈ ds, GoodDish seed d) → Q v H'
theorem and_lt {σ : L2.St} {H : Hp} {Q : VK} {c0 : Bool} {n : Nat} {i j : Int} (hv : σ[n]? = some (some (V.int i))) (h : ∀ b, Q (.bl b) H) :
    if c0 = true then tOp (rI0 fun i j => V.bl (decide (i < j))) (tVar n) (tC (V.int j)) σ H Q else Q (.bl false) H := by
  cases c0 with
  | true => 
    refine iteT ?_
    exact ⟨_, hv, i, j, rfl, rfl, h _⟩
  | false => exact iteF (h _)
theorem ok_dishes {P : Program} {w : World} {K : PySem.W.Frag} {mg : Str → Option Value} {base : Heap} (D : DefAt K mg "_law_dishes" s_dishes) (m_range : mg "range" = none) (m_int : mg "int" = none) (m_tuple : mg "tuple" = none)
    (C_mix : Clb P w K mg base 1 "_law_mix" ["_law_cell", "_law_k"] spMix) (C_cell_at : Clb P w K mg base 1 "_law_cell_at" ["_law_cells", "_law_k"] (spCellAt K))
    (C_amount : Clb P w K mg base 1 "_law_amount" ["_law_cell", "_law_most"] spAmount) (C_name_by : Clb P w K mg base 1 "_law_name_by" ["_law_seed", "_law_k"] spNameBy) :
    Clb P w K mg base 2 "_law_dishes" ["_law_cells", "_law_names_here", "_law_many_here"] (spDishes K) := by
  refine D.clb sc_dishes (fun vs H Q E h => ?_) bd_dishes (fun f cdv A outer s H vs Q E hr h => ?_)
  · obtain ⟨a, b, m, seed, many, rfl, _⟩ := h
    rfl
  · obtain ⟨a, b, m, seed, many, rfl, hc, hn, h0, h1, q⟩ := h
    refine ⟨_, (pss_cons (ps_set (i := 3) sc_dishes.nd rfl (.inl rfl) (pe_lst pa_nil))
    (pss_cons (ps_for PassesOwn.never rfl (pi_range1 (by rfl) m_range (pa_cons (pv 2) pa_nil)) (pg_name (i := 4) sc_dishes.nd rfl (.inl rfl))
      (pss_cons (ps_set (i := 5) sc_dishes.nd rfl (.inl rfl) (pe_cal C_mix (hr.mono (by decide)) (pa_cons (pe_cal C_cell_at (hr.mono (by decide)) (pa_cons (pv 0) (pa_cons (pe_op op_add pe_int (pe_op op_mod (pv 4) pe_int)) pa_nil))) (pa_cons (pv 4) pa_nil))))
    (pss_cons (ps_set (i := 6) sc_dishes.nd rfl (.inl rfl) (pe_lst pa_nil))
    (pss_cons (ps_set (i := 7) sc_dishes.nd rfl (.inl rfl) (pe_ix (kix_list K) (pe_lst (pa_cons (pe_op op_mod (pe_op op_fdiv (pv 5) pe_int) pe_int) (pa_cons (pe_op op_mod (pe_op op_fdiv (pv 5) pe_int) pe_int) pa_nil))) (pe_callTy call_int1 (by rfl) m_int (by decide +kernel) (pa_cons (pe_and (pe_cmpR op_eq (pe_op op_mod (pe_op op_fdiv (pv 5) pe_int) pe_int) pe_int (nomark _)) (pe_one (pe_cmpR op_lt (pv 4) pe_int (nomark _)))) pa_nil)) (fun _ _ => rfl)))
    (pss_cons (ps_for PassesOwn.never rfl (pi_range1 (by rfl) m_range (pa_cons (pv 7) pa_nil)) (pg_name (i := 8) sc_dishes.nd rfl (.inl rfl))
      (pss_cons (ps_set (i := 9) sc_dishes.nd rfl (.inl rfl) (pe_cal C_mix (hr.mono (by decide)) (pa_cons (pe_op op_fdiv (pv 5) pe_int) (pa_cons (pe_op op_add (pv 8) pe_int) pa_nil))))
    (pss_cons (ps_set (i := 10) sc_dishes.nd rfl (.inl rfl) (pe_op op_add pe_int (pe_op op_mod (pe_op op_fdiv (pv 9) pe_int) pe_int)))
    (C8.pss_cut (ps_if (pt_cmpR op_eq (pe_op op_mod (pe_op op_fdiv (pv 9) pe_int) pe_int) pe_int (nomark _))
      (pss_one (ps_set (i := 10) sc_dishes.nd rfl (.inl rfl) (pe_cal C_amount (hr.mono (by decide)) (pa_cons (pe_op op_fdiv (pv 9) pe_int) (pa_cons pe_int pa_nil)))))
      pss_nil)
    (pss_one (ps_expr (kpe_bm K PySem.F.plainAttrs_list PySem.F.slot_list_append PySem.F.type_list_append mt_append (pv 6) (pa_cons (pe_tup (pa_cons (pe_cal C_name_by (hr.mono (by decide)) (pa_cons (pe_ix (kix_list K) (pv 1) pe_int (fun _ _ => rfl)) (pa_cons (pe_op op_mod (pe_op op_mod (pv 9) pe_int) (pe_ix (kix_list K) (pv 1) pe_int (fun _ _ => rfl))) pa_nil))) (pa_cons (pv 10) pa_nil))) pa_nil))))))))
    (pss_one (ps_expr (kpe_bm K PySem.F.plainAttrs_list PySem.F.slot_list_append PySem.F.type_list_append mt_append (pv 3) (pa_cons (pe_tup (pa_cons (pe_op op_add pe_int (pe_op op_mod (pv 5) pe_int)) (pa_cons (pe_callTy (kcall_tuple_of K) (by rfl) m_tuple (by decide +kernel) (pa_cons (pv 6) pa_nil)) pa_nil))) pa_nil)))))))))
    (pss_one (ps_ret (pe_callTy (kcall_tuple_of K) (by rfl) m_tuple (by decide +kernel) (pa_cons (pv 3) pa_nil)))))), ?_⟩
    refine ⟨Nat.zero_le _, fun p hp => ?_⟩
    walk_at "rd"
    refine ⟨by omega, by omega, ?_⟩
    refine for_range (lo := 0) (fun i σ H' => ∃ (y4 y5 y6 y7 y8 y9 y10 : Option V) (vs : List V) (ds : List Dish), σ = [some (.ref a), some (.ref b), some (.int m), some (.ref p), y4, y5, y6, y7, y8, y9, y10] ∧ Same H H' ∧ H' p = some (.lst vs) ∧
        Held DishAt H' vs ds ∧ ds.length = i ∧ ∀ d ∈ ds, GoodDish seed d)
      ⟨none, none, none, none, none, none, none, [], [], rfl, same_upd hp, upd_same, Held.nil, rfl, fun _ z => nomatch z⟩ (fun i σ H1 hi h => ?_) (fun σ H1 h => ?_)
    · obtain ⟨y4, y5, y6, y7, y8, y9, y10, vs, ds, rfl, sm, hpl, hd, hl, hg⟩ := h
      have hi' : (i : Int) < m := by omega
      walk_at "rd"
      refine ⟨hc.same sm, by omega, by omega, fun c c0 c1 => ?_⟩
      walk_at "rd"
      refine ⟨by omega, by omega, fun cell z0 z1 => ?_⟩
      refine ⟨Nat.zero_le _, fun r hr1 => ?_⟩
      walk_at "rd"
      refine ⟨small (by show 2 ≤ 100000; decide), fun r2 hr2 => ?_⟩
      walk_at "rd"
      refine and_lt (i := 0 + (i : Nat)) ?_ (fun bb => ?_)
      · rfl
      refine .inr ⟨_, rfl, ?_⟩
      have hcount : ∃ n : Int, atI [V.int (cell / 7 % 4), V.int (cell / 7 % 21)] (if bb = true then 1 else 0) = some (.int n) ∧ 0 ≤ n ∧ n ≤ 20 := by
        split
        · exact ⟨_, rfl, by omega, by omega⟩
        · exact ⟨_, rfl, by omega, by omega⟩
      obtain ⟨n, en, n0, n1⟩ := hcount
      refine ⟨r2, _, _, _, rfl, rfl, sqL upd_same, en, ?_⟩
      walk_at "rd"
      refine ⟨by omega, by omega, ?_⟩
      -- the heap ahead of the inner loop
      have s2 : Same (upd H1 r (.lst [])) (upd (upd H1 r (.lst [])) r2 (.lst [V.int (cell / 7 % 4), V.int (cell / 7 % 21)])) := same_upd hr2
      have rne : r ≠ r2 := fun z => by subst z; rw [upd_same] at hr2; cases hr2
      refine for_range (lo := 0) (fun j σ H' => ∃ (y8 y9 y10 : Option V) (us : List V) (ns : List Need), σ = [some (.ref a), some (.ref b), some (.int m), some (.ref p), some (.int (0 + (i : Int))), some (.int cell), some (.ref r), some (.int n), y8, y9, y10] ∧ Same H1 H' ∧ H' r = some (.lst us) ∧
          Held NeedAt H' us ns ∧ ns.length = j ∧ ∀ x ∈ ns, (1 ≤ x.2 ∧ x.2 ≤ 200) ∧ NameOf seed x.1)
        ⟨y8, y9, y10, [], [], rfl, (same_upd hr1).trans s2, (by rw [upd_ne rne]; exact upd_same), Held.nil, rfl, fun _ z => nomatch z⟩ (fun j σ H2 hj h => ?_) (fun σ H2 h => ?_)
      · obtain ⟨y8, y9, y10, us, ns, rfl, sm2, hrl, hh, hnl, hng⟩ := h
        have hj' : (j : Int) < n := by omega
        walk_at "rd"
        refine ⟨by omega, by omega, fun som z2 z3 => ?_⟩
        walk_at "rd"
        refine ⟨fun σ' H' => ∃ am : Int, σ' = [some (.ref a), some (.ref b), some (.int m), some (.ref p), some (.int (0 + (i : Int))), some (.int cell), some (.ref r), some (.int n), some (.int (0 + (j : Int))), some (.int som), some (.int am)] ∧ H2 = H' ∧ 1 ≤ am ∧ am ≤ 200, ?_, fun σ' H' h => ?_⟩
        · walk_at "rd"
          refine it_eqI (fun _ => ?_) (fun _ => ?_)
          · walk_at "rd"
            refine fun am a1 a2 => ?_
            exact ⟨am, rfl, rfl, a1, a2⟩
          · exact ⟨_, rfl, rfl, by omega, by omega⟩
        · obtain ⟨am, rfl, rfl, a1, a2⟩ := h
          have hn2 := (hn.same sm).same sm2
          walk_at "rd"
          refine ⟨.inl ⟨rfl, _, sqL hrl⟩, ?_⟩
          walk_at "rd"
          refine ⟨b, _, _, _, rfl, rfl, sqL hn2.1, rfl, ?_⟩
          walk_at "rd"
          refine ⟨b, _, _, _, rfl, rfl, sqL hn2.1, rfl, ?_⟩
          have hmany := hn2.2
          refine ⟨_, _, rfl, rfl, (by show 0 < many; omega), ?_⟩
          have k1 := Int.emod_nonneg (som % 60) (show many ≠ 0 by omega)
          have k2 := Int.emod_lt_of_pos (som % 60) (show 0 < many by omega)
          refine ⟨_, _, rfl, k1, (by show som % 60 % many ≤ 100; omega), fun H3 sm3 => ?_⟩
          walk_at "rd"
          refine ⟨small (by show 2 ≤ 100000; decide), fun t ht => ?_⟩
          have hrl3 : (upd H3 t (.tup [V.str (nameBy seed (som % 60 % many)), V.int am])) r = some (.lst us) := by
            have e := sm3 _ _ hrl
            rw [upd_ne (ne_of_none e ht)]
            exact e
          refine ⟨r, _, _, rfl, rfl, hrl3, small' (by rw [hh.len]; omega), ?_⟩
          have st : SameT H2 (upd (upd H3 t (.tup [V.str (nameBy seed (som % 60 % many)), V.int am])) r (.lst (us ++ [V.ref t]))) := ((SameT.of sm3).trans (SameT.new ht)).trans (SameT.lst hrl3)
          refine ⟨_, _, _, us ++ [V.ref t], ns ++ [(nameBy seed (som % 60 % many), am)], rfl, ((sm2.trans sm3).new ht).mut hr1, upd_same, (hh.mono NeedAt.mono st).snoc ⟨t, rfl, ?_⟩, by rw [List.length_append, hnl]; rfl, fun x hx => ?_⟩
          · rw [upd_ne (ne_of upd_same hrl3 (by intro z; cases z))]
            exact upd_same
          · rcases List.mem_append.mp hx with z | z
            · exact hng x z
            · rw [List.mem_singleton.mp z]
              exact ⟨⟨a1, a2⟩, (som % 60 % many).toNat, by omega, by show nameBy seed (som % 60 % many) = nameBy seed _; rw [Int.toNat_of_nonneg k1]⟩
      · obtain ⟨y8, y9, y10, us, ns, rfl, sm2, hrl, hh, hnl, hng⟩ := h
        walk_at "rd"
        refine ⟨.inl ⟨rfl, _, sqL (sm2 _ _ hpl)⟩, ?_⟩
        walk_at "rd"
        refine ⟨r, _, rfl, .inl ⟨sqL hrl, fun u hu => ?_⟩⟩
        refine ⟨small (by show 2 ≤ 100000; decide), fun t ht => ?_⟩
        have s3 : Same H2 (upd H2 u (.tup us)) := same_upd hu
        have s4 : Same (upd H2 u (.tup us)) (upd (upd H2 u (.tup us)) t (.tup [V.int (1 + cell % 7), V.ref u])) := same_upd ht
        have hpl4 := s4 _ _ (s3 _ _ (sm2 _ _ hpl))
        refine ⟨p, _, _, rfl, rfl, hpl4, small' (by rw [hd.len]; omega), ?_⟩
        have st := SameT.lst (o := .lst (vs ++ [V.ref t])) hpl4
        have stt : SameT H2 _ := ((SameT.of s3).trans (SameT.of s4)).trans st
        refine ⟨_, _, _, _, _, _, _, vs ++ [V.ref t], ds ++ [(1 + cell % 7, ns)], rfl, ((((sm.trans sm2).trans s3).trans s4)).mut hp, upd_same, (hd.mono DishAt.mono ((SameT.of sm2).trans stt)).snoc ⟨t, .ref u, rfl, st _ _ upd_same, u, us, rfl, st _ _ (s4 _ _ upd_same), hh.mono NeedAt.mono stt⟩,
          by rw [List.length_append, hl]; rfl, fun d hd' => ?_⟩
        rcases List.mem_append.mp hd' with z | z
        · exact hg d z
        · rw [List.mem_singleton.mp z]
          exact ⟨by show 1 ≤ 1 + cell % 7; omega, by show 1 + cell % 7 ≤ 7; omega, by show ns.length ≤ 20; omega, hng⟩
    · obtain ⟨y4, y5, y6, y7, y8, y9, y10, vs, ds, rfl, sm, hpl, hd, hl, hg⟩ := h
      walk_at "rd"
      refine ⟨p, _, rfl, .inl ⟨sqL hpl, fun u hu => ?_⟩⟩
      exact q _ ds _ (sm.new hu) ⟨u, vs, rfl, upd_same, hd.mono DishAt.mono (SameT.new hu)⟩ (by omega) hg
abbrev s_larder : Stmt := topS 48
theorem sc_larder : FnScope ["_law_cells", "_law_names_here", "_law_many_here", "_law_larder_here", "_law_k", "_law_cell", "_law_some"] ["_law_cells", "_law_names_here", "_law_many_here"] (defScope s_larder) := ⟨rfl, rfl, rfl, by decide +kernel, rfl, by decide +kernel, by decide +kernel⟩
theorem bd_larder : ∀ (kV doc pm : Value) (an : Option Addr) (cdv ct : Value) (us : List Value), us.length = (["_law_cells", "_law_names_here", "_law_many_here"] : List Str).length → bindArgs (PySem.W.fnOf "_law_larder" "_law_larder" (defArgs s_larder) (defBody s_larder) (defScope s_larder) .none kV doc pm an cdv ct) ⟨us, []⟩ = pure ((["_law_cells", "_law_names_here", "_law_many_here"] : List Str).zip us) := fun _ _ _ _ _ _ us hl => match us, hl with | [_, _, _], _ => rfl
def spLarder (K : PySem.W.Frag) : Sp := fun vs H Q _ => ∃ (a b : Addr) (m seed many : Int), vs = [.ref a, .ref b, .int m] ∧ CellsAt K H a ∧ NamesAt K H b seed many ∧ 0 ≤ m ∧ m ≤ 200 ∧
  ∀ (v : V) (lar : List Batch) (H' : Hp), Same H H' → LarderAt H' v lar → (lar.length : Int) ≤ m → (∀ b ∈ lar, GoodBatch seed b) → Q v H'
theorem ok_larder {P : Program} {w : World} {K : PySem.W.Frag} {mg : Str → Option Value} {base : Heap} (D : DefAt K mg "_law_larder" s_larder) (m_range : mg "range" = none) (m_tuple : mg "tuple" = none)
    (C_mix : Clb P w K mg base 1 "_law_mix" ["_law_cell", "_law_k"] spMix) (C_cell_at : Clb P w K mg base 1 "_law_cell_at" ["_law_cells", "_law_k"] (spCellAt K))
    (C_amount : Clb P w K mg base 1 "_law_amount" ["_law_cell", "_law_most"] spAmount) (C_last : Clb P w K mg base 1 "_law_last" ["_law_cell"] spLast) (C_name_by : Clb P w K mg base 1 "_law_name_by" ["_law_seed", "_law_k"] spNameBy) :
    Clb P w K mg base 2 "_law_larder" ["_law_cells", "_law_names_here", "_law_many_here"] (spLarder K) := by
  refine D.clb sc_larder (fun vs H Q E h => ?_) bd_larder (fun f cdv A outer s H vs Q E hr h => ?_)
  · obtain ⟨a, b, m, seed, many, rfl, _⟩ := h
    rfl
  · obtain ⟨a, b, m, seed, many, rfl, hc, hn, h0, h1, q⟩ := h
    refine ⟨_, (pss_cons (ps_set (i := 3) sc_larder.nd rfl (.inl rfl) (pe_lst pa_nil))
    (pss_cons (ps_for PassesOwn.never rfl (pi_range1 (by rfl) m_range (pa_cons (pv 2) pa_nil)) (pg_name (i := 4) sc_larder.nd rfl (.inl rfl))
      (pss_cons (ps_set (i := 5) sc_larder.nd rfl (.inl rfl) (pe_cal C_mix (hr.mono (by decide)) (pa_cons (pe_cal C_cell_at (hr.mono (by decide)) (pa_cons (pv 0) (pa_cons (pe_op op_add pe_int (pe_op op_mod (pv 4) pe_int)) pa_nil))) (pa_cons (pe_op op_add pe_int (pv 4)) pa_nil))))
    (pss_cons (ps_set (i := 6) sc_larder.nd rfl (.inl rfl) (pe_cal C_mix (hr.mono (by decide)) (pa_cons (pv 5) (pa_cons (pv 4) pa_nil))))
    (pss_one (ps_expr (kpe_bm K PySem.F.plainAttrs_list PySem.F.slot_list_append PySem.F.type_list_append mt_append (pv 3) (pa_cons (pe_tup (pa_cons (pe_cal C_name_by (hr.mono (by decide)) (pa_cons (pe_ix (kix_list K) (pv 1) pe_int (fun _ _ => rfl)) (pa_cons (pe_op op_mod (pe_op op_mod (pv 5) pe_int) (pe_ix (kix_list K) (pv 1) pe_int (fun _ _ => rfl))) pa_nil))) (pa_cons (pe_cal C_amount (hr.mono (by decide)) (pa_cons (pe_op op_fdiv (pv 5) pe_int) (pa_cons pe_int pa_nil))) (pa_cons (pe_cal C_last (hr.mono (by decide)) (pa_cons (pv 6) pa_nil)) pa_nil)))) pa_nil)))))))
    (pss_one (ps_ret (pe_callTy (kcall_tuple_of K) (by rfl) m_tuple (by decide +kernel) (pa_cons (pv 3) pa_nil)))))), ?_⟩
    refine ⟨Nat.zero_le _, fun p hp => ?_⟩
    walk_at "rd"
    refine ⟨by omega, by omega, ?_⟩
    refine for_range (lo := 0) (fun i σ H' => ∃ (y4 y5 y6 : Option V) (vs : List V) (lar : List Batch), σ = [some (.ref a), some (.ref b), some (.int m), some (.ref p), y4, y5, y6] ∧ Same H H' ∧ H' p = some (.lst vs) ∧
        Held BatchAt H' vs lar ∧ lar.length = i ∧ ∀ b ∈ lar, GoodBatch seed b)
      ⟨none, none, none, [], [], rfl, same_upd hp, upd_same, Held.nil, rfl, fun _ z => nomatch z⟩ (fun i σ H1 hi h => ?_) (fun σ H1 h => ?_)
    · obtain ⟨y4, y5, y6, vs, lar, rfl, sm, hpl, hd, hl, hg⟩ := h
      have hi' : (i : Int) < m := by omega
      walk_at "rd"
      refine ⟨hc.same sm, by omega, by omega, fun c c0 c1 => ?_⟩
      walk_at "rd"
      refine ⟨by omega, by omega, fun cell z0 z1 => ?_⟩
      walk_at "rd"
      refine ⟨by omega, by omega, fun som z2 z3 => ?_⟩
      have hn2 := hn.same sm
      have hmany := hn2.2
      walk_at "rd"
      refine ⟨.inl ⟨rfl, _, sqL hpl⟩, ?_⟩
      walk_at "rd"
      refine ⟨b, _, _, _, rfl, rfl, sqL hn2.1, rfl, ?_⟩
      walk_at "rd"
      refine ⟨b, _, _, _, rfl, rfl, sqL hn2.1, rfl, ?_⟩
      refine ⟨_, _, rfl, rfl, (by show 0 < many; omega), ?_⟩
      have k1 := Int.emod_nonneg (cell % 60) (show many ≠ 0 by omega)
      have k2 := Int.emod_lt_of_pos (cell % 60) (show 0 < many by omega)
      refine ⟨_, _, rfl, k1, (by show cell % 60 % many ≤ 100; omega), fun H3 sm3 => ?_⟩
      walk_at "rd"
      refine fun am a1 a2 => ?_
      walk_at "rd"
      refine fun la l1 l2 => ?_
      refine ⟨small (by show 3 ≤ 100000; decide), fun t ht => ?_⟩
      have hpl3 : (upd H3 t (.tup [V.str (nameBy seed (cell % 60 % many)), V.int am, V.int la])) p = some (.lst vs) := by
        have e := sm3 _ _ hpl
        rw [upd_ne (ne_of_none e ht)]
        exact e
      refine ⟨p, _, _, rfl, rfl, hpl3, small' (by rw [hd.len]; omega), ?_⟩
      have st : SameT H1 (upd (upd H3 t (.tup [V.str (nameBy seed (cell % 60 % many)), V.int am, V.int la])) p (.lst (vs ++ [V.ref t]))) := ((SameT.of sm3).trans (SameT.new ht)).trans (SameT.lst hpl3)
      refine ⟨_, _, _, vs ++ [V.ref t], lar ++ [⟨nameBy seed (cell % 60 % many), am, la⟩], rfl, ((sm.trans sm3).new ht).mut hp, upd_same, (hd.mono BatchAt.mono st).snoc ⟨t, rfl, ?_⟩, by rw [List.length_append, hl]; rfl, fun x hx => ?_⟩
      · rw [upd_ne (ne_of upd_same hpl3 (by intro z; cases z))]
        exact upd_same
      · rcases List.mem_append.mp hx with z | z
        · exact hg x z
        · rw [List.mem_singleton.mp z]
          exact ⟨a1, a2, l1, l2, (cell % 60 % many).toNat, by omega, by show nameBy seed (cell % 60 % many) = nameBy seed _; rw [Int.toNat_of_nonneg k1]⟩
    · obtain ⟨y4, y5, y6, vs, lar, rfl, sm, hpl, hd, hl, hg⟩ := h
      walk_at "rd"
      refine ⟨p, _, rfl, .inl ⟨sqL hpl, fun u hu => ?_⟩⟩
      exact q _ lar _ (sm.new hu) ⟨u, vs, rfl, upd_same, hd.mono BatchAt.mono (SameT.new hu)⟩ (by omega) hg
abbrev s_price : Stmt := topS 49
theorem sc_price : FnScope ["_law_cell"] ["_law_cell"] (defScope s_price) := ⟨rfl, rfl, rfl, by decide +kernel, rfl, by decide +kernel, by decide +kernel⟩
theorem bd_price : ∀ (kV doc pm : Value) (an : Option Addr) (cdv ct : Value) (us : List Value), us.length = (["_law_cell"] : List Str).length → bindArgs (PySem.W.fnOf "_law_price" "_law_price" (defArgs s_price) (defBody s_price) (defScope s_price) .none kV doc pm an cdv ct) ⟨us, []⟩ = pure ((["_law_cell"] : List Str).zip us) := fun _ _ _ _ _ _ us hl => match us, hl with | [_], _ => rfl
def spPrice : Sp := fun vs H Q _ => ∃ c : Int, vs = [.int c] ∧ ∀ z : Int, 0 ≤ z → z ≤ 1000000 → Q (.int z) H
theorem ok_price {P : Program} {w : World} {K : PySem.W.Frag} {mg : Str → Option Value} {base : Heap} (D : DefAt K mg "_law_price" s_price) : Clb P w K mg base 1 "_law_price" ["_law_cell"] spPrice := by
  refine D.clb sc_price (fun vs H Q E h => ?_) bd_price (fun f cdv A outer s H vs Q E hr h => ?_)
  · obtain ⟨c, rfl, _⟩ := h
    rfl
  · obtain ⟨c, rfl, q⟩ := h
    refine ⟨_, (pss_cons (ps_if (pt_cmpR op_eq (pe_op op_mod (pv 0) pe_int) pe_int (nomark _))
      (pss_one (ps_ret (pe_op op_mod (pe_op op_fdiv (pv 0) pe_int) pe_int)))
      pss_nil)
    (pss_cons (ps_if (pt_cmpR op_eq (pe_op op_mod (pv 0) pe_int) pe_int (nomark _))
      (pss_one (ps_ret pe_int))
      pss_nil)
    (pss_one (ps_ret (pe_op op_mod (pe_op op_fdiv (pv 0) pe_int) pe_int))))), ?_⟩
    have e1 := Int.emod_nonneg (c / 9) (show (1000001 : Int) ≠ 0 by decide)
    have e2 := Int.emod_lt_of_pos (c / 9) (show (0 : Int) < 1000001 by decide)
    have e3 := Int.emod_nonneg (c / 9) (show (30 : Int) ≠ 0 by decide)
    have e4 := Int.emod_lt_of_pos (c / 9) (show (0 : Int) < 30 by decide)
    walk_at "rd"
    refine it_eqI (fun _ => ?_) (fun _ => ?_)
    · walk_at "rd"
      exact q _ e1 (by omega)
    · walk_at "rd"
      refine it_eqI (fun _ => ?_) (fun _ => ?_)
      · exact q 0 (by decide) (by decide)
      · walk_at "rd"
        exact q _ e3 (by omega)
abbrev s_packs : Stmt := topS 50
theorem sc_packs : FnScope ["_law_cells", "_law_names_here", "_law_many_here", "_law_packs_here", "_law_k", "_law_cell", "_law_some", "_law_name"] ["_law_cells", "_law_names_here", "_law_many_here"] (defScope s_packs) := ⟨rfl, rfl, rfl, by decide +kernel, rfl, by decide +kernel, by decide +kernel⟩
theorem bd_packs : ∀ (kV doc pm : Value) (an : Option Addr) (cdv ct : Value) (us : List Value), us.length = (["_law_cells", "_law_names_here", "_law_many_here"] : List Str).length → bindArgs (PySem.W.fnOf "_law_packs" "_law_packs" (defArgs s_packs) (defBody s_packs) (defScope s_packs) .none kV doc pm an cdv ct) ⟨us, []⟩ = pure ((["_law_cells", "_law_names_here", "_law_many_here"] : List Str).zip us) := fun _ _ _ _ _ _ us hl => match us, hl with | [_, _, _], _ => rfl
def spPacks (K : PySem.W.Frag) : Sp := fun vs H Q _ => ∃ (a b : Addr) (m seed many : Int), vs = [.ref a, .ref b, .int m] ∧ CellsAt K H a ∧ NamesAt K H b seed many ∧ 0 ≤ m ∧ m ≤ 60 ∧
  ∀ (v : V) (ps : List Pack) (H' : Hp), Same H H' → PacksAt H' v ps → (ps.length : Int) ≤ m → (∀ p ∈ ps, GoodPack seed p) → Q v H'
theorem ok_packs {P : Program} {w : World} {K : PySem.W.Frag} {mg : Str → Option Value} {base : Heap} (D : DefAt K mg "_law_packs" s_packs) (m_range : mg "range" = none) (m_tuple : mg "tuple" = none)
    (C_mix : Clb P w K mg base 1 "_law_mix" ["_law_cell", "_law_k"] spMix) (C_cell_at : Clb P w K mg base 1 "_law_cell_at" ["_law_cells", "_law_k"] (spCellAt K)) (C_amount : Clb P w K mg base 1 "_law_amount" ["_law_cell", "_law_most"] spAmount) (C_last : Clb P w K mg base 1 "_law_last" ["_law_cell"] spLast) (C_price : Clb P w K mg base 1 "_law_price" ["_law_cell"] spPrice) (C_name_by : Clb P w K mg base 1 "_law_name_by" ["_law_seed", "_law_k"] spNameBy) :
    Clb P w K mg base 2 "_law_packs" ["_law_cells", "_law_names_here", "_law_many_here"] (spPacks K) := by
  refine D.clb sc_packs (fun vs H Q E h => ?_) bd_packs (fun f cdv A outer s H vs Q E hr h => ?_)
  · obtain ⟨a, b, m, seed, many, rfl, _⟩ := h
    rfl
  · obtain ⟨a, b, m, seed, many, rfl, hc, hn, h0, h1, q⟩ := h
    refine ⟨_, (pss_cons (ps_set (i := 3) sc_packs.nd rfl (.inl rfl) (pe_lst pa_nil))
    (pss_cons (ps_for PassesOwn.never rfl (pi_range1 (by rfl) m_range (pa_cons (pv 2) pa_nil)) (pg_name (i := 4) sc_packs.nd rfl (.inl rfl))
      (pss_cons (ps_set (i := 5) sc_packs.nd rfl (.inl rfl) (pe_cal C_mix (hr.mono (by decide)) (pa_cons (pe_cal C_cell_at (hr.mono (by decide)) (pa_cons (pv 0) (pa_cons (pe_op op_add pe_int (pe_op op_mod (pv 4) pe_int)) pa_nil))) (pa_cons (pe_op op_add pe_int (pv 4)) pa_nil))))
    (pss_cons (ps_set (i := 6) sc_packs.nd rfl (.inl rfl) (pe_cal C_mix (hr.mono (by decide)) (pa_cons (pv 5) (pa_cons (pe_op op_add (pv 4) pe_int) pa_nil))))
    (pss_cons (ps_set (i := 7) sc_packs.nd rfl (.inl rfl) (pe_cal C_name_by (hr.mono (by decide)) (pa_cons (pe_ix (kix_list K) (pv 1) pe_int (fun _ _ => rfl)) (pa_cons (pe_op op_mod (pe_op op_mod (pv 5) pe_int) (pe_ix (kix_list K) (pv 1) pe_int (fun _ _ => rfl))) pa_nil))))
    (pss_one (ps_expr (kpe_bm K PySem.F.plainAttrs_list PySem.F.slot_list_append PySem.F.type_list_append mt_append (pv 3) (pa_cons (pe_tup (pa_cons (pv 7) (pa_cons (pe_cal C_amount (hr.mono (by decide)) (pa_cons (pe_op op_fdiv (pv 5) pe_int) (pa_cons pe_int pa_nil))) (pa_cons (pe_cal C_price (hr.mono (by decide)) (pa_cons (pv 6) pa_nil)) (pa_cons (pe_cal C_last (hr.mono (by decide)) (pa_cons (pe_op op_fdiv (pv 6) pe_int) pa_nil)) pa_nil))))) pa_nil))))))))
    (pss_one (ps_ret (pe_callTy (kcall_tuple_of K) (by rfl) m_tuple (by decide +kernel) (pa_cons (pv 3) pa_nil)))))), ?_⟩
    refine ⟨Nat.zero_le _, fun p hp => ?_⟩
    walk_at "rd"
    refine ⟨by omega, by omega, ?_⟩
    refine for_range (lo := 0) (fun i σ H' => ∃ (y4 y5 y6 y7 : Option V) (vs : List V) (ps : List Pack), σ = [some (.ref a), some (.ref b), some (.int m), some (.ref p), y4, y5, y6, y7] ∧ Same H H' ∧ H' p = some (.lst vs) ∧
        Held PackAt H' vs ps ∧ ps.length = i ∧ ∀ b ∈ ps, GoodPack seed b)
      ⟨none, none, none, none, [], [], rfl, same_upd hp, upd_same, Held.nil, rfl, fun _ z => nomatch z⟩ (fun i σ H1 hi h => ?_) (fun σ H1 h => ?_)
    · obtain ⟨y4, y5, y6, y7, vs, ps, rfl, sm, hpl, hd, hl, hg⟩ := h
      have hi' : (i : Int) < m := by omega
      walk_at "rd"
      refine ⟨hc.same sm, by omega, by omega, fun c c0 c1 => ?_⟩
      walk_at "rd"
      refine ⟨by omega, by omega, fun cell z0 z1 => ?_⟩
      walk_at "rd"
      refine ⟨by omega, by omega, fun som z2 z3 => ?_⟩
      have hn2 := hn.same sm
      have hmany := hn2.2
      refine ⟨_, rfl, b, _, _, _, rfl, rfl, sqL hn2.1, rfl, ?_⟩
      walk_at "rd"
      refine ⟨b, _, _, _, rfl, rfl, sqL hn2.1, rfl, ?_⟩
      refine ⟨_, _, rfl, rfl, (by show 0 < many; omega), ?_⟩
      have k1 := Int.emod_nonneg (cell % 60) (show many ≠ 0 by omega)
      have k2 := Int.emod_lt_of_pos (cell % 60) (show 0 < many by omega)
      refine ⟨_, _, rfl, k1, (by show cell % 60 % many ≤ 100; omega), fun H3 sm3 => ?_⟩
      have hpl4 := sm3 _ _ hpl
      refine ⟨_, rfl, .inl ⟨rfl, _, sqL hpl4⟩, ?_⟩
      walk_at "rd"
      refine fun am a1 a2 => ?_
      walk_at "rd"
      refine fun pr p0 p1 => ?_
      walk_at "rd"
      refine fun la l1 l2 => ?_
      refine ⟨small (by show 4 ≤ 100000; decide), fun t ht => ?_⟩
      have hpl3 : (upd H3 t (.tup [V.str (nameBy seed (cell % 60 % many)), V.int am, V.int pr, V.int la])) p = some (.lst vs) := by
        rw [upd_ne (ne_of_none hpl4 ht)]
        exact hpl4
      refine ⟨p, _, _, rfl, rfl, hpl3, small' (by rw [hd.len]; omega), ?_⟩
      have st : SameT H1 (upd (upd H3 t (.tup [V.str (nameBy seed (cell % 60 % many)), V.int am, V.int pr, V.int la])) p (.lst (vs ++ [V.ref t]))) := ((SameT.of sm3).trans (SameT.new ht)).trans (SameT.lst hpl3)
      refine ⟨_, _, _, _, vs ++ [V.ref t], ps ++ [⟨nameBy seed (cell % 60 % many), am, pr, la⟩], rfl, ((sm.trans sm3).new ht).mut hp, upd_same, (hd.mono PackAt.mono st).snoc ⟨t, rfl, ?_⟩, by rw [List.length_append, hl]; rfl, fun x hx => ?_⟩
      · rw [upd_ne (ne_of upd_same hpl3 (by intro z; cases z))]
        exact upd_same
      · rcases List.mem_append.mp hx with z | z
        · exact hg x z
        · rw [List.mem_singleton.mp z]
          exact ⟨a1, a2, p0, p1, l1, l2, (cell % 60 % many).toNat, by omega, by show nameBy seed (cell % 60 % many) = nameBy seed _; rw [Int.toNat_of_nonneg k1]⟩
    · obtain ⟨y4, y5, y6, y7, vs, ps, rfl, sm, hpl, hd, hl, hg⟩ := h
      walk_at "rd"
      refine ⟨p, _, rfl, .inl ⟨sqL hpl, fun u hu => ?_⟩⟩
      exact q _ ps _ (sm.new hu) ⟨u, vs, rfl, upd_same, hd.mono PackAt.mono (SameT.new hu)⟩ (by omega) hg
abbrev s_things : Stmt := topS 55
theorem sc_things : FnScope ["_law_dishes_here", "_law_found", "_law_dish", "_law_need"] ["_law_dishes_here"] (defScope s_things) := ⟨rfl, rfl, rfl, by decide +kernel, rfl, by decide +kernel, by decide +kernel⟩
theorem bd_things : ∀ (kV doc pm : Value) (an : Option Addr) (cdv ct : Value) (us : List Value), us.length = (["_law_dishes_here"] : List Str).length → bindArgs (PySem.W.fnOf "_law_things" "_law_things" (defArgs s_things) (defBody s_things) (defScope s_things) .none kV doc pm an cdv ct) ⟨us, []⟩ = pure ((["_law_dishes_here"] : List Str).zip us) := fun _ _ _ _ _ _ us hl => match us, hl with | [_], _ => rfl
def spThings (K : PySem.W.Frag) : Sp := fun vs H Q _ => ∃ (v : V) (ds : List Dish), vs = [v] ∧ DishesAt H v ds ∧ ds.length ≤ 100 ∧ (∀ d ∈ ds, d.2.length ≤ 20) ∧ (namesOf ds).length < 64 ∧
  ∀ p (ys : List Str) H', Same H H' → ys.Perm (namesOf ds) → sortedS ys = true → H p = none → H' p = some (.lst (ys.map V.str)) → Q (.ref p) H'
theorem ok_things {P : Program} {w : World} {K : PySem.W.Frag} {mg : Str → Option Value} {base : Heap} (D : DefAt K mg "_law_things" s_things) (m_sorted : mg "sorted" = none) :
    Clb P w K mg base 1 "_law_things" ["_law_dishes_here"] (spThings K) := by
  refine D.clb sc_things (fun vs H Q E h => ?_) bd_things (fun f cdv A outer s H vs Q E hr h => ?_)
  · obtain ⟨v, ds, rfl, _⟩ := h
    rfl
  · obtain ⟨v, ds, rfl, ⟨a, us, rfl, ha, hh⟩, hl, hn, h64, q⟩ := h
    refine ⟨_, (pss_cons (ps_set (i := 1) sc_things.nd rfl (.inl rfl) pe_dnewK)
    (pss_cons (ps_for PassesOwn.never rfl (kpi_tup K (pv 0)) (pg_name (i := 2) sc_things.nd rfl (.inl rfl))
      (pss_one (ps_for PassesOwn.never rfl (kpi_tup K (pe_ix (kix_tup K) (pv 2) pe_int (fun _ _ => rfl))) (pg_name (i := 3) sc_things.nd rfl (.inl rfl))
      (pss_one (ps_dput (hu_of hr) (pv 1) (pe_ix (kix_tup K) (pv 3) pe_int (fun _ _ => rfl)) pe_bl rfl)))))
    (pss_one (ps_ret (pe_callB (call_sortedD rfl) (by rfl) m_sorted (by decide +kernel) (pa_cons (pv 1) pa_nil)))))), ?_⟩
    intro p hp
    refine ⟨_, rfl, a, rfl, ⟨_, (same_upd hp).seqT (sqT ha)⟩, ?_⟩
    refine for_tup (xs := us) (fun i σ H1 => ∃ (y2 y3 : Option V) (kvs : List (Key × V)), σ = [some (.ref a), some (.ref p), y2, y3] ∧ Same H H1 ∧ H1 p = some (.dK kvs) ∧ kvs.map (·.1) = (insAll [] (allS (ds.take i))).map Sum.inr)
      ⟨none, none, [], rfl, same_upd hp, upd_same, rfl⟩ (fun i σ H1 _ h => by obtain ⟨_, _, _, _, sm, _⟩ := h; exact sm.seqT (sqT ha)) (fun i v σ H1 hv h => ?_) (fun σ H1 h => ?_)
    · obtain ⟨y2, y3, kvs, rfl, sm, hpd, hk⟩ := h
      obtain ⟨d, hd, t, u, rfl, ht, z, ws, rfl, hz, hw⟩ := hh.get hv
      have e20 := hn d (List.mem_of_getElem? hd)
      have eall : allS (ds.take (i + 1)) = allS (ds.take i) ++ d.2.map (·.1) := by
        rw [take_succ' hd]
        unfold allS
        rw [List.flatMap_append]
        simp
      refine ⟨_, rfl, t, _, _, _, rfl, rfl, sqT (sm _ _ ht), rfl, z, rfl, ⟨_, sqT (sm _ _ hz)⟩, ?_⟩
      refine for_tup (xs := ws) (fun j σ H2 => ∃ (y3 : Option V) (kvs : List (Key × V)), σ = [some (.ref a), some (.ref p), some (.ref t), y3] ∧ Same H H2 ∧ H2 p = some (.dK kvs) ∧ kvs.map (·.1) = (insAll (insAll [] (allS (ds.take i))) ((d.2.take j).map (·.1))).map Sum.inr)
        ⟨y3, kvs, rfl, sm, hpd, hk⟩ (fun j σ H2 _ h => by obtain ⟨_, _, _, sm, _⟩ := h; exact sm.seqT (sqT hz)) (fun j v σ H2 hv2 h => ?_) (fun σ H2 h => ?_)
      · obtain ⟨y3, kvs, rfl, s2, hpd2, hk2⟩ := h
        obtain ⟨x, hx2, t2, rfl, ht2⟩ := hw.get hv2
        refine ⟨_, rfl, _, rfl, t2, _, _, _, rfl, rfl, sqT (s2 _ _ ht2), rfl, p, _, rfl, DPut.k (k := Sum.inr x.1) hpd2 (small' ?_), ?_⟩
        · have z0 := congrArg List.length hk2
          rw [List.length_map, List.length_map] at z0
          have z1 := insAll_len ((d.2.take j).map (·.1)) (insAll [] (allS (ds.take i)))
          have z2 := insAll_len (allS (ds.take i)) []
          have z3 := allS_len (n := 20) (ds.take i) fun d hd => hn d (List.mem_of_mem_take hd)
          rw [List.length_map, List.length_take] at z1
          rw [List.length_take] at z3
          rw [List.length_nil] at z2
          omega
        · refine ⟨_, _, rfl, s2.mut hp, upd_same, ?_⟩
          rw [putK_keys hk2, take_succ' hx2, List.map_append, List.map_singleton, insAll_snoc]
      · obtain ⟨y3, kvs, rfl, s2, hpd2, hk2⟩ := h
        refine ⟨_, _, kvs, rfl, s2, hpd2, ?_⟩
        rw [hk2, eall, insAll_app, hw.len, List.take_length]
    · obtain ⟨y2, y3, kvs, rfl, sm, hpd, hk⟩ := h
      rw [hh.len, List.take_length] at hk
      refine ⟨_, rfl, p, kvs, namesOf ds, rfl, .inl hpd, hk, h64, fun ys r pm so hr2 => ?_⟩
      exact q r ys _ (sm.new hr2) pm so (same_none sm hr2) upd_same
abbrev s_lacks : Stmt := topS 53
theorem sc_lacks : FnScope ["_law_dishes_here", "_law_larder_here", "_law_name", "_law_lacks_here", "_law_day", "_law_amount_here", "_law_dish", "_law_need", "_law_batch"] ["_law_dishes_here", "_law_larder_here", "_law_name"] (defScope s_lacks) := ⟨rfl, rfl, rfl, by decide +kernel, rfl, by decide +kernel, by decide +kernel⟩
theorem bd_lacks : ∀ (kV doc pm : Value) (an : Option Addr) (cdv ct : Value) (us : List Value), us.length = (["_law_dishes_here", "_law_larder_here", "_law_name"] : List Str).length → bindArgs (PySem.W.fnOf "_law_lacks" "_law_lacks" (defArgs s_lacks) (defBody s_lacks) (defScope s_lacks) .none kV doc pm an cdv ct) ⟨us, []⟩ = pure ((["_law_dishes_here", "_law_larder_here", "_law_name"] : List Str).zip us) := fun _ _ _ _ _ _ us hl => match us, hl with | [_, _, _], _ => rfl
def spLacks (K : PySem.W.Frag) : Sp := fun vs H Q _ => ∃ (v u : V) (ds : List Dish) (lar : List Batch) (nm : Str), vs = [v, u, .str nm] ∧ DishesAt H v ds ∧ (∀ d ∈ ds, d.2.length ≤ 20) ∧ LarderAt H u lar ∧
  ∀ p H', Same H H' → H p = none → H' p = some (.lst ((lackW ds lar nm).map V.int)) → Q (.ref p) H'
theorem ok_lacks {P : Program} {w : World} {K : PySem.W.Frag} {mg : Str → Option Value} {base : Heap} (D : DefAt K mg "_law_lacks" s_lacks) (m_range : mg "range" = none) (m_sum : mg "sum" = none) (m_max : mg "max" = none) :
    Clb P w K mg base 1 "_law_lacks" ["_law_dishes_here", "_law_larder_here", "_law_name"] (spLacks K) := by
  refine D.clb sc_lacks (fun vs H Q E h => ?_) bd_lacks (fun f cdv A outer s H vs Q E hr h => ?_)
  · obtain ⟨v, u, ds, lar, nm, rfl, _⟩ := h
    rfl
  · obtain ⟨v, u, ds, lar, nm, rfl, ⟨a, us, rfl, ha, hh⟩, hn, ⟨b, bs, rfl, hb, hbh⟩, q⟩ := h
    refine ⟨_, (pss_cons (ps_set (i := 3) sc_lacks.nd rfl (.inl rfl) (pe_lst pa_nil))
    (pss_cons (ps_for PassesOwn.never rfl (pi_range2 (by rfl) m_range (pa_cons pe_int (pa_cons pe_int pa_nil))) (pg_name (i := 4) sc_lacks.nd rfl (.inl rfl))
      (pss_cons (ps_set (i := 5) sc_lacks.nd rfl (.inl rfl) pe_int)
    (pss_cons (ps_for PassesOwn.never rfl (kpi_tup K (pv 0)) (pg_name (i := 6) sc_lacks.nd rfl (.inl rfl))
      (pss_one (ps_if (pt_cmpR op_ge (pe_ix (kix_tup K) (pv 6) pe_int (fun _ _ => rfl)) (pv 4) (nomark _))
      (pss_one (ps_set (i := 5) sc_lacks.nd rfl (.inl rfl) (pe_op op_add (pv 5) (pe_callB (kcr_sum K rfl) (by rfl) m_sum (by decide +kernel) (pa_cons (pe_lc (own := [("_law_need", 7)]) rfl sc_lacks.nd (kpi_tup K (pe_ix (kix_tup K) (pv 6) pe_int (fun _ _ => rfl))) (blkOk_by (own := [("_law_need", 7)]) (N := ["_law_dishes_here", "_law_larder_here", "_law_name", "_law_lacks_here", "_law_day", "_law_amount_here", "_law_dish", "_law_need", "_law_batch"]) (sc := defScope s_lacks) (by decide +kernel)) (fun _ _ _ _ _ => (pg_name (i := 7) sc_lacks.nd rfl (.inl rfl))) (fun _ _ _ _ _ => (pts_one (pt_cmpR op_eq (pe_ix (kix_tup K) (pv 7) pe_int (fun _ _ => rfl)) (pv 2) (nomark _)))) (fun _ _ _ _ _ => (pe_ix (kix_tup K) (pv 7) pe_int (fun _ _ => rfl)))) pa_nil)))))
      pss_nil)))
    (pss_cons (ps_for PassesOwn.never rfl (kpi_tup K (pv 1)) (pg_name (i := 8) sc_lacks.nd rfl (.inl rfl))
      (pss_one (ps_if (PW.pt (pw_and (pt_cmpR op_eq (pe_ix (kix_tup K) (pv 8) pe_int (fun _ _ => rfl)) (pv 2) (nomark _)) (pw_and1 (pt_cmpR op_ge (pe_ix (kix_tup K) (pv 8) pe_int (fun _ _ => rfl)) (pv 4) (nomark _)))))
      (pss_one (ps_set (i := 5) sc_lacks.nd rfl (.inl rfl) (pe_op op_sub (pv 5) (pe_ix (kix_tup K) (pv 8) pe_int (fun _ _ => rfl)))))
      pss_nil)))
    (pss_one (ps_expr (kpe_bm K PySem.F.plainAttrs_list PySem.F.slot_list_append PySem.F.type_list_append mt_append (pv 3) (pa_cons (pe_callB (call_max2 rfl) (by rfl) m_max (by decide +kernel) (pa_cons pe_int (pa_cons (pv 5) pa_nil))) pa_nil))))))))
    (pss_one (ps_ret (pv 3))))), ?_⟩
    refine ⟨Nat.zero_le _, fun p hp => ?_⟩
    refine ⟨_, _, rfl, by decide, ?_⟩
    refine for_range (lo := 1) (n := 7) (fun i σ H1 => ∃ y4 y5 y6 y7 y8 : Option V, σ = [some (.ref a), some (.ref b), some (.str nm), some (.ref p), y4, y5, y6, y7, y8] ∧ Same H H1 ∧ H1 p = some (.lst (((List.range i).map fun j => lackDay ds lar nm (1 + (j : Nat))).map V.int)) ∧ i ≤ 7)
      ⟨none, none, none, none, none, rfl, same_upd hp, upd_same, by decide⟩ (fun i σ H1 hi h => ?_) (fun σ H1 h => ?_)
    · obtain ⟨y4, y5, y6, y7, y8, rfl, sm, hpl, _⟩ := h
      generalize hday : (1 : Int) + (i : Nat) = day
      -- the dishes
      refine ⟨_, rfl, a, rfl, ⟨_, sqT (sm _ _ ha)⟩, ?_⟩
      refine for_tup (xs := us) (fun j σ H2 => ∃ y6 y7 y8 : Option V, σ = [some (.ref a), some (.ref b), some (.str nm), some (.ref p), some (.int day), some (.int (needFrom (ds.take j) nm day)), y6, y7, y8] ∧ Same H1 H2) ⟨y6, y7, y8, rfl, Same.refl _⟩
        (fun j σ H2 _ h => by obtain ⟨_, _, _, _, s2⟩ := h; exact (sm.trans s2).seqT (sqT ha)) (fun j v σ H2 hv h => ?_) (fun σ H2 h => ?_)
      · obtain ⟨y6, y7, y8, rfl, s2⟩ := h
        obtain ⟨d, hd, t, w', rfl, ht, z, ws, rfl, hz, hw⟩ := hh.get hv
        have s02 := sm.trans s2
        refine ⟨_, rfl, t, _, _, _, rfl, rfl, sqT (s02 _ _ ht), rfl, ?_⟩
        have et := take_succ' hd
        walk_at "rd"
        refine it_le (fun e => ?_) (fun e => ?_)
        · refine ⟨_, rfl, ?_⟩
          refine ⟨_, rfl, t, _, _, _, rfl, rfl, sqT (s02 _ _ ht), rfl, z, rfl, ⟨_, sqT (s02 _ _ hz)⟩, fun D hD => lc_rel (walk_tup (xs := ws)) (xs := d.2) hw.len.symm (f := fun x => if x.1 = nm then some x.2 else none) (R := fun _ v x => v = V.int x) mono_eq hD (fun H' s => (s02.trans s).seqT (sqT hz)) (by have h20 := hn d (List.mem_of_getElem? hd); have := hw.len; omega) (fun i v x H3 H4 Ky Kn hx s3 hy h1 h2 => ?_) (fun H3 ys s3 hD' hd' => ?_)⟩
          · obtain ⟨rfl, hv⟩ := hy
            obtain ⟨t2, rfl, ht2⟩ := hw.all i v x hv hx
            have ht3 := (s02.trans s3) _ _ ht2
            refine ⟨rfl, ?_⟩
            refine ⟨_, rfl, t2, _, _, _, rfl, rfl, sqT ht3, rfl, ?_⟩
            walk_at "rd"
            refine it_eqS (fun e => ?_) (fun e => ?_)
            · exact ⟨_, rfl, t2, _, _, _, rfl, rfl, sqT ht3, rfl, h1 _ _ _ (if_pos e) (Same.refl _) rfl⟩
            · exact h2 _ (if_neg e) (Same.refl _)
          · have e2 := held_eq (f := V.int) hd'
            refine ⟨D, _, rfl, sqL (by rw [hD', e2]), ?_⟩
            exact ⟨_, _, rfl, rfl, some (.ref t), y7, y8, by rw [et, needFrom_snoc, if_pos e]; rfl, s2.trans s3⟩
        · exact ⟨some (.ref t), y7, y8, by rw [et, needFrom_snoc, if_neg e, Int.add_zero]; rfl, s2⟩
      · obtain ⟨y6, y7, y8, rfl, s2⟩ := h
        rw [hh.len, List.take_length]
        have s02 := sm.trans s2
        -- the batches
        refine ⟨_, rfl, b, rfl, ⟨_, sqT (s02 _ _ hb)⟩, ?_⟩
        refine for_tup (xs := bs) (fun j σ H3 => ∃ y6 y7 y8 : Option V, σ = [some (.ref a), some (.ref b), some (.str nm), some (.ref p), some (.int day), some (.int (needFrom ds nm day - keptTo (lar.take j) nm day)), y6, y7, y8] ∧ H3 = H2)
          ⟨y6, y7, y8, by show _ = [_, _, _, _, _, some (V.int (needFrom ds nm day - 0)), _, _, _]; rw [Int.sub_zero], rfl⟩
          (fun j σ H3 _ h => by obtain ⟨_, _, _, _, rfl⟩ := h; exact s02.seqT (sqT hb)) (fun j v σ H3 hv h => ?_) (fun σ H3 h => ?_)
        · obtain ⟨y6, y7, y8, rfl, rfl⟩ := h
          obtain ⟨bt, hbt, t, rfl, ht⟩ := hbh.get hv
          have ht' := sqT (K := K) (s02 _ _ ht)
          have et := take_succ' hbt
          refine ⟨_, rfl, t, _, _, _, rfl, rfl, ht', rfl, ?_⟩
          walk_at "rd"
          refine it_eqS (fun e => ?_) (fun e => ?_)
          · refine ⟨_, rfl, t, _, _, _, rfl, rfl, ht', rfl, ?_⟩
            walk_at "rd"
            refine it_le (fun e2 => ?_) (fun e2 => ?_)
            · refine ⟨_, rfl, _, rfl, t, _, _, _, rfl, rfl, ht', rfl, ?_⟩
              exact ⟨_, _, rfl, rfl, y6, y7, some (.ref t), by rw [et, keptTo_snoc, if_pos ⟨e, e2⟩, ← Int.sub_sub]; rfl, rfl⟩
            · exact ⟨y6, y7, some (.ref t), by rw [et, keptTo_snoc, if_neg (fun z => e2 z.2), Int.add_zero]; rfl, rfl⟩
          · exact ⟨y6, y7, some (.ref t), by rw [et, keptTo_snoc, if_neg (fun z => e z.1), Int.add_zero]; rfl, rfl⟩
        · obtain ⟨y6, y7, y8, rfl, rfl⟩ := h
          rw [hbh.len, List.take_length]
          have hpl2 := s2 _ _ hpl
          refine ⟨_, rfl, .inl ⟨rfl, _, sqL hpl2⟩, ?_⟩
          walk_at "rd"
          refine ⟨p, _, _, rfl, rfl, hpl2, small' (by rw [List.length_map, List.length_map, List.length_range]; omega), ?_⟩
          refine ⟨_, _, _, _, _, rfl, s02.mut hp, ?_, by omega⟩
          rw [upd_same, List.range_succ, List.map_append, List.map_append]
          show _ = some (HO.lst (_ ++ [V.int (lackDay ds lar nm (1 + (i : Nat)))]))
          rw [hday]
          rfl
    · obtain ⟨y4, y5, y6, y7, y8, rfl, sm, hpl, _⟩ := h
      exact ⟨_, rfl, q p H1 sm hp hpl⟩
abbrev s_of_all : Stmt := topS 54
theorem sc_of_all : FnScope ["_law_dishes_here", "_law_name", "_law_amount_here", "_law_dish", "_law_need"] ["_law_dishes_here", "_law_name"] (defScope s_of_all) := ⟨rfl, rfl, rfl, by decide +kernel, rfl, by decide +kernel, by decide +kernel⟩
theorem bd_of_all : ∀ (kV doc pm : Value) (an : Option Addr) (cdv ct : Value) (us : List Value), us.length = (["_law_dishes_here", "_law_name"] : List Str).length → bindArgs (PySem.W.fnOf "_law_of_all" "_law_of_all" (defArgs s_of_all) (defBody s_of_all) (defScope s_of_all) .none kV doc pm an cdv ct) ⟨us, []⟩ = pure ((["_law_dishes_here", "_law_name"] : List Str).zip us) := fun _ _ _ _ _ _ us hl => match us, hl with | [_, _], _ => rfl
def ofAll (ds : List Dish) (nm : Str) : Int := (ds.map fun d => needOf d nm).sum
theorem ofAll_snoc (ds : List Dish) (d : Dish) (nm : Str) : ofAll (ds ++ [d]) nm = ofAll ds nm + needOf d nm := by
  unfold ofAll
  rw [List.map_append, List.sum_append]; simp
def spOfAll : Sp := fun vs H Q _ => ∃ (v : V) (ds : List Dish) (nm : Str), vs = [v, .str nm] ∧ DishesAt H v ds ∧ (∀ d ∈ ds, d.2.length ≤ 20) ∧ ∀ H', Same H H' → Q (.int (ofAll ds nm)) H'
theorem ok_of_all {P : Program} {w : World} {K : PySem.W.Frag} {mg : Str → Option Value} {base : Heap} (D : DefAt K mg "_law_of_all" s_of_all) (m_sum : mg "sum" = none) : Clb P w K mg base 1 "_law_of_all" ["_law_dishes_here", "_law_name"] spOfAll := by
  refine D.clb sc_of_all (fun vs H Q E h => ?_) bd_of_all (fun f cdv A outer s H vs Q E hr h => ?_)
  · obtain ⟨v, ds, nm, rfl, _⟩ := h
    rfl
  · obtain ⟨v, ds, nm, rfl, ⟨a, us, rfl, ha, hh⟩, hn, q⟩ := h
    refine ⟨_, (pss_cons (ps_set (i := 2) sc_of_all.nd rfl (.inl rfl) pe_int)
    (pss_cons (ps_for PassesOwn.never rfl (kpi_tup K (pv 0)) (pg_name (i := 3) sc_of_all.nd rfl (.inl rfl))
      (pss_one (ps_set (i := 2) sc_of_all.nd rfl (.inl rfl) (pe_op op_add (pv 2) (pe_callB (kcr_sum K rfl) (by rfl) m_sum (by decide +kernel) (pa_cons (pe_lc (own := [("_law_need", 4)]) rfl sc_of_all.nd (kpi_tup K (pe_ix (kix_tup K) (pv 3) pe_int (fun _ _ => rfl))) (blkOk_by (own := [("_law_need", 4)]) (N := ["_law_dishes_here", "_law_name", "_law_amount_here", "_law_dish", "_law_need"]) (sc := defScope s_of_all) (by decide +kernel)) (fun _ _ _ _ _ => (pg_name (i := 4) sc_of_all.nd rfl (.inl rfl))) (fun _ _ _ _ _ => (pts_one (pt_cmpR op_eq (pe_ix (kix_tup K) (pv 4) pe_int (fun _ _ => rfl)) (pv 1) (nomark _)))) (fun _ _ _ _ _ => (pe_ix (kix_tup K) (pv 4) pe_int (fun _ _ => rfl)))) pa_nil))))))
    (pss_one (ps_ret (pv 2))))), ?_⟩
    refine ⟨_, rfl, a, rfl, ⟨_, sqT ha⟩, ?_⟩
    refine for_tup (xs := us) (fun j σ H2 => ∃ y3 y4 : Option V, σ = [some (.ref a), some (.str nm), some (.int (ofAll (ds.take j) nm)), y3, y4] ∧ Same H H2) ⟨none, none, rfl, Same.refl _⟩
      (fun j σ H2 _ h => by obtain ⟨_, _, _, s2⟩ := h; exact s2.seqT (sqT ha)) (fun j v σ H2 hv h => ?_) (fun σ H2 h => ?_)
    · obtain ⟨y3, y4, rfl, s2⟩ := h
      obtain ⟨d, hd, t, w', rfl, ht, z, ws, rfl, hz, hw⟩ := hh.get hv
      refine ⟨_, rfl, ?_⟩
      refine ⟨_, rfl, t, _, _, _, rfl, rfl, sqT (s2 _ _ ht), rfl, z, rfl, ⟨_, sqT (s2 _ _ hz)⟩, fun D hD => lc_rel (walk_tup (xs := ws)) (xs := d.2) hw.len.symm (f := fun x => if x.1 = nm then some x.2 else none) (R := fun _ v x => v = V.int x) mono_eq hD (fun H' s => (s2.trans s).seqT (sqT hz)) (by have h20 := hn d (List.mem_of_getElem? hd); have := hw.len; omega) (fun i v x H3 H4 Ky Kn hx s3 hy h1 h2 => ?_) (fun H3 ys s3 hD' hd' => ?_)⟩
      · obtain ⟨rfl, hv⟩ := hy
        obtain ⟨t2, rfl, ht2⟩ := hw.all i v x hv hx
        have ht3 := (s2.trans s3) _ _ ht2
        refine ⟨rfl, ?_⟩
        refine ⟨_, rfl, t2, _, _, _, rfl, rfl, sqT ht3, rfl, ?_⟩
        walk_at "rd"
        refine it_eqS (fun e => ?_) (fun e => ?_)
        · exact ⟨_, rfl, t2, _, _, _, rfl, rfl, sqT ht3, rfl, h1 _ _ _ (if_pos e) (Same.refl _) rfl⟩
        · exact h2 _ (if_neg e) (Same.refl _)
      · have e2 := held_eq (f := V.int) hd'
        refine ⟨D, _, rfl, sqL (by rw [hD', e2]), ?_⟩
        exact ⟨_, _, rfl, rfl, some (.ref t), y4, by rw [take_succ' hd, ofAll_snoc]; rfl, s2.trans s3⟩
    · obtain ⟨y3, y4, rfl, s2⟩ := h
      rw [hh.len, List.take_length]
      exact ⟨_, rfl, q _ s2⟩
abbrev s_near : Stmt := topS 59
theorem sc_near : FnScope ["_law_dishes_here", "_law_name", "_law_cell", "_law_wanted", "_law_half", "_law_more", "_law_at"] ["_law_dishes_here", "_law_name", "_law_cell"] (defScope s_near) := ⟨rfl, rfl, rfl, by decide +kernel, rfl, by decide +kernel, by decide +kernel⟩
theorem bd_near : ∀ (kV doc pm : Value) (an : Option Addr) (cdv ct : Value) (us : List Value), us.length = (["_law_dishes_here", "_law_name", "_law_cell"] : List Str).length → bindArgs (PySem.W.fnOf "_law_near" "_law_near" (defArgs s_near) (defBody s_near) (defScope s_near) .none kV doc pm an cdv ct) ⟨us, []⟩ = pure ((["_law_dishes_here", "_law_name", "_law_cell"] : List Str).zip us) := fun _ _ _ _ _ _ us hl => match us, hl with | [_, _, _], _ => rfl
theorem ofAll_nn {ds : List Dish} {nm : Str} (h : ∀ d ∈ ds, ∀ x ∈ d.2, 0 ≤ x.2) : 0 ≤ ofAll ds nm := by
  unfold ofAll
  induction ds with
  | nil => exact Int.le_refl _
  | cons d r ih =>
    rw [List.map_cons, List.sum_cons]
    have a := ih fun y hy => h y (List.mem_cons_of_mem _ hy)
    have b := needOf_nn (nm := nm) (h d List.mem_cons_self)
    omega
def spNear : Sp := fun vs H Q _ => ∃ (v : V) (ds : List Dish) (nm : Str) (c seed : Int), vs = [v, .str nm, .int c] ∧ DishesAt H v ds ∧ ds.length ≤ 60 ∧ (∀ d ∈ ds, GoodDish seed d) ∧ NameOf seed nm ∧
  ∀ v' ds' H', Same H H' → DishesAt H' v' ds' → ds'.length ≤ ds.length + 2 → (∀ d ∈ ds', GoodDish seed d) → Q v' H'
theorem ok_near {P : Program} {w : World} {K : PySem.W.Frag} {mg : Str → Option Value} {base : Heap} (D : DefAt K mg "_law_near" s_near) (m_len : mg "len" = none) (C_of_all : Clb P w K mg base 1 "_law_of_all" ["_law_dishes_here", "_law_name"] spOfAll) : Clb P w K mg base 2 "_law_near" ["_law_dishes_here", "_law_name", "_law_cell"] spNear := by
  refine D.clb sc_near (fun vs H Q E h => ?_) bd_near (fun f cdv A outer s H vs Q E hr h => ?_)
  · obtain ⟨v, ds, nm, c, seed, rfl, _⟩ := h
    rfl
  · obtain ⟨v, ds, nm, c, seed, rfl, hds, hl, hg, hnm, q⟩ := h
    refine ⟨_, (pss_cons (ps_set (i := 3) sc_near.nd rfl (.inl rfl) (pe_op op_sub (pe_op op_add pe_int (pe_op op_mod (pv 2) pe_int)) (pe_cal C_of_all (hr.mono (by decide)) (pa_cons (pv 0) (pa_cons (pv 1) pa_nil)))))
    (pss_cons (ps_if (pt_cmpR op_lt (pv 3) pe_int (nomark _))
      (pss_one (ps_ret (pv 0)))
      pss_nil)
    (pss_cons (ps_set (i := 4) sc_near.nd rfl (.inl rfl) (pe_op op_add pe_int (pe_op op_mod (pe_op op_fdiv (pv 2) pe_int) (pe_op op_sub (pv 3) pe_int))))
    (pss_cons (ps_set (i := 5) sc_near.nd rfl (.inl rfl) (pe_tup (pa_cons (pe_tup (pa_cons (pe_op op_add pe_int (pe_op op_mod (pe_op op_fdiv (pv 2) pe_int) pe_int)) (pa_cons (pe_tup (pa_cons (pe_tup (pa_cons (pv 1) (pa_cons (pv 4) pa_nil))) pa_nil)) pa_nil))) (pa_cons (pe_tup (pa_cons (pe_op op_add pe_int (pe_op op_mod (pe_op op_fdiv (pv 2) pe_int) pe_int)) (pa_cons (pe_tup (pa_cons (pe_tup (pa_cons (pv 1) (pa_cons (pe_op op_sub (pv 3) (pv 4)) pa_nil))) pa_nil)) pa_nil))) pa_nil))))
    (pss_cons (ps_set (i := 6) sc_near.nd rfl (.inl rfl) (pe_op op_mod (pe_op op_fdiv (pv 2) pe_int) (pe_op op_add (pe_callB (kcall_len_seq K) (by rfl) m_len (by decide +kernel) (pa_cons (pv 0) pa_nil)) pe_int)))
    (pss_one (ps_ret (pe_op (kop_catA K) (pe_op (kop_catA K) (pe_slice (ksl_tupA K) (pv 0) po_none (po_some (pv 6))) (pv 5)) (pe_slice (ksl_tupA K) (pv 0) (po_some (pv 6)) po_none))))))))), ?_⟩
    walk_at "rd"
    refine ⟨v, ds, nm, rfl, hds, fun d hd => (hg d hd).many, fun H1 s1 => ?_⟩
    have o0 := ofAll_nn (nm := nm) fun d hd x hx => by have := ((hg d hd).need x hx).1.1; omega
    have c1 := Int.emod_nonneg c (show (3 : Int) ≠ 0 by decide)
    have c2 := Int.emod_lt_of_pos c (show (0 : Int) < 3 by decide)
    walk_at "rd"
    obtain ⟨w, hw⟩ : ∃ w, 199 + c % 3 - ofAll ds nm = w := ⟨_, rfl⟩
    simp only [hw]
    refine it_lt (fun e => ?_) (fun e => ?_)
    · exact ⟨_, rfl, q v ds H1 s1 (DishesAt.mono _ _ _ _ (SameT.of s1) hds) (by omega) hg⟩
    · walk_at "rd"
      refine ⟨by omega, ?_⟩
      have h1 := Int.emod_nonneg (c / 3) (show w - 1 ≠ 0 by omega)
      have h2 := Int.emod_lt_of_pos (c / 3) (show 0 < w - 1 by omega)
      obtain ⟨hf, hhf⟩ : ∃ hf, 1 + c / 3 % (w - 1) = hf := ⟨_, rfl⟩
      walk_at "rd"
      simp only [hhf]
      have d1 := Int.emod_nonneg (c / 600) (show (7 : Int) ≠ 0 by decide)
      have d2 := Int.emod_lt_of_pos (c / 600) (show (0 : Int) < 7 by decide)
      have d3 := Int.emod_nonneg (c / 4200) (show (7 : Int) ≠ 0 by decide)
      have d4 := Int.emod_lt_of_pos (c / 4200) (show (0 : Int) < 7 by decide)
      refine ⟨small (by show 2 ≤ 100000; decide), fun t1 ht1 => ?_⟩
      have u1 := same_upd (o := .tup [V.str nm, V.int hf]) ht1
      refine ⟨small (by show 1 ≤ 100000; decide), fun t2 ht2 => ?_⟩
      have u2 := same_upd (o := .tup [V.ref t1]) ht2
      refine ⟨small (by show 2 ≤ 100000; decide), fun t3 ht3 => ?_⟩
      have u3 := same_upd (o := .tup [V.int (1 + c / 600 % 7), V.ref t2]) ht3
      walk_at "rd"
      refine ⟨small (by show 2 ≤ 100000; decide), fun t4 ht4 => ?_⟩
      have u4 := same_upd (o := .tup [V.str nm, V.int (w - hf)]) ht4
      refine ⟨small (by show 1 ≤ 100000; decide), fun t5 ht5 => ?_⟩
      have u5 := same_upd (o := .tup [V.ref t4]) ht5
      refine ⟨small (by show 2 ≤ 100000; decide), fun t6 ht6 => ?_⟩
      have u6 := same_upd (o := .tup [V.int (1 + c / 4200 % 7), V.ref t5]) ht6
      refine ⟨small (by show 2 ≤ 100000; decide), fun t7 ht7 => ?_⟩
      have u7 := same_upd (o := .tup [V.ref t3, V.ref t6]) ht7
      have u27 := ((((u2.trans u3).trans u4).trans u5).trans u6).trans u7
      have u37 := (((u3.trans u4).trans u5).trans u6).trans u7
      have u47 := ((u4.trans u5).trans u6).trans u7
      have u57 := (u5.trans u6).trans u7
      have u67 := u6.trans u7
      have k1 := u27 _ _ (upd_same (o := .tup [V.str nm, V.int hf]) (a := t1) (H := H1))
      have k2 := u37 _ _ (upd_same (o := .tup [V.ref t1]) (a := t2))
      have k3 := u47 _ _ (upd_same (o := .tup [V.int (1 + c / 600 % 7), V.ref t2]) (a := t3))
      have k4 := u57 _ _ (upd_same (o := .tup [V.str nm, V.int (w - hf)]) (a := t4))
      have k5 := u67 _ _ (upd_same (o := .tup [V.ref t4]) (a := t5))
      have k6 := u7 _ _ (upd_same (o := .tup [V.int (1 + c / 4200 % 7), V.ref t5]) (a := t6))
      have s17 := (s1.trans u1).trans u27
      obtain ⟨da, dus, rfl, hda, hdh⟩ := hds
      have dl : dus.length = ds.length := hdh.len
      have mo : Held DishAt _ [V.ref t3, V.ref t6] [((1 + c / 600 % 7, [(nm, hf)]) : Dish), ((1 + c / 4200 % 7, [(nm, w - hf)]) : Dish)] := (Held.nil.snoc (R := DishAt) ⟨t3, .ref t2, rfl, k3, t2, [.ref t1], rfl, k2, Held.nil.snoc (R := NeedAt) ⟨t1, rfl, k1⟩⟩).snoc ⟨t6, .ref t5, rfl, k6, t5, [.ref t4], rfl, k5, Held.nil.snoc (R := NeedAt) ⟨t4, rfl, k4⟩⟩
      have gmo : ∀ d ∈ [((1 + c / 600 % 7, [(nm, hf)]) : Dish), ((1 + c / 4200 % 7, [(nm, w - hf)]) : Dish)], GoodDish seed d := fun d hd => by
        rcases List.mem_cons.mp hd with z | z
        · subst z
          exact ⟨by show 1 ≤ 1 + c / 600 % 7; omega, by show 1 + c / 600 % 7 ≤ 7; omega, by show 1 ≤ 20; decide, fun x hx => by rw [List.mem_singleton.mp hx]; exact ⟨⟨by show 1 ≤ hf; omega, by show hf ≤ 200; omega⟩, hnm⟩⟩
        · rw [List.mem_singleton.mp z]
          exact ⟨by show 1 ≤ 1 + c / 4200 % 7; omega, by show 1 + c / 4200 % 7 ≤ 7; omega, by show 1 ≤ 20; decide, fun x hx => by rw [List.mem_singleton.mp hx]; exact ⟨⟨by show 1 ≤ w - hf; omega, by show w - hf ≤ 200; omega⟩, hnm⟩⟩
      walk_at "rd"
      refine ⟨da, dus, rfl, .inr (sqT (s17 _ _ hda)), ?_⟩
      walk_at "rd"
      refine ⟨by omega, ?_⟩
      have a1 := Int.emod_nonneg (c / 30000) (show (dus.length : Int) + 1 ≠ 0 by omega)
      obtain ⟨at_, hat⟩ : ∃ at_ : Nat, c / 30000 % ((dus.length : Int) + 1) = (at_ : Int) := ⟨(c / 30000 % ((dus.length : Int) + 1)).toNat, by omega⟩
      simp only [hat]
      have hdh7 := hdh.mono DishAt.mono (SameT.of s17)
      refine ⟨_, rfl, _, rfl, _, rfl, ?_⟩
      refine slA_of (s17 _ _ hda) (fun p1 G1 g1 hp1 => ?_)
      rw [cutV_to] at hp1
      refine ⟨_, rfl, ?_⟩
      refine cat_any hp1 (g1 _ _ upd_same) (small (by rw [List.length_take]; show _ + 2 ≤ 100000; omega)) (fun p2 G2 g2 hp2 => ?_)
      refine ⟨_, rfl, _, rfl, _, rfl, ?_⟩
      simp only [tNoPart]
      refine slA_of ((g1.trans g2) _ _ (s17 _ _ hda)) (fun p3 G3 g3 hp3 => ?_)
      rw [cutV_from] at hp3
      refine cat_any (g3 _ _ hp2) hp3 (small (by rw [List.length_append, List.length_take, List.length_drop]; show _ + 2 + _ ≤ 100000; omega)) (fun p4 G4 g4 hp4 => ?_)
      have gA := ((g1.trans g2).trans g3).trans g4
      refine q (.ref p4) (ds.take at_ ++ [((1 + c / 600 % 7, [(nm, hf)]) : Dish), ((1 + c / 4200 % 7, [(nm, w - hf)]) : Dish)] ++ ds.drop at_) G4 (s17.trans gA) ⟨p4, _, rfl, hp4, (((hdh7.take at_).mono DishAt.mono (SameT.of gA)).append (mo.mono DishAt.mono (SameT.of gA))).append ((hdh7.drop at_).mono DishAt.mono (SameT.of gA))⟩ ?_ fun d hd => ?_
      · rw [List.length_append, List.length_append, List.length_take, List.length_drop]
        show _ + 2 + _ ≤ _
        omega
      · rcases List.mem_append.mp hd with z | z
        · rcases List.mem_append.mp z with y | y
          · exact hg d (List.mem_of_mem_take y)
          · exact gmo d y
        · exact hg d (List.mem_of_mem_drop z)
abbrev s_world : Stmt := topS 60
theorem sc_world : FnScope ["_law_cells", "_law_names_here", "_law_cell", "_law_dishes_here", "_law_larder_here", "_law_packs_here", "_law_pack", "_law_some", "_law_k", "_law_name"] ["_law_cells"] (defScope s_world) := ⟨rfl, rfl, rfl, by decide +kernel, rfl, by decide +kernel, by decide +kernel⟩
theorem bd_world : ∀ (kV doc pm : Value) (an : Option Addr) (cdv ct : Value) (us : List Value), us.length = (["_law_cells"] : List Str).length → bindArgs (PySem.W.fnOf "_law_world" "_law_world" (defArgs s_world) (defBody s_world) (defScope s_world) .none kV doc pm an cdv ct) ⟨us, []⟩ = pure ((["_law_cells"] : List Str).zip us) := fun _ _ _ _ _ _ us hl => match us, hl with | [_], _ => rfl
def spWorld (K : PySem.W.Frag) : Sp := fun vs H Q _ => ∃ (a : Addr), vs = [.ref a] ∧ CellsAt K H a ∧ ∀ (p : Addr) (dv lv pv : V) (ds : List Dish) (lar : List Batch) (ps : List Pack) (seed : Int) (H' : Hp), Same H H' → H' p = some (.lst [dv, lv, pv]) → DishesAt H' dv ds → LarderAt H' lv lar → PacksAt H' pv ps →
  ds.length ≤ 26 → lar.length ≤ 120 → ps.length ≤ 9 → (∀ d ∈ ds, GoodDish seed d) → (∀ b ∈ lar, GoodBatch seed b) → (∀ p ∈ ps, GoodPack seed p) → Q (.ref p) H'
def atLeast4 (p : Pack) : Pack := ⟨p.name, if p.size > 4 then p.size else 4, p.price, p.last⟩
theorem atLeast4_good {seed : Int} {p : Pack} (g : GoodPack seed p) : GoodPack seed (atLeast4 p) := by
  have a := g.size1
  have b := g.size2
  refine ⟨?_, ?_, g.price0, g.price2, g.last1, g.last2, g.name⟩
  · show 1 ≤ (if p.size > 4 then p.size else 4); split <;> omega
  · show (if p.size > 4 then p.size else 4) ≤ 200; split <;> omega
theorem ok_world {P : Program} {w : World} {K : PySem.W.Frag} {mg : Str → Option Value} {base : Heap} (D : DefAt K mg "_law_world" s_world) (m_max : mg "max" = none) (m_range : mg "range" = none) (m_tuple : mg "tuple" = none)
    (C_names : Clb P w K mg base 2 "_law_names" ["_law_cells"] (spNames K)) (C_cell_at : Clb P w K mg base 1 "_law_cell_at" ["_law_cells", "_law_k"] (spCellAt K)) (C_dishes : Clb P w K mg base 2 "_law_dishes" ["_law_cells", "_law_names_here", "_law_many_here"] (spDishes K)) (C_many : Clb P w K mg base 1 "_law_many" ["_law_cell", "_law_few", "_law_room"] spMany) (C_larder : Clb P w K mg base 2 "_law_larder" ["_law_cells", "_law_names_here", "_law_many_here"] (spLarder K)) (C_packs : Clb P w K mg base 2 "_law_packs" ["_law_cells", "_law_names_here", "_law_many_here"] (spPacks K)) (C_name_by : Clb P w K mg base 1 "_law_name_by" ["_law_seed", "_law_k"] spNameBy) (C_near : Clb P w K mg base 2 "_law_near" ["_law_dishes_here", "_law_name", "_law_cell"] spNear) :
    Clb P w K mg base 3 "_law_world" ["_law_cells"] (spWorld K) := by
  refine D.clb sc_world (fun vs H Q E h => ?_) bd_world (fun f cdv A outer s H vs Q E hr h => ?_)
  · obtain ⟨a, rfl, _⟩ := h
    rfl
  · obtain ⟨a, rfl, hc, q⟩ := h
    refine ⟨_, (pss_cons (ps_set (i := 1) sc_world.nd rfl (.inl rfl) (pe_cal C_names (hr.mono (by decide)) (pa_cons (pv 0) pa_nil)))
    (pss_cons (ps_set (i := 2) sc_world.nd rfl (.inl rfl) (pe_cal C_cell_at (hr.mono (by decide)) (pa_cons (pv 0) (pa_cons pe_int pa_nil))))
    (pss_cons (ps_set (i := 3) sc_world.nd rfl (.inl rfl) (pe_cal C_dishes (hr.mono (by decide)) (pa_cons (pv 0) (pa_cons (pv 1) (pa_cons (pe_cal C_many (hr.mono (by decide)) (pa_cons (pv 2) (pa_cons pe_int (pa_cons pe_int pa_nil)))) pa_nil)))))
    (pss_cons (ps_set (i := 4) sc_world.nd rfl (.inl rfl) (pe_cal C_larder (hr.mono (by decide)) (pa_cons (pv 0) (pa_cons (pv 1) (pa_cons (pe_cal C_many (hr.mono (by decide)) (pa_cons (pe_op op_fdiv (pv 2) pe_int) (pa_cons pe_int (pa_cons pe_int pa_nil)))) pa_nil)))))
    (pss_cons (ps_set (i := 5) sc_world.nd rfl (.inl rfl) (pe_cal C_packs (hr.mono (by decide)) (pa_cons (pv 0) (pa_cons (pv 1) (pa_cons (pe_op op_mod (pe_op op_fdiv (pv 2) pe_int) pe_int) pa_nil)))))
    (pss_cons (ps_set (i := 5) sc_world.nd rfl (.inl rfl) (pe_callTy (kcall_tuple_of K) (by rfl) m_tuple (by decide +kernel) (pa_cons (pe_lc (own := [("_law_pack", 6)]) rfl sc_world.nd (kpi_tup K (pv 5)) (blkOk_by (own := [("_law_pack", 6)]) (N := ["_law_cells", "_law_names_here", "_law_cell", "_law_dishes_here", "_law_larder_here", "_law_packs_here", "_law_pack", "_law_some", "_law_k", "_law_name"]) (sc := defScope s_world) (by decide +kernel)) (fun _ _ _ _ _ => (pg_name (i := 6) sc_world.nd rfl (.inl rfl))) (fun _ _ _ _ _ => pts_nil) (fun _ _ _ _ _ => (pe_op (kop_catA K) (pe_tup (pa_cons (pe_ix (kix_tup K) (pv 6) pe_int (fun _ _ => rfl)) (pa_cons (pe_callB (call_max2 rfl) (by rfl) m_max (by decide +kernel) (pa_cons pe_int (pa_cons (pe_ix (kix_tup K) (pv 6) pe_int (fun _ _ => rfl)) pa_nil))) pa_nil))) (pe_slice (ksl_tupA K) (pv 6) (po_some pe_int) po_none)))) pa_nil)))
    (pss_cons (ps_set (i := 7) sc_world.nd rfl (.inl rfl) (pe_op op_fdiv (pv 2) pe_int))
    (C8.pss_cut (ps_if (PW.pt (pw_and (pt_cmpR op_gt (pe_op op_mod (pv 7) pe_int) pe_int (nomark _)) (pw_and1 (pt_cmpR op_lt (pe_ix (kix_list K) (pv 1) pe_int (fun _ _ => rfl)) pe_int (nomark _)))))
      (pss_one (ps_for PassesOwn.never rfl (pi_range1 (by rfl) m_range (pa_cons (pe_ix (kix_list K) (pv 1) pe_int (fun _ _ => rfl)) pa_nil)) (pg_name (i := 8) sc_world.nd rfl (.inl rfl))
      (pss_cons (ps_set (i := 9) sc_world.nd rfl (.inl rfl) (pe_cal C_name_by (hr.mono (by decide)) (pa_cons (pe_ix (kix_list K) (pv 1) pe_int (fun _ _ => rfl)) (pa_cons (pv 8) pa_nil))))
    (pss_one (ps_set (i := 5) sc_world.nd rfl (.inl rfl) (pe_op (kop_catA K) (pv 5) (pe_tup (pa_cons (pe_tup (pa_cons (pv 9) (pa_cons (pe_op op_add pe_int (pe_op op_mod (pe_op op_add (pe_op op_fdiv (pv 7) pe_int) (pv 8)) pe_int)) (pa_cons (pe_op op_add (pe_op op_mod (pe_op op_fdiv (pv 7) pe_int) pe_int) (pv 8)) (pa_cons (pe_op op_add pe_int (pe_op op_mod (pv 8) pe_int)) pa_nil))))) pa_nil))))))))
      pss_nil)
    (C8.pss_cut (ps_if (pt_cmpR op_eq (pe_op op_mod (pe_op op_fdiv (pv 7) pe_int) pe_int) pe_int (nomark _))
      (pss_one (ps_set (i := 3) sc_world.nd rfl (.inl rfl) (pe_cal C_near (hr.mono (by decide)) (pa_cons (pv 3) (pa_cons (pe_cal C_name_by (hr.mono (by decide)) (pa_cons (pe_ix (kix_list K) (pv 1) pe_int (fun _ _ => rfl)) (pa_cons (pe_op op_mod (pe_op op_fdiv (pv 7) pe_int) (pe_ix (kix_list K) (pv 1) pe_int (fun _ _ => rfl))) pa_nil))) (pa_cons (pe_op op_fdiv (pv 7) pe_int) pa_nil))))))
      pss_nil)
    (pss_one (ps_ret (pe_lst (pa_cons (pv 3) (pa_cons (pv 4) (pa_cons (pv 5) pa_nil))))))))))))))), ?_⟩
    refine ⟨_, rfl, a, rfl, hc, fun na H2 seed many s2 hn => ?_⟩
    refine ⟨_, rfl, a, 2, rfl, hc.same s2, by decide, by decide, fun cell z0 z1 => ?_⟩
    refine ⟨_, rfl, _, rfl, _, rfl, cell, 5, 24, rfl, by decide, by decide, fun m m0 m1 => ?_⟩
    refine ⟨a, na, m, seed, many, rfl, hc.same s2, hn, m0, by omega, fun v ds H3 s3 hds dl dg => ?_⟩
    refine ⟨_, rfl, _, rfl, ?_⟩
    walk_at "rd"
    refine ⟨cell / 1500, 5, 120, rfl, by decide, by decide, fun m2 m3 m4 => ?_⟩
    refine ⟨a, na, m2, seed, many, rfl, (hc.same s2).same s3, hn.same s3, m3, by omega, fun lv lar H4 s4 hlar ll lg => ?_⟩
    refine ⟨_, rfl, _, rfl, ?_⟩
    walk_at "rd"
    have q1 := Int.emod_nonneg (cell / 60000) (show (6 : Int) ≠ 0 by decide)
    have q2 := Int.emod_lt_of_pos (cell / 60000) (show (0 : Int) < 6 by decide)
    refine ⟨a, na, _, seed, many, rfl, ((hc.same s2).same s3).same s4, (hn.same s3).same s4, q1, by omega, fun pv0 ps0 H5 s5 hps0 pl0 pg0 => ?_⟩
    have hn5 := ((hn.same s3).same s4).same s5
    have hmany := hn5.2
    obtain ⟨pa, pus, rfl, hpa, hph⟩ := hps0
    -- sizes from four on
    refine ⟨_, rfl, pa, rfl, ⟨_, sqT hpa⟩, fun D hD => lc_rel (walk_tup (xs := pus)) (xs := ps0) hph.len.symm (f := fun p => some (atLeast4 p)) (R := PackAt) PackAt.mono hD (fun _ s => sqT (s _ _ hpa)) (by have := hph.len; omega) (fun i x y H6 H7 Ky Kn hx s6 hy h1 h2 => ?_) (fun H6 ys s6 hD' hd => ?_)⟩
    · obtain ⟨rfl, hv⟩ := hy
      obtain ⟨t, rfl, ht⟩ := hph.all i x y hv hx
      have ht6 := s6 _ _ ht
      refine ⟨rfl, ?_⟩
      refine ⟨_, rfl, t, _, _, _, rfl, rfl, sqT ht6, rfl, ?_⟩
      refine ⟨_, rfl, t, _, _, _, rfl, rfl, sqT ht6, rfl, ?_⟩
      refine ⟨_, _, rfl, ?_⟩
      refine ⟨small (by show 2 ≤ 100000; decide), fun r hr1 => ?_⟩
      have u1 := same_upd (o := .tup [V.str y.name, V.int (if y.size > 4 then y.size else 4)]) hr1
      refine ⟨_, rfl, ?_⟩
      simp only [tNoPart]
      refine ⟨2, rfl, ?_⟩
      refine slA_of (lo := some 2) (hi := none) (u1 _ _ ht6) (fun p1 G1 g1 hp1 => ?_)
      refine cat_any (g1 _ _ upd_same) hp1 (small (by show 2 + 2 ≤ 100000; decide)) (fun p2 G2 g2 hp2 => ?_)
      exact h1 _ _ _ rfl ((u1.trans g1).trans g2) ⟨p2, rfl, hp2⟩
    · rw [fm_some atLeast4] at hd
      refine ⟨D, _, rfl, .inl ⟨sqL hD', fun lb hlb => ?_⟩⟩
      have u7 := same_upd (o := .tup ys) hlb
      have s67 := s6.trans u7
      have pgood : ∀ p ∈ ps0.map atLeast4, GoodPack seed p := fun p hp => by
        obtain ⟨x, hx, rfl⟩ := List.mem_map.mp hp
        exact atLeast4_good (pg0 x hx)
      have hps7 : PacksAt (upd H6 lb (.tup ys)) (.ref lb) (ps0.map atLeast4) := ⟨lb, ys, rfl, upd_same, hd.mono PackAt.mono (SameT.of u7)⟩
      have pl7 : (ps0.map atLeast4).length ≤ 5 := by rw [List.length_map]; omega
      generalize ps0.map atLeast4 = ps at *
      generalize (upd H6 lb (.tup ys)) = H7 at *
      have hn7 := hn5.same s67
      have s47 := s5.trans s67
      have hds7 := DishesAt.mono _ _ _ _ (SameT.of (s4.trans s47)) hds
      have hlar7 := LarderAt.mono _ _ _ _ (SameT.of s47) hlar
      walk_at "rd"
      refine ⟨fun σ' H' => ∃ (pv : V) (ps : List Pack) (y6 y8 y9 : Option V), σ' = [some (.ref a), some (.ref na), some (.int cell), some v, some lv, some pv, y6, some (.int (cell / 700000)), y8, y9] ∧ Same H7 H' ∧ PacksAt H' pv ps ∧ ps.length ≤ 9 ∧ ∀ p ∈ ps, GoodPack seed p, ?_, fun σ' H' h => ?_⟩
      · have keep : ∃ (pv : V) (ps' : List Pack) (y6 y8 y9 : Option V), ([some (.ref a), some (.ref na), some (.int cell), some v, some lv, some (.ref lb), none, some (.int (cell / 700000)), none, none] : List (Option V)) = [some (.ref a), some (.ref na), some (.int cell), some v, some lv, some pv, y6, some (.int (cell / 700000)), y8, y9] ∧ Same H7 H7 ∧ PacksAt H7 pv ps' ∧ ps'.length ≤ 9 ∧ ∀ p ∈ ps', GoodPack seed p := ⟨.ref lb, ps, none, none, none, rfl, Same.refl _, hps7, by omega, pgood⟩
        walk_at "rd"
        refine it_lt (fun _ => ?_) (fun _ => keep)
        refine ⟨_, rfl, na, _, _, _, rfl, rfl, sqL hn7.1, rfl, ?_⟩
        walk_at "rd"
        refine it_lt (fun em => ?_) (fun _ => keep)
        refine ⟨_, rfl, na, _, _, _, rfl, rfl, sqL hn7.1, rfl, ?_⟩
        refine ⟨_, rfl, by omega, by omega, ?_⟩
        refine for_range (lo := 0) (fun i σ H' => ∃ (pv : V) (ps' : List Pack) (y6 y8 y9 : Option V), σ = [some (.ref a), some (.ref na), some (.int cell), some v, some lv, some pv, y6, some (.int (cell / 700000)), y8, y9] ∧ Same H7 H' ∧ PacksAt H' pv ps' ∧ ps'.length ≤ 5 + i ∧ ∀ p ∈ ps', GoodPack seed p)
          ⟨.ref lb, ps, none, none, none, rfl, Same.refl _, hps7, by omega, pgood⟩ (fun i σ H8 hi h => ?_) (fun σ H8 h => ?_)
        · obtain ⟨pv, ps', y6, y8, y9, rfl, s8, ⟨xa, xvs, rfl, hxa, hxh⟩, pl8, pg8⟩ := h
          have xl : xvs.length = ps'.length := hxh.len
          have hi4 : i < 4 := by omega
          have hn8 := hn7.same s8
          refine ⟨_, rfl, na, _, _, _, rfl, rfl, sqL hn8.1, rfl, ?_⟩
          refine ⟨_, rfl, seed, _, rfl, by omega, by omega, fun H9 s9 => ?_⟩
          walk_at "rd"
          have b1 := Int.emod_nonneg (cell / 700000 / 3 + (0 + (i : Nat))) (show (17 : Int) ≠ 0 by decide)
          have b2 := Int.emod_lt_of_pos (cell / 700000 / 3 + (0 + (i : Nat))) (show (0 : Int) < 17 by decide)
          have b3 := Int.emod_nonneg (cell / 700000 / 60) (show (50 : Int) ≠ 0 by decide)
          have b4 := Int.emod_lt_of_pos (cell / 700000 / 60) (show (0 : Int) < 50 by decide)
          have b5 := Int.emod_nonneg (0 + (i : Int)) (show (3 : Int) ≠ 0 by decide)
          have b6 := Int.emod_lt_of_pos (0 + (i : Int)) (show (0 : Int) < 3 by decide)
          refine ⟨small (by show 4 ≤ 100000; decide), fun t1 ht1 => ?_⟩
          have u1 := same_upd (o := .tup [V.str (nameBy seed (0 + (i : Nat))), V.int (4 + (cell / 700000 / 3 + (0 + (i : Nat))) % 17), V.int (cell / 700000 / 60 % 50 + (0 + (i : Nat))), V.int (7 + (0 + (i : Nat)) % 3)]) ht1
          refine ⟨small (by show 1 ≤ 100000; decide), fun t2 ht2 => ?_⟩
          have u2 := same_upd (o := .tup [V.ref t1]) ht2
          have s912 := s9.trans (u1.trans u2)
          refine cat_tup (sqT (s912 _ _ hxa)) upd_same (small (by show xvs.length + 1 ≤ 100000; omega)) (by intro z; cases z) (fun p3 H13 s13 hp3 => ?_)
          have s913 := s912.trans s13
          refine ⟨.ref p3, ps' ++ [⟨nameBy seed (0 + (i : Nat)), 4 + (cell / 700000 / 3 + (0 + (i : Nat))) % 17, cell / 700000 / 60 % 50 + (0 + (i : Nat)), 7 + (0 + (i : Nat)) % 3⟩], y6, _, _, rfl, s8.trans s913, ⟨p3, _, rfl, hp3, (hxh.mono PackAt.mono (SameT.of s913)).snoc ⟨t1, rfl, s13 _ _ (u2 _ _ upd_same)⟩⟩, by rw [List.length_append]; show ps'.length + 1 ≤ _; omega, fun p hp => ?_⟩
          rcases List.mem_append.mp hp with z | z
          · exact pg8 p z
          · rw [List.mem_singleton.mp z]
            refine ⟨?_, ?_, ?_, ?_, ?_, ?_, i, by omega, ?_⟩
            · show 1 ≤ 4 + _ % 17; omega
            · show 4 + _ % 17 ≤ (200 : Int); omega
            · show 0 ≤ _ % 50 + (0 + (i : Int)); omega
            · show _ % 50 + (0 + (i : Int)) ≤ 1000000; omega
            · show 1 ≤ 7 + _ % 3; omega
            · show 7 + _ % 3 ≤ (99 : Int); omega
            · show nameBy seed (0 + (i : Nat)) = nameBy seed (i : Nat); rw [Int.zero_add]
        · obtain ⟨pv, ps', y6, y8, y9, rfl, s8, hps8, pl8, pg8⟩ := h
          exact ⟨pv, ps', y6, y8, y9, rfl, s8, hps8, by omega, pg8⟩
      obtain ⟨pv, ps, y6, y8, y9, rfl, s8, hps8, pl8, pg8⟩ := h
      have hn8 := hn7.same s8
      refine ⟨fun σ' H' => ∃ (dv : V) (ds : List Dish), σ' = [some (.ref a), some (.ref na), some (.int cell), some dv, some lv, some pv, y6, some (.int (cell / 700000)), y8, y9] ∧ Same H7 H' ∧ DishesAt H' dv ds ∧ PacksAt H' pv ps ∧ ds.length ≤ 26 ∧ ∀ d ∈ ds, GoodDish seed d, ?_, fun σ' H' h => ?_⟩
      · have hds8 := DishesAt.mono _ _ _ _ (SameT.of s8) hds7
        walk_at "rd"
        refine it_eqI (fun _ => ?_) (fun _ => ?_)
        · refine ⟨_, rfl, _, rfl, na, _, _, _, rfl, rfl, sqL hn8.1, rfl, ?_⟩
          walk_at "rd"
          refine ⟨na, _, _, _, rfl, rfl, sqL hn8.1, rfl, ?_⟩
          refine ⟨_, _, rfl, rfl, (by show 0 < many; omega), ?_⟩
          have k1 := Int.emod_nonneg (cell / 700000 / 81000) (show many ≠ 0 by omega)
          have k2 := Int.emod_lt_of_pos (cell / 700000 / 81000) (show 0 < many by omega)
          refine ⟨seed, _, rfl, k1, by omega, fun H9 s9 => ?_⟩
          walk_at "rd"
          refine ⟨v, ds, _, _, seed, rfl, DishesAt.mono _ _ _ _ (SameT.of s9) hds8, by omega, dg, ⟨(cell / 700000 / 81000 % many).toNat, by omega, by rw [Int.toNat_of_nonneg k1]⟩, fun v' ds' H10 s10 hv' dl' dg' => ?_⟩
          exact ⟨v', ds', rfl, (s8.trans s9).trans s10, hv', PacksAt.mono _ _ _ _ (SameT.of (s9.trans s10)) hps8, by omega, dg'⟩
        · exact ⟨v, ds, rfl, s8, hds8, hps8, by omega, dg⟩
      obtain ⟨dv, ds', rfl, s9, hds9, hps9, dl9, dg9⟩ := h
      refine ⟨_, rfl, _, rfl, _, rfl, small (by show 3 ≤ 100000; decide), fun r hr1 => ?_⟩
      have u := same_upd (o := .lst [dv, lv, pv]) hr1
      have sall := ((((s2.trans s3).trans s4).trans s47).trans s9).trans u
      exact q r dv lv pv ds' lar ps seed _ sall upd_same (DishesAt.mono _ _ _ _ (SameT.of u) hds9) (LarderAt.mono _ _ _ _ (SameT.of (s9.trans u)) hlar7) (PacksAt.mono _ _ _ _ (SameT.of u) hps9) dl9 (by omega) pl8 dg9 lg pg8
abbrev s_init : Stmt := inClass (topS 1) 0
theorem sc_init : FnScope ["self", "word"] ["self", "word"] (defScope s_init) := ⟨rfl, rfl, rfl, by decide +kernel, rfl, by decide +kernel, by decide +kernel⟩
theorem bd_init : ∀ (kV doc pm : Value) (an : Option Addr) (cdv ct : Value) (us : List Value), us.length = (["self", "word"] : List Str).length → bindArgs (PySem.W.fnOf "__init__" "LarderError.__init__" (defArgs s_init) (defBody s_init) (defScope s_init) .none kV doc pm an cdv ct) ⟨us, []⟩ = pure ((["self", "word"] : List Str).zip us) := fun _ _ _ _ _ _ us hl => match us, hl with | [_, _], _ => rfl
theorem ok_init {P : Program} {w : World} {K : PySem.W.Frag} {mg : Str → Option Value} {base : Heap} {fI : Addr} {fd : FuncData} (F : Fun K "__init__" "LarderError.__init__" s_init fI fd) (m_ValueError : mg "ValueError" = none) (vV : PySem.W.findCls K (.type "ValueError") (.type "type") "__init__" = some (.val (.builtin "ValueError.__init__"))) : FnOk P w K mg base CX0 1 fI fd ["self", "word"] (spInit K) := by
  refine F.ok sc_init (fun vs H Q E h => ?_) (fun cdv A outer s H vs Q E hr h => ?_)
  · obtain ⟨a, C, nm, rfl, _⟩ := h
    rfl
  · obtain ⟨a, C, nm, rfl, ha, T, nw, q⟩ := h
    refine ⟨_, (pss_cons (ps_expr (pe_veinit (by rfl) m_ValueError vV (pa_cons (pv 0) (pa_cons (pv 1) pa_nil)))) (pss_one (ps_ost (pv 0) (pv 1)))), ?_⟩
    refine ⟨_, rfl, _, rfl, a, C, [.str nm], rfl, (show 1 ≤ 1000 by decide), T, ha, ?_⟩
    refine ⟨_, rfl, _, rfl, a, C, rfl, T, nw, .inl ⟨ha, fun dx h1 h2 => ?_⟩⟩
    exact q dx h1 h2
abbrev s_needed_on : Stmt := topS 9
theorem sc_needed_on : FnScope ["pairs", "day", "on", "amount"] ["pairs", "day"] (defScope s_needed_on) := ⟨rfl, rfl, rfl, by decide +kernel, rfl, by decide +kernel, by decide +kernel⟩
theorem bd_needed_on : ∀ (kV doc pm : Value) (an : Option Addr) (cdv ct : Value) (us : List Value), us.length = (["pairs", "day"] : List Str).length → bindArgs (PySem.W.fnOf "needed_on" "needed_on" (defArgs s_needed_on) (defBody s_needed_on) (defScope s_needed_on) .none kV doc pm an cdv ct) ⟨us, []⟩ = pure ((["pairs", "day"] : List Str).zip us) := fun _ _ _ _ _ _ us hl => match us, hl with | [_, _], _ => rfl
def spNeededOn (K : PySem.W.Frag) : Sp := fun vs H Q _ => ∃ (a : Addr) (us : List V) (ps : List (Int × Int)) (day : Int), vs = [.ref a, .int day] ∧ SqL K H a us ∧ Held PairAt H us ps ∧ ps.length ≤ 10000 ∧ ∀ H', Same H H' → Q (.int (onDay ps day)) H'
theorem ok_needed_on {P : Program} {w : World} {K : PySem.W.Frag} {mg : Str → Option Value} {base : Heap} (D : DefAt K mg "needed_on" s_needed_on) (m_sum : mg "sum" = none) :
    Clb P w K mg base 1 "needed_on" ["pairs", "day"] (spNeededOn K) := by
  refine D.clb sc_needed_on (fun vs H Q E h => ?_) bd_needed_on (fun f cdv A outer s H vs Q E hr h => ?_)
  · obtain ⟨a, us, ps, day, rfl, _⟩ := h
    rfl
  · obtain ⟨a, us, ps, day, rfl, hS, hh, hz, q⟩ := h
    refine ⟨_, (pss_one (ps_ret (pe_callB (kcr_sum K rfl) (by rfl) m_sum (by decide +kernel) (pa_cons (pe_lc (own := [("on", 2), ("amount", 3)]) rfl sc_needed_on.nd (kpi_list K (pv 0)) (blkOk_by (own := [("on", 2), ("amount", 3)]) (N := ["pairs", "day", "on", "amount"]) (sc := defScope s_needed_on) (by decide +kernel)) (fun _ _ _ _ _ => (kpg_tup K (n := 2) rfl (pgs_cons (pg_name (i := 2) sc_needed_on.nd rfl (.inl rfl)) (pgs_cons (pg_name (i := 3) sc_needed_on.nd rfl (.inl rfl)) pgs_nil)))) (fun _ _ _ _ _ => (pts_one (pt_cmpR op_eq (pv 2) (pv 1) (nomark _)))) (fun _ _ _ _ _ => (pv 3))) pa_nil)))), ?_⟩
    refine ⟨_, rfl, a, rfl, ⟨_, hS⟩, fun D hD => lc_rel (walk_list (xs := us)) (xs := ps) hh.len.symm (f := fun x => if x.1 = day then some x.2 else none) (R := fun _ v x => v = V.int x) mono_eq hD (fun H' s => s.seq hS) (by rw [hh.len]; omega) (fun i v x H1 H2 Ky Kn hx sm hy h1 h2 => ?_) (fun H' ys sm hD' hd => ?_)⟩
    · obtain ⟨rfl, hv⟩ := hy
      obtain ⟨t, rfl, ht⟩ := hh.all i v x hv hx
      have ht' := sm _ _ ht
      refine ⟨t, _, rfl, sqT ht', rfl, _, _, rfl, _, _, rfl, rfl, rfl, ?_⟩
      walk_at "rd"
      refine it_eqI (fun e => ?_) (fun e => ?_)
      · exact ⟨_, rfl, h1 _ _ _ (if_pos e) (Same.refl _) rfl⟩
      · exact h2 _ (if_neg e) (Same.refl _)
    · have e := held_eq (f := V.int) hd
      exact ⟨D, _, rfl, sqL (by rw [hD', e]), q H' sm⟩
abbrev s_needed : Stmt := topS 8
theorem sc_needed : FnScope ["dishes", "name", "pairs", "day", "needs", "word", "amount"] ["dishes", "name"] (defScope s_needed) := ⟨rfl, rfl, rfl, by decide +kernel, rfl, by decide +kernel, by decide +kernel⟩
theorem bd_needed : ∀ (kV doc pm : Value) (an : Option Addr) (cdv ct : Value) (us : List Value), us.length = (["dishes", "name"] : List Str).length → bindArgs (PySem.W.fnOf "needed" "needed" (defArgs s_needed) (defBody s_needed) (defScope s_needed) .none kV doc pm an cdv ct) ⟨us, []⟩ = pure ((["dishes", "name"] : List Str).zip us) := fun _ _ _ _ _ _ us hl => match us, hl with | [_, _], _ => rfl
def spNeeded (K : PySem.W.Frag) : Sp := fun vs H Q _ => ∃ (v : V) (ds : List Dish) (nm : Str), vs = [v, .str nm] ∧ DishesAt H v ds ∧ ds.length ≤ 100 ∧ (∀ d ∈ ds, d.2.length ≤ 20) ∧
  ∀ p H', Same H H' → H' p = some (.tup ((neededL ds nm).map V.int)) → Q (.ref p) H'
theorem ok_needed {P : Program} {w : World} {K : PySem.W.Frag} {mg : Str → Option Value} {base : Heap} {tk : Tok} (D : DefAt K mg "needed" s_needed) (m_tuple : mg "tuple" = none) (m_range : mg "range" = none) (m_DAYS : mg "DAYS" = some (.int 7 tk))
    (C_needed_on : Clb P w K mg base 1 "needed_on" ["pairs", "day"] (spNeededOn K)) :
    Clb P w K mg base 2 "needed" ["dishes", "name"] (spNeeded K) := by
  refine D.clb sc_needed (fun vs H Q E h => ?_) bd_needed (fun f cdv A outer s H vs Q E hr h => ?_)
  · obtain ⟨v, ds, nm, rfl, _⟩ := h
    rfl
  · obtain ⟨v, ds, nm, rfl, ⟨a, us, rfl, ha, hh⟩, hl, hn, q⟩ := h
    refine ⟨_, (pss_cons (ps_set (i := 2) sc_needed.nd rfl (.inr rfl) (pe_lc2 (own := [("day", 3), ("needs", 4), ("word", 5), ("amount", 6)]) (vs1 := [5, 6]) rfl sc_needed.nd (kpi_tup K (pv 0)) (blkOk_by (own := [("day", 3), ("needs", 4), ("word", 5), ("amount", 6)]) (N := ["dishes", "name", "pairs", "day", "needs", "word", "amount"]) (sc := defScope s_needed) (by decide +kernel)) (by decide) (fun _ _ _ _ _ => (kpg_tup K (n := 2) rfl (pgs_cons (pg_name (i := 3) sc_needed.nd rfl (.inl rfl)) (pgs_cons (pg_name (i := 4) sc_needed.nd rfl (.inl rfl)) pgs_nil)))) (fun _ _ _ _ _ => pts_nil) (fun _ _ _ _ _ => (kpi_tup K (pv 4))) (fun _ _ _ _ _ => (kpg_tup K (n := 2) rfl (pgs_cons (pg_name (i := 5) sc_needed.nd rfl (.inl rfl)) (pgs_cons (pg_name (i := 6) sc_needed.nd rfl (.inl rfl)) pgs_nil)))) (fun _ _ _ _ _ => (pts_one (pt_cmpR op_eq (pv 5) (pv 1) (nomark _)))) (fun _ _ _ _ _ => (pe_tup (pa_cons (pv 3) (pa_cons (pv 6) pa_nil))))))
    (pss_one (ps_ret (pe_callTy (kcall_tuple_of K) (by rfl) m_tuple (by decide +kernel) (pa_cons (pe_lc (own := [("day", 3)]) rfl sc_needed.nd (pi_range2 (by rfl) m_range (pa_cons pe_int (pa_cons (pe_op op_add (pe_glob (v := .int 7) (by rfl) m_DAYS ⟨_, rfl⟩) pe_int) pa_nil))) (blkOk_by (own := [("day", 3)]) (N := ["dishes", "name", "pairs", "day", "needs", "word", "amount"]) (sc := defScope s_needed) (by decide +kernel)) (fun _ _ _ _ _ => (pg_name (i := 3) sc_needed.nd rfl (.inl rfl))) (fun _ _ _ _ _ => pts_nil) (fun _ _ _ _ _ => (pe_cal C_needed_on (hr.mono (by decide)) (pa_cons (pv 2) (pa_cons (pv 3) pa_nil))))) pa_nil))))), ?_⟩
    have lp := pairsOf_len ds nm hn
    refine ⟨_, rfl, a, rfl, ⟨_, sqT ha⟩, fun D hD => lc2_out (walk_tup (xs := us)) (xs := ds) hh.len.symm (F := fun d => d.2.filterMap fun x => if x.1 = nm then some (d.1, x.2) else none) (R := PairAt) hD (fun H' s => s.seqT (sqT ha)) (fun i v d H1 H2 ys Nx hx sm hy hDl hd hN => ?_) (fun H' ys sm hD' hd => ?_)⟩
    · obtain ⟨rfl, hv⟩ := hy
      obtain ⟨t, u, rfl, ht, hu⟩ := hh.all i v d hv hx
      obtain ⟨u, ws, rfl, hu, hw⟩ := hu
      have hd20 := hn d (List.mem_of_getElem? hx)
      have lz : (List.flatMap (fun d : Dish => d.2.filterMap fun x => if x.1 = nm then some (d.1, x.2) else none) (ds.take i)).length ≤ 2000 := by
        have z := pairsOf_len (n := 20) (ds.take i) nm fun d hd => hn d (List.mem_of_mem_take hd)
        unfold pairsOf at z
        rw [List.length_take] at z
        omega
      refine ⟨t, _, rfl, sqT (sm _ _ ht), rfl, _, _, rfl, _, _, rfl, rfl, rfl, ?_⟩
      refine ⟨_, rfl, u, rfl, ⟨_, sqT (sm _ _ hu)⟩, lc2_in (walk_tup (xs := ws)) (xs := d.2) hw.len.symm (f := fun x => if x.1 = nm then some (d.1, x.2) else none) (R := PairAt) PairAt.mono hD sm hDl hd (fun H' s _ => s.seqT (sqT hu)) (by have e := hw.len; omega) (fun j v x H3 H4 Ky Kn hx sm hst hy h1 h2 => ?_) (fun H' ys sm hD' hd => hN H' ys sm hD' hd)⟩
      obtain ⟨rfl, hv⟩ := hy
      obtain ⟨t2, rfl, ht2⟩ := hw.all j v x hv hx
      refine ⟨t2, _, rfl, sqT (sm _ _ ht2), rfl, _, _, rfl, _, _, rfl, rfl, rfl, ?_⟩
      walk_at "rd"
      refine it_eqS (fun e => ?_) (fun e => ?_)
      · walk_at "rd"
        refine ⟨small (by show 2 ≤ 100000; decide), fun p hp => ?_⟩
        exact h1 _ _ _ (if_pos e) (same_upd hp) ⟨p, rfl, upd_same⟩
      · exact h2 _ (if_neg e) (Same.refl _)
    · walk_at "rd"
      refine fun D2 hD2 => lc_rel (walk_range (lo := 1) (n := 7)) (xs := List.range 7) rfl (f := fun k => some (onDay (pairsOf ds nm) (1 + (k : Nat)))) (R := fun _ v x => v = V.int x) mono_eq hD2 (fun _ _ => trivial) (by decide) (fun i v x H1 H2 Ky Kn hx sm2 hy h1 h2 => ?_) (fun H2 zs sm2 hD2' hd2 => ?_)
      · obtain ⟨rfl, rfl⟩ := hy
        obtain ⟨rfl, hi⟩ := range_ix hx
        refine ⟨rfl, ?_⟩
        refine ⟨_, rfl, _, rfl, D, ys, pairsOf ds nm, _, rfl, sm2.seq (sqL hD'), hd.mono PairAt.mono (SameT.of sm2), by omega, fun H3 sm3 => ?_⟩
        exact h1 _ _ _ rfl sm3 rfl
      · have e := held_eq (f := V.int) hd2
        rw [fm_some] at e
        refine ⟨D2, _, rfl, .inl ⟨sqL hD2', fun p hp => ?_⟩⟩
        rw [e]
        exact q p _ ((sm.trans sm2).new hp) upd_same
abbrev s_from_day : Stmt := topS 10
theorem sc_from_day : FnScope ["amounts", "at"] ["amounts"] (defScope s_from_day) := ⟨rfl, rfl, rfl, by decide +kernel, rfl, by decide +kernel, by decide +kernel⟩
theorem bd_from_day : ∀ (kV doc pm : Value) (an : Option Addr) (cdv ct : Value) (us : List Value), us.length = (["amounts"] : List Str).length → bindArgs (PySem.W.fnOf "from_day" "from_day" (defArgs s_from_day) (defBody s_from_day) (defScope s_from_day) .none kV doc pm an cdv ct) ⟨us, []⟩ = pure ((["amounts"] : List Str).zip us) := fun _ _ _ _ _ _ us hl => match us, hl with | [_], _ => rfl
theorem cutV_drop (xs : List V) (i : Nat) : cutV xs (some (i : Int)) none = xs.drop i := by
  unfold cutV
  rw [HT.sIx_nat, HT.sIx_none]
  by_cases h : i ≤ xs.length
  · rw [Nat.min_eq_left h, List.take_of_length_le (by rw [List.length_drop]; omega)]
  · rw [Nat.min_eq_right (by omega), List.drop_of_length_le (Nat.le_refl _), List.drop_of_length_le (by omega)]; simp
def spFromDay (K : PySem.W.Frag) : Sp := fun vs H Q _ => ∃ (a : Addr) (xs : List Int), vs = [.ref a] ∧ H a = some (.tup (xs.map V.int)) ∧ xs.length = 7 ∧ ∀ p H', Same H H' → H' p = some (.tup ((fromL xs).map V.int)) → Q (.ref p) H'
theorem ok_from_day {P : Program} {w : World} {K : PySem.W.Frag} {mg : Str → Option Value} {base : Heap} {tk : Tok} (D : DefAt K mg "from_day" s_from_day) (m_tuple : mg "tuple" = none) (m_range : mg "range" = none) (m_sum : mg "sum" = none) (m_DAYS : mg "DAYS" = some (.int 7 tk)) :
    Clb P w K mg base 1 "from_day" ["amounts"] (spFromDay K) := by
  refine D.clb sc_from_day (fun vs H Q E h => ?_) bd_from_day (fun f cdv A outer s H vs Q E hr h => ?_)
  · obtain ⟨a, xs, rfl, _⟩ := h
    rfl
  · obtain ⟨a, xs, rfl, ha, hl, q⟩ := h
    refine ⟨_, (pss_one (ps_ret (pe_callTy (kcall_tuple_of K) (by rfl) m_tuple (by decide +kernel) (pa_cons (pe_lc (own := [("at", 1)]) rfl sc_from_day.nd (pi_range1 (by rfl) m_range (pa_cons (pe_glob (v := .int 7) (by rfl) m_DAYS ⟨_, rfl⟩) pa_nil)) (blkOk_by (own := [("at", 1)]) (N := ["amounts", "at"]) (sc := defScope s_from_day) (by decide +kernel)) (fun _ _ _ _ _ => (pg_name (i := 1) sc_from_day.nd rfl (.inl rfl))) (fun _ _ _ _ _ => pts_nil) (fun _ _ _ _ _ => (pe_callB (kcr_sumT K rfl) (by rfl) m_sum (by decide +kernel) (pa_cons (pe_slice (ksl_tupA K) (pv 0) (po_some (pv 1)) po_none) pa_nil)))) pa_nil)))), ?_⟩
    walk_at "rd"
    refine ⟨by decide, by decide, fun D hD => lc_rel (walk_range (lo := 0) (n := 7)) (xs := List.range 7) rfl (f := fun k => some ((xs.drop k).sum)) (R := fun _ v x => v = V.int x) mono_eq hD (fun _ _ => trivial) (by decide) (fun i v x H1 H2 Ky Kn hx sm hy h1 h2 => ?_) (fun H2 zs sm hD' hd => ?_)⟩
    · obtain ⟨rfl, rfl⟩ := hy
      obtain ⟨rfl, hi⟩ := range_ix hx
      refine ⟨rfl, ?_⟩
      walk_at "rd"
      have ex : cutV (xs.map V.int) (some (0 + (x : Int))) none = (xs.drop x).map V.int := by
        rw [Int.zero_add, cutV_drop, List.map_drop]
      refine ⟨a, _, rfl, sm.seqT (sqT ha), fun hw => ?_, fun _ p hp => ?_⟩
      · have e0 : x = 0 := by
          have z := hw.1
          rw [Int.zero_add, HT.sIx_nat, List.length_map, hl] at z
          omega
        subst e0
        exact ⟨a, xs, rfl, sm.seqT (sqT ha), h1 _ _ _ rfl (Same.refl _) rfl⟩
      · rw [ex]
        exact ⟨p, _, rfl, sqT upd_same, h1 _ _ _ rfl (same_upd hp) rfl⟩
    · have e := held_eq (f := V.int) hd
      rw [fm_some] at e
      refine ⟨D, _, rfl, .inl ⟨sqL hD', fun p hp => ?_⟩⟩
      rw [e]
      exact q p _ (sm.new hp) upd_same
abbrev s_kept_to : Stmt := topS 21
theorem sc_kept_to : FnScope ["pairs", "day", "amount", "last"] ["pairs", "day"] (defScope s_kept_to) := ⟨rfl, rfl, rfl, by decide +kernel, rfl, by decide +kernel, by decide +kernel⟩
theorem bd_kept_to : ∀ (kV doc pm : Value) (an : Option Addr) (cdv ct : Value) (us : List Value), us.length = (["pairs", "day"] : List Str).length → bindArgs (PySem.W.fnOf "kept_to" "kept_to" (defArgs s_kept_to) (defBody s_kept_to) (defScope s_kept_to) .none kV doc pm an cdv ct) ⟨us, []⟩ = pure ((["pairs", "day"] : List Str).zip us) := fun _ _ _ _ _ _ us hl => match us, hl with | [_, _], _ => rfl
def spKeptTo (K : PySem.W.Frag) : Sp := fun vs H Q _ => ∃ (a : Addr) (us : List V) (ps : List (Int × Int)) (day : Int), vs = [.ref a, .int day] ∧ SqL K H a us ∧ Held PairAt H us ps ∧ ps.length ≤ 10000 ∧ ∀ H', Same H H' → Q (.int (toDay ps day)) H'
theorem ok_kept_to {P : Program} {w : World} {K : PySem.W.Frag} {mg : Str → Option Value} {base : Heap} (D : DefAt K mg "kept_to" s_kept_to) (m_sum : mg "sum" = none) :
    Clb P w K mg base 1 "kept_to" ["pairs", "day"] (spKeptTo K) := by
  refine D.clb sc_kept_to (fun vs H Q E h => ?_) bd_kept_to (fun f cdv A outer s H vs Q E hr h => ?_)
  · obtain ⟨a, us, ps, day, rfl, _⟩ := h
    rfl
  · obtain ⟨a, us, ps, day, rfl, hS, hh, hz, q⟩ := h
    refine ⟨_, (pss_one (ps_ret (pe_callB (kcr_sum K rfl) (by rfl) m_sum (by decide +kernel) (pa_cons (pe_lc (own := [("amount", 2), ("last", 3)]) rfl sc_kept_to.nd (kpi_list K (pv 0)) (blkOk_by (own := [("amount", 2), ("last", 3)]) (N := ["pairs", "day", "amount", "last"]) (sc := defScope s_kept_to) (by decide +kernel)) (fun _ _ _ _ _ => (kpg_tup K (n := 2) rfl (pgs_cons (pg_name (i := 2) sc_kept_to.nd rfl (.inl rfl)) (pgs_cons (pg_name (i := 3) sc_kept_to.nd rfl (.inl rfl)) pgs_nil)))) (fun _ _ _ _ _ => (pts_one (pt_cmpR op_ge (pv 3) (pv 1) (nomark _)))) (fun _ _ _ _ _ => (pv 2))) pa_nil)))), ?_⟩
    refine ⟨_, rfl, a, rfl, ⟨_, hS⟩, fun D hD => lc_rel (walk_list (xs := us)) (xs := ps) hh.len.symm (f := fun x => if day ≤ x.2 then some x.1 else none) (R := fun _ v x => v = V.int x) mono_eq hD (fun H' s => s.seq hS) (by rw [hh.len]; omega) (fun i v x H1 H2 Ky Kn hx sm hy h1 h2 => ?_) (fun H' ys sm hD' hd => ?_)⟩
    · obtain ⟨rfl, hv⟩ := hy
      obtain ⟨t, rfl, ht⟩ := hh.all i v x hv hx
      refine ⟨t, _, rfl, sqT (sm _ _ ht), rfl, _, _, rfl, _, _, rfl, rfl, rfl, ?_⟩
      walk_at "rd"
      refine it_le (fun e => ?_) (fun e => ?_)
      · exact ⟨_, rfl, h1 _ _ _ (if_pos e) (Same.refl _) rfl⟩
      · exact h2 _ (if_neg e) (Same.refl _)
    · have e := held_eq (f := V.int) hd
      exact ⟨D, _, rfl, sqL (by rw [hD', e]), q H' sm⟩
abbrev s_kept : Stmt := topS 20
theorem sc_kept : FnScope ["larder", "name", "pairs", "word", "amount", "last", "day"] ["larder", "name"] (defScope s_kept) := ⟨rfl, rfl, rfl, by decide +kernel, rfl, by decide +kernel, by decide +kernel⟩
theorem bd_kept : ∀ (kV doc pm : Value) (an : Option Addr) (cdv ct : Value) (us : List Value), us.length = (["larder", "name"] : List Str).length → bindArgs (PySem.W.fnOf "kept" "kept" (defArgs s_kept) (defBody s_kept) (defScope s_kept) .none kV doc pm an cdv ct) ⟨us, []⟩ = pure ((["larder", "name"] : List Str).zip us) := fun _ _ _ _ _ _ us hl => match us, hl with | [_, _], _ => rfl
def spKept (K : PySem.W.Frag) : Sp := fun vs H Q _ => ∃ (v : V) (lar : List Batch) (nm : Str), vs = [v, .str nm] ∧ LarderAt H v lar ∧ lar.length ≤ 10000 ∧ ∀ p H', Same H H' → H' p = some (.tup ((keptL lar nm).map V.int)) → Q (.ref p) H'
theorem ok_kept {P : Program} {w : World} {K : PySem.W.Frag} {mg : Str → Option Value} {base : Heap} {tk : Tok} (D : DefAt K mg "kept" s_kept) (m_tuple : mg "tuple" = none) (m_range : mg "range" = none) (m_DAYS : mg "DAYS" = some (.int 7 tk))
    (C_kept_to : Clb P w K mg base 1 "kept_to" ["pairs", "day"] (spKeptTo K)) :
    Clb P w K mg base 2 "kept" ["larder", "name"] (spKept K) := by
  refine D.clb sc_kept (fun vs H Q E h => ?_) bd_kept (fun f cdv A outer s H vs Q E hr h => ?_)
  · obtain ⟨v, lar, nm, rfl, _⟩ := h
    rfl
  · obtain ⟨v, lar, nm, rfl, ⟨a, us, rfl, ha, hh⟩, hl, q⟩ := h
    refine ⟨_, (pss_cons (ps_set (i := 2) sc_kept.nd rfl (.inr rfl) (pe_lc (own := [("word", 3), ("amount", 4), ("last", 5)]) rfl sc_kept.nd (kpi_tup K (pv 0)) (blkOk_by (own := [("word", 3), ("amount", 4), ("last", 5)]) (N := ["larder", "name", "pairs", "word", "amount", "last", "day"]) (sc := defScope s_kept) (by decide +kernel)) (fun _ _ _ _ _ => (kpg_tup K (n := 3) rfl (pgs_cons (pg_name (i := 3) sc_kept.nd rfl (.inl rfl)) (pgs_cons (pg_name (i := 4) sc_kept.nd rfl (.inl rfl)) (pgs_cons (pg_name (i := 5) sc_kept.nd rfl (.inl rfl)) pgs_nil))))) (fun _ _ _ _ _ => (pts_one (pt_cmpR op_eq (pv 3) (pv 1) (nomark _)))) (fun _ _ _ _ _ => (pe_tup (pa_cons (pv 4) (pa_cons (pv 5) pa_nil))))))
    (pss_one (ps_ret (pe_callTy (kcall_tuple_of K) (by rfl) m_tuple (by decide +kernel) (pa_cons (pe_lc (own := [("day", 6)]) rfl sc_kept.nd (pi_range2 (by rfl) m_range (pa_cons pe_int (pa_cons (pe_op op_add (pe_glob (v := .int 7) (by rfl) m_DAYS ⟨_, rfl⟩) pe_int) pa_nil))) (blkOk_by (own := [("day", 6)]) (N := ["larder", "name", "pairs", "word", "amount", "last", "day"]) (sc := defScope s_kept) (by decide +kernel)) (fun _ _ _ _ _ => (pg_name (i := 6) sc_kept.nd rfl (.inl rfl))) (fun _ _ _ _ _ => pts_nil) (fun _ _ _ _ _ => (pe_cal C_kept_to (hr.mono (by decide)) (pa_cons (pv 2) (pa_cons (pv 6) pa_nil))))) pa_nil))))), ?_⟩
    have lp : (keptPairs lar nm).length ≤ 10000 := Nat.le_trans (List.length_filterMap_le _ _) hl
    refine ⟨_, rfl, a, rfl, ⟨_, sqT ha⟩, fun D hD => lc_rel (walk_tup (xs := us)) (xs := lar) hh.len.symm (f := fun b => if b.name = nm then some (b.amount, b.last) else none) (R := PairAt) PairAt.mono hD (fun H' s => s.seqT (sqT ha)) (by rw [hh.len]; omega) (fun i v x H1 H2 Ky Kn hx sm hy h1 h2 => ?_) (fun H' ys sm hD' hd => ?_)⟩
    · obtain ⟨rfl, hv⟩ := hy
      obtain ⟨t, rfl, ht⟩ := hh.all i v x hv hx
      refine ⟨t, _, rfl, sqT (sm _ _ ht), rfl, _, _, rfl, _, _, rfl, _, _, rfl, rfl, rfl, ?_⟩
      walk_at "rd"
      refine it_eqS (fun e => ?_) (fun e => ?_)
      · walk_at "rd"
        refine ⟨small (by show 2 ≤ 100000; decide), fun p hp => ?_⟩
        exact h1 _ _ _ (if_pos e) (same_upd hp) ⟨p, rfl, upd_same⟩
      · exact h2 _ (if_neg e) (Same.refl _)
    · walk_at "rd"
      refine fun D2 hD2 => lc_rel (walk_range (lo := 1) (n := 7)) (xs := List.range 7) rfl (f := fun k => some (toDay (keptPairs lar nm) (1 + (k : Nat)))) (R := fun _ v x => v = V.int x) mono_eq hD2 (fun _ _ => trivial) (by decide) (fun i v x H1 H2 Ky Kn hx sm2 hy h1 h2 => ?_) (fun H2 zs sm2 hD2' hd2 => ?_)
      · obtain ⟨rfl, rfl⟩ := hy
        obtain ⟨rfl, hi⟩ := range_ix hx
        refine ⟨rfl, ?_⟩
        refine ⟨_, rfl, _, rfl, D, ys, keptPairs lar nm, _, rfl, sm2.seq (sqL hD'), hd.mono PairAt.mono (SameT.of sm2), lp, fun H3 sm3 => ?_⟩
        exact h1 _ _ _ rfl sm3 rfl
      · have e := held_eq (f := V.int) hd2
        rw [fm_some] at e
        refine ⟨D2, _, rfl, .inl ⟨sqL hD2', fun p hp => ?_⟩⟩
        rw [e]
        exact q p _ ((sm.trans sm2).new hp) upd_same
abbrev s_lacking : Stmt := topS 22
theorem sc_lacking : FnScope ["dishes", "larder", "name", "needs", "need", "have"] ["dishes", "larder", "name"] (defScope s_lacking) := ⟨rfl, rfl, rfl, by decide +kernel, rfl, by decide +kernel, by decide +kernel⟩
theorem bd_lacking : ∀ (kV doc pm : Value) (an : Option Addr) (cdv ct : Value) (us : List Value), us.length = (["dishes", "larder", "name"] : List Str).length → bindArgs (PySem.W.fnOf "lacking" "lacking" (defArgs s_lacking) (defBody s_lacking) (defScope s_lacking) .none kV doc pm an cdv ct) ⟨us, []⟩ = pure ((["dishes", "larder", "name"] : List Str).zip us) := fun _ _ _ _ _ _ us hl => match us, hl with | [_, _, _], _ => rfl
def spLacking (K : PySem.W.Frag) : Sp := fun vs H Q _ => ∃ (v u : V) (ds : List Dish) (lar : List Batch) (nm : Str), vs = [v, u, .str nm] ∧ DishesAt H v ds ∧ ds.length ≤ 100 ∧ (∀ d ∈ ds, d.2.length ≤ 20) ∧ LarderAt H u lar ∧ lar.length ≤ 10000 ∧
  ∀ p H', Same H H' → H' p = some (.tup ((lackL ds lar nm).map V.int)) → Q (.ref p) H'
theorem ok_lacking {P : Program} {w : World} {K : PySem.W.Frag} {mg : Str → Option Value} {base : Heap} (D : DefAt K mg "lacking" s_lacking) (m_tuple : mg "tuple" = none) (m_zip : mg "zip" = none) (m_max : mg "max" = none)
    (C_needed : Clb P w K mg base 2 "needed" ["dishes", "name"] (spNeeded K)) (C_from_day : Clb P w K mg base 1 "from_day" ["amounts"] (spFromDay K)) (C_kept : Clb P w K mg base 2 "kept" ["larder", "name"] (spKept K)) :
    Clb P w K mg base 3 "lacking" ["dishes", "larder", "name"] (spLacking K) := by
  refine D.clb sc_lacking (fun vs H Q E h => ?_) bd_lacking (fun f cdv A outer s H vs Q E hr h => ?_)
  · obtain ⟨v, u, ds, lar, nm, rfl, _⟩ := h
    rfl
  · obtain ⟨v, u, ds, lar, nm, rfl, hd, hl, hn, hlar, hll, q⟩ := h
    refine ⟨_, (pss_cons (ps_set (i := 3) sc_lacking.nd rfl (.inl rfl) (pe_cal C_from_day (hr.mono (by decide)) (pa_cons (pe_cal C_needed (hr.mono (by decide)) (pa_cons (pv 0) (pa_cons (pv 2) pa_nil))) pa_nil)))
    (pss_one (ps_ret (pe_callTy (kcall_tuple_of K) (by rfl) m_tuple (by decide +kernel) (pa_cons (pe_lc (own := [("need", 4), ("have", 5)]) rfl sc_lacking.nd (kpi_zipA K (by rfl) m_zip (pa_cons (pv 3) (pa_cons (pe_cal C_kept (hr.mono (by decide)) (pa_cons (pv 1) (pa_cons (pv 2) pa_nil))) pa_nil))) (blkOk_by (own := [("need", 4), ("have", 5)]) (N := ["dishes", "larder", "name", "needs", "need", "have"]) (sc := defScope s_lacking) (by decide +kernel)) (fun _ _ _ _ _ => (kpg_tup K (n := 2) rfl (pgs_cons (pg_name (i := 4) sc_lacking.nd rfl (.inl rfl)) (pgs_cons (pg_name (i := 5) sc_lacking.nd rfl (.inl rfl)) pgs_nil)))) (fun _ _ _ _ _ => pts_nil) (fun _ _ _ _ _ => (pe_callB (call_max2 rfl) (by rfl) m_max (by decide +kernel) (pa_cons pe_int (pa_cons (pe_op op_sub (pv 4) (pv 5)) pa_nil))))) pa_nil))))), ?_⟩
    refine ⟨_, rfl, _, rfl, v, ds, nm, rfl, hd, hl, hn, fun p1 H1 s1 h1 => ?_⟩
    refine ⟨p1, _, rfl, h1, neededL_len _ _, fun p2 H2 s2 h2 => ?_⟩
    refine ⟨_, rfl, _, rfl, _, rfl, u, lar, nm, rfl, LarderAt.mono _ _ _ _ (SameT.of (s1.trans s2)) hlar, hll, fun p3 H3 s3 h3 => ?_⟩
    refine ⟨_, _, _, _, rfl, .inr ⟨sqT (s3 _ _ h2), sqT h3, ?_⟩⟩
    refine fun D hD => lc_rel (walk_zipT (n := 7) (xs := (fromL (neededL ds nm)).map V.int) (ys := (keptL lar nm).map V.int) (by rw [List.length_map, List.length_map, fromL_len, keptL_len]; rfl)) (xs := List.range 7) rfl
      (f := fun i => some (mx0 ((fromL (neededL ds nm)).getD i 0 - (keptL lar nm).getD i 0))) (R := fun _ v x => v = V.int x) mono_eq hD (fun H s => ⟨s.seqT (sqT (s3 _ _ h2)), s.seqT (sqT h3)⟩) (by decide) (fun i v x H4 H5 Ky Kn hx sm hy k1 k2 => ?_) (fun H4 ys sm hD' hd' => ?_)
    · obtain ⟨rfl, hi⟩ := range_ix hx
      obtain ⟨T, a, b, rfl, hT, rfl, ea, eb⟩ := hy
      obtain ⟨na, ea2, rfl⟩ := map_ix ea
      obtain ⟨nb, eb2, rfl⟩ := map_ix eb
      refine ⟨T, _, rfl, sqT upd_same, rfl, _, _, rfl, _, _, rfl, rfl, rfl, ?_⟩
      walk_at "rd"
      refine k1 _ _ _ rfl (same_upd hT) ?_
      rw [List.getD_eq_getElem?_getD, List.getD_eq_getElem?_getD, ea2, eb2]
      rfl
    · have e := held_eq (f := V.int) hd'
      rw [fm_some] at e
      refine ⟨D, _, rfl, .inl ⟨sqL hD', fun p hp => ?_⟩⟩
      rw [e]
      exact q p _ ((((s1.trans s2).trans s3).trans sm).new hp) upd_same
abbrev s_things_of : Stmt := topS 7
theorem sc_things_of : FnScope ["dishes", "day", "needs", "name", "amount"] ["dishes"] (defScope s_things_of) := ⟨rfl, rfl, rfl, by decide +kernel, rfl, by decide +kernel, by decide +kernel⟩
theorem bd_things_of : ∀ (kV doc pm : Value) (an : Option Addr) (cdv ct : Value) (us : List Value), us.length = (["dishes"] : List Str).length → bindArgs (PySem.W.fnOf "things_of" "things_of" (defArgs s_things_of) (defBody s_things_of) (defScope s_things_of) .none kV doc pm an cdv ct) ⟨us, []⟩ = pure ((["dishes"] : List Str).zip us) := fun _ _ _ _ _ _ us hl => match us, hl with | [_], _ => rfl
def spThingsOf (K : PySem.W.Frag) : Sp := fun vs H Q _ => ∃ (v : V) (ds : List Dish), vs = [v] ∧ DishesAt H v ds ∧ ds.length ≤ 100 ∧ (∀ d ∈ ds, d.2.length ≤ 20) ∧ (namesOf ds).length < 64 ∧
  ∀ p (ys : List Str) H', Same H H' → ys.Perm (namesOf ds) → sortedS ys = true → H' p = some (.tup (ys.map V.str)) → Q (.ref p) H'
theorem ok_things_of {P : Program} {w : World} {K : PySem.W.Frag} {mg : Str → Option Value} {base : Heap} (D : DefAt K mg "things_of" s_things_of) (m_tuple : mg "tuple" = none) (m_sorted : mg "sorted" = none) :
    Clb P w K mg base 1 "things_of" ["dishes"] (spThingsOf K) := by
  refine D.clb sc_things_of (fun vs H Q E h => ?_) bd_things_of (fun f cdv A outer s H vs Q E hr h => ?_)
  · obtain ⟨v, ds, rfl, _⟩ := h
    rfl
  · obtain ⟨v, ds, rfl, ⟨a, us, rfl, ha, hh⟩, hl, hn, h64, q⟩ := h
    refine ⟨_, (pss_one (ps_ret (pe_callTy (kcall_tuple_of K) (by rfl) m_tuple (by decide +kernel) (pa_cons (pe_callB (cr_sortedSetS rfl) (by rfl) m_sorted (by decide +kernel) (pa_cons (pe_scS (own := [("day", 1), ("needs", 2), ("name", 3), ("amount", 4)]) (vs1 := [3, 4]) rfl sc_things_of.nd (kpi_tup K (pv 0)) (blkOk_by (own := [("day", 1), ("needs", 2), ("name", 3), ("amount", 4)]) (N := ["dishes", "day", "needs", "name", "amount"]) (sc := defScope s_things_of) (by decide +kernel)) (by decide) (fun _ _ _ _ _ => (kpg_tup K (n := 2) rfl (pgs_cons (pg_name (i := 1) sc_things_of.nd rfl (.inl rfl)) (pgs_cons (pg_name (i := 2) sc_things_of.nd rfl (.inl rfl)) pgs_nil)))) (fun _ _ _ _ _ => (kpi_tup K (pv 2))) (fun _ _ _ _ _ => (kpg_tup K (n := 2) rfl (pgs_cons (pg_name (i := 3) sc_things_of.nd rfl (.inl rfl)) (pgs_cons (pg_name (i := 4) sc_things_of.nd rfl (.inl rfl)) pgs_nil)))) (fun _ _ _ _ _ => (pv 3))) pa_nil)) pa_nil)))), ?_⟩
    have la := allS_len ds hn
    refine ⟨_, rfl, a, rfl, ⟨_, sqT ha⟩, fun D hD => ?_⟩
    refine ⟨fun i m H1 => m = us.length - i ∧ i ≤ us.length ∧ Same H H1 ∧ H1 D = some (SetSO w D (insAll [] (allS (ds.take i)))), ⟨us.length, rfl, Nat.zero_le _, same_upd hD, upd_same⟩, ?_⟩
    rintro i m H1 ⟨rfl, hi, sm, hDs⟩
    by_cases hlt : i < us.length
    · have hv : us[i]? = some us[i] := List.getElem?_eq_getElem hlt
      obtain ⟨d, hd, t, u, et, ht, z, ws, rfl, hz, hw⟩ := hh.get hv
      refine .inr ⟨⟨us, _, sm.seqT (sqT ha), hv⟩, fun H2 => Same H H2 ∧ H2 D = some (SetSO w D (insAll [] (allS (ds.take (i + 1))))), fun H2 h2 => ⟨us.length - (i + 1), by omega, rfl, by omega, h2.1, h2.2⟩, fun x H2 hx => ?_⟩
      obtain ⟨rfl, hx⟩ := hx
      have ex : x = .ref t := (Option.some.inj ((hx _ (sm.seqT (sqT ha))).symm.trans hv)).trans et
      subst ex
      have e20 := hn d (List.mem_of_getElem? hd)
      have eall : allS (ds.take (i + 1)) = allS (ds.take i) ++ d.2.map (·.1) := by
        rw [take_succ' hd]
        unfold allS
        rw [List.flatMap_append]
        simp
      refine ⟨t, _, rfl, sqT (sm _ _ ht), rfl, _, _, rfl, _, _, rfl, rfl, rfl, ?_⟩
      refine ⟨_, rfl, z, rfl, ⟨_, sqT (sm _ _ hz)⟩, fun j k H3 => k = ws.length - j ∧ j ≤ ws.length ∧ Same H H3 ∧ H3 D = some (SetSO w D (insAll (insAll [] (allS (ds.take i))) ((d.2.take j).map (·.1)))), ⟨ws.length, rfl, Nat.zero_le _, sm, hDs⟩, ?_⟩
      rintro j k H3 ⟨rfl, hj, s3, hD3⟩
      by_cases hlt2 : j < ws.length
      · have hv2 : ws[j]? = some ws[j] := List.getElem?_eq_getElem hlt2
        obtain ⟨x, hx2, t2, et2, ht2⟩ := hw.get hv2
        refine .inr ⟨⟨ws, _, s3.seqT (sqT hz), hv2⟩, fun H4 => Same H H4 ∧ H4 D = some (SetSO w D (insAll (insAll [] (allS (ds.take i))) ((d.2.take (j + 1)).map (·.1)))), fun H4 h4 => ⟨ws.length - (j + 1), by omega, rfl, by omega, h4.1, h4.2⟩, fun y H4 hy => ?_⟩
        obtain ⟨rfl, hy⟩ := hy
        have ey : y = .ref t2 := (Option.some.inj ((hy _ (s3.seqT (sqT hz))).symm.trans hv2)).trans et2
        subst ey
        refine ⟨t2, _, rfl, sqT (s3 _ _ ht2), rfl, _, _, rfl, _, _, rfl, rfl, rfl, ?_⟩
        refine ⟨_, rfl, x.1, _, rfl, hD3, ?_, s3.mut hD, ?_⟩
        · have z1 := insAll_len ((d.2.take j).map (·.1)) (insAll [] (allS (ds.take i)))
          have z2 := insAll_len (allS (ds.take i)) []
          have z3 := allS_len (n := 20) (ds.take i) fun d hd => hn d (List.mem_of_mem_take hd)
          rw [List.length_map, List.length_take] at z1
          rw [List.length_take] at z3
          show _ < 4096
          rw [List.length_nil] at z2
          omega
        · rw [upd_same, take_succ' hx2, List.map_append, List.map_singleton, insAll_snoc]
          rfl
      · have ej : j = ws.length := by omega
        subst ej
        refine .inl ⟨⟨ws, s3.seqT (sqT hz), Nat.le_refl _⟩, s3, ?_⟩
        rw [hD3, eall, insAll_app, hw.len, List.take_length]
    · have ei : i = us.length := by omega
      subst ei
      refine .inl ⟨⟨us, sm.seqT (sqT ha), Nat.le_refl _⟩, ?_⟩
      rw [hh.len, List.take_length] at hDs
      refine ⟨D, namesOf ds, rfl, hDs, h64, fun ys p pm so hp => ?_⟩
      refine ⟨p, _, rfl, .inl ⟨sqL upd_same, fun r hr => ?_⟩⟩
      exact q r ys _ ((sm.new hp).new hr) pm so upd_same
abbrev s_offers_of : Stmt := topS 34
theorem sc_offers_of : FnScope ["packs", "name", "size", "price", "last"] ["packs"] (defScope s_offers_of) := ⟨rfl, rfl, rfl, by decide +kernel, rfl, by decide +kernel, by decide +kernel⟩
theorem bd_offers_of : ∀ (kV doc pm : Value) (an : Option Addr) (cdv ct : Value) (us : List Value), us.length = (["packs"] : List Str).length → bindArgs (PySem.W.fnOf "offers_of" "offers_of" (defArgs s_offers_of) (defBody s_offers_of) (defScope s_offers_of) .none kV doc pm an cdv ct) ⟨us, []⟩ = pure ((["packs"] : List Str).zip us) := fun _ _ _ _ _ _ us hl => match us, hl with | [_], _ => rfl
theorem ok_offers_of {P : Program} {w : World} {K : PySem.W.Frag} {mg : Str → Option Value} {base : Heap} (D : DefAt K mg "offers_of" s_offers_of) (m_tuple : mg "tuple" = none) : Clb P w K mg base 1 "offers_of" ["packs"] (spOffersOf K) := by
  refine D.clb sc_offers_of (fun vs H Q E h => ?_) bd_offers_of (fun f cdv A outer s H vs Q E hr h => ?_)
  · obtain ⟨v, ps, rfl, _⟩ := h
    rfl
  · obtain ⟨v, ps, rfl, ⟨a, us, rfl, ha, hh⟩, hl, q⟩ := h
    refine ⟨_, (pss_one (ps_ret (pe_callTy (kcall_tuple_of K) (by rfl) m_tuple (by decide +kernel) (pa_cons (pe_lc (own := [("name", 1), ("size", 2), ("price", 3), ("last", 4)]) rfl sc_offers_of.nd (kpi_any K (pv 0)) (blkOk_by (own := [("name", 1), ("size", 2), ("price", 3), ("last", 4)]) (N := ["packs", "name", "size", "price", "last"]) (sc := defScope s_offers_of) (by decide +kernel)) (fun _ _ _ _ _ => (kpg_tup K (n := 4) rfl (pgs_cons (pg_name (i := 1) sc_offers_of.nd rfl (.inl rfl)) (pgs_cons (pg_name (i := 2) sc_offers_of.nd rfl (.inl rfl)) (pgs_cons (pg_name (i := 3) sc_offers_of.nd rfl (.inl rfl)) (pgs_cons (pg_name (i := 4) sc_offers_of.nd rfl (.inl rfl)) pgs_nil)))))) (fun _ _ _ _ _ => pts_nil) (fun _ _ _ _ _ => (pe_tup (pa_cons (pv 2) (pa_cons (pv 3) (pa_cons (pv 4) pa_nil)))))) pa_nil)))), ?_⟩
    have hul := hh.len
    have fin : ∀ (D : Addr) (H' : Hp) (ys : List V), Same H H' → H' D = some (.lst ys) → Held OfferAt H' ys (ps.filterMap fun p => some (offOf p)) → (∃ p ys, [V.ref D] = [V.ref p] ∧ ((SqL K H' p ys ∧ ∀ l, H' l = none → Q (.ref l) (upd H' l (.tup ys))) ∨ (SqT K H' p ys ∧ Q (.ref p) H'))) := fun D H' ys sm hD' hd => by
      rw [fm_some] at hd
      exact ⟨D, _, rfl, .inl ⟨sqL hD', fun p hp => q _ _ (sm.new hp) ⟨p, ys, rfl, upd_same, hd.mono OfferAt.mono (SameT.new hp)⟩⟩⟩
    refine ⟨_, rfl, a, us, rfl, ?_⟩
    rcases ha with ha | ha
    · refine .inl ⟨ha, ?_⟩
      refine fun D hD => lc_rel (walk_list (xs := us)) (xs := ps) hul.symm (f := fun p => some (offOf p)) (R := OfferAt) OfferAt.mono hD (fun H' s => s.seq ha) (by omega) (fun i v x H1 H2 Ky Kn hx sm hy h1 h2 => ?_) (fun H' ys sm hD' hd => fin D H' ys sm hD' hd)
      obtain ⟨rfl, hv⟩ := hy
      obtain ⟨t, rfl, ht⟩ := hh.all i v x hv hx
      refine ⟨t, _, rfl, sqT (sm _ _ ht), rfl, _, _, rfl, _, _, rfl, _, _, rfl, _, _, rfl, rfl, rfl, ?_⟩
      walk_at "rd"
      refine ⟨small (by show 3 ≤ 100000; decide), fun u hu => ?_⟩
      exact h1 _ _ _ rfl (same_upd hu) ⟨u, rfl, upd_same⟩
    · refine .inr ⟨ha, ?_⟩
      refine fun D hD => lc_rel (walk_tup (xs := us)) (xs := ps) hul.symm (f := fun p => some (offOf p)) (R := OfferAt) OfferAt.mono hD (fun H' s => s.seqT ha) (by omega) (fun i v x H1 H2 Ky Kn hx sm hy h1 h2 => ?_) (fun H' ys sm hD' hd => fin D H' ys sm hD' hd)
      obtain ⟨rfl, hv⟩ := hy
      obtain ⟨t, rfl, ht⟩ := hh.all i v x hv hx
      refine ⟨t, _, rfl, sqT (sm _ _ ht), rfl, _, _, rfl, _, _, rfl, _, _, rfl, _, _, rfl, rfl, rfl, ?_⟩
      walk_at "rd"
      refine ⟨small (by show 3 ≤ 100000; decide), fun u hu => ?_⟩
      exact h1 _ _ _ rfl (same_upd hu) ⟨u, rfl, upd_same⟩
abbrev s_least : Stmt := topS 29
theorem sc_least : FnScope ["prices", "price"] ["prices"] (defScope s_least) := ⟨rfl, rfl, rfl, by decide +kernel, rfl, by decide +kernel, by decide +kernel⟩
theorem bd_least : ∀ (kV doc pm : Value) (an : Option Addr) (cdv ct : Value) (us : List Value), us.length = (["prices"] : List Str).length → bindArgs (PySem.W.fnOf "least" "least" (defArgs s_least) (defBody s_least) (defScope s_least) .none kV doc pm an cdv ct) ⟨us, []⟩ = pure ((["prices"] : List Str).zip us) := fun _ _ _ _ _ _ us hl => match us, hl with | [_], _ => rfl
theorem ok_least {P : Program} {w : World} {K : PySem.W.Frag} {mg : Str → Option Value} {base : Heap} (D : DefAt K mg "least" s_least) (m_min : mg "min" = none) : Clb P w K mg base 1 "least" ["prices"] (spLeast K) := by
  refine D.clb sc_least (fun vs H Q E h => ?_) bd_least (fun f cdv A outer s H vs Q E hr h => ?_)
  · obtain ⟨p, xs, rfl, _⟩ := h
    rfl
  · obtain ⟨p, xs, rfl, hp, hl, q⟩ := h
    refine ⟨_, (pss_one (ps_ret (kpe_minD K rfl (by rfl) m_min (pa_cons (pe_lc (own := [("price", 1)]) rfl sc_least.nd (kpi_list K (pv 0)) (blkOk_by (own := [("price", 1)]) (N := ["prices", "price"]) (sc := defScope s_least) (by decide +kernel)) (fun _ _ _ _ _ => (pg_name (i := 1) sc_least.nd rfl (.inl rfl))) (fun _ _ _ _ _ => (pts_one (pt_cmpR op_notN (pv 1) pe_non (nomark _)))) (fun _ _ _ _ _ => (pv 1))) pa_nil)))), ?_⟩
    refine ⟨_, rfl, p, rfl, ⟨_, hp⟩, ?_⟩
    refine fun D hD => lc_rel (walk_list (xs := xs.map cellV)) (xs := xs) (by rw [List.length_map]) (f := fun x => x) (R := fun _ v x => v = V.int x) mono_eq hD (fun H' s => s.seq hp) (by rw [List.length_map]; omega) (fun i v x H1 H2 Ky Kn hx sm hy h1 h2 => ?_) (fun H' ys sm hD' hd => ?_)
    · obtain ⟨rfl, hv⟩ := hy
      obtain ⟨x', hx', rfl⟩ := map_ix hv
      rw [hx] at hx'
      cases hx'
      refine ⟨rfl, ?_⟩
      refine ⟨_, rfl, rfl, _, rfl, it_some (fun z ez => ?_) (fun ez => ?_)⟩
      · rw [ez]
        exact ⟨_, rfl, h1 _ _ _ ez (Same.refl _) rfl⟩
      · exact h2 _ ez (Same.refl _)
    · have e := held_eq (f := V.int) hd
      refine ⟨D, _, rfl, sqL (by rw [hD', e]), fun ez => ?_, fun m hm hmin => ?_⟩
      · exact q none _ sm (least_none ez)
      · exact q (some m) _ sm (least_some hm hmin)
abbrev s_with_offer : Stmt := topS 28
theorem sc_with_offer : FnScope ["row", "amount", "size", "price", "rest"] ["row", "amount", "size", "price"] (defScope s_with_offer) := ⟨rfl, rfl, rfl, by decide +kernel, rfl, by decide +kernel, by decide +kernel⟩
theorem bd_with_offer : ∀ (kV doc pm : Value) (an : Option Addr) (cdv ct : Value) (us : List Value), us.length = (["row", "amount", "size", "price"] : List Str).length → bindArgs (PySem.W.fnOf "with_offer" "with_offer" (defArgs s_with_offer) (defBody s_with_offer) (defScope s_with_offer) .none kV doc pm an cdv ct) ⟨us, []⟩ = pure ((["row", "amount", "size", "price"] : List Str).zip us) := fun _ _ _ _ _ _ us hl => match us, hl with | [_, _, _, _], _ => rfl
theorem ok_with_offer {P : Program} {w : World} {K : PySem.W.Frag} {mg : Str → Option Value} {base : Heap} (D : DefAt K mg "with_offer" s_with_offer) (m_max : mg "max" = none) : Clb P w K mg base 1 "with_offer" ["row", "amount", "size", "price"] (spWithOffer K) := by
  refine D.clb sc_with_offer (fun vs H Q E h => ?_) bd_with_offer (fun f cdv A outer s H vs Q E hr h => ?_)
  · obtain ⟨p, r, a, z, c, rfl, _⟩ := h
    rfl
  · obtain ⟨p, r, a, z, c, rfl, hp, hz, hlt, q⟩ := h
    refine ⟨_, (pss_cons (ps_set (i := 4) sc_with_offer.nd rfl (.inl rfl) (pe_ix (kix_seq K) (pv 0) (pe_callB (call_max2 rfl) (by rfl) m_max (by decide +kernel) (pa_cons pe_int (pa_cons (pe_op op_sub (pv 1) (pv 2)) pa_nil))) (fun _ _ => rfl)))
    (pss_one (ps_ret (pe_ifExp (pt_cmpR op_isN (pv 4) pe_non (nomark _)) pe_non (pe_op op_add (pv 3) (pv 4)))))), ?_⟩
    refine ⟨_, rfl, ?_⟩
    walk_at "rd"
    have hc : r[a - z.toNat]? = some (r.getD (a - z.toNat) none) := by
      rw [List.getD_eq_getElem?_getD, List.getElem?_eq_getElem hlt]; rfl
    refine ⟨p, _, _, _, rfl, rfl, hp, at_of (j := a - z.toNat) ?_ (ix_map hc), ?_⟩
    · split <;> omega
    unfold withO at q
    refine ⟨_, rfl, rfl, _, rfl, it_none (fun ex => ?_) (fun x ex => ?_)⟩
    · rw [ex] at q
      exact q
    · rw [ex] at q
      refine ⟨_, rfl, _, rfl, _, _, rfl, by rw [ex]; rfl, ?_⟩
      exact q
abbrev s_going_on : Stmt := topS 27
theorem sc_going_on : FnScope ["lacks", "rows", "day", "amount"] ["lacks", "rows", "day", "amount"] (defScope s_going_on) := ⟨rfl, rfl, rfl, by decide +kernel, rfl, by decide +kernel, by decide +kernel⟩
theorem bd_going_on : ∀ (kV doc pm : Value) (an : Option Addr) (cdv ct : Value) (us : List Value), us.length = (["lacks", "rows", "day", "amount"] : List Str).length → bindArgs (PySem.W.fnOf "going_on" "going_on" (defArgs s_going_on) (defBody s_going_on) (defScope s_going_on) .none kV doc pm an cdv ct) ⟨us, []⟩ = pure ((["lacks", "rows", "day", "amount"] : List Str).zip us) := fun _ _ _ _ _ _ us hl => match us, hl with | [_, _, _, _], _ => rfl
theorem ok_going_on {P : Program} {w : World} {K : PySem.W.Frag} {mg : Str → Option Value} {base : Heap} {tk : Tok} (D : DefAt K mg "going_on" s_going_on) (m_DAYS : mg "DAYS" = some (.int 7 tk)) (m_max : mg "max" = none) : Clb P w K mg base 1 "going_on" ["lacks", "rows", "day", "amount"] (spGoingOn K) := by
  refine D.clb sc_going_on (fun vs H Q E h => ?_) bd_going_on (fun f cdv A outer s H vs Q E hr h => ?_)
  · obtain ⟨b, p, ls, us, nxt, M, d, a, rfl, _⟩ := h
    rfl
  · obtain ⟨b, p, ls, us, nxt, M, d, a, rfl, hb, hls, hp, d1, d7, ha, hm, hn, q⟩ := h
    refine ⟨_, (pss_cons (ps_if (pt_cmpR op_eq (pv 2) (pe_glob (v := .int 7) (by rfl) m_DAYS ⟨_, rfl⟩) (nomark _))
      (pss_one (ps_ret (pe_ifExp (pt_cmpR op_eq (pv 3) pe_int (nomark _)) pe_int pe_non)))
      pss_nil)
    (pss_one (ps_ret (pe_ix (kix_tup K) (pe_ix (kix_seq K) (pv 1) (pv 2) (fun _ _ => rfl)) (pe_callB (call_max2 rfl) (by rfl) m_max (by decide +kernel) (pa_cons (pv 3) (pa_cons (pe_ix (kix_tup K) (pv 0) (pv 2) (fun _ _ => rfl)) pa_nil))) (fun _ _ => rfl))))), ?_⟩
    walk_at "rd"
    refine it_eqI (fun e => ?_) (fun e => ?_)
    · have hd : d = 7 := by omega
      subst hd
      walk_at "rd"
      unfold goG at q
      rw [if_neg (by decide)] at q
      refine it_eqI (fun e2 => ?_) (fun e2 => ?_)
      · rw [if_pos (by omega)] at q
        exact q
      · rw [if_neg (by omega)] at q
        exact q
    · have hd : d < 7 := by omega
      obtain ⟨t, hu, ht, hl⟩ := hn hd
      have hL := hls.at (d := d + 1) (by omega) (by omega)
      rw [Nat.add_sub_cancel] at hL
      have hlk := hm (d + 1)
      refine ⟨_, rfl, _, rfl, p, _, _, _, rfl, rfl, hp, at_of (j := d) rfl hu, ?_⟩
      refine ⟨_, rfl, _, rfl, _, rfl, b, _, _, _, rfl, rfl, sqT hb, at_of (j := d) rfl (ix_map hL), ?_⟩
      walk_at "rd"
      have hx : max a (lackAt ls (d + 1)) < nxt.length := by omega
      have hc : nxt[max a (lackAt ls (d + 1))]? = some (nxt.getD (max a (lackAt ls (d + 1))) none) := by
        rw [List.getD_eq_getElem?_getD, List.getElem?_eq_getElem hx]; rfl
      refine ⟨t, _, _, _, rfl, rfl, sqT ht, at_of (j := max a (lackAt ls (d + 1))) ?_ (ix_map hc), ?_⟩
      · split <;> omega
      · unfold goG at q
        rw [if_pos hd] at q
        exact q
abbrev s_sold_on : Stmt := topS 26
theorem sc_sold_on : FnScope ["offers", "day", "at", "size", "price", "last"] ["offers", "day"] (defScope s_sold_on) := ⟨rfl, rfl, rfl, by decide +kernel, rfl, by decide +kernel, by decide +kernel⟩
theorem bd_sold_on : ∀ (kV doc pm : Value) (an : Option Addr) (cdv ct : Value) (us : List Value), us.length = (["offers", "day"] : List Str).length → bindArgs (PySem.W.fnOf "sold_on" "sold_on" (defArgs s_sold_on) (defBody s_sold_on) (defScope s_sold_on) .none kV doc pm an cdv ct) ⟨us, []⟩ = pure ((["offers", "day"] : List Str).zip us) := fun _ _ _ _ _ _ us hl => match us, hl with | [_, _], _ => rfl
theorem ok_sold_on {P : Program} {w : World} {K : PySem.W.Frag} {mg : Str → Option Value} {base : Heap} {tk : Tok} (D : DefAt K mg "sold_on" s_sold_on) (m_DAYS : mg "DAYS" = some (.int 7 tk)) (m_enumerate : mg "enumerate" = none) (m_min : mg "min" = none) : Clb P w K mg base 1 "sold_on" ["offers", "day"] spSoldOn := by
  refine D.clb sc_sold_on (fun vs H Q E h => ?_) bd_sold_on (fun f cdv A outer s H vs Q E hr h => ?_)
  · obtain ⟨v, os, d, rfl, _⟩ := h
    rfl
  · obtain ⟨v, os, d, rfl, ⟨a, us, rfl, ha, hh⟩, hz, hg, q⟩ := h
    refine ⟨_, (pss_one (ps_ret (pe_lc (own := [("at", 2), ("size", 3), ("price", 4), ("last", 5)]) rfl sc_sold_on.nd (kpi_enumT K (by rfl) m_enumerate (pa_cons (pv 0) pa_nil)) (blkOk_by (own := [("at", 2), ("size", 3), ("price", 4), ("last", 5)]) (N := ["offers", "day", "at", "size", "price", "last"]) (sc := defScope s_sold_on) (by decide +kernel)) (fun _ _ _ _ _ => (kpg_tup K (n := 2) rfl (pgs_cons (pg_name (i := 2) sc_sold_on.nd rfl (.inl rfl)) (pgs_cons (kpg_tup K (n := 3) rfl (pgs_cons (pg_name (i := 3) sc_sold_on.nd rfl (.inl rfl)) (pgs_cons (pg_name (i := 4) sc_sold_on.nd rfl (.inl rfl)) (pgs_cons (pg_name (i := 5) sc_sold_on.nd rfl (.inl rfl)) pgs_nil)))) pgs_nil)))) (fun _ _ _ _ _ => (pts_one (PW.pt (pw_and (pt_cmpR op_eq (pe_callB (call_min2 rfl) (by rfl) m_min (by decide +kernel) (pa_cons (pv 5) (pa_cons (pe_glob (v := .int 7) (by rfl) m_DAYS ⟨_, rfl⟩) pa_nil))) (pv 1) (nomark _)) (pw_and1 (pt_cmpR op_gt (pv 3) pe_int (nomark _))))))) (fun _ _ _ _ _ => (pe_tup (pa_cons (pv 2) (pa_cons (pv 3) (pa_cons (pv 4) pa_nil)))))))), ?_⟩
    have hlu := hh.len
    refine ⟨_, rfl, a, _, rfl, sqT ha, ?_⟩
    refine fun D hD => lc_rel walk_enumT (xs := List.range os.length) (by rw [List.length_range]; omega) (f := fun k => if dayOf (os.getD k ⟨0, 0, 0⟩) = d then some (k, os.getD k ⟨0, 0, 0⟩) else none) (R := SoldAt) SoldAt.mono hD
      (fun H' s => s.seqT (sqT ha)) (by omega) (fun i v x H1 H2 Ky Kn hx sm hy h1 h2 => ?_) (fun H' ys sm hD' hd => ?_)
    · obtain ⟨rfl, hi⟩ := range_ix hx
      obtain ⟨T, y, z, rfl, hT, rfl, ey, ez⟩ := hy
      cases ey
      have ho := List.getElem?_eq_getElem hi
      have eo : os.getD x ⟨0, 0, 0⟩ = os[x] := by rw [List.getD_eq_getElem?_getD, ho]; rfl
      rw [eo] at h1 h2
      obtain ⟨t, rfl, ht⟩ := hh.all x _ _ ez ho
      have g := hg _ (List.getElem_mem hi)
      have g1 := g.size1
      have st := same_upd (o := .tup [V.int (0 + (x : Nat)), V.ref t]) hT
      refine ⟨T, _, rfl, sqT upd_same, rfl, _, _, rfl, _, _, rfl, t, _, rfl, sqT (st _ _ (sm _ _ ht)), rfl, _, _, rfl, _, _, rfl, _, _, rfl, rfl, rfl, rfl, ?_⟩
      walk_at "rd"
      rw [show (if (7 : Int) < os[x].last then (7 : Int) else os[x].last) = dayOf os[x] from min7 _]
      refine it_eqI (fun e => ?_) (fun e => ?_)
      · walk_at "rd"
        refine it_lt (fun _ => ?_) (fun e2 => absurd g1 (by omega))
        walk_at "rd"
        refine ⟨small (by show 3 ≤ 100000; decide), fun u hu => ?_⟩
        refine h1 _ _ _ (if_pos e) (st.new hu) ⟨u, rfl, ?_⟩
        rw [upd_same]
        have e0 : (0 : Int) + (x : Nat) = (x : Nat) := by omega
        rw [e0]
      · exact h2 _ (if_neg e) st
    · exact q D ys _ sm hD hD' hd
abbrev s_row_of : Stmt := topS 25
theorem sc_row_of : FnScope ["offers", "lacks", "rows", "day", "sold", "row", "amount", "prices", "at", "size", "price"] ["offers", "lacks", "rows", "day"] (defScope s_row_of) := ⟨rfl, rfl, rfl, by decide +kernel, rfl, by decide +kernel, by decide +kernel⟩
theorem bd_row_of : ∀ (kV doc pm : Value) (an : Option Addr) (cdv ct : Value) (us : List Value), us.length = (["offers", "lacks", "rows", "day"] : List Str).length → bindArgs (PySem.W.fnOf "row_of" "row_of" (defArgs s_row_of) (defBody s_row_of) (defScope s_row_of) .none kV doc pm an cdv ct) ⟨us, []⟩ = pure ((["offers", "lacks", "rows", "day"] : List Str).zip us) := fun _ _ _ _ _ _ us hl => match us, hl with | [_, _, _, _], _ => rfl
theorem ok_row_of {P : Program} {w : World} {K : PySem.W.Frag} {mg : Str → Option Value} {base : Heap} (D : DefAt K mg "row_of" s_row_of) (m_max : mg "max" = none) (m_range : mg "range" = none) (m_tuple : mg "tuple" = none) (C_sold_on : Clb P w K mg base 1 "sold_on" ["offers", "day"] spSoldOn) (C_going_on : Clb P w K mg base 1 "going_on" ["lacks", "rows", "day", "amount"] (spGoingOn K)) (C_with_offer : Clb P w K mg base 1 "with_offer" ["row", "amount", "size", "price"] (spWithOffer K)) (C_least : Clb P w K mg base 1 "least" ["prices"] (spLeast K)) : Clb P w K mg base 2 "row_of" ["offers", "lacks", "rows", "day"] (spRowOf K) := by
  refine D.clb sc_row_of (fun vs H Q E h => ?_) bd_row_of (fun f cdv A outer s H vs Q E hr h => ?_)
  · obtain ⟨v, b, p, os, ls, us, nxt, d, rfl, _⟩ := h
    rfl
  · obtain ⟨v, b, p, os, ls, us, nxt, d, rfl, ho, hz, hg, hb, hls, hp, d1, d7, hn, q⟩ := h
    refine ⟨_, (pss_cons (ps_set (i := 4) sc_row_of.nd rfl (.inl rfl) (pe_cal C_sold_on (hr.mono (by decide)) (pa_cons (pv 0) (pa_cons (pv 3) pa_nil))))
    (pss_cons (ps_set (i := 5) sc_row_of.nd rfl (.inr rfl) (pe_lst (pa_cons (pe_cal C_going_on (hr.mono (by decide)) (pa_cons (pv 1) (pa_cons (pv 2) (pa_cons (pv 3) (pa_cons pe_int pa_nil))))) pa_nil)))
    (pss_cons (ps_for PassesOwn.never rfl (pi_range2 (by rfl) m_range (pa_cons pe_int (pa_cons (pe_op op_add (pe_callB (kcr_maxA K rfl) (by rfl) m_max (by decide +kernel) (pa_cons (pv 1) pa_nil)) pe_int) pa_nil))) (pg_name (i := 6) sc_row_of.nd rfl (.inr rfl))
      (pss_cons (ps_setLc (i := 7) (own := [("at", 8), ("size", 9), ("price", 10)])   rfl sc_row_of.nd rfl rfl (sw_true rfl rfl rfl (by decide +kernel)) (kpi_list K (pv 4)) (blkOk_by (own := [("at", 8), ("size", 9), ("price", 10)]) (N := ["offers", "lacks", "rows", "day", "sold", "row", "amount", "prices", "at", "size", "price"]) (sc := defScope s_row_of) (by decide +kernel)) (fun _ _ _ _ _ => (kpg_tup K (n := 3) rfl (pgs_cons (pg_name (i := 8) sc_row_of.nd rfl (.inl rfl)) (pgs_cons (pg_name (i := 9) sc_row_of.nd rfl (.inl rfl)) (pgs_cons (pg_name (i := 10) sc_row_of.nd rfl (.inl rfl)) pgs_nil))))) (fun _ _ _ _ _ => pts_nil) (fun _ _ _ _ _ => (pe_cal C_with_offer (hr.mono (by decide)) (pa_cons (pv 5) (pa_cons (pv 6) (pa_cons (pv 9) (pa_cons (pv 10) pa_nil)))))))
    (pss_one (ps_expr (kpe_bm K PySem.F.plainAttrs_list PySem.F.slot_list_append PySem.F.type_list_append mt_append (pv 5) (pa_cons (pe_cal C_least (hr.mono (by decide)) (pa_cons (pe_op op_cat (pe_lst (pa_cons (pe_cal C_going_on (hr.mono (by decide)) (pa_cons (pv 1) (pa_cons (pv 2) (pa_cons (pv 3) (pa_cons (pv 6) pa_nil))))) pa_nil)) (pv 7)) pa_nil)) pa_nil))))))
    (pss_one (ps_ret (pe_callTy (kcall_tuple_of K) (by rfl) m_tuple (by decide +kernel) (pa_cons (pv 5) pa_nil))))))), ?_⟩
    refine ⟨_, rfl, _, rfl, v, os, d, rfl, ho, hz, hg, fun sp sus H1 s1 hsn hsp hsh => ?_⟩
    have hsl := hsh.len
    have hso := sold_len os d
    have hlk : ∀ d : Nat, lackAt ls d ≤ mostL ls := fun d => hls.lack d
    have hm2 := hls.most
    have hn1 : ∀ {Hx}, Same H Hx → d < 7 → ∃ t, us[d]? = some (.ref t) ∧ Hx t = some (.tup (nxt.map cellV)) ∧ nxt.length = mostL ls + 1 := fun s h => by
      obtain ⟨t, h1, h2, h3⟩ := hn h
      exact ⟨t, h1, s _ _ h2, h3⟩
    refine ⟨_, rfl, _, rfl, _, rfl, b, p, ls, us, nxt, mostL ls, d, 0, rfl, s1 _ _ hb, hls, hp.same s1, d1, d7, Nat.zero_le _, hlk, hn1 s1, ?_⟩
    refine ⟨small (by show 1 ≤ 100000; decide), fun rp hrp => ?_⟩
    have s2 := s1.new (o := .lst [cellV (goG ls nxt d 0)]) hrp
    have hspr : sp ≠ rp := ne_of_none hsp hrp
    have hrpH := same_none s1 hrp
    refine ⟨_, rfl, b, ls, rfl, .inr (sqT (s2 _ _ hb)), by rw [hls.1]; decide, fun m hm hmx => ?_⟩
    have em := mostL_eq hls hm hmx
    refine ⟨_, _, rfl, rfl, ?_⟩
    refine ⟨_, _, rfl, ⟨by decide, by decide, by omega, by omega⟩, ?_⟩
    refine for_range (lo := 1) (n := (m + 1 - 1).toNat) (fun i σ H' => ∃ (y6 y7 : Option V) (r : List (Option Int)), σ = [some v, some (.ref b), some (.ref p), some (.int d), some (.ref sp), some (.ref rp), y6, y7, none, none, none] ∧ Same H H' ∧ H' sp = some (.lst sus) ∧ Held SoldAt H' sus (soldL os d) ∧ H' rp = some (.lst (r.map cellV)) ∧ r.length = i + 1 ∧ RowTo os ls d nxt r)
      ⟨none, none, [goG ls nxt d 0], rfl, s2, by rw [upd_ne hspr]; exact hsp, hsh.mono SoldAt.mono (SameT.new hrp), upd_same, rfl, ⟨Nat.succ_pos 0, rfl, fun a h0 ha => absurd ha (by simp; omega)⟩⟩ (fun i σ H2 hi h => ?_) (fun σ H2 h => ?_)
    · obtain ⟨y6, y7, r, rfl, sm, hsp2, hsh2, hrp2, hrl, hrt⟩ := h
      have hia : (1 : Int) + (i : Nat) = ((i + 1 : Nat) : Int) := by omega
      refine ⟨_, rfl, sp, rfl, ⟨_, sqL hsp2⟩, ?_⟩
      refine fun D hD => lc_rel (walk_list (xs := sus)) (xs := soldL os d) hsl.symm (f := fun x => some (withO r (i + 1) x.2.size x.2.price)) (R := fun _ v x => v = cellV x) mono_eq hD (fun H' s => s.seq (sqL hsp2)) (by omega) (fun j v x H3 H4 Ky Kn hx s3 hy h1 h2 => ?_) (fun H3 ys s3 hD' hd => ?_)
      · obtain ⟨rfl, hv⟩ := hy
        obtain ⟨t, rfl, ht⟩ := hsh2.all j v x hv hx
        obtain ⟨k, o⟩ := x
        have go := hg o (List.mem_of_getElem? (sold_mem.mp (List.mem_of_getElem? hx)).1)
        have g1 := go.size1
        refine ⟨t, _, rfl, sqT (s3 _ _ ht), rfl, _, _, rfl, _, _, rfl, _, _, rfl, rfl, rfl, ?_⟩
        refine ⟨_, rfl, _, rfl, _, rfl, _, rfl, rp, r, i + 1, o.size, o.price, ?_, SqA.l (s3 _ _ hrp2), by omega, by omega, ?_⟩
        · rw [← hia]; rfl
        exact h1 _ _ _ rfl (Same.refl _) rfl
      · have e := held_eq (f := cellV) hd
        rw [fm_some] at e
        rw [e] at hD'
        have hrp3 := s3 _ _ hrp2
        refine ⟨_, rfl, .inl ⟨rfl, _, sqL hrp3⟩, ?_⟩
        have sm3 := sm.trans s3
        refine ⟨_, rfl, _, rfl, _, rfl, _, rfl, b, p, ls, us, nxt, mostL ls, d, i + 1, ?_, sm3 _ _ hb, hls, hp.same sm3, d1, d7, by omega, hlk, hn1 sm3, ?_⟩
        · rw [← hia]; rfl
        refine ⟨small (by show 1 ≤ 100000; decide), fun l1 hl1 => ?_⟩
        have s4 := same_upd (o := .lst [cellV (goG ls nxt d (i + 1))]) hl1
        refine ⟨_, rfl, l1, D, _, _, rfl, rfl, upd_same, s4 _ _ hD', small (by rw [List.length_map, List.length_map]; show 1 + _ ≤ 100000; omega), fun l2 hl2 => ?_⟩
        have s5 := s4.new (o := .lst ([cellV (goG ls nxt d (i + 1))] ++ ((soldL os d).map fun x => withO r (i + 1) x.2.size x.2.price).map cellV)) hl2
        refine ⟨l2, dues os ls nxt r d (i + 1), rfl, sqL upd_same, by unfold dues; rw [List.length_cons, List.length_map]; omega, fun c H5 s6 hc => ?_⟩
        have s7 := s5.trans s6
        have hrp5 := s7 _ _ hrp3
        refine ⟨rp, _, _, rfl, rfl, hrp5, small' (by rw [List.length_map]; omega), ?_⟩
        refine ⟨_, _, r ++ [c], rfl, (sm3.trans s7).mut hrpH, ?_, ?_, by rw [upd_same, List.map_append]; rfl, by rw [List.length_append, hrl]; rfl, hrt.next hg (by rw [hrl]; exact hc)⟩
        · rw [upd_ne hspr]
          exact s7 _ _ (s3 _ _ hsp2)
        · exact (hsh2.mono SoldAt.mono ((SameT.of (s3.trans s7)).trans (SameT.lst hrp5)))
    · obtain ⟨y6, y7, r, rfl, sm, hsp2, hsh2, hrp2, hrl, hrt⟩ := h
      refine ⟨_, rfl, rp, _, rfl, .inl ⟨sqL hrp2, fun u hu => ?_⟩⟩
      exact q _ r _ (sm.new hu) ⟨u, rfl, upd_same⟩ (hrt.is (by omega))
abbrev s_table : Stmt := topS 24
theorem sc_table : FnScope ["offers", "lacks", "rows", "day"] ["offers", "lacks"] (defScope s_table) := ⟨rfl, rfl, rfl, by decide +kernel, rfl, by decide +kernel, by decide +kernel⟩
theorem bd_table : ∀ (kV doc pm : Value) (an : Option Addr) (cdv ct : Value) (us : List Value), us.length = (["offers", "lacks"] : List Str).length → bindArgs (PySem.W.fnOf "table" "table" (defArgs s_table) (defBody s_table) (defScope s_table) .none kV doc pm an cdv ct) ⟨us, []⟩ = pure ((["offers", "lacks"] : List Str).zip us) := fun _ _ _ _ _ _ us hl => match us, hl with | [_, _], _ => rfl
theorem ok_table {P : Program} {w : World} {K : PySem.W.Frag} {mg : Str → Option Value} {base : Heap} {tk : Tok} (D : DefAt K mg "table" s_table) (m_DAYS : mg "DAYS" = some (.int 7 tk)) (m_range : mg "range" = none) (m_tuple : mg "tuple" = none) (C_row_of : Clb P w K mg base 2 "row_of" ["offers", "lacks", "rows", "day"] (spRowOf K)) : Clb P w K mg base 3 "table" ["offers", "lacks"] spTable := by
  refine D.clb sc_table (fun vs H Q E h => ?_) bd_table (fun f cdv A outer s H vs Q E hr h => ?_)
  · obtain ⟨v, c, os, ls, rfl, _⟩ := h
    rfl
  · obtain ⟨v, c, os, ls, rfl, ho, hc, hz, hg, hls, q⟩ := h
    refine ⟨_, (pss_cons (ps_set (i := 2) sc_table.nd rfl (.inl rfl) (pe_op op_rep (pe_lst (pa_cons (pe_tup pa_nil) pa_nil)) (pe_glob (v := .int 7) (by rfl) m_DAYS ⟨_, rfl⟩)))
    (pss_cons (ps_for PassesOwn.never rfl (pi_range3 (by rfl) m_range (pa_cons (pe_glob (v := .int 7) (by rfl) m_DAYS ⟨_, rfl⟩) (pa_cons pe_int (pa_cons (pe_un un_neg pe_int) pa_nil)))) (pg_name (i := 3) sc_table.nd rfl (.inl rfl))
      (pss_one (ps_asg (pe_cal C_row_of (hr.mono (by decide)) (pa_cons (pv 0) (pa_cons (pv 1) (pa_cons (pv 2) (pa_cons (pv 3) pa_nil))))) (pg_sub (pv 2) (pe_op op_sub (pv 3) pe_int) set_list))))
    (pss_one (ps_ret (pe_callTy (kcall_tuple_of K) (by rfl) m_tuple (by decide +kernel) (pa_cons (pv 2) pa_nil)))))), ?_⟩
    refine ⟨Nat.zero_le _, fun e he => ?_⟩
    have s1 := same_upd (o := .tup []) he
    refine ⟨small (by show 1 ≤ 100000; decide), fun l hl => ?_⟩
    have s2 := s1.new (o := .lst [V.ref e]) hl
    refine ⟨l, 7, _, rfl, rfl, upd_same, by decide, by decide, small (by show 1 * 7 ≤ 100000; decide), fun p hp => ?_⟩
    have s3 := s2.new (o := .lst (List.replicate (7 : Int).toNat [V.ref e]).flatten) hp
    have hpH := same_none s2 hp
    refine ⟨_, rfl, 7, 0, -1, 7, rfl, RgC.neg (by decide) (by decide) (by decide) (by decide), ?_⟩
    refine for_rangeC (lo := 7) (c := -1) (n := 7) (fun i σ H' => ∃ (y3 : Option V) (us : List V) (rs : List (List (Option Int))), σ = [some v, some (.ref c), some (.ref p), y3] ∧ Same H H' ∧ H' p = some (.lst (List.replicate (7 - i) (V.ref e) ++ us)) ∧ Held RowAt H' us rs ∧ rs.length = i ∧ Chain os ls (mostL ls) rs)
      ⟨none, [], [], rfl, s3, by rw [upd_same]; rfl, Held.nil, rfl, fun j hj => absurd hj (Nat.not_lt_zero _)⟩ (fun i σ H2 hi h => ?_) (fun σ H2 h => ?_)
    · obtain ⟨y3, us, rs, rfl, sm, hp2, hh, hrl, hch⟩ := h
      have hul := hh.len
      have hday : (7 : Int) + (i : Nat) * -1 = ((7 - i : Nat) : Int) := by omega
      refine ⟨_, rfl, _, rfl, _, rfl, _, rfl, v, c, p, os, ls, _, rs.getD 0 [], 7 - i, ?_, OffersAt.mono _ _ _ _ (SameT.of sm) ho, hz, hg, sm _ _ hc, hls, SqA.l hp2, by omega, by omega, fun hlt => ?_, fun v' r H3 s4 hr' hri => ?_⟩
      · rw [hday]; rfl
      · have hi0 : 0 < i := by omega
        have e1 : (List.replicate (7 - i) (V.ref e) ++ us)[7 - i]? = us[0]? := by
          rw [List.getElem?_append_right (by rw [List.length_replicate]; exact Nat.le_refl _), List.length_replicate, Nat.sub_self]
        have hu0 := List.getElem?_eq_getElem (show 0 < us.length by omega)
        have hr0 := List.getElem?_eq_getElem (show 0 < rs.length by omega)
        obtain ⟨t, et, ht⟩ := hh.all 0 _ _ hu0 hr0
        rw [et] at hu0
        have eg : rs.getD 0 [] = rs[0] := by rw [List.getD_eq_getElem?_getD, hr0]; rfl
        refine ⟨t, by rw [e1, hu0], by rw [eg]; exact ht, ?_⟩
        have := (hch 0 (by omega)).len
        exact this
      · have hp3 := s4 _ _ hp2
        walk_at "rd"
        have hlen : (List.replicate (7 - i) (V.ref e) ++ us).length = 7 := by rw [List.length_append, List.length_replicate]; omega
        refine ⟨p, _, _, 6 - i, rfl, rfl, hp3, ixN_of (by rw [hday]; omega) (by rw [hlen]; omega), ?_⟩
        have eset : (List.replicate (7 - i) (V.ref e) ++ us).set (6 - i) v' = List.replicate (7 - (i + 1)) (V.ref e) ++ v' :: us := by
          rw [show 7 - i = (6 - i) + 1 by omega, List.replicate_succ', List.append_assoc, show 7 - (i + 1) = 6 - i by omega]
          rw [List.set_append_right _ _ (by rw [List.length_replicate]; exact Nat.le_refl _), List.length_replicate, Nat.sub_self]
          rfl
        rw [eset]
        refine ⟨_, v' :: us, r :: rs, rfl, (sm.trans s4).mut hpH, upd_same, ?_, by rw [List.length_cons, hrl], ?_⟩
        · have m1 : SameT H2 (upd H3 p (.lst (List.replicate (7 - (i + 1)) (V.ref e) ++ v' :: us))) := (SameT.of s4).trans (SameT.lst hp3)
          have hh' := hh.mono RowAt.mono m1
          refine ⟨by rw [List.length_cons, List.length_cons, hul], fun j w x hw hx => ?_⟩
          cases j with
          | zero =>
            cases hw
            cases hx
            exact RowAt.mono _ _ _ _ (SameT.lst hp3) hr'
          | succ j => exact hh'.all j w x hw hx
        · intro j hj
          rw [List.length_cons] at hj ⊢
          cases j with
          | zero =>
            have e8 : 8 - (rs.length + 1) + 0 = 7 - i := by omega
            rw [e8]
            exact hri
          | succ j =>
            have := hch j (by omega)
            have e8 : 8 - (rs.length + 1) + (j + 1) = 8 - rs.length + j := by omega
            rw [e8]
            exact this
    · obtain ⟨y3, us, rs, rfl, sm, hp2, hh, hrl, hch⟩ := h
      refine ⟨_, rfl, p, _, rfl, .inl ⟨sqL hp2, fun u hu => ?_⟩⟩
      exact q _ rs _ (sm.new hu) ⟨u, us, rfl, upd_same, hh.mono RowAt.mono (SameT.new hu)⟩ (table_of hg hrl hls.lack hch)
abbrev s_first_fitting : Stmt := topS 31
theorem sc_first_fitting : FnScope ["sold", "row", "amount", "fitting", "at", "size", "price"] ["sold", "row", "amount"] (defScope s_first_fitting) := ⟨rfl, rfl, rfl, by decide +kernel, rfl, by decide +kernel, by decide +kernel⟩
theorem bd_first_fitting : ∀ (kV doc pm : Value) (an : Option Addr) (cdv ct : Value) (us : List Value), us.length = (["sold", "row", "amount"] : List Str).length → bindArgs (PySem.W.fnOf "first_fitting" "first_fitting" (defArgs s_first_fitting) (defBody s_first_fitting) (defScope s_first_fitting) .none kV doc pm an cdv ct) ⟨us, []⟩ = pure ((["sold", "row", "amount"] : List Str).zip us) := fun _ _ _ _ _ _ us hl => match us, hl with | [_, _, _], _ => rfl
theorem ok_first_fitting {P : Program} {w : World} {K : PySem.W.Frag} {mg : Str → Option Value} {base : Heap} (D : DefAt K mg "first_fitting" s_first_fitting) (C_with_offer : Clb P w K mg base 1 "with_offer" ["row", "amount", "size", "price"] (spWithOffer K)) : Clb P w K mg base 2 "first_fitting" ["sold", "row", "amount"] (spFirstFit K) := by
  refine D.clb sc_first_fitting (fun vs H Q E h => ?_) bd_first_fitting (fun f cdv A outer s H vs Q E hr h => ?_)
  · obtain ⟨sp, p, sus, os, rows, r, d, a, k, c, rfl, _⟩ := h
    rfl
  · obtain ⟨sp, p, sus, os, rows, r, d, a, k, c, rfl, hsp, hsh, hp, hz, hg, hr1, ha, hc, hf, q⟩ := h
    refine ⟨_, (pss_cons (ps_setLc (i := 3) (own := [("at", 4), ("size", 5), ("price", 6)])   rfl sc_first_fitting.nd rfl rfl (sw_true rfl rfl rfl (by decide +kernel)) (kpi_list K (pv 0)) (blkOk_by (own := [("at", 4), ("size", 5), ("price", 6)]) (N := ["sold", "row", "amount", "fitting", "at", "size", "price"]) (sc := defScope s_first_fitting) (by decide +kernel)) (fun _ _ _ _ _ => (kpg_tup K (n := 3) rfl (pgs_cons (pg_name (i := 4) sc_first_fitting.nd rfl (.inl rfl)) (pgs_cons (pg_name (i := 5) sc_first_fitting.nd rfl (.inl rfl)) (pgs_cons (pg_name (i := 6) sc_first_fitting.nd rfl (.inl rfl)) pgs_nil))))) (fun _ _ _ _ _ => (pts_one (pt_cmpR op_eq (pe_cal C_with_offer (hr.mono (by decide)) (pa_cons (pv 1) (pa_cons (pv 2) (pa_cons (pv 5) (pa_cons (pv 6) pa_nil))))) (pe_ix (kix_seq K) (pv 1) (pv 2) (fun _ _ => rfl)) (nomark _)))) (fun _ _ _ _ _ => (pv 4)))
    (pss_one (ps_ret (pe_ix (kix_list K) (pv 3) pe_int (fun _ _ => rfl))))), ?_⟩
    have hsl := hsh.len
    have hso := sold_len os d
    obtain ⟨rest, er⟩ := first_of hr1 hc hf
    refine ⟨_, rfl, sp, rfl, ⟨_, hsp⟩, ?_⟩
    refine fun D hD => lc_rel (walk_list (xs := sus)) (xs := soldL os d) hsl.symm (f := fun x => if withO r a x.2.size x.2.price = some c then some x.1 else none) (R := fun _ v x => v = V.int (x : Nat)) mono_eq hD (fun H' s => s.seq hsp) (by omega) (fun j v x H3 H4 Ky Kn hx s3 hy h1 h2 => ?_) (fun H3 ys s3 hD' hd => ?_)
    · obtain ⟨rfl, hv⟩ := hy
      obtain ⟨t, rfl, ht⟩ := hsh.all j v x hv hx
      obtain ⟨k', o⟩ := x
      have go := hg o (List.mem_of_getElem? (sold_mem.mp (List.mem_of_getElem? hx)).1)
      have g1 := go.size1
      refine ⟨t, _, rfl, sqT (s3 _ _ ht), rfl, _, _, rfl, _, _, rfl, _, _, rfl, rfl, rfl, ?_⟩
      refine ⟨_, rfl, _, rfl, _, rfl, _, rfl, p, r, a, o.size, o.price, rfl, hp.same s3, by omega, by omega, ?_⟩
      have hca : r[a]? = some (some c) := by rw [← hc, List.getD_eq_getElem?_getD, List.getElem?_eq_getElem ha]; rfl
      refine ⟨_, rfl, _, rfl, p, _, _, _, rfl, rfl, hp.same s3, at_of (j := a) rfl (ix_map hca), ?_⟩
      refine ⟨cellV_scal _ (some c), ?_⟩
      refine ⟨_, rfl, it_eqC (y := some c) (fun e => ?_) (fun e => ?_)⟩
      · refine ⟨_, rfl, h1 _ _ _ (if_pos e) (Same.refl _) rfl⟩
      · exact h2 _ (if_neg e) (Same.refl _)
    · have e := held_eq (f := fun x : Nat => V.int (x : Nat)) hd
      rw [er] at e
      refine ⟨_, rfl, D, _, _, _, rfl, rfl, sqL (by rw [hD', e]), at_of (j := 0) rfl rfl, ?_⟩
      exact q _ s3
abbrev s_bought : Stmt := topS 30
theorem sc_bought : FnScope ["offers", "lacks", "rows", "counts", "amount", "day", "row", "at"] ["offers", "lacks"] (defScope s_bought) := ⟨rfl, rfl, rfl, by decide +kernel, rfl, by decide +kernel, by decide +kernel⟩
theorem bd_bought : ∀ (kV doc pm : Value) (an : Option Addr) (cdv ct : Value) (us : List Value), us.length = (["offers", "lacks"] : List Str).length → bindArgs (PySem.W.fnOf "bought" "bought" (defArgs s_bought) (defBody s_bought) (defScope s_bought) .none kV doc pm an cdv ct) ⟨us, []⟩ = pure ((["offers", "lacks"] : List Str).zip us) := fun _ _ _ _ _ _ us hl => match us, hl with | [_, _], _ => rfl
theorem ok_bought {P : Program} {w : World} {K : PySem.W.Frag} {mg : Str → Option Value} {base : Heap} {tk : Tok} (D : DefAt K mg "bought" s_bought) (m_DAYS : mg "DAYS" = some (.int 7 tk)) (m_len : mg "len" = none) (m_max : mg "max" = none) (m_range : mg "range" = none) (m_tuple : mg "tuple" = none) (C_table : Clb P w K mg base 3 "table" ["offers", "lacks"] spTable) (C_going_on : Clb P w K mg base 1 "going_on" ["lacks", "rows", "day", "amount"] (spGoingOn K)) (C_sold_on : Clb P w K mg base 1 "sold_on" ["offers", "day"] spSoldOn) (C_first_fitting : Clb P w K mg base 2 "first_fitting" ["sold", "row", "amount"] (spFirstFit K)) : Clb P w K mg base 4 "bought" ["offers", "lacks"] spBought := by
  refine D.clb sc_bought (fun vs H Q E h => ?_) bd_bought (fun f cdv A outer s H vs Q E hr h => ?_)
  · obtain ⟨v, c, os, ls, rfl, _⟩ := h
    rfl
  · obtain ⟨v, c, os, ls, rfl, ho, hc, hz, hg, hls, q⟩ := h
    refine ⟨_, (pss_cons (ps_set (i := 2) sc_bought.nd rfl (.inl rfl) (pe_cal C_table (hr.mono (by decide)) (pa_cons (pv 0) (pa_cons (pv 1) pa_nil))))
    (pss_cons (ps_set (i := 3) sc_bought.nd rfl (.inl rfl) (pe_op op_rep (pe_lst (pa_cons pe_int pa_nil)) (pe_callB (kcall_len_seq K) (by rfl) m_len (by decide +kernel) (pa_cons (pv 0) pa_nil))))
    (pss_cons (ps_set (i := 4) sc_bought.nd rfl (.inl rfl) pe_int)
    (pss_cons (ps_for PassesOwn.never rfl (pi_range2 (by rfl) m_range (pa_cons pe_int (pa_cons (pe_op op_add (pe_glob (v := .int 7) (by rfl) m_DAYS ⟨_, rfl⟩) pe_int) pa_nil))) (pg_name (i := 5) sc_bought.nd rfl (.inl rfl))
      (pss_cons (ps_set (i := 4) sc_bought.nd rfl (.inl rfl) (pe_callB (call_max2 rfl) (by rfl) m_max (by decide +kernel) (pa_cons (pv 4) (pa_cons (pe_ix (kix_tup K) (pv 1) (pe_op op_sub (pv 5) pe_int) (fun _ _ => rfl)) pa_nil))))
    (pss_cons (ps_set (i := 6) sc_bought.nd rfl (.inl rfl) (pe_ix (kix_tup K) (pv 2) (pe_op op_sub (pv 5) pe_int) (fun _ _ => rfl)))
    (pss_cons (ps_if (pt_cmpR op_isN (pe_ix (kix_tup K) (pv 6) (pv 4) (fun _ _ => rfl)) pe_non (nomark _))
      (pss_one (ps_ret pe_non))
      pss_nil)
    (pss_one (ps_while PassesOwn.never (pt_cmpR op_ne (pe_ix (kix_tup K) (pv 6) (pv 4) (fun _ _ => rfl)) (pe_cal C_going_on (hr.mono (by decide)) (pa_cons (pv 1) (pa_cons (pv 2) (pa_cons (pv 5) (pa_cons (pv 4) pa_nil))))) (nomark _))
      (pss_cons (ps_set (i := 7) sc_bought.nd rfl (.inl rfl) (pe_cal C_first_fitting (hr.mono (by decide)) (pa_cons (pe_cal C_sold_on (hr.mono (by decide)) (pa_cons (pv 0) (pa_cons (pv 5) pa_nil))) (pa_cons (pv 6) (pa_cons (pv 4) pa_nil)))))
    (pss_cons (ps_augS (pv 3) (pv 7) (kget_list K) pe_int ip_add set_list)
    (pss_one (ps_set (i := 4) sc_bought.nd rfl (.inl rfl) (pe_callB (call_max2 rfl) (by rfl) m_max (by decide +kernel) (pa_cons pe_int (pa_cons (pe_op op_sub (pv 4) (pe_ix (kix_tup K) (pe_ix (kix_tup K) (pv 0) (pv 7) (fun _ _ => rfl)) pe_int (fun _ _ => rfl))) pa_nil)))))))))))))
    (pss_one (ps_ret (pe_callTy (kcall_tuple_of K) (by rfl) m_tuple (by decide +kernel) (pa_cons (pv 3) pa_nil)))))))), ?_⟩
    refine ⟨_, rfl, _, rfl, v, c, os, ls, rfl, ho, hc, hz, hg, hls, fun rv rows H1 s1 hrv T => ?_⟩
    obtain ⟨oa, ous, rfl, hoa, hoh⟩ := ho
    obtain ⟨rt, rus, rfl, hrt, hrh⟩ := hrv
    have hrl : rus.length = 7 := by rw [hrh.len, T.len]
    have hol := hoh.len
    have rowAt : ∀ d : Nat, 1 ≤ d → d ≤ 7 → ∃ t : Addr, rus[d - 1]? = some (.ref t) ∧ H1 t = some (.tup ((rows.getD (d - 1) []).map cellV)) ∧ (rows.getD (d - 1) []).length = mostL ls + 1 := fun d h1 h2 => by
      have hlt : d - 1 < rows.length := by rw [T.len]; omega
      have e := List.getElem?_eq_getElem hlt
      have eu := List.getElem?_eq_getElem (show d - 1 < rus.length by omega)
      obtain ⟨t, e1, e2⟩ := hrh.all (d - 1) _ _ eu e
      rw [e1] at eu
      have eg : rows.getD (d - 1) [] = rows[d - 1] := by rw [List.getD_eq_getElem?_getD, e]; rfl
      exact ⟨t, eu, by rw [eg]; exact e2, by rw [eg]; exact T.each _ (List.getElem_mem hlt)⟩
    have hlk : ∀ d : Nat, lackAt ls d ≤ mostL ls := fun d => hls.lack d
    have goEq : ∀ d a : Nat, goG ls (rows.getD d []) d a = goT ls rows d a := fun d a => rfl
    refine ⟨small (by show 1 ≤ 100000; decide), fun r1 hr1 => ?_⟩
    have s2 := s1.new (o := .lst [V.int 0]) hr1
    refine ⟨_, rfl, oa, ous, rfl, .inr (sqT (s2 _ _ hoa)), ?_⟩
    refine ⟨r1, ous.length, _, rfl, rfl, upd_same, by omega, by omega, small (by show 1 * ((ous.length : Int)).toNat ≤ 100000; omega), fun p hp => ?_⟩
    rw [rep0, hol]
    have s3 := s2.new (o := .lst ((List.replicate os.length (0 : Int)).map V.int)) hp
    have hpH1 : H1 p = none := same_none (same_upd hr1) hp
    have hpH := same_none s2 hp
    have s13 : Same H1 (upd (upd H1 r1 (.lst [V.int 0])) p (.lst ((List.replicate os.length (0 : Int)).map V.int))) := (same_upd hr1).new hp
    refine ⟨_, _, rfl, rfl, ?_⟩
    refine ⟨_, _, rfl, ⟨by decide, by decide, by decide, by decide⟩, ?_⟩
    generalize hW0 : boughtT os ls rows = W0 at q
    -- W0 is bought of every table
    have q' : ∀ H', Same H1 H' → (W0 = none → Q .non H') ∧ (∀ cs p, W0 = some cs → H' p = some (.tup (cs.map V.int)) → Q (.ref p) H') := fun H' sm => by
      have := q rows H' (s1.trans sm) T
      rw [hW0] at this
      exact this
    refine for_range (lo := 1) (n := ((7 : Int) + 1 - 1).toNat) (fun i σ H' => ∃ (a : Nat) (y5 y6 y7 : Option V) (cs : List Int), σ = [some (.ref oa), some (.ref c), some (.ref rt), some (.ref p), some (.int a), y5, y6, y7] ∧ Same H1 H' ∧ H' p = some (.lst (cs.map V.int)) ∧ cs.length = os.length ∧
        (i = 0 → a = 0 ∧ cs = List.replicate os.length 0) ∧ (0 < i → i < 7 → Walking os ls rows W0 (i + 1) (max a (lackAt ls (i + 1))) cs) ∧ (i = 7 → W0 = some cs))
      ⟨0, none, none, none, _, rfl, s13, upd_same, List.length_replicate, fun _ => ⟨rfl, rfl⟩, fun z => absurd z (Nat.lt_irrefl 0), fun z => by cases z⟩ (fun i σ H2 hi h => ?_) (fun σ H2 h => ?_)
    · obtain ⟨a, y5, y6, y7, cs, rfl, sm, hp2, hcl, h0, hw, _⟩ := h
      have hi7 : i < 7 := hi
      have hday : (1 : Int) + (i : Nat) = ((i + 1 : Nat) : Int) := by omega
      have hL := hls.at (d := i + 1) (by omega) (by omega)
      rw [Nat.add_sub_cancel] at hL
      obtain ⟨t, hu, ht, hrlen⟩ := rowAt (i + 1) (by omega) (by omega)
      rw [Nat.add_sub_cancel] at hu ht hrlen
      refine ⟨_, rfl, _, rfl, _, rfl, _, _, rfl, rfl, ?_⟩
      refine ⟨c, _, _, _, rfl, rfl, sqT ((s1.trans sm) _ _ hc), at_of (j := i) (by omega) (ix_map hL), ?_⟩
      refine ⟨_, _, rfl, ?_⟩
      have em : (if (lackAt ls (i + 1) : Int) > (a : Int) then (lackAt ls (i + 1) : Int) else (a : Int)) = ((max a (lackAt ls (i + 1)) : Nat) : Int) := by split <;> omega
      rw [em]
      have ham : max a (lackAt ls (i + 1)) ≤ mostL ls := by
        by_cases z : i = 0
        · rw [(h0 z).1]; have := hlk (i + 1); omega
        · exact (hw (by omega) hi7).am
      refine ⟨_, rfl, _, rfl, _, _, rfl, rfl, ?_⟩
      refine ⟨rt, _, _, _, rfl, rfl, sqT (sm _ _ hrt), at_of (j := i) (by omega) hu, ?_⟩
      have hci : (rows.getD i [])[max a (lackAt ls (i + 1))]? = some (cellT rows (i + 1) (max a (lackAt ls (i + 1)))) := by
        unfold cellT
        rw [Nat.add_sub_cancel, List.getD_eq_getElem?_getD (l := rows.getD i []), List.getElem?_eq_getElem (by omega)]; rfl
      refine ⟨_, rfl, _, rfl, t, _, _, _, rfl, rfl, sqT (sm _ _ ht), at_of (j := max a (lackAt ls (i + 1))) rfl (ix_map hci), ?_⟩
      refine ⟨rfl, _, rfl, it_none (fun en => ?_) (fun z ez => ?_)⟩
      · have hz0 : i = 0 := by
          by_cases z : i = 0
          · exact z
          · obtain ⟨c', hc'⟩ := (hw (by omega) hi7).cell
            rw [hc'] at en; cases en
        subst hz0
        rw [(h0 rfl).1, Nat.max_eq_right (Nat.zero_le _)] at en
        exact (q' H2 sm).1 (by rw [← hW0]; exact bought_none en)
      · have hW : Walking os ls rows W0 (i + 1) (max a (lackAt ls (i + 1))) cs := by
          by_cases z0 : i = 0
          · subst z0
            obtain ⟨ea, ec⟩ := h0 rfl
            subst ec
            rw [ea, Nat.max_eq_right (Nat.zero_le _)] at ez ⊢
            rw [← hW0]
            exact walking_start T hls ez
          · exact hw (by omega) hi7
        clear hw h0 hcl em hci ez z
        generalize max a (lackAt ls (i + 1)) = a1 at *
        refine ⟨fun m σ H' => ∃ (a : Nat) (y7 : Option V) (cs : List Int), σ = [some (.ref oa), some (.ref c), some (.ref rt), some (.ref p), some (.int a), some (.int (1 + (i : Nat))), some (.ref t), y7] ∧ Same H1 H' ∧ H' p = some (.lst (cs.map V.int)) ∧ Walking os ls rows W0 (i + 1) a cs ∧ m = a, ⟨a1, a1, y7, cs, rfl, sm, hp2, hW, rfl⟩, fun m σ H3 h => ?_⟩
        obtain ⟨a2, y7', cs2, rfl, sm3, hp3, hW2, hma⟩ := h
        obtain ⟨c2, hc2⟩ := hW2.cell
        have ham2 := hW2.am
        have hci2 : (rows.getD i [])[a2]? = some (cellT rows (i + 1) a2) := by
          unfold cellT
          rw [Nat.add_sub_cancel, List.getD_eq_getElem?_getD (l := rows.getD i []), List.getElem?_eq_getElem (by omega)]; rfl
        refine ⟨_, rfl, _, rfl, t, _, _, _, rfl, rfl, sqT (sm3 _ _ ht), at_of (j := a2) rfl (ix_map hci2), ?_⟩
        refine ⟨_, rfl, _, rfl, _, rfl, _, rfl, c, rt, ls, rus, rows.getD (i + 1) [], mostL ls, i + 1, a2, ?_, (s1.trans sm3) _ _ hc, hls, SqA.t (sm3 _ _ hrt), by omega, by omega, ham2, hlk, fun hlt => ?_, ?_⟩
        · rw [hday]; rfl
        · obtain ⟨t2, h1, h2, h3⟩ := rowAt (i + 2) (by omega) (by omega)
          exact ⟨t2, h1, sm3 _ _ h2, h3⟩
        rw [goEq]
        refine ⟨cellV_scal _ _, ?_⟩
        refine ⟨_, rfl, it_neC (fun en => ?_) (fun ee => ?_)⟩
        · obtain ⟨k, hk, hf, g1, a0, hW3⟩ := hW2.take T hg (by omega) (by omega) en
          refine ⟨fun σ H' => ∃ m', m' < m ∧ ∃ (a : Nat) (y7 : Option V) (cs : List Int), σ = [some (.ref oa), some (.ref c), some (.ref rt), some (.ref p), some (.int a), some (.int (1 + (i : Nat))), some (.ref t), y7] ∧ Same H1 H' ∧ H' p = some (.lst (cs.map V.int)) ∧ Walking os ls rows W0 (i + 1) a cs ∧ m' = a, fun _ _ h => h, ?_⟩
          refine ⟨_, rfl, _, rfl, .ref oa, os, i + 1, ?_, OffersAt.mono _ _ _ _ (SameT.of (s1.trans sm3)) ⟨oa, ous, rfl, hoa, hoh⟩, hz, hg, fun sp sus H4 s4 hsn hsp hsh => ?_⟩
          · rw [hday]; rfl
          have hgd : (rows.getD i []).getD a2 none = some c2 := hc2
          refine ⟨_, rfl, _, rfl, sp, t, sus, os, rows, rows.getD i [], i + 1, a2, k, c2, rfl, sqL hsp, hsh, SqA.t (s4 _ _ (sm3 _ _ ht)), hz, hg, by rw [Nat.add_sub_cancel], by omega, hgd, hf, fun H5 s5 => ?_⟩
          have sm5 := (sm3.trans s4).trans s5
          have hp5 := s5 _ _ (s4 _ _ hp3)
          have hkc : k < cs2.length := by rw [hW2.len]; exact hk
          have ec : cs2[k]? = some (cs2.getD k 0) := by rw [List.getD_eq_getElem?_getD, List.getElem?_eq_getElem hkc]; rfl
          refine ⟨_, rfl, _, rfl, p, _, _, _, rfl, rfl, sqL hp5, at_of (j := k) rfl (ix_map ec), ?_⟩
          refine ⟨_, _, rfl, rfl, ?_⟩
          refine ⟨p, _, _, k, rfl, rfl, hp5, ixN_of rfl (by rw [List.length_map]; exact hkc), ?_⟩
          have sm6 := sm5.mut (o := .lst ((cs2.map V.int).set k (V.int (cs2.getD k 0 + 1)))) hpH1
          have hou := List.getElem?_eq_getElem (show k < ous.length by omega)
          obtain ⟨w, hwe, hwt⟩ := hoh.all k _ _ hou (List.getElem?_eq_getElem hk)
          rw [hwe] at hou
          refine ⟨_, rfl, _, rfl, _, rfl, oa, _, _, _, rfl, rfl, sqT ((s1.trans sm6) _ _ hoa), at_of (j := k) rfl hou, ?_⟩
          refine ⟨w, _, _, _, rfl, rfl, sqT ((s1.trans sm6) _ _ hwt), rfl, ?_⟩
          walk_at "rd"
          refine ⟨a2 - os[k].size.toNat, by omega, a2 - os[k].size.toNat, some (.int (k : Nat)), cs2.set k (cs2.getD k 0 + 1), ?_, sm6, by rw [upd_same, List.map_set], hW3, rfl⟩
          have em : (if (a2 : Int) - os[k].size > 0 then (a2 : Int) - os[k].size else 0) = ((a2 - os[k].size.toNat : Nat) : Int) := by split <;> omega
          show [_, _, _, _, some (V.int (if (a2 : Int) - os[k].size > 0 then (a2 : Int) - os[k].size else 0)), _, _, _] = _
          rw [em]
        · refine ⟨a2, _, _, _, cs2, rfl, sm3, hp3, hW2.len, fun z => by omega, fun z z7 => hW2.next T z7 ee, fun z => ?_⟩
          have : i = 6 := by omega
          subst this
          exact hW2.last ee
    · obtain ⟨a, y5, y6, y7, cs, rfl, sm, hp2, hcl, _, _, hw⟩ := h
      refine ⟨_, rfl, p, _, rfl, .inl ⟨sqL hp2, fun u hu => ?_⟩⟩
      exact (q' _ (sm.new hu)).2 cs u (hw rfl) upd_same
abbrev s_counts_of : Stmt := topS 35
theorem sc_counts_of : FnScope ["dishes", "larder", "offers", "name", "counts"] ["dishes", "larder", "offers", "name"] (defScope s_counts_of) := ⟨rfl, rfl, rfl, by decide +kernel, rfl, by decide +kernel, by decide +kernel⟩
theorem bd_counts_of : ∀ (kV doc pm : Value) (an : Option Addr) (cdv ct : Value) (us : List Value), us.length = (["dishes", "larder", "offers", "name"] : List Str).length → bindArgs (PySem.W.fnOf "counts_of" "counts_of" (defArgs s_counts_of) (defBody s_counts_of) (defScope s_counts_of) .none kV doc pm an cdv ct) ⟨us, []⟩ = pure ((["dishes", "larder", "offers", "name"] : List Str).zip us) := fun _ _ _ _ _ _ us hl => match us, hl with | [_, _, _, _], _ => rfl
theorem ok_counts_of {P : Program} {w : World} {K : PySem.W.Frag} {mg : Str → Option Value} {base : Heap} {S T : Addr} {tk : Tok} (D : DefAt K mg "counts_of" s_counts_of) (m_sum : mg "sum" = none) (m_MOST : mg "MOST" = some (.int 200 tk)) (M_TooMuch : MkAt P w K mg base 1 "TooMuch" T) (M_Short : MkAt P w K mg base 1 "Short" S) (C_needed : Clb P w K mg base 2 "needed" ["dishes", "name"] (spNeeded K)) (C_lacking : Clb P w K mg base 3 "lacking" ["dishes", "larder", "name"] (spLacking K)) (C_bought : Clb P w K mg base 4 "bought" ["offers", "lacks"] spBought) : ClbX P w K mg base 5 "counts_of" ["dishes", "larder", "offers", "name"] (spCountsOf S T) := by
  refine D.clbX sc_counts_of (fun vs H Q E h => ?_) bd_counts_of (fun f cdv A outer s H vs Q E hr h => ?_)
  · obtain ⟨u, v, w, nm, ds, lar, os, rfl, _⟩ := h
    rfl
  · obtain ⟨u, v, w, nm, ds, lar, os, rfl, hds, hlar, hos, F, ol, og, q⟩ := h
    refine ⟨_, (pss_cons (ps_if (pt_cmpR op_gt (pe_callB (kcr_sumT K rfl) (by rfl) m_sum (by decide +kernel) (pa_cons (pe_cal C_needed (hr.mono (by decide)) (pa_cons (pv 0) (pa_cons (pv 3) pa_nil))) pa_nil)) (pe_glob (v := .int 200) (by rfl) m_MOST ⟨_, rfl⟩) (nomark _))
      (pss_one (ps_raiseN M_TooMuch rfl (hr.mono (by decide)) (takes_of rfl rfl rfl rfl) (pv 3)))
      pss_nil)
    (pss_cons (ps_set (i := 4) sc_counts_of.nd rfl (.inl rfl) (pe_cal C_bought (hr.mono (by decide)) (pa_cons (pv 2) (pa_cons (pe_cal C_lacking (hr.mono (by decide)) (pa_cons (pv 0) (pa_cons (pv 1) (pa_cons (pv 3) pa_nil)))) pa_nil))))
    (pss_cons (ps_if (pt_cmpR op_isN (pv 4) pe_non (nomark _))
      (pss_one (ps_raiseN M_Short rfl (hr.mono (by decide)) (takes_of rfl rfl rfl rfl) (pv 3)))
      pss_nil)
    (pss_one (ps_ret (pv 4)))))), ?_⟩
    refine ⟨_, rfl, _, rfl, u, ds, nm, rfl, hds, F.dl, F.dn, fun p H1 s1 hp => ?_⟩
    refine ⟨p, _, rfl, sqT hp, ?_⟩
    rw [sum_needed ds nm F.day]
    walk_at "rd"
    refine it_lt (fun hb => ?_) (fun hb => ?_)
    · refine ⟨_, rfl, mk_word M_TooMuch.oe M_TooMuch.nw fun dd hdd => ?_⟩
      exact (q _ (s1.trans (same_upd hdd))).1 hb dd (same_none s1 hdd) upd_same
    · have hm : allOf ds nm ≤ 200 := by omega
      have G := F.good (nm := nm) hm
      walk_at "rd"
      refine ⟨u, v, ds, lar, nm, rfl, DishesAt.mono _ _ _ _ (SameT.of s1) hds, F.dl, F.dn, LarderAt.mono _ _ _ _ (SameT.of s1) hlar, F.ll, fun lp H2 s2 hlp => ?_⟩
      have s12 := s1.trans s2
      rw [lack_eq ds lar nm F.day] at hlp
      refine ⟨w, lp, os, _, rfl, OffersAt.mono _ _ _ _ (SameT.of s12) hos, hlp, ol, og, G, fun rows H3 s3 T3 => ⟨fun hn => ?_, fun cs cp he hcp => ?_⟩⟩
      · have s13 := s12.trans s3
        have hf : fitB os (lackW ds lar nm) = false := by
          cases f : fitB os (lackW ds lar nm) with
          | false => rfl
          | true =>
            obtain ⟨cs, e, _⟩ := bought_fit T3 og G f
            rw [hn] at e; cases e
        refine ⟨_, rfl, rfl, _, rfl, iteT ?_⟩
        refine ⟨_, rfl, mk_word M_Short.oe M_Short.nw fun dd hdd => ?_⟩
        exact (q _ (s13.trans (same_upd hdd))).2.1 hm hf dd (same_none s13 hdd) upd_same
      · refine ⟨_, rfl, rfl, _, rfl, iteF ?_⟩
        exact ⟨_, rfl, (q _ (s12.trans s3)).2.2 cp cs hm ⟨rows, T3, he⟩ hcp⟩
abbrev s_shopped : Stmt := topS 33
theorem sc_shopped : FnScope ["dishes", "larder", "packs", "counts", "name", "places", "at", "pack", "offers", "count"] ["dishes", "larder", "packs"] (defScope s_shopped) := ⟨rfl, rfl, rfl, by decide +kernel, rfl, by decide +kernel, by decide +kernel⟩
theorem bd_shopped : ∀ (kV doc pm : Value) (an : Option Addr) (cdv ct : Value) (us : List Value), us.length = (["dishes", "larder", "packs"] : List Str).length → bindArgs (PySem.W.fnOf "shopped" "shopped" (defArgs s_shopped) (defBody s_shopped) (defScope s_shopped) .none kV doc pm an cdv ct) ⟨us, []⟩ = pure ((["dishes", "larder", "packs"] : List Str).zip us) := fun _ _ _ _ _ _ us hl => match us, hl with | [_, _, _], _ => rfl
theorem ok_shopped {P : Program} {w : World} {K : PySem.W.Frag} {mg : Str → Option Value} {base : Heap} {S T : Addr} (D : DefAt K mg "shopped" s_shopped) (m_enumerate : mg "enumerate" = none) (m_len : mg "len" = none) (m_tuple : mg "tuple" = none) (m_zip : mg "zip" = none) (C_things_of : Clb P w K mg base 1 "things_of" ["dishes"] (spThingsOf K)) (C_offers_of : Clb P w K mg base 1 "offers_of" ["packs"] (spOffersOf K)) (C_counts_of : ClbX P w K mg base 5 "counts_of" ["dishes", "larder", "offers", "name"] (spCountsOf S T)) : ClbX P w K mg base 6 "shopped" ["dishes", "larder", "packs"] (spShopped S T) := by
  refine D.clbX sc_shopped (fun vs H Q E h => ?_) bd_shopped (fun f cdv A outer s H vs Q E hr h => ?_)
  · obtain ⟨u, v, w, ds, lar, ps, rfl, _⟩ := h
    rfl
  · obtain ⟨u, v, w, ds, lar, ps, rfl, hds, hlar, ⟨pa, pus, rfl, hpa, hph⟩, F, pl, pf, q⟩ := h
    refine ⟨_, (pss_cons (ps_set (i := 3) sc_shopped.nd rfl (.inl rfl) (pe_op op_rep (pe_lst (pa_cons pe_int pa_nil)) (pe_callB (kcall_len_seq K) (by rfl) m_len (by decide +kernel) (pa_cons (pv 2) pa_nil))))
    (pss_cons (ps_for (passes_of rfl) rfl (kpi_tup K (pe_cal C_things_of (hr.mono (by decide)) (pa_cons (pv 0) pa_nil))) (pg_name (i := 4) sc_shopped.nd rfl (.inr rfl))
      (pss_cons (ps_setLc (i := 5) (own := [("at", 6), ("pack", 7)])   rfl sc_shopped.nd rfl rfl (sw_true rfl rfl rfl (by decide +kernel)) (kpi_enumT K (by rfl) m_enumerate (pa_cons (pv 2) pa_nil)) (blkOk_by (own := [("at", 6), ("pack", 7)]) (N := ["dishes", "larder", "packs", "counts", "name", "places", "at", "pack", "offers", "count"]) (sc := defScope s_shopped) (by decide +kernel)) (fun _ _ _ _ _ => (kpg_tup K (n := 2) rfl (pgs_cons (pg_name (i := 6) sc_shopped.nd rfl (.inl rfl)) (pgs_cons (pg_name (i := 7) sc_shopped.nd rfl (.inl rfl)) pgs_nil)))) (fun _ _ _ _ _ => (pts_one (pt_cmpR op_eq (pe_ix (kix_tup K) (pv 7) pe_int (fun _ _ => rfl)) (pv 4) (nomark _)))) (fun _ _ _ _ _ => (pv 6)))
    (pss_cons (ps_set (i := 8) sc_shopped.nd rfl (.inl rfl) (pe_cal C_offers_of (hr.mono (by decide)) (pa_cons (pe_lc (own := [("at", 6)]) rfl sc_shopped.nd (kpi_list K (pv 5)) (blkOk_by (own := [("at", 6)]) (N := ["dishes", "larder", "packs", "counts", "name", "places", "at", "pack", "offers", "count"]) (sc := defScope s_shopped) (by decide +kernel)) (fun _ _ _ _ _ => (pg_name (i := 6) sc_shopped.nd rfl (.inl rfl))) (fun _ _ _ _ _ => pts_nil) (fun _ _ _ _ _ => (pe_ix (kix_tup K) (pv 2) (pv 6) (fun _ _ => rfl)))) pa_nil)))
    (pss_one (ps_for (passes_of rfl) rfl (kpi_zipM K (by rfl) m_zip (pa_cons (pv 5) (pa_cons (pe_calS C_counts_of (hr.mono (by decide)) (takes_of rfl rfl rfl rfl) (pa_cons (pv 0) (pa_cons (pv 1) (pa_cons (pv 8) (pa_cons (pv 4) pa_nil))))) pa_nil))) (kpg_tup K (n := 2) rfl (pgs_cons (pg_name (i := 6) sc_shopped.nd rfl (.inl rfl)) (pgs_cons (pg_name (i := 9) sc_shopped.nd rfl (.inl rfl)) pgs_nil)))
      (pss_one (ps_asg (pv 9) (pg_sub (pv 3) (pv 6) set_list))))))))
    (pss_one (ps_ret (pe_callTy (kcall_tuple_of K) (by rfl) m_tuple (by decide +kernel) (pa_cons (pv 3) pa_nil)))))), ?_⟩
    have pul : pus.length = ps.length := hph.len
    refine ⟨small (by show 1 ≤ 100000; decide), fun r1 hr1 => ?_⟩
    have s0 := same_upd (o := .lst [V.int 0]) hr1
    refine ⟨_, rfl, pa, pus, rfl, .inr (sqT (s0 _ _ hpa)), ?_⟩
    refine ⟨r1, pus.length, _, rfl, rfl, upd_same, by omega, by omega, small (by show 1 * ((pus.length : Int)).toNat ≤ 100000; omega), fun pc hpc => ?_⟩
    rw [rep0, pul]
    have s1 := s0.new (o := .lst ((List.replicate ps.length (0 : Int)).map V.int)) hpc
    have hpcH := same_none s0 hpc
    refine ⟨_, rfl, u, ds, rfl, DishesAt.mono _ _ _ _ (SameT.of s1) hds, F.dl, F.dn, F.names, fun tq ys H1 s2 hperm hsort htq => ?_⟩
    have ipc := s2 _ _ (upd_same (o := .lst ((List.replicate ps.length (0 : Int)).map V.int)) (a := pc))
    have nqp : tq ≠ pc := fun z => by rw [z, ipc] at htq; cases htq
    have ynd : ys.Nodup := hperm.nodup_iff.mpr (insAll_nodup _ List.nodup_nil)
    refine ⟨tq, rfl, ⟨_, sqT htq⟩, ?_⟩
    refine for_tup (xs := ys.map V.str) (fun i σ H' => ∃ (y4 y5 y6 y7 y8 y9 : Option V) (cs : List Int), σ = [some u, some v, some (.ref pa), some (.ref pc), y4, y5, y6, y7, y8, y9] ∧ Same H H' ∧ H' tq = some (.tup (ys.map V.str)) ∧ H' pc = some (.lst (cs.map V.int)) ∧ ShopAt ds lar ps (ys.take i) cs ∧ ∀ nm ∈ ys.take i, GoodName ds lar ps nm)
      ⟨none, none, none, none, none, none, _, rfl, s1.trans s2, htq, ipc, shop_zero ds lar ps, fun _ h => nomatch h⟩ (fun i σ H' _ h => by obtain ⟨_, _, _, _, _, _, _, _, _, h3, _⟩ := h; exact sqT h3) (fun i x σ H2 hx h => ?_) (fun σ H2 h => ?_)
    · obtain ⟨y4, y5, y6, y7, y8, y9, cs, rfl, s3, hq3, hc3, SA, GN⟩ := h
      obtain ⟨nm, hnm, rfl⟩ := map_ix hx
      have ofl : (ofK ps nm).length ≤ 60 := by
        have := List.length_filterMap_le (fun k => if (ps.getD k pz).name = nm then some k else none) (List.range ps.length)
        rw [List.length_range] at this
        unfold ofK
        omega
      refine ⟨_, rfl, pa, _, rfl, sqT (s3 _ _ hpa), ?_⟩
      refine fun D hD => lc_rel walk_enumT (xs := List.range ps.length) (by rw [List.length_range]; omega) (f := fun k => if (ps.getD k pz).name = nm then some k else none) (R := fun _ v (k : Nat) => v = V.int k) (mono_eq (f := fun k : Nat => V.int k)) hD
        (fun H' s => (s3.trans s).seqT (sqT hpa)) (by omega) (fun j x y H3 H4 Ky Kn hx sm hy h1 h2 => ?_) (fun H3 zs s4 hD' hd => ?_)
      · obtain ⟨rfl, hj⟩ := range_ix hx
        obtain ⟨T, a1, a2, rfl, hT, rfl, ea, eb⟩ := hy
        cases ea
        obtain ⟨t, rfl, ht⟩ := hph.all y _ _ eb (at_getD hj pz)
        have st := same_upd (o := .tup [V.int (0 + (y : Nat)), V.ref t]) hT
        refine ⟨T, _, rfl, sqT upd_same, rfl, _, _, rfl, _, _, rfl, rfl, ?_⟩
        refine ⟨rfl, ?_⟩
        refine ⟨_, rfl, t, _, _, _, rfl, rfl, sqT (st _ _ (sm _ _ (s3 _ _ ht))), rfl, ?_⟩
        walk_at "rd"
        refine it_eqS (fun e => ?_) (fun e => ?_)
        · refine ⟨_, rfl, ?_⟩
          exact h1 _ _ _ (if_pos e) st (by show V.int (0 + (y : Nat)) = V.int (y : Nat); rw [Int.zero_add])
        · exact h2 _ (if_neg e) st
      · have ef := held_eq (f := fun k : Nat => V.int k) hd
        have ez : zs = (ofK ps nm).map fun k : Nat => V.int k := ef
        subst ez
        have s34 := s3.trans s4
        refine ⟨_, rfl, D, rfl, ⟨_, sqL hD'⟩, fun D2 hD2 => lc_rel (walk_list (xs := (ofK ps nm).map fun k : Nat => V.int k)) (xs := ofK ps nm) (by rw [List.length_map]) (f := fun k => some (ps.getD k pz)) (R := PackAt) PackAt.mono hD2 (fun _ s => sqL (s _ _ hD')) (by rw [List.length_map]; omega) (fun j x y H4 H5 Ky Kn hx s5 hy h1 h2 => ?_) (fun H4 zs s5 hD2' hd2 => ?_)⟩
        · obtain ⟨rfl, hv⟩ := hy
          rw [List.getElem?_map, hx] at hv
          have hv' : V.int (y : Nat) = x := Option.some.inj hv
          subst hv'
          have hk := (of_mem (ix_mem hx)).1
          have hu := List.getElem?_eq_getElem (show y < pus.length by omega)
          obtain ⟨t, e1, ht⟩ := hph.all y _ _ hu (at_getD hk pz)
          rw [e1] at hu
          refine ⟨rfl, ?_⟩
          refine ⟨_, rfl, _, rfl, pa, _, _, _, rfl, rfl, sqT (s5 _ _ (s34 _ _ hpa)), at_of (j := y) rfl hu, ?_⟩
          exact h1 _ _ _ rfl (Same.refl _) ⟨t, rfl, s5 _ _ (s34 _ _ ht)⟩
        · rw [fm_some (fun k => ps.getD k pz)] at hd2
          have s35 := s34.trans s5
          refine ⟨.ref D2, _, rfl, ⟨D2, zs, rfl, SqA.l hD2', hd2⟩, by rw [List.length_map]; omega, fun ov H5 s6 hov => ?_⟩
          have eo : ((ofK ps nm).map fun k => ps.getD k pz).map offOf = offersOf ps nm := by rw [List.map_map]; rfl
          rw [eo] at hov
          have s36 := s35.trans s6
          have og := offers_good pf nm
          have ol : (offersOf ps nm).length = (ofK ps nm).length := by unfold offersOf; rw [List.length_map]
          have fb := firstBad_at (ps := ps) hnm GN
          refine ⟨_, rfl, _, rfl, _, rfl, _, rfl, _, rfl, u, v, ov, nm, ds, lar, _, rfl, DishesAt.mono _ _ _ _ (SameT.of s36) hds, LarderAt.mono _ _ _ _ (SameT.of s36) hlar, hov, F, by omega, og, fun H6 s7 => ⟨fun hb d hd0 hd1 => ?_, fun hm hf d hd0 hd1 => ?_, fun cp cz hm hb hcp => ?_⟩⟩
          · rw [if_pos hb] at fb
            exact (q ys H6 (s36.trans s7) hperm hsort).1 nm d fb (same_none s36 hd0) hd1
          · rw [if_neg (by omega), if_neg (by rw [hf]; decide)] at fb
            exact (q ys H6 (s36.trans s7) hperm hsort).2.1 nm d fb (same_none s36 hd0) hd1
          · have s37 := s36.trans s7
            obtain ⟨cl, cn, csv, cfit⟩ := hb.ok og (F.good hm)
            have hc7 := s7 _ _ (s6 _ _ (s5 _ _ (s4 _ _ hc3)))
            have hq7 := s7 _ _ (s6 _ _ (s5 _ _ (s4 _ _ hq3)))
            have hD7 := s7 _ _ (s6 _ _ (s5 _ _ hD'))
            have n1 : D ≠ pc := fun z => by rw [z, hc3] at hD; cases hD
            have n2 : cp ≠ pc := fun z => by rw [z, hc7] at hcp; cases hcp
            have zzl : ((ofK ps nm).zip cz).length = (ofK ps nm).length := zip_len (by omega)
            refine ⟨D, cp, _, _, rfl, sqL hD7, sqT hcp, ?_⟩
            refine for_zipM (xs := (ofK ps nm).map fun k : Nat => V.int k) (ys := cz.map V.int) (by rw [List.length_map, List.length_map]; omega) (fun j σ H' => ∃ y6 y9 : Option V, σ = [some u, some v, some (.ref pa), some (.ref pc), some (.str nm), some (.ref D), y6, y7, some ov, y9] ∧ Same H H' ∧ H' tq = some (.tup (ys.map V.str)) ∧ H' D = some (.lst ((ofK ps nm).map fun k : Nat => V.int k)) ∧ H' cp = some (.tup (cz.map V.int)) ∧ H' pc = some (.lst ((setK cs (((ofK ps nm).zip cz).take j)).map V.int)))
              ⟨y6, y9, rfl, s37, hq7, hD7, hcp, hc7⟩ (fun j σ H' h => by obtain ⟨_, _, _, _, _, a, b, _⟩ := h; exact ⟨sqL a, sqT b⟩) (fun j x y T σ H7 hx hy h hT => ?_) (fun σ H7 h => ?_)
            · obtain ⟨y6, y9, rfl, s8, hq8, hD8, hp8, hc8⟩ := h
              obtain ⟨k, hk, rfl⟩ := map_ix hx
              obtain ⟨z, hz, rfl⟩ := map_ix hy
              have hkm := of_mem (ix_mem hk)
              have ez := zip_ix hk hz
              have st := same_upd (o := .tup [V.int (k : Nat), V.int z]) hT
              refine ⟨T, _, rfl, sqT upd_same, rfl, _, _, rfl, _, _, rfl, rfl, ?_⟩
              refine ⟨_, rfl, _, rfl, _, rfl, pc, _, _, k, rfl, rfl, st _ _ hc8, ixN_of rfl (by rw [List.length_map, setK_len, SA.len]; exact hkm.1), ?_⟩
              have b1 := st _ _ hq8
              have b2 := st _ _ hD8
              have b3 := st _ _ hp8
              refine ⟨_, _, rfl, (s8.trans st).mut hpcH, by rw [upd_ne nqp]; exact b1, by rw [upd_ne n1]; exact b2, by rw [upd_ne n2]; exact b3, ?_⟩
              rw [upd_same, take_succ' ez, setK_snoc, List.map_set]
            · obtain ⟨y6, y9, rfl, s8, hq8, hD8, hp8, hc8⟩ := h
              have hf : ((ofK ps nm).zip cz).take ((ofK ps nm).map fun k : Nat => V.int k).length = (ofK ps nm).zip cz := List.take_of_length_le (by rw [zzl, List.length_map]; omega)
              rw [hf] at hc8
              have tks := take_succ' hnm
              have hnew : nm ∉ ys.take i := fun hmem => by
                obtain ⟨hi, e2⟩ := List.getElem?_eq_some_iff.mp hnm
                have h2 := ynd
                rw [← List.take_append_drop i ys] at h2
                have h3 := (List.nodup_append.mp h2).2.2
                have h4 : nm ∈ ys.drop i := by rw [List.drop_eq_getElem_cons hi, e2]; exact List.mem_cons_self
                exact h3 nm hmem nm h4 rfl
              have SB := SA.snoc hnew (by omega) cn hb
              rw [← tks] at SB
              refine ⟨_, _, _, _, _, _, _, rfl, s8, hq8, hc8, SB, fun m hmm => ?_⟩
              rw [tks] at hmm
              rcases List.mem_append.mp hmm with z | z
              · exact GN m z
              · rw [List.mem_singleton.mp z]
                exact ⟨hm, cfit⟩
    · obtain ⟨y4, y5, y6, y7, y8, y9, cs, rfl, s3, hq3, hc3, SA, GN⟩ := h
      rw [List.length_map, List.take_length] at SA GN
      refine ⟨_, rfl, pc, _, rfl, .inl ⟨sqL hc3, fun tp htp => ?_⟩⟩
      exact (q ys _ (s3.new htp) hperm hsort).2.2 tp cs (firstBad_none GN) SA upd_same
abbrev s_taken : Stmt := topS 15
theorem sc_taken : FnScope ["line", "day", "name", "amount", "pairs", "last", "batch", "left", "part"] ["line", "day", "name", "amount"] (defScope s_taken) := ⟨rfl, rfl, rfl, by decide +kernel, rfl, by decide +kernel, by decide +kernel⟩
theorem bd_taken : ∀ (kV doc pm : Value) (an : Option Addr) (cdv ct : Value) (us : List Value), us.length = (["line", "day", "name", "amount"] : List Str).length → bindArgs (PySem.W.fnOf "taken" "taken" (defArgs s_taken) (defBody s_taken) (defScope s_taken) .none kV doc pm an cdv ct) ⟨us, []⟩ = pure ((["line", "day", "name", "amount"] : List Str).zip us) := fun _ _ _ _ _ _ us hl => match us, hl with | [_, _, _, _], _ => rfl
theorem ok_taken {P : Program} {w : World} {K : PySem.W.Frag} {mg : Str → Option Value} {base : Heap} {S : Addr} (D : DefAt K mg "taken" s_taken) (m_min : mg "min" = none) (M_Short : MkAt P w K mg base 1 "Short" S) : ClbX P w K mg base 3 "taken" ["line", "day", "name", "amount"] (spTaken S) := by
  refine D.clbX sc_taken (fun vs H Q E h => ?_) bd_taken (fun f cdv A outer s H vs Q E hr h => ?_)
  · obtain ⟨l, ws, lar, left, nm, day, amt, ks, rfl, _⟩ := h
    rfl
  · obtain ⟨l, ws, lar, left, nm, day, amt, ks, rfl, hl, hh, hst, hlen, hbig, hamt, q⟩ := h
    refine ⟨_, (pss_cons (ps_set (i := 4) sc_taken.nd rfl (.inl rfl) (pe_lst pa_nil))
    (pss_cons (ps_while (passes_of rfl) (pt_cmpR op_gt (pv 3) pe_int (nomark _))
      (pss_cons (ps_if (pt_not (pt_truth (pv 0) (by intro _; rfl)))
      (pss_one (ps_raiseN M_Short rfl (hr.mono (by decide)) (takes_of rfl rfl rfl rfl) (pv 2)))
      pss_nil)
    (pss_cons (ps_asg (kpe_bm0 K PySem.F.plainAttrs_list PySem.F.slot_list_pop PySem.F.type_list_pop mt_pop (pv 0)) (kpg_tup K (n := 3) rfl (pgs_cons (pg_name (i := 5) sc_taken.nd rfl (.inl rfl)) (pgs_cons (pg_name (i := 6) sc_taken.nd rfl (.inl rfl)) (pgs_cons (pg_name (i := 7) sc_taken.nd rfl (.inl rfl)) pgs_nil)))))
    (pss_one (ps_if (pt_cmpR op_ge (pv 5) (pv 1) (nomark _))
      (pss_cons (ps_set (i := 8) sc_taken.nd rfl (.inl rfl) (pe_callB (call_min2 rfl) (by rfl) m_min (by decide +kernel) (pa_cons (pv 3) (pa_cons (pv 7) pa_nil))))
    (pss_cons (ps_expr (kpe_bm K PySem.F.plainAttrs_list PySem.F.slot_list_append PySem.F.type_list_append mt_append (pv 4) (pa_cons (pe_tup (pa_cons (pv 6) (pa_cons (pv 8) pa_nil))) pa_nil)))
    (pss_cons (ps_aug (i := 3) sc_taken.nd rfl (.inl rfl) (pv 8) ip_sub)
    (pss_one (ps_if (pt_cmpR op_lt (pv 8) (pv 7) (nomark _))
      (pss_one (ps_expr (kpe_bm K PySem.F.plainAttrs_list PySem.F.slot_list_append PySem.F.type_list_append mt_append (pv 0) (pa_cons (pe_tup (pa_cons (pv 5) (pa_cons (pv 6) (pa_cons (pe_op op_sub (pv 7) (pv 8)) pa_nil)))) pa_nil))))
      pss_nil)))))
      pss_nil)))))
    (pss_one (ps_ret (pv 4))))), ?_⟩
    refine ⟨Nat.zero_le _, fun p hp => ?_⟩
    have hbg : 16000000 < sizeLine := by decide
    have hpl : p ≠ l := fun z => by rw [z, hl] at hp; cases hp
    have s0 : SameBut l H (upd H p (.lst [])) := SameBut.of (same_upd hp)
    refine ⟨fun m σ H' => ∃ (a : Int) (qs : List Use) (lf : List Int) (ks : List Nat) (y5 y6 y7 y8 : Option V), σ = [some (.ref l), some (.int day), some (.str nm), some (.int a), some (.ref p), y5, y6, y7, y8] ∧ TakeInv lar left nm day amt l p H m H' a qs lf ks,
      ⟨_, amt, [], left, ks, none, none, none, none, rfl, s0, ⟨[], upd_same, Held.nil⟩, ⟨ws, by rw [upd_ne (Ne.symm hpl)]; exact hl, hh.mono EntAt.mono (SameT.new hp)⟩, hst, hlen, ⟨amt.toNat, rfl, Nat.le_refl _⟩, hamt, by simp; omega, rfl⟩, fun m σ H1 h => ?_⟩
    obtain ⟨a, qs, lf, ks1, y5, y6, y7, y8, rfl, T⟩ := h
    obtain ⟨pus, hpp, hpu⟩ := T.pairs
    obtain ⟨ws1, hl1, hw1⟩ := T.line
    obtain ⟨n, hn1, hn2⟩ := T.fold
    have hms := T.meas
    walk_at "rd"
    refine it_lt (fun ha => ?_) (fun ha => ?_)
    · refine ⟨fun σ' H' => ∃ m', m' < m ∧ ∃ (a : Int) (qs : List Use) (lf : List Int) (ks : List Nat) (y5 y6 y7 y8 : Option V), σ' = [some (.ref l), some (.int day), some (.str nm), some (.int a), some (.ref p), y5, y6, y7, y8] ∧ TakeInv lar left nm day amt l p H m' H' a qs lf ks, fun _ _ h => h, ?_⟩
      refine ⟨_, rfl, !ws1.isEmpty, .inl ⟨ws1, sqL hl1, rfl⟩, ?_⟩
      cases ks1 with
      | nil =>
        have e0 : ws1 = [] := List.length_eq_zero_iff.mp hw1.len
        subst e0
        refine iteT ?_
        refine ⟨_, rfl, mk_word M_Short.oe M_Short.nw fun dd hdd => ?_⟩
        refine (q _ (T.same.trans (SameBut.of (same_upd hdd)))).1 dd ?_ ?_ upd_same
        · rw [hn1]
          exact met_empty T.stack ha hn2
        · cases e : H dd with
          | none => rfl
          | some x =>
            by_cases z : dd = l
            · rw [z, hl1] at hdd; cases hdd
            · rw [T.same dd x z e] at hdd; cases hdd
      | cons k r =>
        rw [List.reverse_cons, List.map_append] at hw1
        obtain ⟨vs, v, e0, hvs, t, rfl, ht⟩ := held_last hw1
        subst e0
        replace ht : H1 t = some (.tup [V.int (lastK lar k), V.int (k : Nat), V.int (lf.getD k 0)]) := ht
        have hk1 := T.stack.ok k List.mem_cons_self
        have hkl := T.len
        have e1 : (!(!(vs ++ [V.ref t]).isEmpty)) = false := by simp
        rw [e1]
        refine iteF ?_
        refine ⟨_, rfl, .inl ⟨rfl, _, sqL hl1⟩, ?_⟩
        refine ⟨l, _, .ref t, rfl, rfl, hl1, by simp, ?_⟩
        rw [List.dropLast_concat]
        have hlH : SameBut l H1 (upd H1 l (.lst vs)) := (SameBut.refl l H1).put
        have st1 : SameT H1 (upd H1 l (.lst vs)) := SameT.lst hl1
        refine ⟨t, _, rfl, sqT (st1 _ _ ht), rfl, _, _, rfl, _, _, rfl, _, _, rfl, rfl, ?_⟩
        walk_at "rd"
        have hp1 := hlH p _ hpl hpp
        refine it_le (fun hd => ?_) (fun hd => ?_)
        · walk_at "rd"
          have hmn : (if lf.getD k 0 < a then lf.getD k 0 else a) = mnI a (lf.getD k 0) := rfl
          rw [hmn]
          have hne : 1 ≤ n := by omega
          obtain ⟨n', rfl⟩ : ∃ n', n = n' + 1 := ⟨n - 1, by omega⟩
          have hmh := met_head (ps := qs) T.stack hd ha hn2
          have hm0 : 0 < mnI a (lf.getD k 0) ∧ mnI a (lf.getD k 0) ≤ a ∧ mnI a (lf.getD k 0) ≤ lf.getD k 0 := by
            have := hk1.2.2
            unfold mnI
            split <;> omega
          refine ⟨.inl ⟨rfl, _, sqL hp1⟩, ?_⟩
          refine ⟨_, rfl, _, rfl, small (by show 2 ≤ 100000; decide), fun u hu => ?_⟩
          have s2 := same_upd (o := .tup [V.int (k : Nat), V.int (mnI a (lf.getD k 0))]) hu
          have hp2 := s2 _ _ hp1
          have hpul := hpu.len
          have hfew := T.few
          refine ⟨p, _, _, rfl, rfl, hp2, small' (by omega), ?_⟩
          have hup : u ≠ p := fun z => by rw [z, hp1] at hu; cases hu
          have hul : u ≠ l := fun z => by rw [z, upd_same] at hu; cases hu
          have st2 : SameT (upd H1 l (.lst vs)) (upd (upd (upd H1 l (.lst vs)) u (.tup [V.int (k : Nat), V.int (mnI a (lf.getD k 0))])) p (.lst (pus ++ [V.ref u]))) := (SameT.of s2).trans (SameT.lst hp2)
          have sb : SameBut l H (upd (upd (upd H1 l (.lst vs)) u (.tup [V.int (k : Nat), V.int (mnI a (lf.getD k 0))])) p (.lst (pus ++ [V.ref u]))) := fun b x hb e => by
            have hbp : b ≠ p := fun z => by rw [z, hp] at e; cases e
            rw [upd_ne hbp]
            exact s2 _ _ (hlH b x hb (T.same b x hb e))
          have hpend : Held UseAt (upd (upd (upd H1 l (.lst vs)) u (.tup [V.int (k : Nat), V.int (mnI a (lf.getD k 0))])) p (.lst (pus ++ [V.ref u]))) (pus ++ [V.ref u]) (qs ++ [(k, mnI a (lf.getD k 0))]) :=
            (hpu.mono UseAt.mono (st1.trans st2)).snoc ⟨u, rfl, by rw [upd_ne hup, upd_same]⟩
          have hl3 : (upd (upd (upd H1 l (.lst vs)) u (.tup [V.int (k : Nat), V.int (mnI a (lf.getD k 0))])) p (.lst (pus ++ [V.ref u]))) l = some (.lst vs) := by
            rw [upd_ne (Ne.symm hpl), upd_ne (Ne.symm hul), upd_same]
          have hvs3 := hvs.mono EntAt.mono (st1.trans st2)
          have hrev : ∀ z, r.reverse.map (entOf lar (lf.set k z)) = r.reverse.map (entOf lar lf) := fun z => ent_set (fun hz => T.stack.notin (List.mem_reverse.mp hz))
          generalize hH3 : upd (upd (upd H1 l (.lst vs)) u (.tup [V.int (k : Nat), V.int (mnI a (lf.getD k 0))])) p (.lst (pus ++ [V.ref u])) = H3 at sb hpend hl3 hvs3
          refine ⟨_, rfl, _, rfl, _, _, rfl, rfl, ?_⟩
          walk_at "rd"
          refine it_lt (fun hlt => ?_) (fun hlt => ?_)
          · replace hlt : mnI a (lf.getD k 0) < lf.getD k 0 := hlt
            have ema : mnI a (lf.getD k 0) = a := by unfold mnI at hlt ⊢; split at hlt <;> split <;> omega
            refine ⟨_, rfl, .inl ⟨rfl, _, sqL hl3⟩, ?_⟩
            refine ⟨_, rfl, _, rfl, _, rfl, _, rfl, _, _, rfl, rfl, ?_⟩
            refine ⟨small (by show 3 ≤ 100000; decide), fun u2 hu2 => ?_⟩
            have s4 := same_upd (o := .tup [V.int (lastK lar k), V.int (k : Nat), V.int (lf.getD k 0 - mnI a (lf.getD k 0))]) hu2
            have hl4 := s4 _ _ hl3
            have hvl := hvs.len
            have hrl := T.stack.len
            rw [List.length_map, List.length_reverse] at hvl
            rw [List.length_cons] at hrl
            refine ⟨l, _, _, rfl, rfl, hl4, by omega, ?_⟩
            have st4 := (SameT.of s4).trans (SameT.lst (o := .lst (vs ++ [V.ref u2])) hl4)
            have hul2 : u2 ≠ l := fun z => by rw [z, hl3] at hu2; cases hu2
            refine ⟨_, ?_, a - mnI a (lf.getD k 0), qs ++ [(k, mnI a (lf.getD k 0))], lf.set k (lf.getD k 0 - mnI a (lf.getD k 0)), k :: r, _, _, _, _, rfl, (sb.trans (SameBut.of s4)).put, ⟨_, ?_, hpend.mono UseAt.mono st4⟩, ⟨_, upd_same, ?_⟩, T.stack.some hkl (by omega), by rw [List.length_set]; exact hkl, ⟨n', ?_, by omega⟩, by have := T.most; omega, ?_, rfl⟩
            · rw [hms]; simp only [List.length_cons]; omega
            · rw [upd_ne hpl]
              exact s4 _ _ (by rw [← hH3, upd_same])
            · rw [List.reverse_cons, List.map_append]
              have h4 := hvs3.mono EntAt.mono st4
              rw [← hrev (lf.getD k 0 - mnI a (lf.getD k 0))] at h4
              refine h4.snoc ⟨u2, rfl, ?_⟩
              rw [upd_ne hul2, upd_same]
              show _ = some (HO.tup [V.int (lastK lar k), V.int (k : Nat), V.int ((lf.set k (lf.getD k 0 - mnI a (lf.getD k 0))).getD k 0)])
              rw [getD_set_self (by omega)]
            · rw [hn1, hmh]
            · rw [List.length_append]; simp only [List.length_cons, List.length_nil]; omega
          · replace hlt : ¬ mnI a (lf.getD k 0) < lf.getD k 0 := hlt
            have eml : mnI a (lf.getD k 0) = lf.getD k 0 := by omega
            have hst' := T.stack.whole hkl
            refine ⟨_, ?_, a - mnI a (lf.getD k 0), qs ++ [(k, mnI a (lf.getD k 0))], lf.set k 0, r, _, _, _, _, rfl, sb, ⟨_, by rw [← hH3, upd_same], hpend⟩, ⟨vs, hl3, by rw [hrev 0]; exact hvs3⟩, hst', by rw [List.length_set]; exact hkl, ⟨n', ?_, by omega⟩, by have := T.most; omega, ?_, rfl⟩
            · rw [hms]; simp only [List.length_cons]; omega
            · rw [hn1, hmh, eml, Int.sub_self]
            · rw [List.length_append]; simp only [List.length_cons, List.length_nil]; omega
        · refine ⟨_, ?_, a, qs, lf, r, _, _, _, _, rfl, T.same.trans hlH, ⟨pus, hp1, hpu.mono UseAt.mono st1⟩, ⟨vs, upd_same, hvs.mono EntAt.mono st1⟩, T.stack.drop (Int.not_le.mp hd), hkl, ⟨n, hn1, hn2⟩, T.most, T.few, rfl⟩
          rw [hms]; simp only [List.length_cons]; omega
    · refine ⟨_, rfl, ?_⟩
      refine (q H1 T.same).2 qs lf p pus ws1 ks1 ?_ hp hpp hpu hl1 hw1 T.stack
      rw [hn1]
      exact met_done ha
abbrev s_used_by : Stmt := topS 14
theorem sc_used_by : FnScope ["dish", "lines", "day", "needs", "pairs", "name", "amount"] ["dish", "lines"] (defScope s_used_by) := ⟨rfl, rfl, rfl, by decide +kernel, rfl, by decide +kernel, by decide +kernel⟩
theorem bd_used_by : ∀ (kV doc pm : Value) (an : Option Addr) (cdv ct : Value) (us : List Value), us.length = (["dish", "lines"] : List Str).length → bindArgs (PySem.W.fnOf "used_by" "used_by" (defArgs s_used_by) (defBody s_used_by) (defScope s_used_by) .none kV doc pm an cdv ct) ⟨us, []⟩ = pure ((["dish", "lines"] : List Str).zip us) := fun _ _ _ _ _ _ us hl => match us, hl with | [_, _], _ => rfl
theorem ok_used_by {P : Program} {w : World} {K : PySem.W.Frag} {mg : Str → Option Value} {base : Heap} {S : Addr} (D : DefAt K mg "used_by" s_used_by) (m_tuple : mg "tuple" = none) (C_taken : ClbX P w K mg base 3 "taken" ["line", "day", "name", "amount"] (spTaken S)) : ClbX P w K mg base 4 "used_by" ["dish", "lines"] (spUsedBy S) := by
  refine D.clbX sc_used_by (fun vs H Q E h => ?_) bd_used_by (fun f cdv A outer s H vs Q E hr h => ?_)
  · obtain ⟨v, d, kvs, dish, lar, left, Ks, rfl, _⟩ := h
    rfl
  · obtain ⟨v, d, kvs, dish, lar, left, Ks, rfl, ⟨dt, nv, rfl, hdt, na, nvs, rfl, hna, hnh⟩, hS, hlen, hbig, hfew, ham, q⟩ := h
    refine ⟨_, (pss_cons (ps_asg (pv 0) (kpg_tup K (n := 2) rfl (pgs_cons (pg_name (i := 2) sc_used_by.nd rfl (.inl rfl)) (pgs_cons (pg_name (i := 3) sc_used_by.nd rfl (.inl rfl)) pgs_nil))))
    (pss_cons (ps_set (i := 4) sc_used_by.nd rfl (.inl rfl) (pe_lst pa_nil))
    (pss_cons (ps_for (passes_of rfl) rfl (kpi_tup K (pv 3)) (kpg_tup K (n := 2) rfl (pgs_cons (pg_name (i := 5) sc_used_by.nd rfl (.inl rfl)) (pgs_cons (pg_name (i := 6) sc_used_by.nd rfl (.inl rfl)) pgs_nil)))
      (pss_one (ps_expr (kpe_bm K PySem.F.plainAttrs_list PySem.F.slot_list_extend PySem.F.type_list_extend mt_extend (pv 4) (pa_cons (pe_calS C_taken (hr.mono (by decide)) (takes_of rfl rfl rfl rfl) (pa_cons (pe_dget2 (hu_of hr) (pv 1) (pv 5) (pe_lst pa_nil) ⟨rfl, rfl, rfl, rfl⟩) (pa_cons (pv 2) (pa_cons (pv 5) (pa_cons (pv 6) pa_nil))))) pa_nil)))))
    (pss_one (ps_ret (pe_callTy (kcall_tuple_of K) (by rfl) m_tuple (by decide +kernel) (pa_cons (pv 4) pa_nil))))))), ?_⟩
    have hbg : 100000 < sizeLine := by decide
    have hnl := hnh.len
    refine ⟨_, rfl, dt, _, rfl, sqT hdt, rfl, _, _, rfl, _, _, rfl, rfl, ?_⟩
    refine ⟨Nat.zero_le _, fun p hp => ?_⟩
    have s0 := same_upd (o := .lst []) hp
    have npl : ¬ LineOf kvs p := fun z => by obtain ⟨vs, e⟩ := hS.lines.line z; rw [hp] at e; cases e
    refine ⟨_, rfl, na, rfl, ⟨_, sqT (s0 _ _ hna)⟩, ?_⟩
    refine for_tup (xs := nvs) (fun i σ H' => ∃ (y5 y6 : Option V) (ps : List Use) (pus : List V) (lf : List Int) (Ks : Str → List Nat), σ = [some (.ref dt), some (.ref d), some (.int dish.1), some (.ref na), some (.ref p), y5, y6] ∧ SameOff kvs H H' ∧ H' p = some (.lst pus) ∧ Held UseAt H' pus ps ∧ Stacks H' d kvs lar lf dish.1 Ks ∧ lf.length = lar.length ∧
        foldE (needF lar dish.1) (dish.2.take i) ([], left) = Except.ok (ps, lf) ∧ ps.length ≤ i * 200)
      ⟨none, none, [], [], left, Ks, rfl, SameOff.of s0, upd_same, Held.nil, hS.keep s0, hlen, rfl, Nat.zero_le _⟩ (fun i σ H' _ h => by obtain ⟨_, _, _, _, _, _, _, so, _⟩ := h; exact sqT ((hS.lines.tup so) _ _ hna)) (fun i w σ H1 hw h => ?_) (fun σ H1 h => ?_)
    · obtain ⟨y5, y6, ps, pus, lf, Ks1, rfl, so, hpp, hpu, hS1, hlf, hfold, hpl⟩ := h
      obtain ⟨x, hx, t, rfl, ht⟩ := hnh.get hw
      obtain ⟨nm, amt⟩ := x
      have hxm := ham _ (List.mem_of_getElem? hx)
      have hi20 : i < dish.2.length := (List.getElem?_eq_some_iff.mp hx).1
      have hpul := hpu.len
      have ht1 := (hS.lines.tup so) _ _ ht
      refine ⟨t, _, rfl, sqT ht1, rfl, _, _, rfl, _, _, rfl, rfl, ?_⟩
      refine ⟨_, rfl, .inl ⟨rfl, _, sqL hpp⟩, ?_⟩
      have hd1 := hS1.lines.dict
      refine ⟨_, rfl, d, rfl, .inl ⟨kvs, .inl hd1⟩, _, rfl, Nat.zero_le _, fun l0 hl0 => ?_⟩
      have s1 := same_upd (o := .lst []) hl0
      have hS2 := hS1.keep s1
      refine ⟨_, DGet.k (k := kS nm) (s1 _ _ hd1), ?_⟩
      have hpp1 := s1 _ _ hpp
      have herr : ∀ {l : Addr} {ws : List V} {ks : List Nat} (H4 : Hp), (l = l0 ∨ valV kvs (kS nm) = some (.ref l)) → SameBut l (upd H1 l0 (.lst [])) H4 → ∀ dd, metF lar nm dish.1 amt.toNat lf amt [] = none → (upd H1 l0 (.lst [])) dd = none → H4 dd = some (.xd [("word", .str nm)]) → E (.ref S) (some dd) H4 := fun {l ws ks} H4 hl sb dd hm hdd hx4 => by
        have hfe : needF lar dish.1 (nm, amt) (ps, lf) = Except.error nm := by unfold needF; rw [hm]
        have so4 : SameOff kvs H H4 := by
          intro b z nb hb
          have e1 := s1 _ _ (so b z nb hb)
          refine sb b z (fun zz => ?_) e1
          rcases hl with hl | hl
          · rw [zz, hl] at hb
            have h2 := so l0 z (fun y => by obtain ⟨vs, e⟩ := hS1.lines.line y; rw [hl0] at e; cases e) hb
            rw [hl0] at h2; cases h2
          · exact nb ⟨nm, by rw [zz]; exact hl⟩
        refine (q H4 so4).1 nm dd (foldE_err hfold hx hfe) ?_ hx4
        cases e : H dd with
        | none => rfl
        | some z =>
          by_cases nl : LineOf kvs dd
          · obtain ⟨vs, e2⟩ := hS1.lines.line nl
            rw [s1 _ _ e2] at hdd; cases hdd
          · rw [s1 _ _ (so dd z nl e)] at hdd; cases hdd
      cases hv : valV kvs (kS nm) with
      | none =>
        -- no line: refused
        have hst := hS2.stack nm
        have hk0 : Ks1 nm = [] := by
          have := hS2.lines.nol nm hv
          have h2 : ((Ks1 nm).reverse.map (entOf lar lf)).length = 0 := by rw [this]; rfl
          rw [List.length_map, List.length_reverse] at h2
          exact List.length_eq_zero_iff.mp h2
        rw [hk0] at hst
        refine ⟨_, rfl, _, rfl, _, rfl, ?_⟩
        refine ⟨l0, [], lar, lf, nm, dish.1, amt, [], rfl, upd_same, Held.nil, hst, hlf, hbig, hxm.2, fun H4 sb => ⟨fun dd hm hdd hx4 => herr (ws := []) (ks := []) H4 (.inl rfl) sb dd hm hdd hx4, fun qs left' p2 pus2 ws2 ks2 hm _ _ _ _ _ _ => ?_⟩⟩
        rw [met_empty hst (by omega) (Nat.le_refl _)] at hm
        cases hm
      | some lv =>
        obtain ⟨l, ws, rfl, hl, hw⟩ := hS2.lines.lin nm lv hv
        have npl' : p ≠ l := fun z => npl ⟨nm, by rw [z]; exact hv⟩
        refine ⟨_, rfl, _, rfl, _, rfl, ?_⟩
        refine ⟨l, ws, lar, lf, nm, dish.1, amt, Ks1 nm, rfl, hl, hw, hS2.stack nm, hlf, hbig, hxm.2, fun H4 sb => ⟨fun dd hm hdd hx4 => herr (ws := []) (ks := []) H4 (.inr hv) sb dd hm hdd hx4, fun qs left' p2 pus2 ws2 ks2 hm hp2 hp2' hq2 hl2 hw2 hst2 => ?_⟩⟩
        have hml := met_len _ _ _ _ _ _ hm
        have hq2l := hq2.len
        have hpp4 := sb p _ npl' hpp1
        have hfo : needF lar dish.1 (nm, amt) (ps, lf) = Except.ok (ps ++ qs, left') := by unfold needF; rw [hm]
        have hqs : qs.length ≤ 200 := by have := hml.2.1; simp only [List.length_nil] at this; omega
        have hi20' : i < 20 := by omega
        have hpl' : ps.length ≤ 4000 := by omega
        refine ⟨p, p2, _, _, rfl, rfl, hpp4, hp2', by omega, ?_⟩
        have st4 : SameT H1 H4 := fun b xs hb => by
          have e1 := s1 _ _ hb
          exact sb b _ (fun z => by rw [z, hl] at e1; cases e1) e1
        have st5 := SameT.lst (o := .lst (pus ++ pus2)) hpp4
        have hd4 := sb d _ (fun z => by have := s1 _ _ hd1; rw [z, hl] at this; cases this) (s1 _ _ hd1)
        -- the lines, with one changed
        have hL4 : Lines H4 d kvs (fun nm' => ((if nm' = nm then ks2 else Ks1 nm').reverse.map (entOf lar left'))) := by
          refine hS2.lines.put hv hl sb hl2 ?_ (fun nm' ne => ?_)
          · rw [if_pos rfl]; exact hw2
          · rw [if_neg ne]
            refine ent_other fun k hk => ?_
            have hkn := ((hS1.stack nm').ok k (List.mem_reverse.mp hk)).2.1
            exact hml.2.2 k (by rw [hkn]; exact ne)
        have hS4 : Stacks (upd H4 p (.lst (pus ++ pus2))) d kvs lar left' dish.1 (fun nm' => if nm' = nm then ks2 else Ks1 nm') := by
          refine ⟨⟨?_, hL4.nol, fun nm' v h => ?_, hL4.inj⟩, fun nm' => ?_⟩
          · rw [upd_ne (fun z => by rw [← z, hd4] at hpp4; cases hpp4)]
            exact hd4
          · obtain ⟨l', vs', e1, e2, e3⟩ := hL4.lin nm' v h
            subst e1
            refine ⟨l', vs', rfl, ?_, e3.mono EntAt.mono st5⟩
            rw [upd_ne (fun z => npl ⟨nm', by rw [← z]; exact h⟩)]
            exact e2
          · by_cases e : nm' = nm
            · rw [if_pos e, e]; exact hst2
            · rw [if_neg e]
              exact (hS1.stack nm').other fun k hk => hml.2.2 k (by rw [hk]; exact e)
        refine ⟨_, _, ps ++ qs, pus ++ pus2, left', _, rfl, ?_, upd_same, ?_, hS4, by rw [hml.1]; exact hlf, foldE_take hfold hx hfo, by rw [List.length_append, Nat.succ_mul]; omega⟩
        · intro b z nb hb
          have hbp : b ≠ p := fun zz => by rw [zz, hp] at hb; cases hb
          rw [upd_ne hbp]
          have e1 := s1 _ _ (so b z nb hb)
          exact sb b z (fun zz => nb ⟨nm, by rw [zz]; exact hv⟩) e1
        · exact ((hpu.mono UseAt.mono st4).append hq2).mono UseAt.mono st5
    · obtain ⟨y5, y6, ps, pus, lf, Ks1, rfl, so, hpp, hpu, hS1, hlf, hfold, hpl⟩ := h
      rw [hnl, List.take_length] at hfold
      refine ⟨_, rfl, p, _, rfl, .inl ⟨sqL hpp, fun u hu => ?_⟩⟩
      have s9 := same_upd (o := .tup pus) hu
      exact (q _ (so.trans (SameOff.of s9))).2 ps lf _ Ks1 hfold ⟨u, pus, rfl, upd_same, hpu.mono UseAt.mono (SameT.of s9)⟩ (hS1.keep s9) (by omega)
abbrev s_lines_of : Stmt := topS 13
theorem sc_lines_of : FnScope ["larder", "lines", "batches", "batch", "name", "left", "last"] ["larder"] (defScope s_lines_of) := ⟨rfl, rfl, rfl, by decide +kernel, rfl, by decide +kernel, by decide +kernel⟩
theorem bd_lines_of : ∀ (kV doc pm : Value) (an : Option Addr) (cdv ct : Value) (us : List Value), us.length = (["larder"] : List Str).length → bindArgs (PySem.W.fnOf "lines_of" "lines_of" (defArgs s_lines_of) (defBody s_lines_of) (defScope s_lines_of) .none kV doc pm an cdv ct) ⟨us, []⟩ = pure ((["larder"] : List Str).zip us) := fun _ _ _ _ _ _ us hl => match us, hl with | [_], _ => rfl
theorem ok_lines_of {P : Program} {w : World} {K : PySem.W.Frag} {mg : Str → Option Value} {base : Heap} (D : DefAt K mg "lines_of" s_lines_of) (m_enumerate : mg "enumerate" = none) (m_sorted : mg "sorted" = none) : Clb P w K mg base 1 "lines_of" ["larder"] spLinesOf := by
  refine D.clb sc_lines_of (fun vs H Q E h => ?_) bd_lines_of (fun f cdv A outer s H vs Q E hr h => ?_)
  · obtain ⟨v, lar, rfl, _⟩ := h
    rfl
  · obtain ⟨v, lar, rfl, ⟨a, lvs, rfl, ha, hh⟩, hbig, q⟩ := h
    have encA := bat_alike lar
    have encS := bat_tup lar
    have encD := bat_deep lar
    have encT := bat_dp (K := K) lar
    refine ⟨_, (pss_cons (ps_set (i := 1) sc_lines_of.nd rfl (.inl rfl) pe_dnewK)
    (pss_cons (ps_setLc (i := 2) (own := [("batch", 3), ("name", 4), ("left", 5), ("last", 6)])   rfl sc_lines_of.nd rfl rfl (sw_true rfl rfl rfl (by decide +kernel)) (kpi_enumT K (by rfl) m_enumerate (pa_cons (pv 0) pa_nil)) (blkOk_by (own := [("batch", 3), ("name", 4), ("left", 5), ("last", 6)]) (N := ["larder", "lines", "batches", "batch", "name", "left", "last"]) (sc := defScope s_lines_of) (by decide +kernel)) (fun _ _ _ _ _ => (kpg_tup K (n := 2) rfl (pgs_cons (pg_name (i := 3) sc_lines_of.nd rfl (.inl rfl)) (pgs_cons (kpg_tup K (n := 3) rfl (pgs_cons (pg_name (i := 4) sc_lines_of.nd rfl (.inl rfl)) (pgs_cons (pg_name (i := 5) sc_lines_of.nd rfl (.inl rfl)) (pgs_cons (pg_name (i := 6) sc_lines_of.nd rfl (.inl rfl)) pgs_nil)))) pgs_nil)))) (fun _ _ _ _ _ => pts_nil) (fun _ _ _ _ _ => (pe_tup (pa_cons (pv 6) (pa_cons (pv 3) (pa_cons (pv 4) (pa_cons (pv 5) pa_nil)))))))
    (pss_cons (ps_for PassesOwn.never rfl (kpi_list K (pe_callBK (kcr_sortRevD K hr.units encA encS encD encT) (by rfl) m_sorted (by decide +kernel) (pa_cons (pv 2) pa_nil) (pk_cons pe_bl pk_nil))) (kpg_tup K (n := 4) rfl (pgs_cons (pg_name (i := 6) sc_lines_of.nd rfl (.inl rfl)) (pgs_cons (pg_name (i := 3) sc_lines_of.nd rfl (.inl rfl)) (pgs_cons (pg_name (i := 4) sc_lines_of.nd rfl (.inl rfl)) (pgs_cons (pg_name (i := 5) sc_lines_of.nd rfl (.inl rfl)) pgs_nil)))))
      (pss_one (ps_if (pt_cmpR op_gt (pv 5) pe_int (nomark _))
      (pss_one (ps_expr (kpe_bm K PySem.F.plainAttrs_list PySem.F.slot_list_append PySem.F.type_list_append mt_append (pe_dsetd (pv 1) (pv 4) (pe_lst pa_nil) ⟨rfl, rfl, rfl, rfl⟩) (pa_cons (pe_tup (pa_cons (pv 6) (pa_cons (pv 3) (pa_cons (pv 5) pa_nil)))) pa_nil))))
      pss_nil)))
    (pss_one (ps_ret (pv 1)))))), ?_⟩
    have hbg : 16000000 < sizeLine := by decide
    have hll := hh.len
    intro d hd
    have s0 := same_upd (o := .dK []) hd
    refine ⟨_, rfl, a, _, rfl, sqT (s0 _ _ ha), ?_⟩
    refine fun D hD => lc_relB walk_enumT (xs := List.range lar.length) (by rw [List.length_range]; omega) (f := fun k => some k) (R := Bat4At lar) (Bat4At.mono lar) hD
      (fun H' s => (s0.trans s).seqT (sqT ha)) (by omega) (fun i v x H1 H2 Ky Kn hx sm hy h1 h2 => ?_) (fun H1 ys s1 hD' hys => ?_)
    · obtain ⟨rfl, hi⟩ := range_ix hx
      obtain ⟨T, y, z, rfl, hT, rfl, ey, ez⟩ := hy
      cases ey
      have hb := List.getElem?_eq_getElem hi
      have eb : lar.getD x bz = lar[x] := by rw [List.getD_eq_getElem?_getD, hb]; rfl
      obtain ⟨t, rfl, ht⟩ := hh.all x _ _ ez hb
      have st := same_upd (o := .tup [V.int (0 + (x : Nat)), V.ref t]) hT
      refine ⟨T, _, rfl, sqT upd_same, rfl, _, _, rfl, _, _, rfl, t, _, rfl, sqT (st _ _ (sm _ _ (s0 _ _ ht))), rfl, _, _, rfl, _, _, rfl, _, _, rfl, rfl, rfl, rfl, ?_⟩
      walk_at "rd"
      refine ⟨small (by show 4 ≤ 100000; decide), fun u hu => ?_⟩
      refine h1 _ _ _ rfl (st.new hu) ⟨u, rfl, ?_⟩
      rw [upd_same]
      have e0 : (0 : Int) + (x : Nat) = (x : Nat) := by omega
      show _ = some (HO.tup [V.int (lar.getD x bz).last, V.int (x : Nat), V.str (lar.getD x bz).name, V.int (lar.getD x bz).amount])
      rw [e0, eb]
    rw [fm_some, List.map_id'] at hys
    have s01 := s0.trans s1
    refine ⟨_, rfl, rfl, D, ys, List.range lar.length, rfl, sqL hD', hys, by rw [List.length_range]; omega, fun po us hpo hus => ?_⟩
    replace hus : Held (Bat4At lar) H1 us (descL lar) := hus
    have s2 := same_upd (o := .lst us) hpo
    have hul := hus.len
    rw [desc_len] at hul
    refine ⟨po, rfl, ⟨_, sqL upd_same⟩, ?_⟩
    have hdpo : d ≠ po := fun z => by
      have h1 := s1 d _ upd_same
      rw [z, hpo] at h1; cases h1
    -- what stood at first, but the dict
    refine for_list (xs := us) (fun i σ H' => ∃ (y3 y4 y5 y6 : Option V) (kvs : List (L2.Key × V)), σ = [some (.ref a), some (.ref d), some (.ref D), y3, y4, y5, y6] ∧ SameBut d H H' ∧ SameT H1 H' ∧ H' po = some (.lst us) ∧ (∀ l, LineOf kvs l → H l = none ∧ l ≠ po) ∧ kvs.length ≤ i ∧ Lines H' d kvs (fun nm => (lineOf lar nm ((descL lar).take i)).map (entOf lar (lar.map (·.amount)))))
      ⟨none, none, none, none, [], rfl, SameBut.of (s01.trans s2), SameT.of s2, upd_same, (fun l z => by obtain ⟨nm, e⟩ := z; cases e), Nat.zero_le _, ⟨(s1.trans s2) _ _ upd_same, fun nm _ => rfl, (fun nm v e => by cases e), (fun nm nm' l e => by cases e)⟩⟩
      (fun i σ H' _ h => by obtain ⟨_, _, _, _, _, _, _, _, h, _⟩ := h; exact sqL h) (fun i w σ H2 hw h => ?_) (fun σ H2 h => ?_)
    · obtain ⟨y3, y4, y5, y6, kvs, rfl, sb, st, hpo2, hfr, hkl, L⟩ := h
      obtain ⟨k, hk, t, rfl, ht⟩ := hus.get hw
      have hkn := (desc_mem lar k).mp (List.mem_of_getElem? hk)
      have hin : i < lar.length := by rw [← desc_len]; exact (List.getElem?_eq_some_iff.mp hk).1
      refine ⟨t, _, rfl, sqT (st _ _ ht), rfl, _, _, rfl, _, _, rfl, _, _, rfl, _, _, rfl, rfl, ?_⟩
      walk_at "rd"
      have hoth : ∀ nm, ¬ (nameK lar k = nm ∧ 0 < (lar.getD k bz).amount) → lineOf lar nm ((descL lar).take (i + 1)) = lineOf lar nm ((descL lar).take i) := fun nm hn => by
        unfold lineOf
        rw [take_succ' hk, List.filter_append]
        have : List.filter (fun k => decide (nameK lar k = nm ∧ 0 < (lar.getD k bz).amount)) [k] = [] := by rw [List.filter_cons, if_neg (by simpa using hn)]; rfl
        rw [this, List.append_nil]
      refine it_lt (fun hpos => ?_) (fun hpos => ?_)
      · have hthis : lineOf lar (nameK lar k) ((descL lar).take (i + 1)) = lineOf lar (nameK lar k) ((descL lar).take i) ++ [k] := by
          unfold lineOf
          rw [take_succ' hk, List.filter_append]
          have : List.filter (fun j => decide (nameK lar j = nameK lar k ∧ 0 < (lar.getD j bz).amount)) [k] = [k] := by rw [List.filter_cons, if_pos (by simpa using hpos)]; rfl
          rw [this]
        refine ⟨_, rfl, d, rfl, .inl ⟨kvs, .inl L.dict⟩, _, rfl, Nat.zero_le _, fun l0 hl0 => ?_⟩
        have s3 := same_upd (o := .lst []) hl0
        have L3 := L.keep s3
        have hl0d : l0 ≠ d := fun z => by rw [z, L.dict] at hl0; cases hl0
        have hl0po : l0 ≠ po := fun z => by rw [z, hpo2] at hl0; cases hl0
        have hl0H : H l0 = none := by
          cases e : H l0 with
          | none => rfl
          | some x => rw [sb l0 x hl0d e] at hl0; cases hl0
        -- the tuple, put behind the line at l
        have fin : ∀ (H4 : Hp) (kvs4 : List (L2.Key × V)) (l : Addr) (ws : List V), SameBut d H H4 → SameT H1 H4 → H4 po = some (.lst us) → (∀ l, LineOf kvs4 l → H l = none ∧ l ≠ po) → kvs4.length ≤ i + 1 → valV kvs4 (kS (nameK lar k)) = some (.ref l) →
            Lines H4 d kvs4 (fun nm => (lineOf lar nm ((descL lar).take i)).map (entOf lar (lar.map (·.amount)))) →
            (tyV K "list" (.ref l) H4 ∧ tCons (tVar 6) (tCons (tVar 3) (tCons (tVar 5) tNil)) [some (.ref a), some (.ref d), some (.ref D), some (.int (k : Nat)), some (.str (nameK lar k)), some (.int (lar.getD k bz).amount), some (.int (lastK lar k))] H4 fun vs H5 => vs.length ≤ sizeLine ∧ ∀ u, H5 u = none → rAppend (.ref l) [.ref u] (upd H5 u (.tup vs)) fun _ H6 => ∃ (y3 y4 y5 y6 : Option V) (kvs : List (L2.Key × V)), [some (V.ref a), some (V.ref d), some (V.ref D), some (V.int (k : Nat)), some (V.str (nameK lar k)), some (V.int (lar.getD k bz).amount), some (V.int (lastK lar k))] = [some (.ref a), some (.ref d), some (.ref D), y3, y4, y5, y6] ∧ SameBut d H H6 ∧ SameT H1 H6 ∧ H6 po = some (.lst us) ∧ (∀ l, LineOf kvs l → H l = none ∧ l ≠ po) ∧ kvs.length ≤ i + 1 ∧ Lines H6 d kvs (fun nm => (lineOf lar nm ((descL lar).take (i + 1))).map (entOf lar (lar.map (·.amount))))) := fun H4 kvs4 l ws sb4 st4 hpo4 hfr4 hkl4 hv4 L4 => by
          obtain ⟨l', ws4, e, hl4, hw4⟩ := L4.lin _ _ hv4
          cases e
          refine ⟨.inl ⟨rfl, _, sqL hl4⟩, ?_⟩
          refine ⟨_, rfl, _, rfl, _, rfl, small (by show 3 ≤ 100000; decide), fun u hu => ?_⟩
          have s5 := same_upd (o := .tup [V.int (lastK lar k), V.int (k : Nat), V.int (lar.getD k bz).amount]) hu
          have hl5 := s5 _ _ hl4
          have hwl := hw4.len
          have hlo : (lineOf lar (nameK lar k) ((descL lar).take i)).length ≤ i := by
            have := List.length_filter_le (fun j => decide (nameK lar j = nameK lar k ∧ 0 < (lar.getD j bz).amount)) ((descL lar).take i)
            rw [List.length_take] at this
            unfold lineOf
            omega
          rw [List.length_map] at hwl
          refine ⟨l, _, _, rfl, rfl, hl5, by omega, ?_⟩
          have hul : u ≠ l := fun z => by rw [z, hl4] at hu; cases hu
          have stl := SameT.lst (o := .lst (ws4 ++ [V.ref u])) hl5
          have hld : l ≠ d := fun z => by rw [z, L4.dict] at hl4; cases hl4
          refine ⟨_, _, _, _, kvs4, rfl, ?_, (st4.trans (SameT.of s5)).trans stl, ?_, hfr4, hkl4, ?_⟩
          · intro b x hb e
            have hbl : b ≠ l := fun z => by rw [z, (hfr4 l ⟨_, hv4⟩).1] at e; cases e
            rw [upd_ne hbl]
            exact s5 _ _ (sb4 b x hb e)
          · rw [upd_ne (Ne.symm (hfr4 l ⟨_, hv4⟩).2)]
            exact s5 _ _ hpo4
          · refine (L4.keep s5).put hv4 hl5 ((SameBut.refl l _).put) upd_same ?_ (fun nm' ne => ?_)
            · rw [hthis, List.map_append]
              refine ((hw4.mono EntAt.mono ((SameT.of s5).trans stl))).snoc ⟨u, rfl, ?_⟩
              rw [upd_ne hul, upd_same]
              show _ = some (HO.tup [V.int (lastK lar k), V.int (k : Nat), V.int ((lar.map (·.amount)).getD k 0)])
              rw [amt_at lar hkn]
            · rw [hoth nm' (fun z => ne z.1.symm)]
        refine ⟨kvs, kS (nameK lar k), s3 _ _ L.dict, rfl, by omega, fun v hv => ?_, fun hv => ?_⟩
        · obtain ⟨l, ws, rfl, _, _⟩ := L3.lin _ v hv
          exact fin _ kvs l ws (fun b x hb e => s3 _ _ (sb b x hb e)) (st.trans (SameT.of s3)) (s3 _ _ hpo2) hfr (by omega) hv L3
        · have hn4 : ∀ nm' l', valV kvs (kS nm') = some (.ref l') → l' ≠ l0 := fun nm' l' e z => by
            obtain ⟨vs, e2⟩ := L.line ⟨nm', e⟩
            rw [z, hl0] at e2; cases e2
          have L4 := L3.new hv hn4 hl0d upd_same (by rw [L.nol _ hv]; exact Held.nil)
          refine fin _ (putK kvs (kS (nameK lar k)) (.ref l0)) l0 [] ?_ ((st.trans (SameT.of s3)).trans (SameT.dict L3.dict)) ?_ ?_ ?_ ?_ L4
          · intro b x hb e
            rw [upd_ne hb]
            exact s3 _ _ (sb b x hb e)
          · rw [upd_ne (Ne.symm hdpo)]
            exact s3 _ _ hpo2
          · intro l z
            obtain ⟨nm', e⟩ := z
            rw [valV_put] at e
            split at e
            · cases e; exact ⟨hl0H, hl0po⟩
            · exact hfr l ⟨nm', e⟩
          · exact Nat.le_trans (DSub.putK_len _ _ _) (by omega)
          · rw [valV_put, if_pos rfl]
      · refine ⟨_, _, _, _, kvs, rfl, sb, st, hpo2, hfr, by omega, L.ofEq fun nm => ?_⟩
        rw [hoth nm (fun z => hpos z.2)]
    · obtain ⟨y3, y4, y5, y6, kvs, rfl, sb, st, hpo2, hfr, hkl, L⟩ := h
      rw [hul, ← desc_len, List.take_length] at L
      refine ⟨_, rfl, q d kvs H2 (fun nm => (lineOf lar nm (descL lar)).reverse) (fun b x e => sb b x (ne_of_none e hd) e) hd (fun l z => (hfr l z).1) ⟨L.ofEq fun nm => by rw [List.reverse_reverse], fun nm => stack0 lar nm 1⟩⟩
abbrev s_cooked : Stmt := topS 12
theorem sc_cooked : FnScope ["dishes", "larder", "lines", "uses", "order", "at", "day", "needs", "_"] ["dishes", "larder"] (defScope s_cooked) := ⟨rfl, rfl, rfl, by decide +kernel, rfl, by decide +kernel, by decide +kernel⟩
theorem bd_cooked : ∀ (kV doc pm : Value) (an : Option Addr) (cdv ct : Value) (us : List Value), us.length = (["dishes", "larder"] : List Str).length → bindArgs (PySem.W.fnOf "cooked" "cooked" (defArgs s_cooked) (defBody s_cooked) (defScope s_cooked) .none kV doc pm an cdv ct) ⟨us, []⟩ = pure ((["dishes", "larder"] : List Str).zip us) := fun _ _ _ _ _ _ us hl => match us, hl with | [_, _], _ => rfl
def DayAt (ds : List Dish) (H : Hp) (v : V) (k : Nat) : Prop := ∃ t, v = .ref t ∧ H t = some (.tup [.int (dayK ds k), .int (k : Nat)])
theorem DayAt.mono (ds : List Dish) : MonoT (DayAt ds) := fun _ _ _ _ e ⟨t, h1, h2⟩ => ⟨t, h1, e _ _ h2⟩
theorem day_alike (ds : List Dish) (x y : Nat) : PySem.W.alike (dayD ds x) (dayD ds y) = true := by
  unfold dayD
  simp [PySem.W.alike, PySem.W.alikeAll]
theorem day_tup (ds : List Dish) (x : Nat) : ∃ z r, dayD ds x = .tuple (z :: r) := ⟨_, _, rfl⟩
theorem day_deep (ds : List Dish) (x : Nat) : (dayD ds x).depth ≤ 4 := by
  unfold dayD
  simp [PyData.depth, PyData.depthAll]
theorem day_dp {K : PySem.W.Frag} (ds : List Dish) (H : Hp) (v : V) (x : Nat) (h : DayAt ds H v x) : Dp K H v (dayD ds x) := by
  obtain ⟨t, rfl, ht⟩ := h
  exact .tup (sqT ht) (.cons (.int _) (.cons (.int _) .nil))
theorem ok_cooked {P : Program} {w : World} {K : PySem.W.Frag} {mg : Str → Option Value} {base : Heap} {S : Addr} (D : DefAt K mg "cooked" s_cooked) (m_enumerate : mg "enumerate" = none) (m_len : mg "len" = none) (m_sorted : mg "sorted" = none) (m_tuple : mg "tuple" = none) (C_lines_of : Clb P w K mg base 1 "lines_of" ["larder"] spLinesOf) (C_used_by : ClbX P w K mg base 4 "used_by" ["dish", "lines"] (spUsedBy S)) : ClbX P w K mg base 5 "cooked" ["dishes", "larder"] (spCooked S) := by
  refine D.clbX sc_cooked (fun vs H Q E h => ?_) bd_cooked (fun f cdv A outer s H vs Q E hr h => ?_)
  · obtain ⟨u, v, ds, lar, rfl, _⟩ := h
    rfl
  · obtain ⟨u, v, ds, lar, rfl, ⟨da, dus, rfl, hda, hdh⟩, hlar, hdl, hd, hbig, hbat, q⟩ := h
    have encA := day_alike ds
    have encS := day_tup ds
    have encD := day_deep ds
    have encT := day_dp (K := K) ds
    refine ⟨_, (pss_cons (ps_set (i := 2) sc_cooked.nd rfl (.inl rfl) (pe_cal C_lines_of (hr.mono (by decide)) (pa_cons (pv 1) pa_nil)))
    (pss_cons (ps_set (i := 3) sc_cooked.nd rfl (.inl rfl) (pe_op op_rep (pe_lst (pa_cons (pe_tup pa_nil) pa_nil)) (pe_callB (kcall_len_seq K) (by rfl) m_len (by decide +kernel) (pa_cons (pv 0) pa_nil))))
    (pss_cons (ps_set (i := 4) sc_cooked.nd rfl (.inl rfl) (pe_callB (kcr_sortD K hr.units encA encS encD encT) (by rfl) m_sorted (by decide +kernel) (pa_cons (pe_lc (own := [("at", 5), ("day", 6), ("needs", 7)]) rfl sc_cooked.nd (kpi_enumT K (by rfl) m_enumerate (pa_cons (pv 0) pa_nil)) (blkOk_by (own := [("at", 5), ("day", 6), ("needs", 7)]) (N := ["dishes", "larder", "lines", "uses", "order", "at", "day", "needs", "_"]) (sc := defScope s_cooked) (by decide +kernel)) (fun _ _ _ _ _ => (kpg_tup K (n := 2) rfl (pgs_cons (pg_name (i := 5) sc_cooked.nd rfl (.inl rfl)) (pgs_cons (kpg_tup K (n := 2) rfl (pgs_cons (pg_name (i := 6) sc_cooked.nd rfl (.inl rfl)) (pgs_cons (pg_name (i := 7) sc_cooked.nd rfl (.inl rfl)) pgs_nil))) pgs_nil)))) (fun _ _ _ _ _ => pts_nil) (fun _ _ _ _ _ => (pe_tup (pa_cons (pv 6) (pa_cons (pv 5) pa_nil))))) pa_nil)))
    (pss_cons (ps_for (passes_of rfl) rfl (kpi_list K (pv 4)) (kpg_tup K (n := 2) rfl (pgs_cons (pg_name (i := 8) sc_cooked.nd rfl (.inl rfl)) (pgs_cons (pg_name (i := 5) sc_cooked.nd rfl (.inl rfl)) pgs_nil)))
      (pss_one (ps_asg (pe_calS C_used_by (hr.mono (by decide)) (takes_of rfl rfl rfl rfl) (pa_cons (pe_ix (kix_tup K) (pv 0) (pv 5) (fun _ _ => rfl)) (pa_cons (pv 2) pa_nil))) (pg_sub (pv 3) (pv 5) set_list))))
    (pss_one (ps_ret (pe_callTy (kcall_tuple_of K) (by rfl) m_tuple (by decide +kernel) (pa_cons (pv 3) pa_nil)))))))), ?_⟩
    have hbg : 16000000 < sizeLine := by decide
    have hdul := hdh.len
    have hd7 : ∀ d ∈ ds, 1 ≤ d.1 ∧ d.1 ≤ 7 := fun d h => ⟨(hd d h).2.1, (hd d h).2.2.1⟩
    have dsAt : ∀ k, k < ds.length → ds.getD k dz ∈ ds ∧ ds[k]? = some (ds.getD k dz) := fun k hk => by
      have e := List.getElem?_eq_getElem hk
      have e1 : ds.getD k dz = ds[k] := by rw [List.getD_eq_getElem?_getD, e]; rfl
      exact ⟨by rw [e1]; exact List.getElem_mem hk, by rw [e1]; exact e⟩
    refine ⟨_, rfl, v, lar, rfl, hlar, hbig, fun d kvs H1 Ks s1 hdn hfr hS => ?_⟩
    refine ⟨Nat.zero_le _, fun e he => ?_⟩
    have s2 := same_upd (o := .tup []) he
    refine ⟨small (by show 1 ≤ 100000; decide), fun r1 hr1 => ?_⟩
    have s3 := s2.new (o := .lst [V.ref e]) hr1
    refine ⟨_, rfl, da, dus, rfl, .inr (sqT ((s1.trans s3) _ _ hda)), ?_⟩
    refine ⟨r1, dus.length, _, rfl, rfl, upd_same, by omega, by omega, small (by show 1 * ((dus.length : Int)).toNat ≤ 100000; omega), fun pu hpu => ?_⟩
    have er : (List.replicate ((dus.length : Int)).toNat [V.ref e]).flatten = List.replicate ds.length (V.ref e) := by
      rw [show ((dus.length : Int)).toNat = ds.length by omega]
      generalize ds.length = n
      induction n with
      | zero => rfl
      | succ n ih => rw [List.replicate_succ, List.flatten_cons, ih, List.replicate_succ]; rfl
    rw [er]
    have s4 := s3.new (o := .lst (List.replicate ds.length (V.ref e))) hpu
    have hpu1 := same_none s3 hpu
    have he4 : (upd (upd (upd H1 e (.tup [])) r1 (.lst [V.ref e])) pu (.lst (List.replicate ds.length (V.ref e)))) e = some (.tup []) := by
      have h1 := same_upd (o := .lst [V.ref e]) hr1 e _ upd_same
      exact same_upd (o := .lst (List.replicate ds.length (V.ref e))) hpu e _ h1
    have hS4 := hS.keep s4
    have hpu4 : (upd (upd (upd H1 e (.tup [])) r1 (.lst [V.ref e])) pu (.lst (List.replicate ds.length (V.ref e)))) pu = some (.lst (List.replicate ds.length (V.ref e))) := upd_same
    have s14 := s1.trans s4
    have npu : ¬ LineOf kvs pu := fun z => by obtain ⟨vs, e⟩ := hS.lines.line z; rw [hpu1] at e; cases e
    generalize hH4 : upd (upd (upd H1 e (.tup [])) r1 (.lst [V.ref e])) pu (.lst (List.replicate ds.length (V.ref e))) = H4 at *
    refine ⟨_, rfl, da, _, rfl, sqT (s14 _ _ hda), ?_⟩
    refine fun Dl hDl => lc_rel walk_enumT (xs := List.range ds.length) (by rw [List.length_range]; omega) (f := fun k => some k) (R := DayAt ds) (DayAt.mono ds) hDl
      (fun H' s => (s14.trans s).seqT (sqT hda)) (by omega) (fun i w x H5 H6 Ky Kn hx sm hy h1 h2 => ?_) (fun H5 ys s5 hD' hys => ?_)
    · obtain ⟨rfl, hi⟩ := range_ix hx
      obtain ⟨T, y, z, rfl, hT, rfl, ey, ez⟩ := hy
      cases ey
      obtain ⟨_, hdx⟩ := dsAt x hi
      obtain ⟨t, nu, rfl, ht, _⟩ := hdh.all x _ _ ez hdx
      have st := same_upd (o := .tup [V.int (0 + (x : Nat)), V.ref t]) hT
      refine ⟨T, _, rfl, sqT upd_same, rfl, _, _, rfl, _, _, rfl, t, _, rfl, sqT (st _ _ (sm _ _ (s14 _ _ ht))), rfl, _, _, rfl, _, _, rfl, rfl, rfl, rfl, ?_⟩
      walk_at "rd"
      refine ⟨small (by show 2 ≤ 100000; decide), fun u2 hu2 => ?_⟩
      refine h1 _ _ _ rfl (st.new hu2) ⟨u2, rfl, ?_⟩
      rw [upd_same]
      have e0 : (0 : Int) + (x : Nat) = (x : Nat) := by omega
      rw [e0]
    rw [fm_some, List.map_id'] at hys
    refine ⟨Dl, ys, List.range ds.length, rfl, sqL hD', hys, by rw [List.length_range]; omega, fun po us hpo hus => ?_⟩
    replace hus : Held (DayAt ds) H5 us (orderL ds) := hus
    have hul := hus.len
    have s6 := s5.trans (same_upd (o := .lst us) hpo)
    have hS6 := hS4.keep s6
    have s16 := s14.trans s6
    have npo : ¬ LineOf kvs po := fun z => by obtain ⟨vs, e⟩ := (hS4.keep s5).lines.line z; rw [hpo] at e; cases e
    have nepo : pu ≠ po := fun z => by have := s5 _ _ hpu4; rw [z, hpo] at this; cases this
    have hpo6 : (upd H5 po (.lst us)) po = some (.lst us) := upd_same
    have hus6 : Held (DayAt ds) (upd H5 po (.lst us)) us (orderL ds) := hus.mono (DayAt.mono ds) (SameT.new hpo)
    generalize hH6 : upd H5 po (.lst us) = H6 at *
    have hpuH : H pu = none := same_none s1 hpu1
    have hnod : (orderL ds).Nodup := (List.mergeSort_perm _ _ : (orderL ds).Perm (List.range ds.length)).nodup_iff.mpr List.nodup_range
    refine ⟨_, rfl, po, rfl, ⟨_, sqL hpo6⟩, ?_⟩
    refine for_list (xs := us) (fun i σ H' => ∃ (y5 y6 y7 y8 : Option V) (s : CkS) (uvs : List V) (Ks : Str → List Nat) (day : Int), σ = [some (.ref da), some v, some (.ref d), some (.ref pu), some (.ref po), y5, y6, y7, y8] ∧ SameOff kvs (upd H6 pu (.lst [])) (upd H' pu (.lst [])) ∧ H' pu = some (.lst uvs) ∧ Held PairsAt H' uvs s.1 ∧ s.1.length = ds.length ∧
        Stacks H' d kvs lar s.2 day Ks ∧ s.2.length = lar.length ∧ foldE (useF lar ds) ((orderL ds).take i) (List.replicate ds.length [], lar.map (·.amount)) = Except.ok s ∧ (∀ k, k ∉ (orderL ds).take i → s.1.getD k [] = []) ∧ (∀ (j : Nat) (k : Nat), i ≤ j → (orderL ds)[j]? = some k → day ≤ dayK ds k) ∧ ∀ ps ∈ s.1, ps.length ≤ 4000)
      ⟨none, none, none, none, (List.replicate ds.length [], lar.map (·.amount)), List.replicate ds.length (V.ref e), Ks, 1, rfl, SameOff.refl _ _, s6 _ _ hpu4, ⟨by rw [List.length_replicate, List.length_replicate], fun j w x hw hx => ?_⟩, List.length_replicate, hS6, by rw [List.length_map], rfl, fun k _ => ?_, fun j k _ hk => ?_, fun ps hps => ?_⟩
      (fun i σ H' _ h => ?_) (fun i w σ H7 hw h => ?_) (fun σ H7 h => ?_)
    · rw [List.getElem?_replicate] at hw hx
      split at hw
      · rename_i hj
        rw [if_pos hj] at hx
        cases hw
        cases hx
        exact ⟨e, [], rfl, s6 _ _ he4, Held.nil⟩
      · cases hw
    · rw [List.getD_eq_getElem?_getD, List.getElem?_replicate]; split <;> rfl
    · have hk' := (order_mem ds k).mp (List.mem_of_getElem? hk)
      exact (hd7 _ (dsAt k hk').1).1
    · rw [(List.mem_replicate.mp hps).2]; exact Nat.zero_le _
    · obtain ⟨_, _, _, _, _, _, _, _, _, so, _⟩ := h
      have := so po _ npo (by rw [upd_ne (Ne.symm nepo)]; exact hpo6)
      rw [upd_ne (Ne.symm nepo)] at this
      exact sqL this
    · obtain ⟨y5, y6, y7, y8, s, uvs, Ks7, day, rfl, so, hpu7, huv, hsl, hS7, hl7, hfold, hemp, hday, hfew⟩ := h
      obtain ⟨k, hk, t, rfl, ht⟩ := hus6.get hw
      have hkn := (order_mem ds k).mp (List.mem_of_getElem? hk)
      obtain ⟨hkm, hkx⟩ := dsAt k hkn
      have hdk := hd _ hkm
      have huvl := huv.len
      -- tuples stand
      have stl : SameT H6 H7 := fun b xs hb => by
        have hbp : b ≠ pu := fun z => by have := s6 _ _ hpu4; rw [z, this] at hb; cases hb
        have h1 : ¬ LineOf kvs b := fun z => by obtain ⟨vs, e⟩ := hS6.lines.line z; rw [hb] at e; cases e
        have := so b _ h1 (by rw [upd_ne hbp]; exact hb)
        rwa [upd_ne hbp] at this
      refine ⟨t, _, rfl, sqT (stl _ _ ht), rfl, _, _, rfl, _, _, rfl, rfl, ?_⟩
      have hdt := List.getElem?_eq_getElem (show k < dus.length by omega)
      obtain ⟨dt, nv, hde, hdt1, hnv⟩ := hdh.all k _ _ hdt hkx
      rw [hde] at hdt
      refine ⟨_, rfl, _, rfl, da, _, _, _, rfl, rfl, sqT (stl _ _ (s16 _ _ hda)), at_of (j := k) rfl hdt, ?_⟩
      refine ⟨_, rfl, ?_⟩
      have hdd : day ≤ dayK ds k := hday i k (Nat.le_refl _) hk
      have hnk : k ∉ (orderL ds).take i := fun z => by
        obtain ⟨j, hj, e2⟩ := List.getElem_of_mem z
        rw [List.length_take] at hj
        rw [List.getElem_take] at e2
        obtain ⟨hi2, e3⟩ := List.getElem?_eq_some_iff.mp hk
        have := nodup_at hnod j i (by omega) hi2 (e2.trans e3.symm)
        omega
      have hek := hemp k hnk
      have hdish : DishAt H7 (.ref dt) (ds.getD k dz) := ⟨dt, nv, rfl, stl _ _ (s16 _ _ hdt1), TupAll.mono NeedAt.mono _ _ _ _ ((SameT.of s16).trans stl) hnv⟩
      refine ⟨.ref dt, d, kvs, ds.getD k dz, lar, s.2, Ks7, rfl, hdish, hS7.later hdd, hl7, hbig, hdk.1, hdk.2.2.2, fun H8 so8 => ⟨fun nm dd hfe hdd8 hx8 => ?_, fun ps left' v' Ks8 hfe hv8 hS8 hps => ?_⟩⟩
      · -- refused
        have hue : useF lar ds k s = Except.error nm := by
          unfold useF
          rw [hek, hfe]; rfl
        have hck : cookedM ds lar = Except.error nm := by
          unfold cookedM
          rw [cook_order hd7, foldE_err hfold hk hue]; rfl
        have sH8 : Same H H8 := fun b x hb => by
          have hbp : b ≠ pu := fun z => by rw [z, hpuH] at hb; cases hb
          have hbl : ¬ LineOf kvs b := fun z => by rw [hfr b z] at hb; cases hb
          have h1 := so b _ hbl (by rw [upd_ne hbp]; exact s16 _ _ hb)
          rw [upd_ne hbp] at h1
          exact so8 b x hbl h1
        refine (q H8 sH8).1 nm dd hck ?_ hx8
        cases e2 : H dd with
        | none => rfl
        | some x =>
          have hbp : dd ≠ pu := fun z => by rw [z, hpuH] at e2; cases e2
          have hbl : ¬ LineOf kvs dd := fun z => by rw [hfr dd z] at e2; cases e2
          have h1 := so dd _ hbl (by rw [upd_ne hbp]; exact s16 _ _ e2)
          rw [upd_ne hbp, hdd8] at h1
          cases h1
      · have hpu8 := so8 pu _ npu hpu7
        have st8 : SameT H7 H8 := hS7.lines.tup so8
        walk_at "rd"
        refine ⟨pu, _, _, k, rfl, rfl, hpu8, ixN_of rfl (by rw [huvl, hsl]; exact hkn), ?_⟩
        have stu := SameT.lst (o := .lst (uvs.set k v')) hpu8
        have hue : useF lar ds k s = Except.ok (s.1.set k ps, left') := by
          unfold useF
          rw [hek, hfe]; rfl
        have npd : d ≠ pu := fun z => by have := hS7.lines.dict; rw [z, hpu7] at this; cases this
        have hS9 : Stacks (upd H8 pu (.lst (uvs.set k v'))) d kvs lar left' (dayK ds k) Ks8 := by
          refine ⟨⟨by rw [upd_ne npd]; exact hS8.lines.dict, hS8.lines.nol, fun nm x h => ?_, hS8.lines.inj⟩, hS8.stack⟩
          obtain ⟨l', vs', e1, e2, e3⟩ := hS8.lines.lin nm x h
          subst e1
          refine ⟨l', vs', rfl, ?_, e3.mono EntAt.mono stu⟩
          rw [upd_ne (fun z => npu ⟨nm, by rw [← z]; exact h⟩)]
          exact e2
        have hl' : left'.length = lar.length := by
          have e2 := hS8
          exact (foldN_len _ _ _ hfe).trans hl7
        refine ⟨_, _, _, _, (s.1.set k ps, left'), uvs.set k v', Ks8, dayK ds k, rfl, ?_, upd_same, ?_, by rw [List.length_set]; exact hsl, hS9, hl', foldE_take hfold hk hue, fun j hj => ?_, fun j k2 hij hk2 => ?_, fun qs hqs => ?_⟩
        · intro b x nb hb
          by_cases z : b = pu
          · subst z
            rw [upd_same] at hb ⊢
            exact hb
          · rw [upd_ne z] at hb ⊢
            rw [upd_ne z]
            have h1 := so b x nb (by rw [upd_ne z]; exact hb)
            rw [upd_ne z] at h1
            exact so8 b x nb h1
        · exact ((huv.mono PairsAt.mono (st8.trans stu))).set (PairsAt.mono _ _ _ _ stu hv8)
        · rw [take_succ' hk] at hj
          have hj1 : j ∉ (orderL ds).take i := fun z => hj (List.mem_append_left _ z)
          have hj2 : j ≠ k := fun z => hj (List.mem_append_right _ (by rw [z]; exact List.mem_singleton.mpr rfl))
          show (s.1.set k ps).getD j [] = []
          rw [List.getD_eq_getElem?_getD, List.getElem?_set_ne (Ne.symm hj2), ← List.getD_eq_getElem?_getD]
          exact hemp j hj1
        · have hp2 := order_pair ds
          obtain ⟨i1, e1⟩ := List.getElem?_eq_some_iff.mp hk
          obtain ⟨j1, e3⟩ := List.getElem?_eq_some_iff.mp hk2
          have := List.pairwise_iff_getElem.mp hp2 i j i1 j1 (by omega)
          rw [e1, e3] at this
          unfold Ahead at this
          omega
        · replace hqs : qs ∈ s.1.set k ps := hqs
          rcases List.mem_or_eq_of_mem_set hqs with z | z
          · exact hfew qs z
          · rw [z]; exact hps
    · obtain ⟨y5, y6, y7, y8, s, uvs, Ks7, day, rfl, so, hpu7, huv, hsl, hS7, hl7, hfold, hemp, hday, hfew⟩ := h
      rw [hul, List.take_length] at hfold
      have hck : cookedM ds lar = Except.ok s.1 := by
        unfold cookedM
        rw [cook_order hd7, hfold]; rfl
      refine ⟨_, rfl, pu, _, rfl, .inl ⟨sqL hpu7, fun u2 hu2 => ?_⟩⟩
      have s9 := same_upd (o := .tup uvs) hu2
      have sH9 : Same H (upd H7 u2 (.tup uvs)) := fun b x hb => by
        have hbp : b ≠ pu := fun z => by rw [z, hpuH] at hb; cases hb
        have hbl : ¬ LineOf kvs b := fun z => by rw [hfr b z] at hb; cases hb
        have h1 := so b _ hbl (by rw [upd_ne hbp]; exact s16 _ _ hb)
        rw [upd_ne hbp] at h1
        exact s9 _ _ h1
      exact (q _ sH9).2 s.1 _ hck ⟨u2, uvs, rfl, upd_same, huv.mono PairsAt.mono (SameT.of s9)⟩ hsl (fun ps hps => by have := hfew ps hps; omega)
abbrev s_end_of : Stmt := topS 18
theorem sc_end_of : FnScope ["amount", "last", "used", "rest"] ["amount", "last", "used"] (defScope s_end_of) := ⟨rfl, rfl, rfl, by decide +kernel, rfl, by decide +kernel, by decide +kernel⟩
theorem bd_end_of : ∀ (kV doc pm : Value) (an : Option Addr) (cdv ct : Value) (us : List Value), us.length = (["amount", "last", "used"] : List Str).length → bindArgs (PySem.W.fnOf "end_of" "end_of" (defArgs s_end_of) (defBody s_end_of) (defScope s_end_of) .none kV doc pm an cdv ct) ⟨us, []⟩ = pure ((["amount", "last", "used"] : List Str).zip us) := fun _ _ _ _ _ _ us hl => match us, hl with | [_, _, _], _ => rfl
theorem ok_end_of {P : Program} {w : World} {K : PySem.W.Frag} {mg : Str → Option Value} {base : Heap} {tk : Tok} (D : DefAt K mg "end_of" s_end_of) (m_DAYS : mg "DAYS" = some (.int 7 tk)) : Clb P w K mg base 1 "end_of" ["amount", "last", "used"] spEndOf := by
  refine D.clb sc_end_of (fun vs H Q E h => ?_) bd_end_of (fun f cdv A outer s H vs Q E hr h => ?_)
  · obtain ⟨b, u, rfl, _⟩ := h
    rfl
  · obtain ⟨b, u, rfl, q⟩ := h
    refine ⟨_, (pss_cons (ps_set (i := 3) sc_end_of.nd rfl (.inl rfl) (pe_op op_sub (pv 0) (pv 2)))
    (pss_one (ps_ret (pe_ifExp (pt_cmpR op_lt (pv 1) (pe_glob (v := .int 7) (by rfl) m_DAYS ⟨_, rfl⟩) (nomark _)) (pe_tup (pa_cons (pv 2) (pa_cons (pv 3) (pa_cons pe_int pa_nil)))) (pe_tup (pa_cons (pv 2) (pa_cons pe_int (pa_cons (pv 3) pa_nil)))))))), ?_⟩
    walk_at "rd"
    unfold endOf at q
    refine it_lt (fun e => ?_) (fun e => ?_)
    · rw [if_pos e] at q
      walk_at "rd"
      refine ⟨small (by show 3 ≤ 100000; decide), fun p hp => ?_⟩
      exact q _ _ (same_upd hp) ⟨p, rfl, upd_same⟩
    · rw [if_neg e] at q
      walk_at "rd"
      refine ⟨small (by show 3 ≤ 100000; decide), fun p hp => ?_⟩
      exact q _ _ (same_upd hp) ⟨p, rfl, upd_same⟩
abbrev s_sums_of : Stmt := topS 17
theorem sc_sums_of : FnScope ["uses", "sums", "pairs", "batch", "amount"] ["uses"] (defScope s_sums_of) := ⟨rfl, rfl, rfl, by decide +kernel, rfl, by decide +kernel, by decide +kernel⟩
theorem bd_sums_of : ∀ (kV doc pm : Value) (an : Option Addr) (cdv ct : Value) (us : List Value), us.length = (["uses"] : List Str).length → bindArgs (PySem.W.fnOf "sums_of" "sums_of" (defArgs s_sums_of) (defBody s_sums_of) (defScope s_sums_of) .none kV doc pm an cdv ct) ⟨us, []⟩ = pure ((["uses"] : List Str).zip us) := fun _ _ _ _ _ _ us hl => match us, hl with | [_], _ => rfl
theorem ok_sums_of {P : Program} {w : World} {K : PySem.W.Frag} {mg : Str → Option Value} {base : Heap} (D : DefAt K mg "sums_of" s_sums_of) : Clb P w K mg base 1 "sums_of" ["uses"] spSumsOf := by
  refine D.clb sc_sums_of (fun vs H Q E h => ?_) bd_sums_of (fun f cdv A outer s H vs Q E hr h => ?_)
  · obtain ⟨v, us, n, rfl, _⟩ := h
    rfl
  · obtain ⟨v, us, n, rfl, ⟨a, vs, rfl, ha, hh⟩, hl, hn, hp, q⟩ := h
    refine ⟨_, (pss_cons (ps_set (i := 1) sc_sums_of.nd rfl (.inl rfl) pe_dnewK)
    (pss_cons (ps_for PassesOwn.never rfl (kpi_tup K (pv 0)) (pg_name (i := 2) sc_sums_of.nd rfl (.inl rfl))
      (pss_one (ps_for PassesOwn.never rfl (kpi_tup K (pv 2)) (kpg_tup K (n := 2) rfl (pgs_cons (pg_name (i := 3) sc_sums_of.nd rfl (.inl rfl)) (pgs_cons (pg_name (i := 4) sc_sums_of.nd rfl (.inl rfl)) pgs_nil)))
      (pss_one (ps_dput (hu_of hr) (pv 1) (pv 3) (pe_op op_add (pe_dget2 (hu_of hr) (pv 1) (pv 3) pe_int ⟨rfl, rfl, rfl, rfl⟩) (pv 4)) rfl)))))
    (pss_one (ps_ret (pv 1))))), ?_⟩
    intro d hd
    have s0 := same_upd (o := .dK []) hd
    refine ⟨_, rfl, a, rfl, ⟨_, sqT (s0 _ _ ha)⟩, ?_⟩
    refine for_tup (xs := vs) (fun i σ H' => ∃ (y2 y3 y4 : Option V) (kvs : List (L2.Key × V)), σ = [some (.ref a), some (.ref d), y2, y3, y4] ∧ Same H H' ∧ H' d = some (.dK kvs) ∧ Tally kvs n (usedOf (us.take i)))
      ⟨none, none, none, [], rfl, s0, upd_same, Tally.nil⟩ (fun i σ H' _ h => by obtain ⟨_, _, _, _, _, sm, _⟩ := h; exact sm.seqT (sqT ha)) (fun i w σ H1 hw h => ?_) (fun σ H1 h => ?_)
    · obtain ⟨y2, y3, y4, kvs, rfl, sm, hdk, T⟩ := h
      obtain ⟨ps, hps, pa, pvs, rfl, hpa, hph⟩ := hh.get hw
      obtain ⟨pl, pb⟩ := hp ps (List.mem_of_getElem? hps)
      have hpl := hph.len
      refine ⟨_, rfl, pa, rfl, ⟨_, sqT (sm _ _ hpa)⟩, ?_⟩
      refine for_tup (xs := pvs) (fun j σ H' => ∃ (y3 y4 : Option V) (kvs : List (L2.Key × V)), σ = [some (.ref a), some (.ref d), some (.ref pa), y3, y4] ∧ Same H H' ∧ H' d = some (.dK kvs) ∧ Tally kvs n (fun k => usedOf (us.take i) k + usedP (ps.take j) k))
        ⟨y3, y4, kvs, rfl, sm, hdk, T.keys, fun k => by rw [T.val k]; show V.int _ = V.int (_ + 0); rw [Int.add_zero]⟩ (fun j σ H' _ h => by obtain ⟨_, _, _, _, sm, _⟩ := h; exact sm.seqT (sqT hpa)) (fun j w σ H2 hw h => ?_) (fun σ H2 h => ?_)
      · obtain ⟨y3, y4, kvs, rfl, sm, hdk, T⟩ := h
        obtain ⟨p, hpp, t, rfl, ht⟩ := hph.get hw
        have hpn := pb p (List.mem_of_getElem? hpp)
        refine ⟨t, _, rfl, sqT (sm _ _ ht), rfl, _, _, rfl, _, _, rfl, rfl, ?_⟩
        refine ⟨_, rfl, d, rfl, .inl ⟨kvs, .inl hdk⟩, _, rfl, _, DGet.k (k := kI p.1) hdk, ?_⟩
        rw [T.val p.1]
        refine ⟨_, rfl, _, _, rfl, rfl, ?_⟩
        refine ⟨_, rfl, _, rfl, d, _, rfl, DPut.k (k := kI p.1) hdk (small' (by have := T.len; omega)), ?_⟩
        refine ⟨_, _, _, rfl, sm.mut hd, upd_same, T.put hpn ?_ fun k hk => ?_⟩
        · rw [take_succ' hpp, usedP_snoc, if_pos rfl]; omega
        · rw [take_succ' hpp, usedP_snoc, if_neg (fun z => hk z.symm)]; omega
      · obtain ⟨y3, y4, kvs, rfl, sm, hdk, T⟩ := h
        refine ⟨_, y3, y4, kvs, rfl, sm, hdk, T.keys, fun k => ?_⟩
        rw [T.val k, take_succ' hps, usedOf_snoc, hpl, List.take_length]
    · obtain ⟨y2, y3, y4, kvs, rfl, sm, hdk, T⟩ := h
      rw [hh.len, List.take_length] at T
      exact ⟨_, rfl, q d kvs H1 sm hdk T⟩
abbrev s_ends : Stmt := topS 16
theorem sc_ends : FnScope ["larder", "uses", "sums", "batch", "name", "amount", "last"] ["larder", "uses"] (defScope s_ends) := ⟨rfl, rfl, rfl, by decide +kernel, rfl, by decide +kernel, by decide +kernel⟩
theorem bd_ends : ∀ (kV doc pm : Value) (an : Option Addr) (cdv ct : Value) (us : List Value), us.length = (["larder", "uses"] : List Str).length → bindArgs (PySem.W.fnOf "ends" "ends" (defArgs s_ends) (defBody s_ends) (defScope s_ends) .none kV doc pm an cdv ct) ⟨us, []⟩ = pure ((["larder", "uses"] : List Str).zip us) := fun _ _ _ _ _ _ us hl => match us, hl with | [_, _], _ => rfl
theorem ok_ends {P : Program} {w : World} {K : PySem.W.Frag} {mg : Str → Option Value} {base : Heap} (D : DefAt K mg "ends" s_ends) (m_enumerate : mg "enumerate" = none) (m_tuple : mg "tuple" = none) (C_sums_of : Clb P w K mg base 1 "sums_of" ["uses"] spSumsOf) (C_end_of : Clb P w K mg base 1 "end_of" ["amount", "last", "used"] spEndOf) : Clb P w K mg base 2 "ends" ["larder", "uses"] spEnds := by
  refine D.clb sc_ends (fun vs H Q E h => ?_) bd_ends (fun f cdv A outer s H vs Q E hr h => ?_)
  · obtain ⟨v, u, lar, us, rfl, _⟩ := h
    rfl
  · obtain ⟨v, u, lar, us, rfl, ⟨a, vs, rfl, ha, hh⟩, hu, hl, hul, hp, hle, q⟩ := h
    refine ⟨_, (pss_cons (ps_set (i := 2) sc_ends.nd rfl (.inr rfl) (pe_cal C_sums_of (hr.mono (by decide)) (pa_cons (pv 1) pa_nil)))
    (pss_one (ps_ret (pe_callTy (kcall_tuple_of K) (by rfl) m_tuple (by decide +kernel) (pa_cons (pe_lc (own := [("batch", 3), ("name", 4), ("amount", 5), ("last", 6)]) rfl sc_ends.nd (kpi_enumT K (by rfl) m_enumerate (pa_cons (pv 0) pa_nil)) (blkOk_by (own := [("batch", 3), ("name", 4), ("amount", 5), ("last", 6)]) (N := ["larder", "uses", "sums", "batch", "name", "amount", "last"]) (sc := defScope s_ends) (by decide +kernel)) (fun _ _ _ _ _ => (kpg_tup K (n := 2) rfl (pgs_cons (pg_name (i := 3) sc_ends.nd rfl (.inl rfl)) (pgs_cons (kpg_tup K (n := 3) rfl (pgs_cons (pg_name (i := 4) sc_ends.nd rfl (.inl rfl)) (pgs_cons (pg_name (i := 5) sc_ends.nd rfl (.inl rfl)) (pgs_cons (pg_name (i := 6) sc_ends.nd rfl (.inl rfl)) pgs_nil)))) pgs_nil)))) (fun _ _ _ _ _ => pts_nil) (fun _ _ _ _ _ => (pe_cal C_end_of (hr.mono (by decide)) (pa_cons (pv 5) (pa_cons (pv 6) (pa_cons (pe_dget2 (hu_of hr) (pv 2) (pv 3) pe_int ⟨rfl, rfl, rfl, rfl⟩) pa_nil)))))) pa_nil))))), ?_⟩
    have hvl := hh.len
    refine ⟨_, rfl, u, us, lar.length, rfl, hu, hul, hl, fun ps h => ⟨(hp ps h).1, fun p hpp => ((hp ps h).2 p hpp).1⟩, fun d kvs H1 s1 hd T => ?_⟩
    refine ⟨_, rfl, a, _, rfl, sqT (s1 _ _ ha), ?_⟩
    refine fun D hD => lc_rel walk_enumT (xs := List.range lar.length) (by rw [List.length_range]; omega) (f := fun k => some (endOf (lar.getD k bz) (usedOf us k))) (R := IntsT) IntsT.mono hD
      (fun H' s => (s1.trans s).seqT (sqT ha)) (by omega) (fun i v x H2 H3 Ky Kn hx sm hy h1 h2 => ?_) (fun H' ys sm hD' hd' => ?_)
    · obtain ⟨rfl, hi⟩ := range_ix hx
      obtain ⟨T2, y, z, rfl, hT, rfl, ey, ez⟩ := hy
      cases ey
      have ho := List.getElem?_eq_getElem hi
      have eo : lar.getD x bz = lar[x] := by rw [List.getD_eq_getElem?_getD, ho]; rfl
      rw [eo] at h1
      obtain ⟨t, rfl, ht⟩ := hh.all x _ _ ez ho
      have st := same_upd (o := .tup [V.int (0 + (x : Nat)), V.ref t]) hT
      refine ⟨T2, _, rfl, sqT upd_same, rfl, _, _, rfl, _, _, rfl, t, _, rfl, sqT (st _ _ (sm _ _ (s1 _ _ ht))), rfl, _, _, rfl, _, _, rfl, _, _, rfl, rfl, rfl, rfl, ?_⟩
      have hd2 := st _ _ (sm _ _ hd)
      have hget : DGet (upd H2 T2 (HO.tup [V.int (0 + (x : Nat)), V.ref t])) d (V.int (0 + (x : Nat))) (valV kvs (kI x)) := by
        have e0 : (0 : Int) + (x : Nat) = (x : Nat) := by omega
        rw [e0] at hd2 ⊢
        exact DGet.k (k := kI x) hd2
      refine ⟨_, rfl, _, rfl, _, rfl, d, rfl, .inl ⟨kvs, .inl hd2⟩, _, rfl, valV kvs (kI x), hget, ?_⟩
      rw [T.val x]
      refine ⟨lar[x], _, rfl, fun v' H' s' hv' => ?_⟩
      exact h1 _ _ _ rfl (st.trans s') hv'
    · rw [fm_some] at hd'
      refine ⟨D, _, rfl, .inl ⟨sqL hD', fun p hp => ?_⟩⟩
      exact q _ _ ((s1.trans sm).new hp) ⟨p, ys, rfl, upd_same, hd'.mono IntsT.mono (SameT.new hp)⟩
abbrev s_stocked : Stmt := topS 36
theorem sc_stocked : FnScope ["larder", "packs", "counts", "batches", "name", "amount", "last", "size", "price", "count"] ["larder", "packs", "counts"] (defScope s_stocked) := ⟨rfl, rfl, rfl, by decide +kernel, rfl, by decide +kernel, by decide +kernel⟩
theorem bd_stocked : ∀ (kV doc pm : Value) (an : Option Addr) (cdv ct : Value) (us : List Value), us.length = (["larder", "packs", "counts"] : List Str).length → bindArgs (PySem.W.fnOf "stocked" "stocked" (defArgs s_stocked) (defBody s_stocked) (defScope s_stocked) .none kV doc pm an cdv ct) ⟨us, []⟩ = pure ((["larder", "packs", "counts"] : List Str).zip us) := fun _ _ _ _ _ _ us hl => match us, hl with | [_, _, _], _ => rfl
theorem ok_stocked {P : Program} {w : World} {K : PySem.W.Frag} {mg : Str → Option Value} {base : Heap} (D : DefAt K mg "stocked" s_stocked) (m_zip : mg "zip" = none) (m_tuple : mg "tuple" = none) : Clb P w K mg base 1 "stocked" ["larder", "packs", "counts"] spStocked := by
  refine D.clb sc_stocked (fun vs H Q E h => ?_) bd_stocked (fun f cdv A outer s H vs Q E hr h => ?_)
  · obtain ⟨u, v, b, lar, ps, cs, rfl, _⟩ := h
    rfl
  · obtain ⟨u, v, b, lar, ps, cs, rfl, ⟨la, lus, rfl, hla, hlh⟩, ⟨pa, pus, rfl, hpa, hph⟩, hb, hl, hz, hg, hc, hbig, q⟩ := h
    refine ⟨_, (pss_cons (ps_setLc (i := 3) (own := [("name", 4), ("amount", 5), ("last", 6)])   rfl sc_stocked.nd rfl rfl (sw_true rfl rfl rfl (by decide +kernel)) (kpi_tup K (pv 0)) (blkOk_by (own := [("name", 4), ("amount", 5), ("last", 6)]) (N := ["larder", "packs", "counts", "batches", "name", "amount", "last", "size", "price", "count"]) (sc := defScope s_stocked) (by decide +kernel)) (fun _ _ _ _ _ => (kpg_tup K (n := 3) rfl (pgs_cons (pg_name (i := 4) sc_stocked.nd rfl (.inl rfl)) (pgs_cons (pg_name (i := 5) sc_stocked.nd rfl (.inl rfl)) (pgs_cons (pg_name (i := 6) sc_stocked.nd rfl (.inl rfl)) pgs_nil))))) (fun _ _ _ _ _ => pts_nil) (fun _ _ _ _ _ => (pe_tup (pa_cons (pv 4) (pa_cons (pv 5) (pa_cons (pv 6) pa_nil))))))
    (pss_cons (ps_for PassesOwn.never rfl (kpi_zipA K (by rfl) m_zip (pa_cons (pv 1) (pa_cons (pv 2) pa_nil))) (kpg_tup K (n := 2) rfl (pgs_cons (kpg_tup K (n := 4) rfl (pgs_cons (pg_name (i := 4) sc_stocked.nd rfl (.inl rfl)) (pgs_cons (pg_name (i := 7) sc_stocked.nd rfl (.inl rfl)) (pgs_cons (pg_name (i := 8) sc_stocked.nd rfl (.inl rfl)) (pgs_cons (pg_name (i := 6) sc_stocked.nd rfl (.inl rfl)) pgs_nil))))) (pgs_cons (pg_name (i := 9) sc_stocked.nd rfl (.inl rfl)) pgs_nil)))
      (pss_one (ps_expr (kpe_bm K PySem.F.plainAttrs_list PySem.F.slot_list_extend PySem.F.type_list_extend mt_extend (pv 3) (pa_cons (pe_op op_rep (pe_lst (pa_cons (pe_tup (pa_cons (pv 4) (pa_cons (pv 7) (pa_cons (pv 6) pa_nil)))) pa_nil)) (pv 9)) pa_nil)))))
    (pss_one (ps_ret (pe_callTy (kcall_tuple_of K) (by rfl) m_tuple (by decide +kernel) (pa_cons (pv 3) pa_nil)))))), ?_⟩
    have hll := hlh.len
    have hpl := hph.len
    have hbg : 16000000 ≤ sizeLine := by decide
    refine ⟨_, rfl, la, rfl, ⟨_, sqT hla⟩, ?_⟩
    refine fun D hD => lc_relB (walk_tup (xs := lus)) (xs := lar) hll.symm (f := fun b => some b) (R := BatchAt) BatchAt.mono hD (fun H' s => s.seqT (sqT hla)) (by omega) (fun i v x H1 H2 Ky Kn hx sm hy h1 h2 => ?_) (fun H1 ys s1 hD' hd => ?_)
    · obtain ⟨rfl, hv⟩ := hy
      obtain ⟨t, rfl, ht⟩ := hlh.all i v x hv hx
      refine ⟨t, _, rfl, sqT (sm _ _ ht), rfl, _, _, rfl, _, _, rfl, _, _, rfl, rfl, rfl, ?_⟩
      walk_at "rd"
      refine ⟨small (by show 3 ≤ 100000; decide), fun u hu => ?_⟩
      exact h1 _ _ _ rfl (same_upd hu) ⟨u, rfl, upd_same⟩
    rw [fm_some, List.map_id'] at hd
    have hzl : (ps.zip cs).length = pus.length := by rw [zip_len hl]; omega
    have hcl : pus.length = (cs.map V.int).length := by rw [List.length_map]; omega
    refine ⟨_, rfl, _, rfl, pa, b, pus, cs.map V.int, rfl, .inr ⟨sqT (s1 _ _ hpa), sqT (s1 _ _ hb), ?_⟩⟩
    refine RZ.for_zipT hcl (fun i σ H' => ∃ (y4 y5 y6 y7 y8 y9 : Option V) (ys : List V), σ = [some (.ref la), some (.ref pa), some (.ref b), some (.ref D), y4, y5, y6, y7, y8, y9] ∧ Same H H' ∧ H' D = some (.lst ys) ∧ Held BatchAt H' ys (lar ++ stockZ ((ps.zip cs).take i)))
      ⟨_, _, _, _, _, _, ys, rfl, s1, hD', by simpa [stockZ] using hd⟩ (fun i σ H' h => by obtain ⟨_, _, _, _, _, _, _, _, sm, _⟩ := h; exact ⟨sm.seqT (sqT hpa), sm.seqT (sqT hb)⟩) (fun i x y T σ H2 hx hy h hT => ?_) (fun σ H2 h => ?_)
    · obtain ⟨y4, y5, y6, y7, y8, y9, ys, rfl, sm, hD2, hd2⟩ := h
      have hip : i < ps.length := by rw [← hpl]; exact (List.getElem?_eq_some_iff.mp hx).1
      have hpx := List.getElem?_eq_getElem hip
      have hcx := List.getElem?_eq_getElem (show i < cs.length by omega)
      obtain ⟨t, rfl, ht⟩ := hph.all i _ _ hx hpx
      have e2 := Option.some.inj ((ix_map (f := V.int) hcx).symm.trans hy)
      subst e2
      have st := same_upd (o := .tup [V.ref t, V.int cs[i]]) hT
      have c0 := hc _ (List.getElem_mem (show i < cs.length by omega))
      have ez := zip_ix hpx hcx
      have hstk : stockZ ((ps.zip cs).take (i + 1)) = stockZ ((ps.zip cs).take i) ++ List.replicate cs[i].toNat (batchOf ps[i]) := by rw [take_succ' ez, stockZ_snoc]
      have hsz : lar.length + (stockZ ((ps.zip cs).take (i + 1))).length ≤ 16000000 := by
        have : (stockZ ((ps.zip cs).take (i + 1))).length ≤ sumC cs := stockZ_le ps cs (i + 1)
        omega
      rw [hstk, List.length_append, List.length_replicate] at hsz
      have hdl := hd2.len
      rw [List.length_append] at hdl
      refine ⟨T, _, rfl, sqT upd_same, rfl, _, _, rfl, t, _, rfl, sqT (st _ _ (sm _ _ ht)), rfl, _, _, rfl, _, _, rfl, _, _, rfl, _, _, rfl, rfl, _, _, rfl, rfl, ?_⟩
      have hD3 := st _ _ hD2
      refine ⟨_, rfl, .inl ⟨rfl, _, sqL hD3⟩, ?_⟩
      refine ⟨_, rfl, _, rfl, _, rfl, small (by show 3 ≤ 100000; decide), fun u hu => ?_⟩
      have s4 := st.new (o := .tup [V.str ps[i].name, V.int ps[i].size, V.int ps[i].last]) hu
      refine ⟨small (by show 1 ≤ 100000; decide), fun l1 hl1 => ?_⟩
      have s5 := s4.new (o := .lst [V.ref u]) hl1
      refine ⟨_, rfl, l1, cs[i], _, rfl, rfl, upd_same, by omega, by omega, by show 1 * cs[i].toNat ≤ sizeLine; omega, fun l2 hl2 => ?_⟩
      have s6 := s5.new (o := .lst (List.replicate cs[i].toNat [V.ref u]).flatten) hl2
      have er : (List.replicate cs[i].toNat [V.ref u]).flatten = List.replicate cs[i].toNat (V.ref u) := by
        generalize cs[i].toNat = n
        induction n with
        | zero => rfl
        | succ n ih => rw [List.replicate_succ, List.flatten_cons, ih, List.replicate_succ]; rfl
      rw [er] at s6 ⊢
      have hu6 : (upd (upd (upd (upd H2 T (.tup [V.ref t, V.int cs[i]])) u (.tup [V.str ps[i].name, V.int ps[i].size, V.int ps[i].last])) l1 (.lst [V.ref u])) l2 (.lst (List.replicate cs[i].toNat (V.ref u)))) u = some (.tup [V.str ps[i].name, V.int ps[i].size, V.int ps[i].last]) := by
        have h1 := same_upd (o := .lst [V.ref u]) hl1 u _ upd_same
        exact same_upd (o := .lst (List.replicate cs[i].toNat (V.ref u))) hl2 u _ h1
      have hD6 := s6 _ _ hD2
      refine ⟨D, l2, _, _, rfl, rfl, hD6, upd_same, by rw [List.length_replicate]; omega, ?_⟩
      refine ⟨_, _, _, _, _, _, _, rfl, (sm.trans s6).mut hD, upd_same, ?_⟩
      rw [hstk, ← List.append_assoc]
      have stl := SameT.lst (o := .lst (ys ++ List.replicate cs[i].toNat (V.ref u))) hD6
      refine held_app ((hd2.mono BatchAt.mono (SameT.of s6)).mono BatchAt.mono stl) ⟨by rw [List.length_replicate, List.length_replicate], fun j w x hw hx => ?_⟩
      rw [List.getElem?_replicate] at hw hx
      split at hw
      · rename_i hj
        rw [if_pos hj] at hx
        cases hw
        cases hx
        exact ⟨u, rfl, stl _ _ hu6⟩
      · cases hw
    · obtain ⟨y4, y5, y6, y7, y8, y9, ys, rfl, sm, hD2, hd2⟩ := h
      rw [← hzl, List.take_length] at hd2
      refine ⟨_, rfl, D, _, rfl, .inl ⟨sqL hD2, fun p hp => ?_⟩⟩
      exact q _ _ (sm.new hp) ⟨p, ys, rfl, upd_same, hd2.mono BatchAt.mono (SameT.new hp)⟩
abbrev s_week : Stmt := topS 37
theorem sc_week : FnScope ["dishes", "larder", "packs", "counts", "store", "uses"] ["dishes", "larder", "packs"] (defScope s_week) := ⟨rfl, rfl, rfl, by decide +kernel, rfl, by decide +kernel, by decide +kernel⟩
theorem bd_week : ∀ (kV doc pm : Value) (an : Option Addr) (cdv ct : Value) (us : List Value), us.length = (["dishes", "larder", "packs"] : List Str).length → bindArgs (PySem.W.fnOf "week" "week" (defArgs s_week) (defBody s_week) (defScope s_week) .none kV doc pm an cdv ct) ⟨us, []⟩ = pure ((["dishes", "larder", "packs"] : List Str).zip us) := fun _ _ _ _ _ _ us hl => match us, hl with | [_, _, _], _ => rfl
theorem ok_week {P : Program} {w : World} {K : PySem.W.Frag} {mg : Str → Option Value} {base : Heap} {S T : Addr} (D : DefAt K mg "week" s_week) (C_shopped : ClbX P w K mg base 6 "shopped" ["dishes", "larder", "packs"] (spShopped S T)) (C_stocked : Clb P w K mg base 1 "stocked" ["larder", "packs", "counts"] spStocked) (C_cooked : ClbX P w K mg base 5 "cooked" ["dishes", "larder"] (spCooked S)) (C_ends : Clb P w K mg base 2 "ends" ["larder", "uses"] spEnds) : ClbX P w K mg base 7 "week" ["dishes", "larder", "packs"] (spWeek S T) := by
  refine D.clbX sc_week (fun vs H Q E h => ?_) bd_week (fun f cdv A outer s H vs Q E hr h => ?_)
  · obtain ⟨u, v, w, ds, lar, ps, rfl, _⟩ := h
    rfl
  · obtain ⟨u, v, w, ds, lar, ps, rfl, hds, hlar, hps, F, pl, pf, q⟩ := h
    refine ⟨_, (pss_cons (ps_set (i := 3) sc_week.nd rfl (.inl rfl) (pe_calS C_shopped (hr.mono (by decide)) (takes_of rfl rfl rfl rfl) (pa_cons (pv 0) (pa_cons (pv 1) (pa_cons (pv 2) pa_nil)))))
    (pss_cons (ps_set (i := 4) sc_week.nd rfl (.inl rfl) (pe_cal C_stocked (hr.mono (by decide)) (pa_cons (pv 1) (pa_cons (pv 2) (pa_cons (pv 3) pa_nil)))))
    (pss_cons (ps_set (i := 5) sc_week.nd rfl (.inl rfl) (pe_calS C_cooked (hr.mono (by decide)) (takes_of rfl rfl rfl rfl) (pa_cons (pv 0) (pa_cons (pv 4) pa_nil))))
    (pss_one (ps_ret (pe_tup (pa_cons (pv 3) (pa_cons (pv 4) (pa_cons (pv 5) (pa_cons (pe_cal C_ends (hr.mono (by decide)) (pa_cons (pv 4) (pa_cons (pv 5) pa_nil))) pa_nil)))))))))), ?_⟩
    refine ⟨_, rfl, _, rfl, _, rfl, u, v, w, ds, lar, ps, rfl, hds, hlar, hps, F, pl, pf, fun ys H1 s1 hperm hsort => ⟨fun nm d hb h0 h1 => (q ys H1 s1 hperm hsort).1 nm d hb h0 h1, fun nm d hb h0 h1 => (q ys H1 s1 hperm hsort).2.1 nm d hb h0 h1, fun cp cs hb SA hcp => ?_⟩⟩
    have yl : ys.length < 64 := by rw [hperm.length_eq]; exact F.names
    have few := SA.few
    have few2 : sumC cs ≤ 14080 := by have : ys.length * 220 ≤ 64 * 220 := Nat.mul_le_mul_right _ (by omega); omega
    have ll := F.ll
    have sl := stock_few (lar := lar) SA.len.symm
    have sf := stock_fine (cs := cs) F.bat pf
    refine ⟨_, rfl, _, rfl, _, rfl, v, w, cp, lar, ps, cs, rfl, LarderAt.mono _ _ _ _ (SameT.of s1) hlar, PacksAt.mono _ _ _ _ (SameT.of s1) hps, hcp, SA.len.symm, by omega, pf, SA.nn, by omega, fun sv H2 s2 hsv => ?_⟩
    have s12 := s1.trans s2
    refine ⟨_, rfl, _, rfl, u, sv, ds, _, rfl, DishesAt.mono _ _ _ _ (SameT.of s12) hds, hsv, by have := F.dl; omega, fun d hd => ⟨F.dn d hd, (F.day d hd).1, (F.day d hd).2, F.need d hd⟩, by omega, sf, fun H3 s3 => ⟨fun nm d hc _ _ => absurd hc (shop_cooks F pf hperm hb SA), fun us uv hc huv hul _ => ?_⟩⟩
    obtain ⟨_, fits, lefts⟩ := cook_fits F.day F.need (fun b hbm => by have := sf b hbm; omega) hc
    have s13 := s12.trans s3
    refine ⟨_, rfl, _, rfl, _, rfl, _, rfl, _, rfl, sv, uv, _, us, rfl, LarderAt.mono _ _ _ _ (SameT.of s3) hsv, huv, by omega, by have := F.dl; omega, fun qs hq => ?_, fun k hk => by have := lefts k hk; omega, fun ev H4 s4 hev => ?_⟩
    · obtain ⟨i, hi, e⟩ := List.getElem_of_mem hq
      have hi' : i < ds.length := by rw [← hul]; exact hi
      have ft := fits i hi'
      rw [List.getD_eq_getElem?_getD (l := us), List.getElem?_eq_getElem hi] at ft
      have ft' : FitsD (stockL lar ps cs) (ds.getD i dz) qs := by rw [← e]; exact ft
      have dm : ds.getD i dz ∈ ds := by rw [List.getD_eq_getElem?_getD, List.getElem?_eq_getElem hi']; exact List.getElem_mem hi'
      have n20 := F.dn _ dm
      have f := ft'.few
      have : (ds.getD i dz).2.length * 200 ≤ 20 * 200 := Nat.mul_le_mul_right _ n20
      exact ⟨by omega, fun p hp => ⟨(ft'.each p hp).1, (ft'.each p hp).2.1⟩⟩
    · refine ⟨small (by show 4 ≤ 100000; decide), fun p hp => ?_⟩
      have s14 := s13.trans s4
      have s5 := s14.new (o := .tup [V.ref cp, sv, uv, ev]) hp
      have n4 := same_upd (o := .tup [V.ref cp, sv, uv, ev]) hp
      refine (q ys _ s5 hperm hsort).2.2 p cp cs sv uv us ev hb SA (n4 _ _ (s4 _ _ (s3 _ _ (s2 _ _ hcp)))) (LarderAt.mono _ _ _ _ (SameT.of ((s3.trans s4).trans n4)) hsv) hc (UsesAt.mono _ _ _ _ (SameT.of (s4.trans n4)) huv) (TupAll.mono IntsT.mono _ _ _ _ (SameT.of n4) hev) (same_none s14 hp) upd_same
abbrev s_kinds : Stmt := topS 57
theorem sc_kinds : FnScope ["_law_e"] ["_law_e"] (defScope s_kinds) := ⟨rfl, rfl, rfl, by decide +kernel, rfl, by decide +kernel, by decide +kernel⟩
theorem bd_kinds : ∀ (kV doc pm : Value) (an : Option Addr) (cdv ct : Value) (us : List Value), us.length = (["_law_e"] : List Str).length → bindArgs (PySem.W.fnOf "_law_kinds" "_law_kinds" (defArgs s_kinds) (defBody s_kinds) (defScope s_kinds) .none kV doc pm an cdv ct) ⟨us, []⟩ = pure ((["_law_e"] : List Str).zip us) := fun _ _ _ _ _ _ us hl => match us, hl with | [_], _ => rfl
abbrev kindsV (b : Bool) (nm : Str) : HO := .lst (dueV (some (b, nm)))
def spKinds (S T : Addr) : SpE := fun a cls d vs H Q _ => ∃ (dd : Addr) (nm : Str) (b : Bool), vs = [.ref a] ∧ d = some dd ∧ H dd = some (wordX nm) ∧ cls = (if b = true then .ref T else .ref S) ∧ ∀ p H', H p = none → Same H H' → H' p = some (kindsV b nm) → Q (.ref p) H'
theorem ok_kinds {P : Program} {w : World} {K : PySem.W.Frag} {mg : Str → Option Value} {base : Heap} {L S T : Addr} (D : DefAt K mg "_law_kinds" s_kinds) (ER : ErrAt K mg L S T) (m_isinstance : mg "isinstance" = none) (m_ValueError : mg "ValueError" = none) : ClbE P w K mg base 1 "_law_kinds" ["_law_e"] (spKinds S T) := by
  refine D.clbE sc_kinds (fun a c d vs H Q E h => ?_) bd_kinds (fun f cdv A outer s H vs Q E p cls d hz hf h => ?_)
  · obtain ⟨dd, nm, b, rfl, _⟩ := h
    rfl
  · obtain ⟨dd, nm, b, rfl, rfl, hd, hcls, q⟩ := h
    cases b with
    | false =>
      have e : cls = .ref S := hcls
      subst e
      refine ⟨_, (pss_one (ps_ret (pe_lst (pa_cons (pe_callB (call_isE ER.eS hz hf List.mem_cons_self) (by rfl) m_isinstance (by decide +kernel) (pa_cons (pv 0) (pa_cons (pe_glob (v := .ref T) (by rfl) ER.gT rfl) pa_nil))) (pa_cons (pe_callB (call_isE ER.eS hz hf List.mem_cons_self) (by rfl) m_isinstance (by decide +kernel) (pa_cons (pv 0) (pa_cons (pe_glob (v := .ref S) (by rfl) ER.gS rfl) pa_nil)))
        (pa_cons pe_bl (pa_cons (pe_callB (call_isE ER.eS hz hf List.mem_cons_self) (by rfl) m_isinstance (by decide +kernel) (pa_cons (pv 0) (pa_cons (pe_bltn (v := .ty "ValueError") (u := .type "ValueError") (by rfl) m_ValueError (by decide +kernel) rfl) pa_nil))) (pa_cons (pe_xfE ER.xS ER.nS hz hf List.mem_cons_self (pv 0)) pa_nil)))))))), ?_⟩
      refine ⟨_, rfl, _, .ref T, false, dd, _, rfl, rfl, fun u hu => hu, ER.sT, rfl, hd, ?_⟩
      refine ⟨_, rfl, _, .ref S, true, dd, _, rfl, rfl, fun u hu => hu, ER.sS, rfl, hd, ?_⟩
      refine ⟨_, rfl, _, .type "ValueError", true, dd, _, rfl, rfl, fun u hu => hu, ER.sV, rfl, hd, ?_⟩
      refine ⟨_, rfl, rfl, rfl, dd, _, .str nm, rfl, hd, rfl, ?_⟩
      exact ⟨small (by show 5 ≤ 100000; decide), fun p hp => q p _ hp (same_upd hp) upd_same⟩
    | true =>
      have e : cls = .ref T := hcls
      subst e
      refine ⟨_, (pss_one (ps_ret (pe_lst (pa_cons (pe_callB (call_isE ER.eT hz hf List.mem_cons_self) (by rfl) m_isinstance (by decide +kernel) (pa_cons (pv 0) (pa_cons (pe_glob (v := .ref T) (by rfl) ER.gT rfl) pa_nil))) (pa_cons (pe_callB (call_isE ER.eT hz hf List.mem_cons_self) (by rfl) m_isinstance (by decide +kernel) (pa_cons (pv 0) (pa_cons (pe_glob (v := .ref S) (by rfl) ER.gS rfl) pa_nil)))
        (pa_cons pe_bl (pa_cons (pe_callB (call_isE ER.eT hz hf List.mem_cons_self) (by rfl) m_isinstance (by decide +kernel) (pa_cons (pv 0) (pa_cons (pe_bltn (v := .ty "ValueError") (u := .type "ValueError") (by rfl) m_ValueError (by decide +kernel) rfl) pa_nil))) (pa_cons (pe_xfE ER.xT ER.nT hz hf List.mem_cons_self (pv 0)) pa_nil)))))))), ?_⟩
      refine ⟨_, rfl, _, .ref T, true, dd, _, rfl, rfl, fun u hu => hu, ER.tT, rfl, hd, ?_⟩
      refine ⟨_, rfl, _, .ref S, false, dd, _, rfl, rfl, fun u hu => hu, ER.tS, rfl, hd, ?_⟩
      refine ⟨_, rfl, _, .type "ValueError", true, dd, _, rfl, rfl, fun u hu => hu, ER.tV, rfl, hd, ?_⟩
      refine ⟨_, rfl, rfl, rfl, dd, _, .str nm, rfl, hd, rfl, ?_⟩
      exact ⟨small (by show 5 ≤ 100000; decide), fun p hp => q p _ hp (same_upd hp) upd_same⟩
abbrev s_tried : Stmt := topS 58
theorem sc_tried : FnScope ["_law_dishes_here", "_law_larder_here", "_law_packs_here", "_law_e"] ["_law_dishes_here", "_law_larder_here", "_law_packs_here"] (defScope s_tried) := ⟨rfl, rfl, rfl, by decide +kernel, rfl, by decide +kernel, by decide +kernel⟩
theorem bd_tried : ∀ (kV doc pm : Value) (an : Option Addr) (cdv ct : Value) (us : List Value), us.length = (["_law_dishes_here", "_law_larder_here", "_law_packs_here"] : List Str).length → bindArgs (PySem.W.fnOf "_law_tried" "_law_tried" (defArgs s_tried) (defBody s_tried) (defScope s_tried) .none kV doc pm an cdv ct) ⟨us, []⟩ = pure ((["_law_dishes_here", "_law_larder_here", "_law_packs_here"] : List Str).zip us) := fun _ _ _ _ _ _ us hl => match us, hl with | [_, _, _], _ => rfl
/-- the week at x -/
def WeekAt (H : Hp) (x : V) (ds : List Dish) (lar : List Batch) (ps : List Pack) (ys : List Str) : Prop := ∃ (wk cp : Addr) (cs : List Int) (sv uv : V) (us : List (List Use)) (ev : V), x = .ref wk ∧ ShopAt ds lar ps ys cs ∧ H cp = some (.tup (cs.map V.int)) ∧ LarderAt H sv (stockL lar ps cs) ∧ cookedM ds (stockL lar ps cs) = Except.ok us ∧ UsesAt H uv us ∧ TupAll IntsT H ev (endsL (stockL lar ps cs) us) ∧ H wk = some (.tup [.ref cp, sv, uv, ev])
def spTried : Sp := fun vs H Q _ => ∃ (u v w : V) (ds : List Dish) (lar : List Batch) (ps : List Pack), vs = [u, v, w] ∧ DishesAt H u ds ∧ LarderAt H v lar ∧ PacksAt H w ps ∧ FineShop ds lar ∧ ps.length ≤ 60 ∧ (∀ p ∈ ps, FinePack p) ∧
  ∀ (ys : List Str) (p k : Addr) (x : V) H', Same H H' → ys.Perm (namesOf ds) → sortedS ys = true → H' p = some (.lst [x, .ref k]) → H' k = some (.lst (dueV (firstBad ds lar ps ys))) → (firstBad ds lar ps ys = none → WeekAt H' x ds lar ps ys) → (firstBad ds lar ps ys ≠ none → x = .non) → Q (.ref p) H'
theorem ok_tried {P : Program} {w : World} {K : PySem.W.Frag} {mg : Str → Option Value} {base : Heap} {L S T : Addr} (D : DefAt K mg "_law_tried" s_tried) (ER : ErrAt K mg L S T) (C_week : ClbX P w K mg base 7 "week" ["dishes", "larder", "packs"] (spWeek S T)) (C_kinds : ClbE P w K mg base 1 "_law_kinds" ["_law_e"] (spKinds S T)) : Clb P w K mg base 8 "_law_tried" ["_law_dishes_here", "_law_larder_here", "_law_packs_here"] spTried := by
  refine D.clb sc_tried (fun vs H Q E h => ?_) bd_tried (fun f cdv A outer s H vs Q E hr h => ?_)
  · obtain ⟨u, v, w, ds, lar, ps, rfl, _⟩ := h
    rfl
  · obtain ⟨u, v, w, ds, lar, ps, rfl, hds, hlar, hps, F, pl, pf, q⟩ := h
    refine ⟨_, (pss_one (ps_try_as (i := 3) (Wout := fun _ _ _ _ => False) rfl rfl sc_tried.nd rfl rfl ⟨rfl, by decide, .inl ER.gL⟩ takes0
      (fun W pn xe tk _ => (pss_one (ps_ret (pe_lst (pa_cons (pe_calS C_week (hr.mono (by decide)) tk (pa_cons (pv 0) (pa_cons (pv 1) (pa_cons (pv 2) pa_nil)))) (pa_cons (pe_lst pa_nil) pa_nil))))))
      (fun a oe cls d pn hz hf => (pss_one (ps_ret (pe_lst (pa_cons pe_non (pa_cons (pe_calE C_kinds (hr.mono (by decide)) hz hf (pa_cons (pv 3) pa_nil)) pa_nil)))))))), ?_⟩
    refine ⟨_, rfl, _, rfl, _, rfl, u, v, w, ds, lar, ps, rfl, hds, hlar, hps, F, pl, pf, fun ys H1 s1 hperm hsort => ⟨fun nm d hb h0 h1 => ?_, fun nm d hb h0 h1 => ?_, fun p cp cs sv uv us ev hb SA hcp hsv hc huv hev hp0 hp => ?_⟩⟩
    · refine ⟨true, ER.mT, fun _ a ha => ?_, fun z => nomatch z⟩
      refine ⟨_, rfl, d, nm, true, rfl, rfl, h1, rfl, fun k H2 hk0 s2 hk => ⟨small (by show 2 ≤ 100000; decide), fun r hr0 => ?_⟩⟩
      have s3 := same_upd (o := .lst [V.non, V.ref k]) hr0
      exact q ys r k .non _ ((s1.trans s2).trans s3) hperm hsort upd_same (by rw [hb]; exact s3 _ _ hk) (fun z => by rw [hb] at z; cases z) fun _ => rfl
    · refine ⟨true, ER.mS, fun _ a ha => ?_, fun z => nomatch z⟩
      refine ⟨_, rfl, d, nm, false, rfl, rfl, h1, rfl, fun k H2 hk0 s2 hk => ⟨small (by show 2 ≤ 100000; decide), fun r hr0 => ?_⟩⟩
      have s3 := same_upd (o := .lst [V.non, V.ref k]) hr0
      exact q ys r k .non _ ((s1.trans s2).trans s3) hperm hsort upd_same (by rw [hb]; exact s3 _ _ hk) (fun z => by rw [hb] at z; cases z) fun _ => rfl
    · refine ⟨Nat.zero_le _, fun e he0 => ⟨small (by show 2 ≤ 100000; decide), fun r hr0 => ?_⟩⟩
      have s2 := same_upd (o := .lst []) he0
      have s3 := s2.new (o := .lst [V.ref p, V.ref e]) hr0
      have s3' := same_upd (o := .lst [V.ref p, V.ref e]) hr0
      exact q ys r e (.ref p) _ (s1.trans s3) hperm hsort upd_same (by rw [hb]; exact s3' _ _ upd_same) (fun _ => ⟨p, cp, cs, sv, uv, us, ev, rfl, SA, s3 _ _ hcp, LarderAt.mono _ _ _ _ (SameT.of s3) hsv, hc, UsesAt.mono _ _ _ _ (SameT.of s3) huv, TupAll.mono IntsT.mono _ _ _ _ (SameT.of s3) hev, s3 _ _ hp⟩) fun z => absurd hb z
abbrev s_due : Stmt := topS 56
theorem sc_due : FnScope ["_law_dishes_here", "_law_larder_here", "_law_packs_here", "_law_name", "_law_lacks_here", "_law_day", "_law_fit", "_law_pack"] ["_law_dishes_here", "_law_larder_here", "_law_packs_here"] (defScope s_due) := ⟨rfl, rfl, rfl, by decide +kernel, rfl, by decide +kernel, by decide +kernel⟩
theorem bd_due : ∀ (kV doc pm : Value) (an : Option Addr) (cdv ct : Value) (us : List Value), us.length = (["_law_dishes_here", "_law_larder_here", "_law_packs_here"] : List Str).length → bindArgs (PySem.W.fnOf "_law_due" "_law_due" (defArgs s_due) (defBody s_due) (defScope s_due) .none kV doc pm an cdv ct) ⟨us, []⟩ = pure ((["_law_dishes_here", "_law_larder_here", "_law_packs_here"] : List Str).zip us) := fun _ _ _ _ _ _ us hl => match us, hl with | [_, _, _], _ => rfl
theorem ok_due {P : Program} {w : World} {K : PySem.W.Frag} {mg : Str → Option Value} {base : Heap} (D : DefAt K mg "_law_due" s_due) (m_range : mg "range" = none) (C_things : Clb P w K mg base 1 "_law_things" ["_law_dishes_here"] (spThings K)) (C_of_all : Clb P w K mg base 1 "_law_of_all" ["_law_dishes_here", "_law_name"] spOfAll) (C_lacks : Clb P w K mg base 1 "_law_lacks" ["_law_dishes_here", "_law_larder_here", "_law_name"] (spLacks K)) : Clb P w K mg base 2 "_law_due" ["_law_dishes_here", "_law_larder_here", "_law_packs_here"] spDue := by
  refine D.clb sc_due (fun vs H Q E h => ?_) bd_due (fun f cdv A outer s H vs Q E hr h => ?_)
  · obtain ⟨u, v, w, ds, lar, ps, rfl, _⟩ := h
    rfl
  · obtain ⟨u, v, w, ds, lar, ps, rfl, hds, hlar, ⟨pa, pus, rfl, hpa, hph⟩, F, pl, pf, q⟩ := h
    refine ⟨_, (pss_cons (ps_for PassesOwn.never rfl (kpi_list K (pe_cal C_things (hr.mono (by decide)) (pa_cons (pv 0) pa_nil))) (pg_name (i := 3) sc_due.nd rfl (.inr rfl))
      (pss_cons (ps_if (pt_cmpR op_gt (pe_cal C_of_all (hr.mono (by decide)) (pa_cons (pv 0) (pa_cons (pv 3) pa_nil))) pe_int (nomark _))
      (pss_one (ps_ret (pe_lst (pa_cons pe_bl (pa_cons pe_bl (pa_cons pe_bl (pa_cons pe_bl (pa_cons (pv 3) pa_nil))))))))
      pss_nil)
    (pss_cons (ps_set (i := 4) sc_due.nd rfl (.inl rfl) (pe_cal C_lacks (hr.mono (by decide)) (pa_cons (pv 0) (pa_cons (pv 1) (pa_cons (pv 3) pa_nil)))))
    (pss_one (ps_for PassesOwn.never rfl (pi_range2 (by rfl) m_range (pa_cons pe_int (pa_cons pe_int pa_nil))) (pg_name (i := 5) sc_due.nd rfl (.inr rfl))
      (pss_cons (ps_setLc (i := 6) (own := [("_law_pack", 7)])   rfl sc_due.nd rfl rfl (sw_true rfl rfl rfl (by decide +kernel)) (kpi_tup K (pv 2)) (blkOk_by (own := [("_law_pack", 7)]) (N := ["_law_dishes_here", "_law_larder_here", "_law_packs_here", "_law_name", "_law_lacks_here", "_law_day", "_law_fit", "_law_pack"]) (sc := defScope s_due) (by decide +kernel)) (fun _ _ _ _ _ => (pg_name (i := 7) sc_due.nd rfl (.inl rfl))) (fun _ _ _ _ _ => (pts_one (PW.pt (pw_and (pt_cmpR op_eq (pe_ix (kix_tup K) (pv 7) pe_int (fun _ _ => rfl)) (pv 3) (nomark _)) (pw_and1 (pt_cmpR op_ge (pe_ix (kix_tup K) (pv 7) pe_int (fun _ _ => rfl)) (pv 5) (nomark _))))))) (fun _ _ _ _ _ => (pv 7)))
    (pss_one (ps_if (PW.pt (pw_and (pt_cmpR op_gt (pe_ix (kix_list K) (pv 4) (pe_op op_sub (pv 5) pe_int) (fun _ _ => rfl)) pe_int (nomark _)) (pw_and1 (pt_cmpR (kop_eqD K hr.units) (pv 6) (pe_lst pa_nil) (nomark _)))))
      (pss_one (ps_ret (pe_lst (pa_cons pe_bl (pa_cons pe_bl (pa_cons pe_bl (pa_cons pe_bl (pa_cons (pv 3) pa_nil))))))))
      pss_nil))))))))
    (pss_one (ps_ret (pe_lst pa_nil)))), ?_⟩
    have pul : pus.length = ps.length := hph.len
    refine ⟨_, rfl, u, ds, rfl, hds, F.dl, F.dn, F.names, fun tq ys H1 s1 hperm hsort htn htq => ?_⟩
    refine ⟨tq, rfl, ⟨_, sqL htq⟩, ?_⟩
    refine for_list (xs := ys.map V.str) (fun i σ H' => ∃ (y3 y4 y5 y6 y7 : Option V), σ = [some u, some v, some (.ref pa), y3, y4, y5, y6, y7] ∧ Same H H' ∧ H' tq = some (.lst (ys.map V.str)) ∧ ∀ nm ∈ ys.take i, GoodName ds lar ps nm)
      ⟨none, none, none, none, none, rfl, s1, htq, fun _ h => nomatch h⟩ (fun i σ H' _ h => by obtain ⟨_, _, _, _, _, _, _, h3, _⟩ := h; exact sqL h3) (fun i x σ H2 hx h => ?_) (fun σ H2 h => ?_)
    · obtain ⟨y3, y4, y5, y6, y7, rfl, s2, hq2, GN⟩ := h
      obtain ⟨nm, hnm, rfl⟩ := map_ix hx
      have fb := firstBad_at (ps := ps) hnm GN
      refine ⟨_, rfl, _, rfl, u, ds, nm, rfl, DishesAt.mono _ _ _ _ (SameT.of s2) hds, F.dn, fun H3 s3 => ?_⟩
      have s23 := s2.trans s3
      walk_at "rd"
      have ea : ofAll ds nm = allOf ds nm := rfl
      rw [ea]
      refine it_lt (fun hb => ?_) (fun hb => ?_)
      · refine ⟨_, rfl, small (by show 5 ≤ 100000; decide), fun r hr0 => ?_⟩
        rw [if_pos hb] at fb
        refine q r ys _ (s23.new hr0) hperm hsort ?_
        rw [fb]
        exact upd_same
      · rw [if_neg hb] at fb
        have hm : allOf ds nm ≤ 200 := by omega
        refine ⟨_, rfl, _, rfl, _, rfl, u, v, ds, lar, nm, rfl, DishesAt.mono _ _ _ _ (SameT.of s23) hds, F.dn, LarderAt.mono _ _ _ _ (SameT.of s23) hlar, fun lp H4 s4 hln hlp => ?_⟩
        have s24 := s23.trans s4
        have hq4 := s4 _ _ (s3 _ _ hq2)
        have ll7 := lackW_len ds lar nm
        refine ⟨_, _, rfl, by decide, ?_⟩
        refine for_range (lo := 1) (n := 7) (fun j σ H' => ∃ y5 y6 y7 : Option V, σ = [some u, some v, some (.ref pa), some (.str nm), some (.ref lp), y5, y6, y7] ∧ Same H H' ∧ H' tq = some (.lst (ys.map V.str)) ∧ H' lp = some (.lst ((lackW ds lar nm).map V.int)) ∧ ∀ e, e < j → (lackW ds lar nm).getD e 0 ≤ 0 ∨ fitsOf ps nm (1 + (e : Nat)) ≠ [])
          ⟨y5, y6, y7, rfl, s24, hq4, hlp, fun e h => absurd h (Nat.not_lt_zero _)⟩ (fun j σ H5 hj h => ?_) (fun σ H5 h => ?_)
        · obtain ⟨y5, y6, y7, rfl, s5, hq5, hl5, LO⟩ := h
          generalize hday : (1 : Int) + (j : Nat) = day
          refine ⟨_, rfl, pa, rfl, ⟨_, sqT (s5 _ _ hpa)⟩, ?_⟩
          refine fun D hD => lc_rel (walk_tup (xs := pus)) (xs := ps) pul.symm (f := fun p => if p.name = nm ∧ day ≤ p.last then some p else none) (R := PackAt) PackAt.mono hD (fun H' s => sqT (s _ _ (s5 _ _ hpa))) (by omega) (fun k x p H6 H7 Ky Kn hx s6 hy h1 h2 => ?_) (fun H6 zs s6 hD' hd => ?_)
          · obtain ⟨rfl, hv⟩ := hy
            obtain ⟨t, rfl, ht⟩ := hph.all k x p hv hx
            have ht' := sqT (K := K) (s6 _ _ (s5 _ _ ht))
            refine ⟨rfl, ?_⟩
            refine ⟨_, rfl, t, _, _, _, rfl, rfl, ht', rfl, ?_⟩
            walk_at "rd"
            refine it_eqS (fun e => ?_) (fun e => ?_)
            · refine ⟨_, rfl, t, _, _, _, rfl, rfl, ht', rfl, ?_⟩
              walk_at "rd"
              refine it_le (fun e2 => ?_) (fun e2 => ?_)
              · refine ⟨_, rfl, ?_⟩
                exact h1 _ _ _ (if_pos ⟨e, e2⟩) (Same.refl _) ⟨t, rfl, s6 _ _ (s5 _ _ ht)⟩
              · exact h2 _ (if_neg fun z => e2 z.2) (Same.refl _)
            · exact h2 _ (if_neg fun z => e z.1) (Same.refl _)
          · replace hd : Held PackAt H6 zs (fitsOf ps nm day) := hd
            have hl6 := s6 _ _ hl5
            have s56 := s5.trans s6
            have hj7 : j < 7 := hj
            have hlk := List.getElem?_eq_getElem (show j < (lackW ds lar nm).length by omega)
            have egd : (lackW ds lar nm).getD j 0 = (lackW ds lar nm)[j] := by rw [List.getD_eq_getElem?_getD, hlk]; rfl
            have nxt : (lackW ds lar nm).getD j 0 ≤ 0 ∨ fitsOf ps nm (1 + (j : Nat)) ≠ [] → ∀ e, e < j + 1 → (lackW ds lar nm).getD e 0 ≤ 0 ∨ fitsOf ps nm (1 + (e : Nat)) ≠ [] := fun z e he => by
              by_cases y : e = j
              · subst y; exact z
              · exact LO e (by omega)
            refine ⟨_, rfl, _, rfl, _, _, rfl, rfl, lp, _, _, _, rfl, rfl, sqL hl6, at_of (j := j) (by omega) (ix_map hlk), ?_⟩
            walk_at "rd"
            refine it_lt (fun hpos => ?_) (fun hpos => ?_)
            · refine ⟨_, rfl, Nat.zero_le _, fun e0 he0 => ?_⟩
              have s7 := same_upd (o := .lst []) he0
              have fpk : ∀ p ∈ fitsOf ps nm day, FinePack p := fun p hp => by
                unfold fitsOf at hp
                obtain ⟨p', hp', e⟩ := List.mem_filterMap.mp hp
                split at e
                · cases e; exact pf _ hp'
                · cases e
              refine ⟨packsD (fitsOf ps nm day), .list [], .lst (sqL (s7 _ _ hD')) (dp_all dp_pack (hd.mono PackAt.mono (SameT.of s7))), .lst (sqL upd_same) .nil, packs_shaped fpk, nil_shaped, ?_⟩
              rw [packs_nil]
              cases hfz : fitsOf ps nm day with
              | nil =>
                refine ⟨_, rfl, iteT ?_⟩
                refine ⟨_, rfl, small (by show 5 ≤ 100000; decide), fun r hr0 => ?_⟩
                have hf := fitB_not (ps := ps) hj7 (by rw [egd]; exact hpos) (by rw [hday]; exact hfz)
                rw [if_neg (by rw [hf]; decide)] at fb
                refine q r ys _ ((s56.trans s7).new hr0) hperm hsort ?_
                rw [fb]
                exact upd_same
              | cons z zr =>
                refine ⟨_, rfl, iteF ?_⟩
                exact ⟨_, _, _, rfl, s56.trans s7, s7 _ _ (s6 _ _ hq5), s7 _ _ hl6, nxt (.inr (by rw [hday, hfz]; exact fun y => nomatch y))⟩
            · exact ⟨_, _, _, rfl, s56, s6 _ _ hq5, hl6, nxt (.inl (by rw [egd]; omega))⟩
        · obtain ⟨y5, y6, y7, rfl, s5, hq5, hl5, LO⟩ := h
          refine ⟨_, _, _, _, _, rfl, s5, hq5, fun m hmm => ?_⟩
          rw [take_succ' hnm] at hmm
          rcases List.mem_append.mp hmm with z | z
          · exact GN m z
          · rw [List.mem_singleton.mp z]
            exact ⟨hm, fitB_of LO⟩
    · obtain ⟨y3, y4, y5, y6, y7, rfl, s2, hq2, GN⟩ := h
      rw [List.length_map, List.take_length] at GN
      refine ⟨Nat.zero_le _, fun r hr0 => ?_⟩
      refine q r ys _ (s2.new hr0) hperm hsort ?_
      rw [firstBad_none GN]
      exact upd_same
abbrev s_dish_fits : Stmt := topS 62
theorem sc_dish_fits : FnScope ["_law_dish", "_law_pairs", "_law_larder_here", "_law_left", "_law_had", "_law_pair", "_law_wanted", "_law_need"] ["_law_dish", "_law_pairs", "_law_larder_here", "_law_left"] (defScope s_dish_fits) := ⟨rfl, rfl, rfl, by decide +kernel, rfl, by decide +kernel, by decide +kernel⟩
theorem bd_dish_fits : ∀ (kV doc pm : Value) (an : Option Addr) (cdv ct : Value) (us : List Value), us.length = (["_law_dish", "_law_pairs", "_law_larder_here", "_law_left"] : List Str).length → bindArgs (PySem.W.fnOf "_law_dish_fits" "_law_dish_fits" (defArgs s_dish_fits) (defBody s_dish_fits) (defScope s_dish_fits) .none kV doc pm an cdv ct) ⟨us, []⟩ = pure ((["_law_dish", "_law_pairs", "_law_larder_here", "_law_left"] : List Str).zip us) := fun _ _ _ _ _ _ us hl => match us, hl with | [_, _, _, _], _ => rfl
theorem ok_dish_fits {P : Program} {w : World} {K : PySem.W.Frag} {mg : Str → Option Value} {base : Heap} (D : DefAt K mg "_law_dish_fits" s_dish_fits) (m_isinstance : mg "isinstance" = none) (m_tuple : mg "tuple" = none) (m_len : mg "len" = none) (C_whole : Clb P w K mg base 1 "_law_whole" ["_law_found"] spWhole) : Clb P w K mg base 2 "_law_dish_fits" ["_law_dish", "_law_pairs", "_law_larder_here", "_law_left"] spDishFits := by
  refine D.clb sc_dish_fits (fun vs H Q E h => ?_) bd_dish_fits (fun f cdv A outer s H vs Q E hr h => ?_)
  · obtain ⟨dv, uv, lv, l, d, ps, lar, g, rfl, _⟩ := h
    rfl
  · obtain ⟨dv, uv, lv, l, d, ps, lar, g, rfl, ⟨dt, nv, rfl, hdt, na, nvs, rfl, hna, hnh⟩, ⟨pa, pvs, rfl, hpa, hph⟩, ⟨la, lvs, rfl, hla, hlh⟩, hl, FT, hn1, hn20, hll, q⟩ := h
    refine ⟨_, (pss_cons (ps_set (i := 4) sc_dish_fits.nd rfl (.inl rfl) pe_dnewK)
    (pss_cons (ps_for PassesOwn.never rfl (kpi_tup K (pv 1)) (pg_name (i := 5) sc_dish_fits.nd rfl (.inl rfl))
      (C8.pss_cut (ps_if (PW.pt (pw_or (pt_not (pt_val (pe_callB (kcall_isi K) (by rfl) m_isinstance (by decide +kernel) (pa_cons (pv 5) (pa_cons (pe_bltn (v := .ty "tuple") (u := .type "tuple") (by rfl) m_tuple (by decide +kernel) rfl) pa_nil))))) (pw_or (pt_cmpR op_ne (pe_callB (kcall_len_seq K) (by rfl) m_len (by decide +kernel) (pa_cons (pv 5) pa_nil)) pe_int (nomark _)) (pw_or (pt_not (pt_val (pe_cal C_whole (hr.mono (by decide)) (pa_cons (pe_ix (kix_tup K) (pv 5) pe_int (fun _ _ => rfl)) pa_nil)))) (pw_or1 (pt_not (pt_val (pe_cal C_whole (hr.mono (by decide)) (pa_cons (pe_ix (kix_tup K) (pv 5) pe_int (fun _ _ => rfl)) pa_nil)))))))))
      (pss_one (ps_ret pe_bl))
      pss_nil)
    (C8.pss_cut (ps_if (PW.pt (pw_or (pt_cmpR op_lt (pe_ix (kix_tup K) (pv 5) pe_int (fun _ _ => rfl)) pe_int (nomark _)) (pw_or (pt_cmpR op_ge (pe_ix (kix_tup K) (pv 5) pe_int (fun _ _ => rfl)) (pe_callB (kcall_len_seq K) (by rfl) m_len (by decide +kernel) (pa_cons (pv 2) pa_nil)) (nomark _)) (pw_or (pt_cmpR op_lt (pe_ix (kix_tup K) (pv 5) pe_int (fun _ _ => rfl)) pe_int (nomark _)) (pw_or1 (pt_cmpR op_lt (pe_ix (kix_tup K) (pe_ix (kix_tup K) (pv 2) (pe_ix (kix_tup K) (pv 5) pe_int (fun _ _ => rfl)) (fun _ _ => rfl)) pe_int (fun _ _ => rfl)) (pe_ix (kix_tup K) (pv 0) pe_int (fun _ _ => rfl)) (nomark _)))))))
      (pss_one (ps_ret pe_bl))
      pss_nil)
    (pss_cons (ps_asg (pe_op op_sub (pe_ix (kix_list K) (pv 3) (pe_ix (kix_tup K) (pv 5) pe_int (fun _ _ => rfl)) (fun _ _ => rfl)) (pe_ix (kix_tup K) (pv 5) pe_int (fun _ _ => rfl))) (pg_sub (pv 3) (pe_ix (kix_tup K) (pv 5) pe_int (fun _ _ => rfl)) set_list))
    (pss_one (ps_dput (hu_of hr) (pv 4) (pe_ix (kix_tup K) (pe_ix (kix_tup K) (pv 2) (pe_ix (kix_tup K) (pv 5) pe_int (fun _ _ => rfl)) (fun _ _ => rfl)) pe_int (fun _ _ => rfl)) (pe_op op_add (pe_dget2 (hu_of hr) (pv 4) (pe_ix (kix_tup K) (pe_ix (kix_tup K) (pv 2) (pe_ix (kix_tup K) (pv 5) pe_int (fun _ _ => rfl)) (fun _ _ => rfl)) pe_int (fun _ _ => rfl)) pe_int ⟨rfl, rfl, rfl, rfl⟩) (pe_ix (kix_tup K) (pv 5) pe_int (fun _ _ => rfl))) rfl))))))
    (pss_cons (ps_set (i := 6) sc_dish_fits.nd rfl (.inl rfl) pe_dnewK)
    (pss_cons (ps_for PassesOwn.never rfl (kpi_tup K (pe_ix (kix_tup K) (pv 0) pe_int (fun _ _ => rfl))) (pg_name (i := 7) sc_dish_fits.nd rfl (.inl rfl))
      (pss_one (ps_dput (hu_of hr) (pv 6) (pe_ix (kix_tup K) (pv 7) pe_int (fun _ _ => rfl)) (pe_op op_add (pe_dget2 (hu_of hr) (pv 6) (pe_ix (kix_tup K) (pv 7) pe_int (fun _ _ => rfl)) pe_int ⟨rfl, rfl, rfl, rfl⟩) (pe_ix (kix_tup K) (pv 7) pe_int (fun _ _ => rfl))) rfl)))
    (pss_one (ps_ret (pe_cmpR (op_eq_dictA hr.units0) (pv 4) (pv 6) (nomark _)))))))), ?_⟩
    have lvl := hlh.len
    have pl := hph.len
    have pfew := FT.few
    have pfew2 : ps.length ≤ 4000 := by have : d.2.length * 200 ≤ 20 * 200 := Nat.mul_le_mul_right _ hn20; omega
    have hbg : 100000 < sizeLine := by decide
    intro dd hdd
    have s0 := same_upd (o := .dK []) hdd
    have ndl : dd ≠ l := fun z => by rw [z, hl] at hdd; cases hdd
    have tupA : ∀ {Hx : Hp} {b : Addr} {xs : List V}, SameBut l H Hx → H b = some (.tup xs) → Hx b = some (.tup xs) := fun sb hb => sb _ _ (fun z => by rw [z, hl] at hb; cases hb) hb
    refine ⟨_, rfl, pa, rfl, ⟨_, sqT (s0 _ _ hpa)⟩, ?_⟩
    refine for_tup (xs := pvs) (fun j σ H' => ∃ (y5 : Option V) (kvs : List (L2.Key × V)), σ = [some (.ref dt), some (.ref pa), some (.ref la), some (.ref l), some (.ref dd), y5, none, none] ∧ SameBut l H H' ∧ H' dd = some (.dK kvs) ∧ H' l = some (.lst ((leftL lar fun k => g k + usedP (ps.take j) k).map V.int)) ∧ NTally kvs (insAll [] ((ps.take j).map (nameU lar))) (fun nm => usedN lar nm (ps.take j)))
      ⟨none, [], rfl, SameBut.of s0, upd_same, by
        rw [upd_ne (fun z => ndl z.symm), hl]
        have e : (fun k => g k + usedP (ps.take 0) k) = g := by funext k; show g k + 0 = g k; omega
        rw [e], NTally.nil⟩ (fun j σ H' _ h => by obtain ⟨_, _, _, sb, _⟩ := h; exact sqT (tupA sb hpa)) (fun j w σ H1 hw h => ?_) (fun σ H1 h => ?_)
    · obtain ⟨y5, kvs, rfl, sb, hd1, hl1, NT⟩ := h
      obtain ⟨p, hp, t, rfl, ht⟩ := hph.get hw
      have ht1 := tupA sb ht
      have hla1 := tupA sb hla
      have hdt1 := tupA sb hdt
      obtain ⟨e1, e2, e3⟩ := FT.each p (List.mem_of_getElem? hp)
      have hbv := List.getElem?_eq_getElem (show p.1 < lvs.length by omega)
      obtain ⟨bt, eb, hbt⟩ := hlh.all p.1 _ _ hbv (at_getD e1 bz)
      rw [eb] at hbv
      have hbt1 := tupA sb hbt
      refine ⟨fun σ' H' => σ' = [some (.ref dt), some (.ref pa), some (.ref la), some (.ref l), some (.ref dd), some (.ref t), none, none] ∧ H1 = H', ?_, fun σ' H' h => ?_⟩
      · refine ⟨_, rfl, ?_⟩
        refine ⟨_, _, _, _, true, rfl, .ty _, .base (.tup ht1), kit_ty (by decide +kernel), ?_⟩
        refine ⟨_, rfl, iteF ?_⟩
        refine ⟨_, rfl, t, _, rfl, .inr (sqT ht1), ?_⟩
        walk_at "rd"
        refine ⟨t, _, _, _, rfl, rfl, sqT ht1, rfl, _, rfl, ?_⟩
        refine ⟨_, rfl, iteF ?_⟩
        refine ⟨_, rfl, t, _, _, _, rfl, rfl, sqT ht1, rfl, _, rfl, ?_⟩
        refine ⟨_, rfl, iteF ?_⟩
        exact ⟨rfl, rfl⟩
      obtain ⟨rfl, rfl⟩ := h
      refine ⟨fun σ' H' => σ' = [some (.ref dt), some (.ref pa), some (.ref la), some (.ref l), some (.ref dd), some (.ref t), none, none] ∧ H1 = H', ?_, fun σ' H' h => ?_⟩
      · refine ⟨_, rfl, t, _, _, _, rfl, rfl, sqT ht1, rfl, ?_⟩
        refine ⟨_, _, rfl, rfl, ?_⟩
        refine ⟨_, rfl, ?_⟩
        refine it_lt (fun z => absurd z (by omega)) (fun _ => ?_)
        refine ⟨_, rfl, t, _, _, _, rfl, rfl, sqT ht1, rfl, ?_⟩
        refine ⟨_, rfl, la, _, rfl, .inr (sqT hla1), ?_⟩
        walk_at "rd"
        refine it_le (fun z => absurd z (by omega)) (fun _ => ?_)
        refine ⟨_, rfl, t, _, _, _, rfl, rfl, sqT ht1, rfl, ?_⟩
        walk_at "rd"
        refine it_lt (fun z => absurd z (by omega)) (fun _ => ?_)
        refine ⟨_, rfl, _, rfl, t, _, _, _, rfl, rfl, sqT ht1, rfl, ?_⟩
        refine ⟨la, _, _, _, rfl, rfl, sqT hla1, at_of (j := p.1) rfl hbv, ?_⟩
        refine ⟨bt, _, _, _, rfl, rfl, sqT hbt1, rfl, ?_⟩
        refine ⟨_, rfl, dt, _, _, _, rfl, rfl, sqT hdt1, rfl, ?_⟩
        walk_at "rd"
        refine it_lt (fun z => absurd z (by omega)) (fun _ => ?_)
        exact ⟨rfl, rfl⟩
      obtain ⟨rfl, rfl⟩ := h
      have hlg := leftL_at (f := fun k => g k + usedP (ps.take j) k) e1
      -- what is left
      refine ⟨_, rfl, _, rfl, t, _, _, _, rfl, rfl, sqT ht1, rfl, ?_⟩
      refine ⟨l, _, _, _, rfl, rfl, sqL hl1, at_of (j := p.1) rfl (ix_map hlg), ?_⟩
      refine ⟨_, rfl, t, _, _, _, rfl, rfl, sqT ht1, rfl, ?_⟩
      refine ⟨_, _, rfl, rfl, ?_⟩
      refine ⟨_, rfl, _, rfl, t, _, _, _, rfl, rfl, sqT ht1, rfl, ?_⟩
      refine ⟨l, _, _, p.1, rfl, rfl, hl1, ixN_of rfl (by rw [List.length_map, leftL_len]; exact e1), ?_⟩
      have hl2 : (upd H1 l (.lst (((leftL lar fun k => g k + usedP (ps.take j) k).map V.int).set p.1 (.int ((lar.getD p.1 bz).amount - (g p.1 + usedP (ps.take j) p.1) - p.2))))) l = some (.lst ((leftL lar fun k => g k + usedP (ps.take (j + 1)) k).map V.int)) := by
        rw [upd_same, ← List.map_set]
        congr 2
        refine congrArg _ (leftL_set e1 ?_ fun k hk ne => ?_)
        · rw [take_succ' hp, usedP_snoc, if_pos rfl]; omega
        · rw [take_succ' hp, usedP_snoc, if_neg (fun z => ne z.symm)]; omega
      have sb2 : SameBut l H (upd H1 l (.lst (((leftL lar fun k => g k + usedP (ps.take j) k).map V.int).set p.1 (.int ((lar.getD p.1 bz).amount - (g p.1 + usedP (ps.take j) p.1) - p.2))))) := sb.put
      have hd2 : (upd H1 l (.lst (((leftL lar fun k => g k + usedP (ps.take j) k).map V.int).set p.1 (.int ((lar.getD p.1 bz).amount - (g p.1 + usedP (ps.take j) p.1) - p.2))))) dd = some (.dK kvs) := by rw [upd_ne ndl]; exact hd1
      generalize (upd H1 l (.lst (((leftL lar fun k => g k + usedP (ps.take j) k).map V.int).set p.1 (.int ((lar.getD p.1 bz).amount - (g p.1 + usedP (ps.take j) p.1) - p.2))))) = H2 at *
      have ht2 := tupA sb2 ht
      have hla2 := tupA sb2 hla
      have hbt2 := tupA sb2 hbt
      have kl := NT.len
      have il : (insAll [] ((ps.take j).map (nameU lar))).length ≤ 4000 := by
        have := insAll_len ((ps.take j).map (nameU lar)) []
        rw [List.length_map, List.length_take, List.length_nil] at this
        omega
      refine ⟨_, rfl, dd, rfl, .inl ⟨kvs, .inl hd2⟩, _, rfl, ?_⟩
      refine ⟨_, rfl, t, _, _, _, rfl, rfl, sqT ht2, rfl, ?_⟩
      refine ⟨la, _, _, _, rfl, rfl, sqT hla2, at_of (j := p.1) rfl hbv, ?_⟩
      refine ⟨bt, _, _, _, rfl, rfl, sqT hbt2, rfl, ?_⟩
      refine ⟨_, DGet.k (k := kS (lar.getD p.1 bz).name) hd2, ?_⟩
      have nv : (valV kvs (kS (lar.getD p.1 bz).name)).getD (.int 0) = .int (usedN lar (lar.getD p.1 bz).name (ps.take j)) := NT.val _
      rw [nv]
      refine ⟨_, rfl, t, _, _, _, rfl, rfl, sqT ht2, rfl, ?_⟩
      refine ⟨_, _, rfl, rfl, ?_⟩
      refine ⟨_, rfl, _, rfl, _, rfl, t, _, _, _, rfl, rfl, sqT ht2, rfl, ?_⟩
      refine ⟨la, _, _, _, rfl, rfl, sqT hla2, at_of (j := p.1) rfl hbv, ?_⟩
      refine ⟨bt, _, _, _, rfl, rfl, sqT hbt2, rfl, ?_⟩
      refine ⟨dd, _, rfl, DPut.k (k := kS (lar.getD p.1 bz).name) hd2 (small' (by omega)), ?_⟩
      have tk := take_succ' hp
      refine ⟨_, _, rfl, fun b x n e => ?_, upd_same, by rw [upd_ne (fun z => ndl z.symm)]; exact hl2, ?_⟩
      · rw [upd_ne (fun z => by rw [z, hdd] at e; cases e)]
        exact sb2 b x n e
      · rw [tk, List.map_append, List.map_cons, List.map_nil, insAll_app1]
        refine NT.put ?_ fun m hm => ?_
        · rw [usedN_app]
          show _ + ((if (lar.getD p.1 bz).name = (lar.getD p.1 bz).name then p.2 else 0) + 0) = _
          rw [if_pos rfl, Int.add_zero]
        · rw [usedN_app]
          show _ + ((if (lar.getD p.1 bz).name = m then p.2 else 0) + 0) = _
          rw [if_neg (fun z => hm z.symm)]; omega
    · obtain ⟨y5, kvs, rfl, sb, hd1, hl1, NT⟩ := h
      rw [pl, List.take_length] at hl1 NT
      intro wd hwd
      have s1 := same_upd (o := .dK []) hwd
      have hdt1 := s1 _ _ (tupA sb hdt)
      have hna1 := s1 _ _ (tupA sb hna)
      refine ⟨_, rfl, dt, _, _, _, rfl, rfl, sqT hdt1, rfl, na, rfl, ⟨_, sqT hna1⟩, ?_⟩
      have nl := hnh.len
      refine for_tup (xs := nvs) (fun j σ H' => ∃ (y7 : Option V) (kws : List (L2.Key × V)), σ = [some (.ref dt), some (.ref pa), some (.ref la), some (.ref l), some (.ref dd), y5, some (.ref wd), y7] ∧ Same H1 H' ∧ H' wd = some (.dK kws) ∧ NTally kws (insAll [] ((d.2.take j).map (·.1))) (fun nm => needS nm (d.2.take j)))
        ⟨none, [], rfl, s1, upd_same, NTally.nil⟩ (fun j σ H' _ h => by obtain ⟨_, _, _, s2, _⟩ := h; exact sqT (s2 _ _ (tupA sb hna))) (fun j w σ H2 hw h => ?_) (fun σ H2 h => ?_)
      · obtain ⟨y7, kws, rfl, s2, hw2, NW⟩ := h
        obtain ⟨x, hx, t, rfl, ht⟩ := hnh.get hw
        have ht2 := s2 _ _ (tupA sb ht)
        have kl := NW.len
        have il : (insAll [] ((d.2.take j).map (·.1))).length ≤ 20 := by
          have := insAll_len ((d.2.take j).map (·.1)) []
          rw [List.length_map, List.length_take, List.length_nil] at this
          omega
        refine ⟨_, rfl, wd, rfl, .inl ⟨kws, .inl hw2⟩, _, rfl, t, _, _, _, rfl, rfl, sqT ht2, rfl, ?_⟩
        refine ⟨_, DGet.k (k := kS x.1) hw2, ?_⟩
        have nv : (valV kws (kS x.1)).getD (.int 0) = .int (needS x.1 (d.2.take j)) := NW.val _
        rw [nv]
        refine ⟨_, rfl, t, _, _, _, rfl, rfl, sqT ht2, rfl, ?_⟩
        refine ⟨_, _, rfl, rfl, ?_⟩
        refine ⟨_, rfl, _, rfl, t, _, _, _, rfl, rfl, sqT ht2, rfl, ?_⟩
        refine ⟨wd, _, rfl, DPut.k (k := kS x.1) hw2 (small' (by omega)), ?_⟩
        have tk := take_succ' hx
        refine ⟨_, _, rfl, s2.mut hwd, upd_same, ?_⟩
        rw [tk, List.map_append, List.map_cons, List.map_nil, insAll_app1]
        refine NW.put ?_ fun m hm => ?_
        · rw [needS_snoc, if_pos rfl]
        · rw [needS_snoc, if_neg (fun z => hm z.symm), Int.add_zero]
      · obtain ⟨y7, kws, rfl, s2, hw2, NW⟩ := h
        rw [nl, List.take_length] at NW
        have e : (fun nm => usedN lar nm ps) = fun nm => needS nm d.2 := by funext nm; exact FT.all nm
        rw [e] at NT
        obtain ⟨eq1, eq2⟩ := NT.eq NW (fits_names FT hn1)
        refine ⟨_, rfl, _, rfl, dd, wd, kvs, kws, rfl, rfl, s2 _ _ hd1, hw2, eq1, eq2, ?_⟩
        exact q _ (sb.trans (SameBut.of s2)) (s2 _ _ hl1)
abbrev s_wends : Stmt := topS 63
theorem sc_wends : FnScope ["_law_larder_here", "_law_left", "_law_found", "_law_k", "_law_due_here"] ["_law_larder_here", "_law_left", "_law_found"] (defScope s_wends) := ⟨rfl, rfl, rfl, by decide +kernel, rfl, by decide +kernel, by decide +kernel⟩
theorem bd_wends : ∀ (kV doc pm : Value) (an : Option Addr) (cdv ct : Value) (us : List Value), us.length = (["_law_larder_here", "_law_left", "_law_found"] : List Str).length → bindArgs (PySem.W.fnOf "_law_ends" "_law_ends" (defArgs s_wends) (defBody s_wends) (defScope s_wends) .none kV doc pm an cdv ct) ⟨us, []⟩ = pure ((["_law_larder_here", "_law_left", "_law_found"] : List Str).zip us) := fun _ _ _ _ _ _ us hl => match us, hl with | [_, _, _], _ => rfl
def spWEnds : Sp := fun vs H Q _ => ∃ (lv ev : V) (l : Addr) (lar : List Batch) (us : List (List Use)), vs = [lv, .ref l, ev] ∧ LarderAt H lv lar ∧ H l = some (.lst ((leftL lar (usedOf us)).map V.int)) ∧ TupAll IntsT H ev (endsL lar us) ∧ lar.length ≤ 50000 ∧ (∀ k, k < lar.length → 0 ≤ (lar.getD k bz).amount - usedOf us k) ∧ ∀ H', Q (.bl true) H'
theorem ok_wends {P : Program} {w : World} {K : PySem.W.Frag} {mg : Str → Option Value} {base : Heap} (D : DefAt K mg "_law_ends" s_wends) (m_isinstance : mg "isinstance" = none) (m_tuple : mg "tuple" = none) (m_len : mg "len" = none) (m_range : mg "range" = none) (C_numbers : Clb P w K mg base 2 "_law_numbers" ["_law_found", "_law_due_here"] (spNumbers K)) : Clb P w K mg base 3 "_law_ends" ["_law_larder_here", "_law_left", "_law_found"] spWEnds := by
  refine D.clb sc_wends (fun vs H Q E h => ?_) bd_wends (fun f cdv A outer s H vs Q E hr h => ?_)
  · obtain ⟨lv, ev, l, lar, us, rfl, _⟩ := h
    rfl
  · obtain ⟨lv, ev, l, lar, us, rfl, ⟨la, lvs, rfl, hla, hlh⟩, hl, ⟨ea, evs, rfl, hea, heh⟩, hll, hnn, q⟩ := h
    refine ⟨_, (C8.pss_cut (ps_if (PW.pt (pw_or (pt_not (pt_val (pe_callB (kcall_isi K) (by rfl) m_isinstance (by decide +kernel) (pa_cons (pv 2) (pa_cons (pe_bltn (v := .ty "tuple") (u := .type "tuple") (by rfl) m_tuple (by decide +kernel) rfl) pa_nil))))) (pw_or1 (pt_cmpR op_ne (pe_callB (kcall_len_seq K) (by rfl) m_len (by decide +kernel) (pa_cons (pv 2) pa_nil)) (pe_callB (kcall_len_seq K) (by rfl) m_len (by decide +kernel) (pa_cons (pv 0) pa_nil)) (nomark _)))))
      (pss_one (ps_ret pe_bl))
      pss_nil)
    (pss_cons (ps_for PassesOwn.never rfl (pi_range1 (by rfl) m_range (pa_cons (pe_callB (kcall_len_seq K) (by rfl) m_len (by decide +kernel) (pa_cons (pv 0) pa_nil)) pa_nil)) (pg_name (i := 3) sc_wends.nd rfl (.inl rfl))
      (pss_cons (ps_set (i := 4) sc_wends.nd rfl (.inl rfl) (pe_lst (pa_cons (pe_op op_sub (pe_ix (kix_tup K) (pe_ix (kix_tup K) (pv 0) (pv 3) (fun _ _ => rfl)) pe_int (fun _ _ => rfl)) (pe_ix (kix_list K) (pv 1) (pv 3) (fun _ _ => rfl))) (pa_cons (pe_ix (kix_list K) (pv 1) (pv 3) (fun _ _ => rfl)) (pa_cons pe_int pa_nil)))))
    (C8.pss_cut (ps_if (pt_cmpR op_gt (pe_ix (kix_tup K) (pe_ix (kix_tup K) (pv 0) (pv 3) (fun _ _ => rfl)) pe_int (fun _ _ => rfl)) pe_int (nomark _))
      (pss_one (ps_set (i := 4) sc_wends.nd rfl (.inl rfl) (pe_lst (pa_cons (pe_op op_sub (pe_ix (kix_tup K) (pe_ix (kix_tup K) (pv 0) (pv 3) (fun _ _ => rfl)) pe_int (fun _ _ => rfl)) (pe_ix (kix_list K) (pv 1) (pv 3) (fun _ _ => rfl))) (pa_cons pe_int (pa_cons (pe_ix (kix_list K) (pv 1) (pv 3) (fun _ _ => rfl)) pa_nil))))))
      pss_nil)
    (pss_one (ps_if (PW.pt (pw_or (pt_cmpR op_lt (pe_ix (kix_list K) (pv 1) (pv 3) (fun _ _ => rfl)) pe_int (nomark _)) (pw_or1 (pt_not (pt_val (pe_cal C_numbers (hr.mono (by decide)) (pa_cons (pe_ix (kix_tup K) (pv 2) (pv 3) (fun _ _ => rfl)) (pa_cons (pv 4) pa_nil))))))))
      (pss_one (ps_ret pe_bl))
      pss_nil)))))
    (pss_one (ps_ret pe_bl)))), ?_⟩
    have lvl := hlh.len
    have evl : evs.length = lar.length := by rw [heh.len]; unfold endsL; rw [List.length_map, List.length_range]
    refine ⟨fun σ' H' => σ' = [some (.ref la), some (.ref l), some (.ref ea), none, none] ∧ H = H', ?_, fun σ' H' h => ?_⟩
    · refine ⟨_, rfl, ?_⟩
      refine ⟨_, _, _, _, true, rfl, .ty _, .base (.tup hea), kit_ty (by decide +kernel), ?_⟩
      refine ⟨_, rfl, iteF ?_⟩
      refine ⟨_, rfl, ea, _, rfl, .inr (sqT hea), ?_⟩
      refine ⟨_, rfl, la, _, rfl, .inr (sqT hla), ?_⟩
      walk_at "rd"
      refine it_neI (fun z => absurd (by rw [evl, lvl]) z) (fun _ => ?_)
      exact ⟨rfl, rfl⟩
    obtain ⟨rfl, rfl⟩ := h
    refine ⟨_, rfl, la, _, rfl, .inr (sqT hla), ?_⟩
    refine ⟨_, rfl, by omega, by omega, ?_⟩
    refine for_range (lo := 0) (fun i σ H' => ∃ y3 y4 : Option V, σ = [some (.ref la), some (.ref l), some (.ref ea), y3, y4] ∧ Same H H') ⟨none, none, rfl, Same.refl _⟩ (fun i σ H1 hi h => ?_) (fun σ H1 h => ?_)
    · obtain ⟨y3, y4, rfl, s1⟩ := h
      have hi' : i < lar.length := by omega
      have hbv := List.getElem?_eq_getElem (show i < lvs.length by omega)
      obtain ⟨bt, eb, hbt⟩ := hlh.all i _ _ hbv (at_getD hi' bz)
      rw [eb] at hbv
      have hev := List.getElem?_eq_getElem (show i < evs.length by omega)
      have hen : (endsL lar us)[i]? = some (endOf (lar.getD i bz) (usedOf us i)) := by unfold endsL; rw [List.getElem?_map, List.getElem?_range hi']; rfl
      obtain ⟨et, ee, het⟩ := heh.all i _ _ hev hen
      rw [ee] at hev
      have hlg := leftL_at (f := usedOf us) hi'
      have n0 := hnn i hi'
      have lA : ∀ {Hx}, Same H1 Hx → SqL K Hx l ((leftL lar (usedOf us)).map V.int) := fun s => sqL (s _ _ (s1 _ _ hl))
      have laA : ∀ {Hx}, Same H1 Hx → SqT K Hx la lvs := fun s => sqT (s _ _ (s1 _ _ hla))
      have btA : ∀ {Hx}, Same H1 Hx → SqT K Hx bt [.str (lar.getD i bz).name, .int (lar.getD i bz).amount, .int (lar.getD i bz).last] := fun s => sqT (s _ _ (s1 _ _ hbt))
      have s11 := Same.refl H1
      refine ⟨_, rfl, _, rfl, la, _, _, _, rfl, rfl, laA s11, at_of (j := i) (by omega) hbv, ?_⟩
      refine ⟨bt, _, _, _, rfl, rfl, btA s11, rfl, ?_⟩
      refine ⟨_, rfl, _, rfl, l, _, _, _, rfl, rfl, lA s11, at_of (j := i) (by omega) (ix_map hlg), ?_⟩
      refine ⟨_, _, rfl, rfl, ?_⟩
      refine ⟨_, rfl, _, rfl, l, _, _, _, rfl, rfl, lA s11, at_of (j := i) (by omega) (ix_map hlg), ?_⟩
      refine ⟨small (by show 3 ≤ 100000; decide), fun dp hdp => ?_⟩
      generalize hb : lar.getD i bz = b at *
      generalize hu : usedOf us i = u at *
      have s2 := same_upd (o := .lst [V.int (b.amount - (b.amount - u)), V.int (b.amount - u), V.int 0]) hdp
      have eu : b.amount - (b.amount - u) = u := by omega
      refine ⟨fun σ' H' => ∃ dq : Addr, σ' = [some (.ref la), some (.ref l), some (.ref ea), some (.int (0 + (i : Nat))), some (.ref dq)] ∧ Same H1 H' ∧ H' dq = some (.lst ((endOf b u).map V.int)), ?_, fun σ' H2 h => ?_⟩
      · refine ⟨_, rfl, _, rfl, la, _, _, _, rfl, rfl, laA s2, at_of (j := i) (by omega) hbv, ?_⟩
        refine ⟨bt, _, _, _, rfl, rfl, btA s2, rfl, ?_⟩
        refine ⟨_, _, rfl, rfl, ?_⟩
        refine ⟨_, rfl, ?_⟩
        refine it_lt (fun h6 => ?_) (fun h6 => ?_)
        · refine ⟨_, rfl, _, rfl, la, _, _, _, rfl, rfl, laA s2, at_of (j := i) (by omega) hbv, ?_⟩
          refine ⟨bt, _, _, _, rfl, rfl, btA s2, rfl, ?_⟩
          refine ⟨_, rfl, _, rfl, l, _, _, _, rfl, rfl, lA s2, at_of (j := i) (by omega) (ix_map hlg), ?_⟩
          refine ⟨_, _, rfl, rfl, ?_⟩
          refine ⟨_, rfl, _, rfl, l, _, _, _, rfl, rfl, lA s2, at_of (j := i) (by omega) (ix_map hlg), ?_⟩
          refine ⟨small (by show 3 ≤ 100000; decide), fun dq hdq => ?_⟩
          refine ⟨dq, rfl, s2.new hdq, ?_⟩
          rw [upd_same]
          unfold endOf
          rw [if_neg (by omega)]
          show some (HO.lst [V.int (b.amount - (b.amount - u)), V.int 0, V.int (b.amount - u)]) = _
          rw [eu]; rfl
        · refine ⟨dp, rfl, s2, ?_⟩
          rw [upd_same]
          unfold endOf
          rw [if_pos (by omega)]
          show some (HO.lst [V.int (b.amount - (b.amount - u)), V.int (b.amount - u), V.int 0]) = _
          rw [eu]; rfl
      obtain ⟨dq, rfl, s3, hdq⟩ := h
      refine ⟨_, rfl, _, rfl, l, _, _, _, rfl, rfl, lA s3, at_of (j := i) (by omega) (ix_map hlg), ?_⟩
      refine ⟨_, _, rfl, rfl, ?_⟩
      refine ⟨_, rfl, ?_⟩
      refine it_lt (fun z => absurd z (by omega)) (fun _ => ?_)
      refine ⟨_, rfl, _, rfl, ea, _, _, _, rfl, rfl, sqT (s3 _ _ (s1 _ _ hea)), at_of (j := i) (by omega) hev, ?_⟩
      refine ⟨_, rfl, et, dq, endOf b u, rfl, s3 _ _ (s1 _ _ het), .inl (sqL hdq), by rw [endOf_len]; decide, ?_⟩
      refine ⟨_, rfl, iteF ?_⟩
      exact ⟨_, _, rfl, s1.trans s3⟩
    · obtain ⟨y3, y4, rfl, s1⟩ := h
      exact q _
abbrev s_wstocked : Stmt := topS 61
theorem sc_wstocked : FnScope ["_law_larder_here", "_law_packs_here", "_law_counts", "_law_k", "_law_turn"] ["_law_larder_here", "_law_packs_here", "_law_counts"] (defScope s_wstocked) := ⟨rfl, rfl, rfl, by decide +kernel, rfl, by decide +kernel, by decide +kernel⟩
theorem bd_wstocked : ∀ (kV doc pm : Value) (an : Option Addr) (cdv ct : Value) (us : List Value), us.length = (["_law_larder_here", "_law_packs_here", "_law_counts"] : List Str).length → bindArgs (PySem.W.fnOf "_law_stocked" "_law_stocked" (defArgs s_wstocked) (defBody s_wstocked) (defScope s_wstocked) .none kV doc pm an cdv ct) ⟨us, []⟩ = pure ((["_law_larder_here", "_law_packs_here", "_law_counts"] : List Str).zip us) := fun _ _ _ _ _ _ us hl => match us, hl with | [_, _, _], _ => rfl
def spWStocked (K : PySem.W.Frag) : Sp := fun vs H Q _ => ∃ (u v w : V) (lar : List Batch) (ps : List Pack) (cs : List Int), vs = [u, v, w] ∧ LarderAt H u lar ∧ PacksAt H v ps ∧ IntsIn K H w cs ∧ ps.length = cs.length ∧ ps.length ≤ 1000 ∧ (∀ c ∈ cs, 0 ≤ c) ∧ lar.length + sumC cs ≤ 100000 ∧
  ∀ v' H', Same H H' → LarderAt H' v' (stockL lar ps cs) → Q v' H'
theorem ok_wstocked {P : Program} {w : World} {K : PySem.W.Frag} {mg : Str → Option Value} {base : Heap} (D : DefAt K mg "_law_stocked" s_wstocked) (m_len : mg "len" = none) (m_range : mg "range" = none) : Clb P w K mg base 1 "_law_stocked" ["_law_larder_here", "_law_packs_here", "_law_counts"] (spWStocked K) := by
  refine D.clb sc_wstocked (fun vs H Q E h => ?_) bd_wstocked (fun f cdv A outer s H vs Q E hr h => ?_)
  · obtain ⟨u, v, w, lar, ps, cs, rfl, _⟩ := h
    rfl
  · obtain ⟨u, v, w, lar, ps, cs, rfl, hlar, ⟨pa, pvs, rfl, hpa, hph⟩, ⟨ca, rfl, hca⟩, hl, hz, hn, hbig, q⟩ := h
    refine ⟨_, (pss_cons (ps_for PassesOwn.never rfl (pi_range1 (by rfl) m_range (pa_cons (pe_callB (kcall_len_seq K) (by rfl) m_len (by decide +kernel) (pa_cons (pv 1) pa_nil)) pa_nil)) (pg_name (i := 3) sc_wstocked.nd rfl (.inl rfl))
      (pss_one (ps_for PassesOwn.never rfl (pi_range1 (by rfl) m_range (pa_cons (pe_ix (kix_seq K) (pv 2) (pv 3) (fun _ _ => rfl)) pa_nil)) (pg_name (i := 4) sc_wstocked.nd rfl (.inl rfl))
      (pss_one (ps_set (i := 0) sc_wstocked.nd rfl (.inl rfl) (pe_op (kop_catA K) (pv 0) (pe_tup (pa_cons (pe_tup (pa_cons (pe_ix (kix_tup K) (pe_ix (kix_tup K) (pv 1) (pv 3) (fun _ _ => rfl)) pe_int (fun _ _ => rfl)) (pa_cons (pe_ix (kix_tup K) (pe_ix (kix_tup K) (pv 1) (pv 3) (fun _ _ => rfl)) pe_int (fun _ _ => rfl)) (pa_cons (pe_ix (kix_tup K) (pe_ix (kix_tup K) (pv 1) (pv 3) (fun _ _ => rfl)) pe_int (fun _ _ => rfl)) pa_nil)))) pa_nil))))))))
    (pss_one (ps_ret (pv 0)))), ?_⟩
    have pvl := hph.len
    refine ⟨_, rfl, pa, _, rfl, .inr (sqT hpa), ?_⟩
    refine ⟨_, rfl, by omega, by omega, ?_⟩
    refine for_range (lo := 0) (fun i σ H' => ∃ (u' : V) (y3 y4 : Option V), σ = [some u', some (.ref pa), some (.ref ca), y3, y4] ∧ Same H H' ∧ LarderAt H' u' (lar ++ stockZ ((ps.zip cs).take i))) ⟨u, none, none, rfl, Same.refl _, by show LarderAt _ _ (lar ++ []); rw [List.append_nil]; exact hlar⟩ (fun i σ H1 hi h => ?_) (fun σ H1 h => ?_)
    · obtain ⟨u', y3, y4, rfl, s1, hu'⟩ := h
      have hi' : i < ps.length := by omega
      have hpv := List.getElem?_eq_getElem (show i < pvs.length by omega)
      have hpx := List.getElem?_eq_getElem hi'
      have hcx := List.getElem?_eq_getElem (show i < cs.length by omega)
      obtain ⟨pt, ep, hpt⟩ := hph.all i _ _ hpv hpx
      rw [ep] at hpv
      have hc0 := hn _ (List.getElem_mem (show i < cs.length by omega))
      have hzx := zip_ix hpx hcx
      have lim := stockZ_le ps cs (i + 1)
      have tkz := take_succ' hzx
      generalize ps[i] = p at *
      generalize hc : cs[i] = c at *
      refine ⟨_, rfl, _, rfl, ca, _, _, _, rfl, rfl, hca.same s1, at_of (j := i) (by omega) (ix_map hcx), ?_⟩
      have stz : (stockZ ((ps.zip cs).take (i + 1))) = stockZ ((ps.zip cs).take i) ++ List.replicate c.toNat ⟨p.name, p.size, p.last⟩ := by
        rw [tkz]
        unfold stockZ
        rw [List.flatMap_append, List.flatMap_cons, List.flatMap_nil, List.append_nil]
        rfl
      rw [stz, List.length_append, List.length_replicate] at lim
      refine ⟨_, rfl, by omega, by omega, ?_⟩
      refine for_range (lo := 0) (fun j σ H' => ∃ (u' : V) (y4 : Option V), σ = [some u', some (.ref pa), some (.ref ca), some (.int (0 + (i : Nat))), y4] ∧ Same H H' ∧ LarderAt H' u' ((lar ++ stockZ ((ps.zip cs).take i)) ++ List.replicate j ⟨p.name, p.size, p.last⟩)) ⟨u', y4, rfl, s1, by show LarderAt _ _ (_ ++ []); rw [List.append_nil]; exact hu'⟩ (fun j σ H2 hj h => ?_) (fun σ H2 h => ?_)
      · obtain ⟨u2, y4, rfl, s2, ⟨xa, xvs, rfl, hxa, hxh⟩⟩ := h
        have xl := hxh.len
        rw [List.length_append, List.length_append, List.length_replicate] at xl
        have s22 := Same.refl H2
        refine ⟨_, rfl, ?_⟩
        refine ⟨_, rfl, _, rfl, pa, _, _, _, rfl, rfl, sqT (s2 _ _ hpa), at_of (j := i) (by omega) hpv, ?_⟩
        refine ⟨pt, _, _, _, rfl, rfl, sqT (s2 _ _ hpt), rfl, ?_⟩
        refine ⟨_, rfl, _, rfl, pa, _, _, _, rfl, rfl, sqT (s2 _ _ hpa), at_of (j := i) (by omega) hpv, ?_⟩
        refine ⟨pt, _, _, _, rfl, rfl, sqT (s2 _ _ hpt), rfl, ?_⟩
        refine ⟨_, rfl, _, rfl, pa, _, _, _, rfl, rfl, sqT (s2 _ _ hpa), at_of (j := i) (by omega) hpv, ?_⟩
        refine ⟨pt, _, _, _, rfl, rfl, sqT (s2 _ _ hpt), rfl, ?_⟩
        refine ⟨small (by show 3 ≤ 100000; decide), fun t1 ht1 => ?_⟩
        have u1 := same_upd (o := .tup [V.str p.name, V.int p.size, V.int p.last]) ht1
        refine ⟨small (by show 1 ≤ 100000; decide), fun t2 ht2 => ?_⟩
        have u2 := same_upd (o := .tup [V.ref t1]) ht2
        have u12 := u1.trans u2
        refine cat_tup (sqT (u12 _ _ hxa)) upd_same (small' (by omega)) (by intro z; cases z) (fun p3 H9 s9 hp3 => ?_)
        have u13 := u12.trans s9
        refine ⟨.ref p3, _, rfl, s2.trans u13, p3, _, rfl, hp3, ?_⟩
        rw [List.replicate_succ', ← List.append_assoc]
        exact (hxh.mono BatchAt.mono (SameT.of u13)).snoc ⟨t1, rfl, s9 _ _ (u2 _ _ upd_same)⟩
      · obtain ⟨u2, y4, rfl, s2, hu2⟩ := h
        refine ⟨u2, _, _, rfl, s2, ?_⟩
        rw [stz, ← List.append_assoc]
        exact hu2
    · obtain ⟨u', y3, y4, rfl, s1, hu'⟩ := h
      have e : (ps.zip cs).take pvs.length = ps.zip cs := List.take_of_length_le (by rw [List.length_zip]; omega)
      refine ⟨_, rfl, q u' H1 s1 ?_⟩
      unfold stockL
      first
      | (rw [e] at hu'; exact hu')
      | (rw [show ((pvs.length : Int)).toNat = pvs.length by omega, e] at hu'; exact hu')
abbrev s_law : Stmt := topS 64
theorem sc_law : FnScope ["_law_script", "_law_world_here", "_law_dishes_here", "_law_told", "_law_due_here", "_law_found", "_law_count", "_law_left", "_law_batch", "_law_k"] ["_law_script"] (defScope s_law) := ⟨rfl, rfl, rfl, by decide +kernel, rfl, by decide +kernel, by decide +kernel⟩
theorem bd_law : ∀ (kV doc pm : Value) (an : Option Addr) (cdv ct : Value) (us : List Value), us.length = (["_law_script"] : List Str).length → bindArgs (PySem.W.fnOf "law" "law" (defArgs s_law) (defBody s_law) (defScope s_law) .none kV doc pm an cdv ct) ⟨us, []⟩ = pure ((["_law_script"] : List Str).zip us) := fun _ _ _ _ _ _ us hl => match us, hl with | [_], _ => rfl
theorem intT_lay : ∀ zs : List Int, PyData.canLayAll0 (zs.map PyData.int) = true
  | [] => by simp [PyData.canLayAll0]
  | z :: r => by rw [List.map_cons, PyData.canLayAll0, intT_lay r]; simp [PyData.canLay0]
theorem intT_deep : ∀ zs : List Int, PyData.depthAll (zs.map PyData.int) = 0
  | [] => by simp [PyData.depthAll]
  | z :: r => by rw [List.map_cons, PyData.depthAll, intT_deep r]; simp [PyData.depth]
theorem intT_shaped (zs : List Int) : SeqAt.shaped (.tuple (zs.map PyData.int)) = true := by
  have h1 := intT_lay zs
  have h2 := intT_deep zs
  unfold SeqAt.shaped
  rw [PyData.canLay0, h1, PyData.depth, h2]
  rfl
theorem intT_self (zs : List Int) : PyData.eqv (.tuple (zs.map PyData.int)) (.tuple (zs.map PyData.int)) = true := by
  refine SeqAt.eqv_refl _ ?_
  rw [PyData.canLay0]
  exact intT_lay zs
def spLaw (K : PySem.W.Frag) : Sp := fun vs H Q _ => ∃ (a : Addr) (ns : List Int), vs = [.ref a] ∧ SqL K H a (ns.map V.int) ∧ ns.length ≤ 63 ∧ ∀ H', Q (.bl true) H'
theorem ok_law {P : Program} {w : World} {K : PySem.W.Frag} {mg : Str → Option Value} {base : Heap} {S T : Addr} {f : Addr} {fd : FuncData} (F : Fun K "law" "law" s_law f fd) (m_isinstance : mg "isinstance" = none) (m_range : mg "range" = none) (m_tuple : mg "tuple" = none) (m_len : mg "len" = none) (C_mixed : Clb P w K mg base 1 "_law_mixed" ["_law_script"] (spMixed K)) (C_world : Clb P w K mg base 3 "_law_world" ["_law_cells"] (spWorld K)) (C_due : Clb P w K mg base 2 "_law_due" ["_law_dishes_here", "_law_larder_here", "_law_packs_here"] spDue) (C_tried : Clb P w K mg base 8 "_law_tried" ["_law_dishes_here", "_law_larder_here", "_law_packs_here"] spTried)
    (C_whole : Clb P w K mg base 1 "_law_whole" ["_law_found"] spWhole) (C_wstocked : Clb P w K mg base 1 "_law_stocked" ["_law_larder_here", "_law_packs_here", "_law_counts"] (spWStocked K)) (C_shopped : ClbX P w K mg base 6 "shopped" ["dishes", "larder", "packs"] (spShopped S T)) (C_cooked : ClbX P w K mg base 5 "cooked" ["dishes", "larder"] (spCooked S)) (C_dish_fits : Clb P w K mg base 2 "_law_dish_fits" ["_law_dish", "_law_pairs", "_law_larder_here", "_law_left"] spDishFits) (C_wends : Clb P w K mg base 3 "_law_ends" ["_law_larder_here", "_law_left", "_law_found"] spWEnds) :
    FnOk P w K mg base CX0 9 f fd ["_law_script"] (spLaw K) := by
  refine F.ok sc_law (fun vs H Q E h => ?_) (fun cdv A outer s H vs Q E hr h => ?_)
  · obtain ⟨a, ns, rfl, _⟩ := h
    rfl
  · obtain ⟨a, ns, rfl, hS, hl, q⟩ := h
    refine ⟨_, (pss_cons (ps_set (i := 1) sc_law.nd rfl (.inl rfl) (pe_cal C_world (hr.mono (by decide)) (pa_cons (pe_cal C_mixed (hr.mono (by decide)) (pa_cons (pv 0) pa_nil)) pa_nil)))
    (pss_cons (ps_set (i := 2) sc_law.nd rfl (.inl rfl) (pe_ix (kix_list K) (pv 1) pe_int (fun _ _ => rfl)))
    (pss_cons (ps_set (i := 3) sc_law.nd rfl (.inl rfl) (pe_cal C_tried (hr.mono (by decide)) (pa_cons (pv 2) (pa_cons (pe_ix (kix_list K) (pv 1) pe_int (fun _ _ => rfl)) (pa_cons (pe_ix (kix_list K) (pv 1) pe_int (fun _ _ => rfl)) pa_nil)))))
    (pss_cons (ps_set (i := 4) sc_law.nd rfl (.inl rfl) (pe_cal C_due (hr.mono (by decide)) (pa_cons (pv 2) (pa_cons (pe_ix (kix_list K) (pv 1) pe_int (fun _ _ => rfl)) (pa_cons (pe_ix (kix_list K) (pv 1) pe_int (fun _ _ => rfl)) pa_nil)))))
    (C8.pss_cut (ps_if (PW.pt (pw_or (pt_cmpR (kop_neD K hr.units) (pe_ix (kix_list K) (pv 3) pe_int (fun _ _ => rfl)) (pv 4) (nomark _)) (pw_or1 (pt_cmpR (kop_neD K hr.units) (pv 4) (pe_lst pa_nil) (nomark _)))))
      (pss_one (ps_ret (pe_cmpR (kop_eqD K hr.units) (pe_ix (kix_list K) (pv 3) pe_int (fun _ _ => rfl)) (pv 4) (nomark _))))
      pss_nil)
    (pss_cons (ps_set (i := 5) sc_law.nd rfl (.inl rfl) (pe_ix (kix_list K) (pv 3) pe_int (fun _ _ => rfl)))
    (C8.pss_cut (ps_if (PW.pt (pw_or (pt_not (pt_val (pe_callB (kcall_isi K) (by rfl) m_isinstance (by decide +kernel) (pa_cons (pv 5) (pa_cons (pe_bltn (v := .ty "tuple") (u := .type "tuple") (by rfl) m_tuple (by decide +kernel) rfl) pa_nil))))) (pw_or1 (pt_cmpR op_ne (pe_callB (kcall_len_seq K) (by rfl) m_len (by decide +kernel) (pa_cons (pv 5) pa_nil)) pe_int (nomark _)))))
      (pss_one (ps_ret pe_bl))
      pss_nil)
    (C8.pss_cut (ps_if (PW.pt (pw_or (pt_not (pt_val (pe_callB (kcall_isi K) (by rfl) m_isinstance (by decide +kernel) (pa_cons (pe_ix (kix_tup K) (pv 5) pe_int (fun _ _ => rfl)) (pa_cons (pe_bltn (v := .ty "tuple") (u := .type "tuple") (by rfl) m_tuple (by decide +kernel) rfl) pa_nil))))) (pw_or1 (pt_not (pt_val (pe_callB (kcall_isi K) (by rfl) m_isinstance (by decide +kernel) (pa_cons (pe_ix (kix_tup K) (pv 5) pe_int (fun _ _ => rfl)) (pa_cons (pe_bltn (v := .ty "tuple") (u := .type "tuple") (by rfl) m_tuple (by decide +kernel) rfl) pa_nil))))))))
      (pss_one (ps_ret pe_bl))
      pss_nil)
    (C8.pss_cut (ps_if (PW.pt (pw_or (pt_cmpR op_ne (pe_callB (kcall_len_seq K) (by rfl) m_len (by decide +kernel) (pa_cons (pe_ix (kix_tup K) (pv 5) pe_int (fun _ _ => rfl)) pa_nil)) (pe_callB (kcall_len_seq K) (by rfl) m_len (by decide +kernel) (pa_cons (pe_ix (kix_list K) (pv 1) pe_int (fun _ _ => rfl)) pa_nil)) (nomark _)) (pw_or1 (pt_cmpR (kop_neD K hr.units) (pe_lc (own := [("_law_count", 6)]) rfl sc_law.nd (kpi_tup K (pe_ix (kix_tup K) (pv 5) pe_int (fun _ _ => rfl))) (blkOk_by (own := [("_law_count", 6)]) (N := ["_law_script", "_law_world_here", "_law_dishes_here", "_law_told", "_law_due_here", "_law_found", "_law_count", "_law_left", "_law_batch", "_law_k"]) (sc := defScope s_law) (by decide +kernel)) (fun _ _ _ _ _ => (pg_name (i := 6) sc_law.nd rfl (.inl rfl))) (fun _ _ _ _ _ => (pts_one (PW.pt (pw_or (pt_not (pt_val (pe_cal C_whole (hr.mono (by decide)) (pa_cons (pv 6) pa_nil)))) (pw_or1 (pt_cmpR op_lt (pv 6) pe_int (nomark _))))))) (fun _ _ _ _ _ => (pv 6))) (pe_lst pa_nil) (nomark _)))))
      (pss_one (ps_ret pe_bl))
      pss_nil)
    (C8.pss_cut (ps_if (PW.pt (pw_or (pt_cmpR (kop_neD K hr.units) (pe_ix (kix_tup K) (pv 5) pe_int (fun _ _ => rfl)) (pe_cal C_wstocked (hr.mono (by decide)) (pa_cons (pe_ix (kix_list K) (pv 1) pe_int (fun _ _ => rfl)) (pa_cons (pe_ix (kix_list K) (pv 1) pe_int (fun _ _ => rfl)) (pa_cons (pe_ix (kix_tup K) (pv 5) pe_int (fun _ _ => rfl)) pa_nil)))) (nomark _)) (pw_or1 (pt_cmpR op_ne (pe_callB (kcall_len_seq K) (by rfl) m_len (by decide +kernel) (pa_cons (pe_ix (kix_tup K) (pv 5) pe_int (fun _ _ => rfl)) pa_nil)) (pe_callB (kcall_len_seq K) (by rfl) m_len (by decide +kernel) (pa_cons (pv 2) pa_nil)) (nomark _)))))
      (pss_one (ps_ret pe_bl))
      pss_nil)
    (C8.pss_cut (ps_if (PW.pt (pw_or (pt_cmpR (kop_neD K hr.units) (pe_ix (kix_tup K) (pv 5) pe_int (fun _ _ => rfl)) (pe_calS (W := fun _ _ _ _ => False) C_shopped (hr.mono (by decide)) takes0 (pa_cons (pv 2) (pa_cons (pe_ix (kix_list K) (pv 1) pe_int (fun _ _ => rfl)) (pa_cons (pe_ix (kix_list K) (pv 1) pe_int (fun _ _ => rfl)) pa_nil)))) (nomark _)) (pw_or1 (pt_cmpR (kop_neD K hr.units) (pe_ix (kix_tup K) (pv 5) pe_int (fun _ _ => rfl)) (pe_calS (W := fun _ _ _ _ => False) C_cooked (hr.mono (by decide)) takes0 (pa_cons (pv 2) (pa_cons (pe_ix (kix_tup K) (pv 5) pe_int (fun _ _ => rfl)) pa_nil))) (nomark _)))))
      (pss_one (ps_ret pe_bl))
      pss_nil)
    (pss_cons (ps_setLc (i := 7) (own := [("_law_batch", 8)])   rfl sc_law.nd rfl rfl (sw_true rfl rfl rfl (by decide +kernel)) (kpi_tup K (pe_ix (kix_tup K) (pv 5) pe_int (fun _ _ => rfl))) (blkOk_by (own := [("_law_batch", 8)]) (N := ["_law_script", "_law_world_here", "_law_dishes_here", "_law_told", "_law_due_here", "_law_found", "_law_count", "_law_left", "_law_batch", "_law_k"]) (sc := defScope s_law) (by decide +kernel)) (fun _ _ _ _ _ => (pg_name (i := 8) sc_law.nd rfl (.inl rfl))) (fun _ _ _ _ _ => pts_nil) (fun _ _ _ _ _ => (pe_ix (kix_tup K) (pv 8) pe_int (fun _ _ => rfl))))
    (pss_cons (ps_for PassesOwn.never rfl (pi_range1 (by rfl) m_range (pa_cons (pe_callB (kcall_len_seq K) (by rfl) m_len (by decide +kernel) (pa_cons (pv 2) pa_nil)) pa_nil)) (pg_name (i := 9) sc_law.nd rfl (.inl rfl))
      (pss_one (ps_if (PW.pt (pw_or (pt_not (pt_val (pe_callB (kcall_isi K) (by rfl) m_isinstance (by decide +kernel) (pa_cons (pe_ix (kix_tup K) (pe_ix (kix_tup K) (pv 5) pe_int (fun _ _ => rfl)) (pv 9) (fun _ _ => rfl)) (pa_cons (pe_bltn (v := .ty "tuple") (u := .type "tuple") (by rfl) m_tuple (by decide +kernel) rfl) pa_nil))))) (pw_or1 (pt_not (pt_val (pe_cal C_dish_fits (hr.mono (by decide)) (pa_cons (pe_ix (kix_tup K) (pv 2) (pv 9) (fun _ _ => rfl)) (pa_cons (pe_ix (kix_tup K) (pe_ix (kix_tup K) (pv 5) pe_int (fun _ _ => rfl)) (pv 9) (fun _ _ => rfl)) (pa_cons (pe_ix (kix_tup K) (pv 5) pe_int (fun _ _ => rfl)) (pa_cons (pv 7) pa_nil))))))))))
      (pss_one (ps_ret pe_bl))
      pss_nil)))
    (pss_one (ps_ret (pe_cal C_wends (hr.mono (by decide)) (pa_cons (pe_ix (kix_tup K) (pv 5) pe_int (fun _ _ => rfl)) (pa_cons (pv 7) (pa_cons (pe_ix (kix_tup K) (pv 5) pe_int (fun _ _ => rfl)) pa_nil))))))))))))))))))), ?_⟩
    refine ⟨_, rfl, a, ns, rfl, hS, hl, fun ca H1 s1 hc => ?_⟩
    refine ⟨ca, rfl, hc, fun wp dv lv pv ds lar ps seed H2 s2 hwp hds hlar hps dl ll pl dg lg pg => ?_⟩
    obtain ⟨FS, few⟩ := GoodDish.fineShop dl ll dg lg
    have pf : ∀ p ∈ ps, FinePack p := fun p hp => (pg p hp).fine
    have dsA : ∀ {Hx}, Same H2 Hx → DishesAt Hx dv ds := fun s => DishesAt.mono _ _ _ _ (SameT.of s) hds
    have laA : ∀ {Hx}, Same H2 Hx → LarderAt Hx lv lar := fun s => LarderAt.mono _ _ _ _ (SameT.of s) hlar
    have paA : ∀ {Hx}, Same H2 Hx → PacksAt Hx pv ps := fun s => PacksAt.mono _ _ _ _ (SameT.of s) hps
    have wpA : ∀ {Hx}, Same H2 Hx → SqL K Hx wp [dv, lv, pv] := fun s => sqL (s _ _ hwp)
    have s22 : Same H2 H2 := Same.refl _
    refine ⟨_, rfl, wp, _, _, _, rfl, rfl, wpA s22, rfl, ?_⟩
    refine ⟨_, rfl, _, rfl, wp, _, _, _, rfl, rfl, wpA s22, rfl, ?_⟩
    refine ⟨_, rfl, wp, _, _, _, rfl, rfl, wpA s22, rfl, ?_⟩
    refine ⟨dv, lv, pv, ds, lar, ps, rfl, hds, hlar, hps, FS, by omega, pf, fun ys tp tk x H3 s3 hperm hsort htp htk hxw hxn => ?_⟩
    refine ⟨_, rfl, _, rfl, wp, _, _, _, rfl, rfl, wpA s3, rfl, ?_⟩
    refine ⟨_, rfl, wp, _, _, _, rfl, rfl, wpA s3, rfl, ?_⟩
    refine ⟨dv, lv, pv, ds, lar, ps, rfl, dsA s3, laA s3, paA s3, FS, by omega, pf, fun dp ys2 H4 s4 hperm2 hsort2 hdp => ?_⟩
    have e2 := sorted_one hperm2 hperm hsort2 hsort
    subst e2
    have s34 := s3.trans s4
    have yn : ∀ nm ∈ ys2, NameOf seed nm := fun nm h => names_good dg nm (hperm.mem_iff.mp h)
    obtain ⟨r, hrr⟩ : ∃ r, firstBad ds lar ps ys2 = r := ⟨_, rfl⟩
    have rok : ∀ b nm, r = some (b, nm) → OkS nm := fun b nm e => (yn nm (firstBad_mem (hrr.trans e))).ok
    rw [hrr] at htk hxw hxn hdp
    have htp4 := s4 _ _ htp
    have htk4 := s4 _ _ htk
    refine ⟨fun σ' H' => σ' = [some (.ref a), some (.ref wp), some dv, some (.ref tp), some (.ref dp), none, none, none, none, none] ∧ Same H4 H' ∧ r = none, ?_, fun σ' H5 h => ?_⟩
    · refine ⟨_, rfl, tp, _, _, _, rfl, rfl, sqL htp4, rfl, ?_⟩
      refine ⟨_, rfl, dueD r, dueD r, dp_due r htk4, dp_due r hdp, due_shaped rok, due_shaped rok, ?_⟩
      rw [due_self rok]
      refine ⟨false, rfl, iteF ?_⟩
      refine ⟨_, rfl, Nat.zero_le _, fun e0 he0 => ?_⟩
      have s6 := same_upd (o := .lst []) he0
      refine ⟨dueD r, .list [], dp_due r (s6 _ _ hdp), .lst (sqL upd_same) .nil, due_shaped rok, nil_shaped, ?_⟩
      rw [due_nil]
      cases r with
      | none =>
        refine ⟨false, rfl, iteF ?_⟩
        exact ⟨rfl, s6, rfl⟩
      | some bn =>
        refine ⟨true, rfl, iteT ?_⟩
        refine ⟨_, rfl, tp, _, _, _, rfl, rfl, sqL (s6 _ _ htp4), rfl, ?_⟩
        refine ⟨_, rfl, dueD _, dueD _, dp_due _ (s6 _ _ htk4), dp_due _ (s6 _ _ hdp), due_shaped rok, due_shaped rok, ?_⟩
        rw [due_self rok]
        exact q _
    obtain ⟨rfl, s5, rfl⟩ := h
    obtain ⟨wk, cp, cs, sv, uv, us, ev, rfl, SA, hcp, hsv, hck, huv, hev, hwk⟩ := hxw rfl
    have up5 : Same H3 H5 := s4.trans s5
    have s35 := s3.trans up5
    -- the four as they stand from here on
    replace hcp := up5 _ _ hcp
    replace hwk := up5 _ _ hwk
    replace hsv := LarderAt.mono _ _ _ _ (SameT.of up5) hsv
    replace huv := UsesAt.mono _ _ _ _ (SameT.of up5) huv
    replace hev := TupAll.mono IntsT.mono _ _ _ _ (SameT.of up5) hev
    replace htp := up5 _ _ htp
    have csl := SA.len
    have yl : ys2.length ≤ 12 := by rw [hperm.length_eq]; exact few
    have sumf : sumC cs ≤ 2640 := by have a := SA.few; have : ys2.length * 220 ≤ 12 * 220 := Nat.mul_le_mul_right _ yl; omega
    have stl := stock_few (lar := lar) csl.symm
    have stf := stock_fine (cs := cs) FS.bat pf
    have stn : ∀ b ∈ stockL lar ps cs, OkS b.name := fun b hb => by
      rcases List.mem_append.mp hb with z | z
      · exact (lg b z).name.ok
      · obtain ⟨p, hpm, hr⟩ := List.mem_flatMap.mp z
        rw [(List.mem_replicate.mp hr).2]
        exact (pf _ (List.of_mem_zip hpm).1).ok
    obtain ⟨ul, fits, lefts⟩ := cook_fits FS.day FS.need (fun b hbm => by have := stf b hbm; omega) hck
    obtain ⟨sa, svs, rfl, hsa, hsh⟩ := hsv
    obtain ⟨ut, uvs, rfl, hut, huh⟩ := huv
    have svl := hsh.len
    have uvl := huh.len
    obtain ⟨lar2, hlar2⟩ : ∃ l2, stockL lar ps cs = l2 := ⟨_, rfl⟩
    rw [hlar2] at hck hsh hev stl stf stn fits lefts svl
    obtain ⟨da, dvs, rfl, hda, hdh⟩ := dsA s35
    obtain ⟨pa, pus, rfl, hpa, hph⟩ := paA s35
    have dvl := hdh.len
    have pul := hph.len
    have wkA : ∀ {Hx}, Same H5 Hx → SqT K Hx wk [.ref cp, .ref sa, .ref ut, ev] := fun s => sqT (s _ _ hwk)
    have wpB : ∀ {Hx}, Same H5 Hx → SqL K Hx wp [.ref da, lv, .ref pa] := fun s => wpA (s35.trans s)
    have s55 : Same H5 H5 := Same.refl _
    refine ⟨_, rfl, tp, _, _, _, rfl, rfl, sqL htp, rfl, ?_⟩
    have base0 : ∀ σ' : List (Option V), True := fun _ => trivial
    refine ⟨fun σ' H' => σ' = [some (.ref a), some (.ref wp), some (.ref da), some (.ref tp), some (.ref dp), some (.ref wk), none, none, none, none] ∧ H5 = H', ?_, fun σ' H' h => ?_⟩
    · refine ⟨_, rfl, ?_⟩
      refine ⟨_, _, _, _, true, rfl, .ty _, .base (.tup hwk), kit_ty (by decide +kernel), ?_⟩
      refine ⟨_, rfl, iteF ?_⟩
      refine ⟨_, rfl, wk, _, rfl, .inr (wkA s55), ?_⟩
      refine ⟨rfl, ?_⟩
      refine ⟨false, rfl, iteF ?_⟩
      exact ⟨rfl, rfl⟩
    obtain ⟨rfl, rfl⟩ := h
    refine ⟨fun σ' H' => σ' = [some (.ref a), some (.ref wp), some (.ref da), some (.ref tp), some (.ref dp), some (.ref wk), none, none, none, none] ∧ H5 = H', ?_, fun σ' H' h => ?_⟩
    · refine ⟨_, rfl, wk, _, _, _, rfl, rfl, wkA s55, rfl, ?_⟩
      refine ⟨_, _, _, _, true, rfl, .ty _, .base (.tup hcp), kit_ty (by decide +kernel), ?_⟩
      refine ⟨_, rfl, iteF ?_⟩
      refine ⟨_, rfl, wk, _, _, _, rfl, rfl, wkA s55, rfl, ?_⟩
      refine ⟨_, _, _, _, true, rfl, .ty _, .base (.tup hut), kit_ty (by decide +kernel), ?_⟩
      refine ⟨_, rfl, iteF ?_⟩
      exact ⟨rfl, rfl⟩
    obtain ⟨rfl, rfl⟩ := h
    -- the counts
    refine ⟨fun σ' H' => ∃ y6, σ' = [some (.ref a), some (.ref wp), some (.ref da), some (.ref tp), some (.ref dp), some (.ref wk), y6, none, none, none] ∧ Same H5 H', ?_, fun σ' H6 h => ?_⟩
    · refine ⟨_, rfl, wk, _, _, _, rfl, rfl, wkA s55, rfl, ?_⟩
      refine ⟨cp, _, rfl, .inr (sqT hcp), ?_⟩
      refine ⟨_, rfl, wp, _, _, _, rfl, rfl, wpB s55, rfl, ?_⟩
      refine ⟨pa, _, rfl, .inr (sqT hpa), ?_⟩
      refine ⟨rfl, ?_⟩
      refine ⟨_, rfl, ?_⟩
      refine it_neI (fun z => absurd (by rw [List.length_map, csl, pul]) z) (fun _ => ?_)
      refine ⟨_, rfl, wk, _, _, _, rfl, rfl, wkA s55, rfl, cp, rfl, ⟨_, sqT hcp⟩, fun D hD => lc_rel (walk_tup (xs := cs.map V.int)) (xs := cs) (by rw [List.length_map]) (f := fun _ => (none : Option Int)) (R := fun _ v (x : Int) => v = V.int x) mono_eq hD (fun _ s => sqT (s _ _ hcp)) (by rw [List.length_map]; omega) (fun j v y H7 H8 Ky Kn hx s7 hy h1 h2 => ?_) (fun H7 zs s7 hD' hd => ?_)⟩
      · obtain ⟨rfl, hv⟩ := hy
        rw [ix_map hx] at hv
        have hv' : V.int y = v := Option.some.inj hv
        subst hv'
        have y0 := SA.nn y (List.mem_of_getElem? hx)
        refine ⟨rfl, ?_⟩
        refine ⟨_, rfl, _, rfl, ?_⟩
        refine ⟨_, rfl, iteF ?_⟩
        refine ⟨_, rfl, _, _, rfl, rfl, ?_⟩
        refine ⟨_, rfl, ?_⟩
        refine it_lt (fun z => absurd z (by omega)) (fun _ => ?_)
        exact h2 _ rfl (Same.refl _)
      · have zn : zs = [] := by
          have := hd.len
          have e : cs.filterMap (fun _ => (none : Option Int)) = [] := by simp
          rw [e] at this
          exact List.length_eq_zero_iff.mp this
        subst zn
        refine ⟨Nat.zero_le _, fun e0 he0 => ?_⟩
        have s8 := same_upd (o := .lst []) he0
        refine ⟨.list [], .list [], .lst (sqL (s8 _ _ hD')) .nil, .lst (sqL upd_same) .nil, nil_shaped, nil_shaped, ?_⟩
        rw [show PyData.eqv (.list []) (.list []) = true from due_nil none]
        refine ⟨false, rfl, iteF ?_⟩
        exact ⟨_, rfl, s7.trans s8⟩
    obtain ⟨y6, rfl, s6⟩ := h
    have s36 := s35.trans s6
    refine ⟨fun σ' H' => σ' = [some (.ref a), some (.ref wp), some (.ref da), some (.ref tp), some (.ref dp), some (.ref wk), y6, none, none, none] ∧ Same H6 H', ?_, fun σ' H7 h => ?_⟩
    · refine ⟨_, rfl, wk, _, _, _, rfl, rfl, wkA s6, rfl, ?_⟩
      refine ⟨_, rfl, wp, _, _, _, rfl, rfl, wpB s6, rfl, ?_⟩
      refine ⟨_, rfl, wp, _, _, _, rfl, rfl, wpB s6, rfl, ?_⟩
      refine ⟨_, rfl, wk, _, _, _, rfl, rfl, wkA s6, rfl, ?_⟩
      refine ⟨lv, .ref pa, .ref cp, lar, ps, cs, rfl, laA s36, paA s36, ⟨cp, rfl, SqA.t (s6 _ _ hcp)⟩, csl.symm, by omega, SA.nn, by omega, fun v' H7 s7 hst => ?_⟩
      have s67 := s6.trans s7
      rw [hlar2] at hst
      refine ⟨_, _, dp_larder ⟨sa, svs, rfl, s67 _ _ hsa, hsh.mono BatchAt.mono (SameT.of s67)⟩, dp_larder hst, larder_shaped stn, larder_shaped stn, ?_⟩
      rw [larder_self stn]
      refine ⟨false, rfl, iteF ?_⟩
      refine ⟨_, rfl, wk, _, _, _, rfl, rfl, wkA s67, rfl, ?_⟩
      refine ⟨ut, _, rfl, .inr (sqT (s67 _ _ hut)), ?_⟩
      refine ⟨_, rfl, da, _, rfl, .inr (sqT (s67 _ _ hda)), ?_⟩
      refine ⟨rfl, ?_⟩
      refine ⟨_, rfl, ?_⟩
      refine it_neI (fun z => absurd (by rw [uvl, ul, dvl]) z) (fun _ => ?_)
      exact ⟨rfl, s7⟩
    obtain ⟨rfl, s7⟩ := h
    have s57 := s6.trans s7
    have s37 := s35.trans s57
    refine ⟨fun σ' H' => σ' = [some (.ref a), some (.ref wp), some (.ref da), some (.ref tp), some (.ref dp), some (.ref wk), y6, none, none, none] ∧ Same H7 H', ?_, fun σ' H8 h => ?_⟩
    · refine ⟨_, rfl, wk, _, _, _, rfl, rfl, wkA s57, rfl, ?_⟩
      refine ⟨_, rfl, _, rfl, wp, _, _, _, rfl, rfl, wpB s57, rfl, ?_⟩
      refine ⟨_, rfl, wp, _, _, _, rfl, rfl, wpB s57, rfl, ?_⟩
      refine ⟨.ref da, lv, .ref pa, ds, lar, ps, rfl, dsA s37, laA s37, paA s37, FS, by omega, pf, fun ys3 H8 s8 hperm3 hsort3 => ?_⟩
      have e3 := sorted_one hperm3 hperm hsort3 hsort
      subst e3
      refine ⟨fun nm d hb _ _ => (by rw [hrr] at hb; cases hb), fun nm d hb _ _ => (by rw [hrr] at hb; cases hb), fun cq cs2 hb SA2 hcq => ?_⟩
      have ec := SA.one pf SA2
      subst ec
      have s58 := s57.trans s8
      refine ⟨_, _, .tup (sqT (s58 _ _ hcp)) (dp_ints cs), .tup (sqT hcq) (dp_ints cs), intT_shaped cs, intT_shaped cs, ?_⟩
      rw [intT_self]
      refine ⟨false, rfl, iteF ?_⟩
      have s38 := s37.trans s8
      refine ⟨_, rfl, wk, _, _, _, rfl, rfl, wkA s58, rfl, ?_⟩
      refine ⟨_, rfl, _, rfl, wk, _, _, _, rfl, rfl, wkA s58, rfl, ?_⟩
      refine ⟨.ref da, .ref sa, ds, lar2, rfl, dsA s38, ⟨sa, svs, rfl, s58 _ _ hsa, hsh.mono BatchAt.mono (SameT.of s58)⟩, by omega, fun d hd => ⟨FS.dn d hd, (FS.day d hd).1, (FS.day d hd).2, FS.need d hd⟩, by omega, stf, fun H9 s9 => ⟨fun nm d hc _ _ => (by rw [hck] at hc; cases hc), fun us2 uv2 hc huv2 _ _ => ?_⟩⟩
      rw [hck] at hc
      cases hc
      have s59 := s58.trans s9
      refine ⟨usesD us, usesD us, dp_uses _ _ ⟨ut, uvs, rfl, s59 _ _ hut, huh.mono PairsAt.mono (SameT.of s59)⟩, dp_uses _ _ huv2, usesD_shaped us, usesD_shaped us, ?_⟩
      rw [usesD_self]
      refine ⟨false, rfl, iteF ?_⟩
      exact ⟨rfl, s8.trans s9⟩
    obtain ⟨rfl, s8⟩ := h
    have s58 := s57.trans s8
    refine ⟨_, rfl, wk, _, _, _, rfl, rfl, wkA s58, rfl, sa, rfl, ⟨_, sqT (s58 _ _ hsa)⟩, fun D hD => lc_rel (walk_tup (xs := svs)) (xs := lar2) svl.symm (f := fun b => some b.amount) (R := fun _ v (x : Int) => v = V.int x) mono_eq hD (fun _ s => sqT (s _ _ (s58 _ _ hsa))) (by omega) (fun j v b H9 H10 Ky Kn hx s9 hy h1 h2 => ?_) (fun H9 zs s9 hD' hd => ?_)⟩
    · obtain ⟨rfl, hv⟩ := hy
      obtain ⟨t, rfl, ht⟩ := hsh.all j v b hv hx
      refine ⟨rfl, ?_⟩
      refine ⟨_, rfl, t, _, _, _, rfl, rfl, sqT (s9 _ _ (s58 _ _ ht)), rfl, ?_⟩
      exact h1 _ _ _ rfl (Same.refl _) rfl
    · have ez := held_eq (f := V.int) hd
      have eL : lar2.filterMap (fun b => some b.amount) = leftL lar2 (usedOf (us.take 0)) := by
        rw [fm_some]
        unfold leftL
        rw [map_getD (fun b : Batch => b.amount) bz]
        apply List.map_congr_left
        intro k _
        show _ = _ - 0
        omega
      rw [ez, eL] at hD'
      have s59 := s58.trans s9
      have hDH : H5 D = none := same_none s58 hD
      refine ⟨_, rfl, da, _, rfl, .inr (sqT (s59 _ _ hda)), ?_⟩
      refine ⟨_, rfl, by omega, by omega, ?_⟩
      refine for_range (lo := 0) (fun i σ H' => ∃ y8 y9, σ = [some (.ref a), some (.ref wp), some (.ref da), some (.ref tp), some (.ref dp), some (.ref wk), y6, some (.ref D), y8, y9] ∧ Same H5 H' ∧ H' D = some (.lst ((leftL lar2 (usedOf (us.take i))).map V.int)))
        ⟨_, _, rfl, s59, hD'⟩ (fun i σ H10 hi h => ?_) (fun σ H10 h => ?_)
      · obtain ⟨y8, y9, rfl, s10, hD10⟩ := h
        have hi' : i < ds.length := by omega
        have hdv := List.getElem?_eq_getElem (show i < dvs.length by omega)
        have huv' := List.getElem?_eq_getElem (show i < uvs.length by omega)
        have hdx := at_getD hi' dz
        have hux := at_getD (show i < us.length by omega) ([] : List Use)
        have hDi := hdh.all i _ _ hdv hdx
        obtain ⟨qt, qvs, eq, hqt, hqh⟩ := huh.all i _ _ huv' hux
        rw [eq] at huv'
        have dm : ds.getD i dz ∈ ds := List.mem_of_getElem? hdx
        refine ⟨_, rfl, wk, _, _, _, rfl, rfl, wkA s10, rfl, ?_⟩
        refine ⟨_, rfl, ut, _, _, _, rfl, rfl, sqT (s10 _ _ hut), at_of (j := i) (by omega) huv', ?_⟩
        refine ⟨_, _, _, _, true, rfl, .ty _, .base (.tup (s10 _ _ hqt)), kit_ty (by decide +kernel), ?_⟩
        refine ⟨_, rfl, iteF ?_⟩
        refine ⟨_, rfl, _, rfl, da, _, _, _, rfl, rfl, sqT (s10 _ _ hda), at_of (j := i) (by omega) hdv, ?_⟩
        refine ⟨_, rfl, wk, _, _, _, rfl, rfl, wkA s10, rfl, ?_⟩
        refine ⟨_, rfl, ut, _, _, _, rfl, rfl, sqT (s10 _ _ hut), at_of (j := i) (by omega) huv', ?_⟩
        refine ⟨_, rfl, wk, _, _, _, rfl, rfl, wkA s10, rfl, ?_⟩
        refine ⟨_, rfl, dvs[i], .ref qt, .ref sa, D, ds.getD i dz, us.getD i [], lar2, _, rfl, DishAt.mono _ _ _ _ (SameT.of s10) hDi, ⟨qt, qvs, rfl, s10 _ _ hqt, hqh.mono UseAt.mono (SameT.of s10)⟩, ⟨sa, svs, rfl, s10 _ _ hsa, hsh.mono BatchAt.mono (SameT.of s10)⟩, hD10, fits i hi', fun x hx => (FS.need _ dm x hx).1, FS.dn _ dm, by omega, fun H11 sb hl11 => ?_⟩
        refine ⟨_, rfl, iteF ?_⟩
        refine ⟨_, _, rfl, SameBut.over s10 hDH sb, ?_⟩
        rw [hl11]
        have eF : (fun k => usedOf (us.take i) k + usedP (us.getD i []) k) = usedOf (us.take (i + 1)) := by
          funext k
          rw [take_succ' hux, usedOf_snoc]
        rw [eF]
      · obtain ⟨y8, y9, rfl, s10, hD10⟩ := h
        have etk : us.take dvs.length = us := List.take_of_length_le (by omega)
        have hDz : H10 D = some (.lst ((leftL lar2 (usedOf us)).map V.int)) := by
          first
          | (rw [etk] at hD10; exact hD10)
          | (rw [show ((dvs.length : Int)).toNat = dvs.length by omega, etk] at hD10; exact hD10)
        refine ⟨_, rfl, wk, _, _, _, rfl, rfl, wkA s10, rfl, ?_⟩
        refine ⟨_, rfl, _, rfl, wk, _, _, _, rfl, rfl, wkA s10, rfl, ?_⟩
        exact ⟨.ref sa, ev, D, lar2, us, rfl, ⟨sa, svs, rfl, s10 _ _ hsa, hsh.mono BatchAt.mono (SameT.of s10)⟩, hDz, TupAll.mono IntsT.mono _ _ _ _ (SameT.of s10) hev, by omega, lefts, q⟩
/-! ### what the top has written -/
theorem all_mk {l : PySem.W.OpenLaw} {w : World} {K : PySem.W.Frag} {h : Heap} {mg : Str → Option Value} {fa : Addr} (X : K.In h) (G : h.Ns mainGlobals mg) (hfa : mg "law" = some (.ref fa))
    {f0 : Addr} {od0 an0 : Option Addr} {sl0 : Array (Option Value)} {oc0 kV0 dc0 pm0 cd0 ct0 : Value} (a0 : PySem.W.nsIn K mainGlobals "_law_whole" = some (some (.ref f0))) (l0 : K.lookup f0 = some ⟨oc0, od0, .func (PySem.W.fnOf "_law_whole" "_law_whole" (defArgs s_whole) (defBody s_whole) (defScope s_whole) .none kV0 dc0 pm0 an0 cd0 ct0), sl0⟩) (c0 : PySem.W.codeIn K cd0 "_law_whole" = true) (k0 : PySem.W.keepIn K (.ref f0) = true)
    {f1 : Addr} {od1 an1 : Option Addr} {sl1 : Array (Option Value)} {oc1 kV1 dc1 pm1 cd1 ct1 : Value} (a1 : PySem.W.nsIn K mainGlobals "_law_dish_fits" = some (some (.ref f1))) (l1 : K.lookup f1 = some ⟨oc1, od1, .func (PySem.W.fnOf "_law_dish_fits" "_law_dish_fits" (defArgs s_dish_fits) (defBody s_dish_fits) (defScope s_dish_fits) .none kV1 dc1 pm1 an1 cd1 ct1), sl1⟩) (c1 : PySem.W.codeIn K cd1 "_law_dish_fits" = true) (k1 : PySem.W.keepIn K (.ref f1) = true)
    {f2 : Addr} {od2 an2 : Option Addr} {sl2 : Array (Option Value)} {oc2 kV2 dc2 pm2 cd2 ct2 : Value} (a2 : PySem.W.nsIn K mainGlobals "_law_lacks" = some (some (.ref f2))) (l2 : K.lookup f2 = some ⟨oc2, od2, .func (PySem.W.fnOf "_law_lacks" "_law_lacks" (defArgs s_lacks) (defBody s_lacks) (defScope s_lacks) .none kV2 dc2 pm2 an2 cd2 ct2), sl2⟩) (c2 : PySem.W.codeIn K cd2 "_law_lacks" = true) (k2 : PySem.W.keepIn K (.ref f2) = true)
    {f3 : Addr} {od3 an3 : Option Addr} {sl3 : Array (Option Value)} {oc3 kV3 dc3 pm3 cd3 ct3 : Value} (a3 : PySem.W.nsIn K mainGlobals "_law_of_all" = some (some (.ref f3))) (l3 : K.lookup f3 = some ⟨oc3, od3, .func (PySem.W.fnOf "_law_of_all" "_law_of_all" (defArgs s_of_all) (defBody s_of_all) (defScope s_of_all) .none kV3 dc3 pm3 an3 cd3 ct3), sl3⟩) (c3 : PySem.W.codeIn K cd3 "_law_of_all" = true) (k3 : PySem.W.keepIn K (.ref f3) = true)
    {f4 : Addr} {od4 an4 : Option Addr} {sl4 : Array (Option Value)} {oc4 kV4 dc4 pm4 cd4 ct4 : Value} (a4 : PySem.W.nsIn K mainGlobals "_law_things" = some (some (.ref f4))) (l4 : K.lookup f4 = some ⟨oc4, od4, .func (PySem.W.fnOf "_law_things" "_law_things" (defArgs s_things) (defBody s_things) (defScope s_things) .none kV4 dc4 pm4 an4 cd4 ct4), sl4⟩) (c4 : PySem.W.codeIn K cd4 "_law_things" = true) (k4 : PySem.W.keepIn K (.ref f4) = true)
    {f5 : Addr} {od5 an5 : Option Addr} {sl5 : Array (Option Value)} {oc5 kV5 dc5 pm5 cd5 ct5 : Value} (a5 : PySem.W.nsIn K mainGlobals "_law_due" = some (some (.ref f5))) (l5 : K.lookup f5 = some ⟨oc5, od5, .func (PySem.W.fnOf "_law_due" "_law_due" (defArgs s_due) (defBody s_due) (defScope s_due) .none kV5 dc5 pm5 an5 cd5 ct5), sl5⟩) (c5 : PySem.W.codeIn K cd5 "_law_due" = true) (k5 : PySem.W.keepIn K (.ref f5) = true)
    {f6 : Addr} {od6 an6 : Option Addr} {sl6 : Array (Option Value)} {oc6 kV6 dc6 pm6 cd6 ct6 : Value} (a6 : PySem.W.nsIn K mainGlobals "_law_numbers" = some (some (.ref f6))) (l6 : K.lookup f6 = some ⟨oc6, od6, .func (PySem.W.fnOf "_law_numbers" "_law_numbers" (defArgs s_numbers) (defBody s_numbers) (defScope s_numbers) .none kV6 dc6 pm6 an6 cd6 ct6), sl6⟩) (c6 : PySem.W.codeIn K cd6 "_law_numbers" = true) (k6 : PySem.W.keepIn K (.ref f6) = true)
    {f7 : Addr} {od7 an7 : Option Addr} {sl7 : Array (Option Value)} {oc7 kV7 dc7 pm7 cd7 ct7 : Value} (a7 : PySem.W.nsIn K mainGlobals "_law_ends" = some (some (.ref f7))) (l7 : K.lookup f7 = some ⟨oc7, od7, .func (PySem.W.fnOf "_law_ends" "_law_ends" (defArgs s_wends) (defBody s_wends) (defScope s_wends) .none kV7 dc7 pm7 an7 cd7 ct7), sl7⟩) (c7 : PySem.W.codeIn K cd7 "_law_ends" = true) (k7 : PySem.W.keepIn K (.ref f7) = true)
    {f8 : Addr} {od8 an8 : Option Addr} {sl8 : Array (Option Value)} {oc8 kV8 dc8 pm8 cd8 ct8 : Value} (a8 : PySem.W.nsIn K mainGlobals "_law_mixed" = some (some (.ref f8))) (l8 : K.lookup f8 = some ⟨oc8, od8, .func (PySem.W.fnOf "_law_mixed" "_law_mixed" (defArgs s_mixed) (defBody s_mixed) (defScope s_mixed) .none kV8 dc8 pm8 an8 cd8 ct8), sl8⟩) (c8 : PySem.W.codeIn K cd8 "_law_mixed" = true) (k8 : PySem.W.keepIn K (.ref f8) = true)
    {f9 : Addr} {od9 an9 : Option Addr} {sl9 : Array (Option Value)} {oc9 kV9 dc9 pm9 cd9 ct9 : Value} (a9 : PySem.W.nsIn K mainGlobals "_law_stocked" = some (some (.ref f9))) (l9 : K.lookup f9 = some ⟨oc9, od9, .func (PySem.W.fnOf "_law_stocked" "_law_stocked" (defArgs s_wstocked) (defBody s_wstocked) (defScope s_wstocked) .none kV9 dc9 pm9 an9 cd9 ct9), sl9⟩) (c9 : PySem.W.codeIn K cd9 "_law_stocked" = true) (k9 : PySem.W.keepIn K (.ref f9) = true)
    {f10 : Addr} {od10 an10 : Option Addr} {sl10 : Array (Option Value)} {oc10 kV10 dc10 pm10 cd10 ct10 : Value} (a10 : PySem.W.nsIn K mainGlobals "_law_kinds" = some (some (.ref f10))) (l10 : K.lookup f10 = some ⟨oc10, od10, .func (PySem.W.fnOf "_law_kinds" "_law_kinds" (defArgs s_kinds) (defBody s_kinds) (defScope s_kinds) .none kV10 dc10 pm10 an10 cd10 ct10), sl10⟩) (c10 : PySem.W.codeIn K cd10 "_law_kinds" = true) (k10 : PySem.W.keepIn K (.ref f10) = true)
    {f11 : Addr} {od11 an11 : Option Addr} {sl11 : Array (Option Value)} {oc11 kV11 dc11 pm11 cd11 ct11 : Value} (a11 : PySem.W.nsIn K mainGlobals "lines_of" = some (some (.ref f11))) (l11 : K.lookup f11 = some ⟨oc11, od11, .func (PySem.W.fnOf "lines_of" "lines_of" (defArgs s_lines_of) (defBody s_lines_of) (defScope s_lines_of) .none kV11 dc11 pm11 an11 cd11 ct11), sl11⟩) (c11 : PySem.W.codeIn K cd11 "lines_of" = true) (k11 : PySem.W.keepIn K (.ref f11) = true)
    {f12 : Addr} {od12 an12 : Option Addr} {sl12 : Array (Option Value)} {oc12 kV12 dc12 pm12 cd12 ct12 : Value} (a12 : PySem.W.nsIn K mainGlobals "taken" = some (some (.ref f12))) (l12 : K.lookup f12 = some ⟨oc12, od12, .func (PySem.W.fnOf "taken" "taken" (defArgs s_taken) (defBody s_taken) (defScope s_taken) .none kV12 dc12 pm12 an12 cd12 ct12), sl12⟩) (c12 : PySem.W.codeIn K cd12 "taken" = true) (k12 : PySem.W.keepIn K (.ref f12) = true)
    {f13 : Addr} {od13 an13 : Option Addr} {sl13 : Array (Option Value)} {oc13 kV13 dc13 pm13 cd13 ct13 : Value} (a13 : PySem.W.nsIn K mainGlobals "used_by" = some (some (.ref f13))) (l13 : K.lookup f13 = some ⟨oc13, od13, .func (PySem.W.fnOf "used_by" "used_by" (defArgs s_used_by) (defBody s_used_by) (defScope s_used_by) .none kV13 dc13 pm13 an13 cd13 ct13), sl13⟩) (c13 : PySem.W.codeIn K cd13 "used_by" = true) (k13 : PySem.W.keepIn K (.ref f13) = true)
    {f14 : Addr} {od14 an14 : Option Addr} {sl14 : Array (Option Value)} {oc14 kV14 dc14 pm14 cd14 ct14 : Value} (a14 : PySem.W.nsIn K mainGlobals "cooked" = some (some (.ref f14))) (l14 : K.lookup f14 = some ⟨oc14, od14, .func (PySem.W.fnOf "cooked" "cooked" (defArgs s_cooked) (defBody s_cooked) (defScope s_cooked) .none kV14 dc14 pm14 an14 cd14 ct14), sl14⟩) (c14 : PySem.W.codeIn K cd14 "cooked" = true) (k14 : PySem.W.keepIn K (.ref f14) = true)
    {f15 : Addr} {od15 an15 : Option Addr} {sl15 : Array (Option Value)} {oc15 kV15 dc15 pm15 cd15 ct15 : Value} (a15 : PySem.W.nsIn K mainGlobals "end_of" = some (some (.ref f15))) (l15 : K.lookup f15 = some ⟨oc15, od15, .func (PySem.W.fnOf "end_of" "end_of" (defArgs s_end_of) (defBody s_end_of) (defScope s_end_of) .none kV15 dc15 pm15 an15 cd15 ct15), sl15⟩) (c15 : PySem.W.codeIn K cd15 "end_of" = true) (k15 : PySem.W.keepIn K (.ref f15) = true)
    {f16 : Addr} {od16 an16 : Option Addr} {sl16 : Array (Option Value)} {oc16 kV16 dc16 pm16 cd16 ct16 : Value} (a16 : PySem.W.nsIn K mainGlobals "sums_of" = some (some (.ref f16))) (l16 : K.lookup f16 = some ⟨oc16, od16, .func (PySem.W.fnOf "sums_of" "sums_of" (defArgs s_sums_of) (defBody s_sums_of) (defScope s_sums_of) .none kV16 dc16 pm16 an16 cd16 ct16), sl16⟩) (c16 : PySem.W.codeIn K cd16 "sums_of" = true) (k16 : PySem.W.keepIn K (.ref f16) = true)
    {f17 : Addr} {od17 an17 : Option Addr} {sl17 : Array (Option Value)} {oc17 kV17 dc17 pm17 cd17 ct17 : Value} (a17 : PySem.W.nsIn K mainGlobals "ends" = some (some (.ref f17))) (l17 : K.lookup f17 = some ⟨oc17, od17, .func (PySem.W.fnOf "ends" "ends" (defArgs s_ends) (defBody s_ends) (defScope s_ends) .none kV17 dc17 pm17 an17 cd17 ct17), sl17⟩) (c17 : PySem.W.codeIn K cd17 "ends" = true) (k17 : PySem.W.keepIn K (.ref f17) = true)
    {f18 : Addr} {od18 an18 : Option Addr} {sl18 : Array (Option Value)} {oc18 kV18 dc18 pm18 cd18 ct18 : Value} (a18 : PySem.W.nsIn K mainGlobals "with_offer" = some (some (.ref f18))) (l18 : K.lookup f18 = some ⟨oc18, od18, .func (PySem.W.fnOf "with_offer" "with_offer" (defArgs s_with_offer) (defBody s_with_offer) (defScope s_with_offer) .none kV18 dc18 pm18 an18 cd18 ct18), sl18⟩) (c18 : PySem.W.codeIn K cd18 "with_offer" = true) (k18 : PySem.W.keepIn K (.ref f18) = true)
    {f19 : Addr} {od19 an19 : Option Addr} {sl19 : Array (Option Value)} {oc19 kV19 dc19 pm19 cd19 ct19 : Value} (a19 : PySem.W.nsIn K mainGlobals "first_fitting" = some (some (.ref f19))) (l19 : K.lookup f19 = some ⟨oc19, od19, .func (PySem.W.fnOf "first_fitting" "first_fitting" (defArgs s_first_fitting) (defBody s_first_fitting) (defScope s_first_fitting) .none kV19 dc19 pm19 an19 cd19 ct19), sl19⟩) (c19 : PySem.W.codeIn K cd19 "first_fitting" = true) (k19 : PySem.W.keepIn K (.ref f19) = true)
    {f20 : Addr} {od20 an20 : Option Addr} {sl20 : Array (Option Value)} {oc20 kV20 dc20 pm20 cd20 ct20 : Value} (a20 : PySem.W.nsIn K mainGlobals "going_on" = some (some (.ref f20))) (l20 : K.lookup f20 = some ⟨oc20, od20, .func (PySem.W.fnOf "going_on" "going_on" (defArgs s_going_on) (defBody s_going_on) (defScope s_going_on) .none kV20 dc20 pm20 an20 cd20 ct20), sl20⟩) (c20 : PySem.W.codeIn K cd20 "going_on" = true) (k20 : PySem.W.keepIn K (.ref f20) = true)
    {f21 : Addr} {od21 an21 : Option Addr} {sl21 : Array (Option Value)} {oc21 kV21 dc21 pm21 cd21 ct21 : Value} (a21 : PySem.W.nsIn K mainGlobals "sold_on" = some (some (.ref f21))) (l21 : K.lookup f21 = some ⟨oc21, od21, .func (PySem.W.fnOf "sold_on" "sold_on" (defArgs s_sold_on) (defBody s_sold_on) (defScope s_sold_on) .none kV21 dc21 pm21 an21 cd21 ct21), sl21⟩) (c21 : PySem.W.codeIn K cd21 "sold_on" = true) (k21 : PySem.W.keepIn K (.ref f21) = true)
    {f22 : Addr} {od22 an22 : Option Addr} {sl22 : Array (Option Value)} {oc22 kV22 dc22 pm22 cd22 ct22 : Value} (a22 : PySem.W.nsIn K mainGlobals "least" = some (some (.ref f22))) (l22 : K.lookup f22 = some ⟨oc22, od22, .func (PySem.W.fnOf "least" "least" (defArgs s_least) (defBody s_least) (defScope s_least) .none kV22 dc22 pm22 an22 cd22 ct22), sl22⟩) (c22 : PySem.W.codeIn K cd22 "least" = true) (k22 : PySem.W.keepIn K (.ref f22) = true)
    {f23 : Addr} {od23 an23 : Option Addr} {sl23 : Array (Option Value)} {oc23 kV23 dc23 pm23 cd23 ct23 : Value} (a23 : PySem.W.nsIn K mainGlobals "row_of" = some (some (.ref f23))) (l23 : K.lookup f23 = some ⟨oc23, od23, .func (PySem.W.fnOf "row_of" "row_of" (defArgs s_row_of) (defBody s_row_of) (defScope s_row_of) .none kV23 dc23 pm23 an23 cd23 ct23), sl23⟩) (c23 : PySem.W.codeIn K cd23 "row_of" = true) (k23 : PySem.W.keepIn K (.ref f23) = true)
    {f24 : Addr} {od24 an24 : Option Addr} {sl24 : Array (Option Value)} {oc24 kV24 dc24 pm24 cd24 ct24 : Value} (a24 : PySem.W.nsIn K mainGlobals "table" = some (some (.ref f24))) (l24 : K.lookup f24 = some ⟨oc24, od24, .func (PySem.W.fnOf "table" "table" (defArgs s_table) (defBody s_table) (defScope s_table) .none kV24 dc24 pm24 an24 cd24 ct24), sl24⟩) (c24 : PySem.W.codeIn K cd24 "table" = true) (k24 : PySem.W.keepIn K (.ref f24) = true)
    {f25 : Addr} {od25 an25 : Option Addr} {sl25 : Array (Option Value)} {oc25 kV25 dc25 pm25 cd25 ct25 : Value} (a25 : PySem.W.nsIn K mainGlobals "bought" = some (some (.ref f25))) (l25 : K.lookup f25 = some ⟨oc25, od25, .func (PySem.W.fnOf "bought" "bought" (defArgs s_bought) (defBody s_bought) (defScope s_bought) .none kV25 dc25 pm25 an25 cd25 ct25), sl25⟩) (c25 : PySem.W.codeIn K cd25 "bought" = true) (k25 : PySem.W.keepIn K (.ref f25) = true)
    {f26 : Addr} {od26 an26 : Option Addr} {sl26 : Array (Option Value)} {oc26 kV26 dc26 pm26 cd26 ct26 : Value} (a26 : PySem.W.nsIn K mainGlobals "from_day" = some (some (.ref f26))) (l26 : K.lookup f26 = some ⟨oc26, od26, .func (PySem.W.fnOf "from_day" "from_day" (defArgs s_from_day) (defBody s_from_day) (defScope s_from_day) .none kV26 dc26 pm26 an26 cd26 ct26), sl26⟩) (c26 : PySem.W.codeIn K cd26 "from_day" = true) (k26 : PySem.W.keepIn K (.ref f26) = true)
    {f27 : Addr} {od27 an27 : Option Addr} {sl27 : Array (Option Value)} {oc27 kV27 dc27 pm27 cd27 ct27 : Value} (a27 : PySem.W.nsIn K mainGlobals "kept_to" = some (some (.ref f27))) (l27 : K.lookup f27 = some ⟨oc27, od27, .func (PySem.W.fnOf "kept_to" "kept_to" (defArgs s_kept_to) (defBody s_kept_to) (defScope s_kept_to) .none kV27 dc27 pm27 an27 cd27 ct27), sl27⟩) (c27 : PySem.W.codeIn K cd27 "kept_to" = true) (k27 : PySem.W.keepIn K (.ref f27) = true)
    {f28 : Addr} {od28 an28 : Option Addr} {sl28 : Array (Option Value)} {oc28 kV28 dc28 pm28 cd28 ct28 : Value} (a28 : PySem.W.nsIn K mainGlobals "kept" = some (some (.ref f28))) (l28 : K.lookup f28 = some ⟨oc28, od28, .func (PySem.W.fnOf "kept" "kept" (defArgs s_kept) (defBody s_kept) (defScope s_kept) .none kV28 dc28 pm28 an28 cd28 ct28), sl28⟩) (c28 : PySem.W.codeIn K cd28 "kept" = true) (k28 : PySem.W.keepIn K (.ref f28) = true)
    {f29 : Addr} {od29 an29 : Option Addr} {sl29 : Array (Option Value)} {oc29 kV29 dc29 pm29 cd29 ct29 : Value} (a29 : PySem.W.nsIn K mainGlobals "needed_on" = some (some (.ref f29))) (l29 : K.lookup f29 = some ⟨oc29, od29, .func (PySem.W.fnOf "needed_on" "needed_on" (defArgs s_needed_on) (defBody s_needed_on) (defScope s_needed_on) .none kV29 dc29 pm29 an29 cd29 ct29), sl29⟩) (c29 : PySem.W.codeIn K cd29 "needed_on" = true) (k29 : PySem.W.keepIn K (.ref f29) = true)
    {f30 : Addr} {od30 an30 : Option Addr} {sl30 : Array (Option Value)} {oc30 kV30 dc30 pm30 cd30 ct30 : Value} (a30 : PySem.W.nsIn K mainGlobals "needed" = some (some (.ref f30))) (l30 : K.lookup f30 = some ⟨oc30, od30, .func (PySem.W.fnOf "needed" "needed" (defArgs s_needed) (defBody s_needed) (defScope s_needed) .none kV30 dc30 pm30 an30 cd30 ct30), sl30⟩) (c30 : PySem.W.codeIn K cd30 "needed" = true) (k30 : PySem.W.keepIn K (.ref f30) = true)
    {f31 : Addr} {od31 an31 : Option Addr} {sl31 : Array (Option Value)} {oc31 kV31 dc31 pm31 cd31 ct31 : Value} (a31 : PySem.W.nsIn K mainGlobals "lacking" = some (some (.ref f31))) (l31 : K.lookup f31 = some ⟨oc31, od31, .func (PySem.W.fnOf "lacking" "lacking" (defArgs s_lacking) (defBody s_lacking) (defScope s_lacking) .none kV31 dc31 pm31 an31 cd31 ct31), sl31⟩) (c31 : PySem.W.codeIn K cd31 "lacking" = true) (k31 : PySem.W.keepIn K (.ref f31) = true)
    {f32 : Addr} {od32 an32 : Option Addr} {sl32 : Array (Option Value)} {oc32 kV32 dc32 pm32 cd32 ct32 : Value} (a32 : PySem.W.nsIn K mainGlobals "counts_of" = some (some (.ref f32))) (l32 : K.lookup f32 = some ⟨oc32, od32, .func (PySem.W.fnOf "counts_of" "counts_of" (defArgs s_counts_of) (defBody s_counts_of) (defScope s_counts_of) .none kV32 dc32 pm32 an32 cd32 ct32), sl32⟩) (c32 : PySem.W.codeIn K cd32 "counts_of" = true) (k32 : PySem.W.keepIn K (.ref f32) = true)
    {f33 : Addr} {od33 an33 : Option Addr} {sl33 : Array (Option Value)} {oc33 kV33 dc33 pm33 cd33 ct33 : Value} (a33 : PySem.W.nsIn K mainGlobals "offers_of" = some (some (.ref f33))) (l33 : K.lookup f33 = some ⟨oc33, od33, .func (PySem.W.fnOf "offers_of" "offers_of" (defArgs s_offers_of) (defBody s_offers_of) (defScope s_offers_of) .none kV33 dc33 pm33 an33 cd33 ct33), sl33⟩) (c33 : PySem.W.codeIn K cd33 "offers_of" = true) (k33 : PySem.W.keepIn K (.ref f33) = true)
    {f34 : Addr} {od34 an34 : Option Addr} {sl34 : Array (Option Value)} {oc34 kV34 dc34 pm34 cd34 ct34 : Value} (a34 : PySem.W.nsIn K mainGlobals "things_of" = some (some (.ref f34))) (l34 : K.lookup f34 = some ⟨oc34, od34, .func (PySem.W.fnOf "things_of" "things_of" (defArgs s_things_of) (defBody s_things_of) (defScope s_things_of) .none kV34 dc34 pm34 an34 cd34 ct34), sl34⟩) (c34 : PySem.W.codeIn K cd34 "things_of" = true) (k34 : PySem.W.keepIn K (.ref f34) = true)
    {f35 : Addr} {od35 an35 : Option Addr} {sl35 : Array (Option Value)} {oc35 kV35 dc35 pm35 cd35 ct35 : Value} (a35 : PySem.W.nsIn K mainGlobals "shopped" = some (some (.ref f35))) (l35 : K.lookup f35 = some ⟨oc35, od35, .func (PySem.W.fnOf "shopped" "shopped" (defArgs s_shopped) (defBody s_shopped) (defScope s_shopped) .none kV35 dc35 pm35 an35 cd35 ct35), sl35⟩) (c35 : PySem.W.codeIn K cd35 "shopped" = true) (k35 : PySem.W.keepIn K (.ref f35) = true)
    {f36 : Addr} {od36 an36 : Option Addr} {sl36 : Array (Option Value)} {oc36 kV36 dc36 pm36 cd36 ct36 : Value} (a36 : PySem.W.nsIn K mainGlobals "stocked" = some (some (.ref f36))) (l36 : K.lookup f36 = some ⟨oc36, od36, .func (PySem.W.fnOf "stocked" "stocked" (defArgs s_stocked) (defBody s_stocked) (defScope s_stocked) .none kV36 dc36 pm36 an36 cd36 ct36), sl36⟩) (c36 : PySem.W.codeIn K cd36 "stocked" = true) (k36 : PySem.W.keepIn K (.ref f36) = true)
    {f37 : Addr} {od37 an37 : Option Addr} {sl37 : Array (Option Value)} {oc37 kV37 dc37 pm37 cd37 ct37 : Value} (a37 : PySem.W.nsIn K mainGlobals "week" = some (some (.ref f37))) (l37 : K.lookup f37 = some ⟨oc37, od37, .func (PySem.W.fnOf "week" "week" (defArgs s_week) (defBody s_week) (defScope s_week) .none kV37 dc37 pm37 an37 cd37 ct37), sl37⟩) (c37 : PySem.W.codeIn K cd37 "week" = true) (k37 : PySem.W.keepIn K (.ref f37) = true)
    {f38 : Addr} {od38 an38 : Option Addr} {sl38 : Array (Option Value)} {oc38 kV38 dc38 pm38 cd38 ct38 : Value} (a38 : PySem.W.nsIn K mainGlobals "_law_tried" = some (some (.ref f38))) (l38 : K.lookup f38 = some ⟨oc38, od38, .func (PySem.W.fnOf "_law_tried" "_law_tried" (defArgs s_tried) (defBody s_tried) (defScope s_tried) .none kV38 dc38 pm38 an38 cd38 ct38), sl38⟩) (c38 : PySem.W.codeIn K cd38 "_law_tried" = true) (k38 : PySem.W.keepIn K (.ref f38) = true)
    {f39 : Addr} {od39 an39 : Option Addr} {sl39 : Array (Option Value)} {oc39 kV39 dc39 pm39 cd39 ct39 : Value} (a39 : PySem.W.nsIn K mainGlobals "_law_cell_at" = some (some (.ref f39))) (l39 : K.lookup f39 = some ⟨oc39, od39, .func (PySem.W.fnOf "_law_cell_at" "_law_cell_at" (defArgs s_cell_at) (defBody s_cell_at) (defScope s_cell_at) .none kV39 dc39 pm39 an39 cd39 ct39), sl39⟩) (c39 : PySem.W.codeIn K cd39 "_law_cell_at" = true) (k39 : PySem.W.keepIn K (.ref f39) = true)
    {f40 : Addr} {od40 an40 : Option Addr} {sl40 : Array (Option Value)} {oc40 kV40 dc40 pm40 cd40 ct40 : Value} (a40 : PySem.W.nsIn K mainGlobals "_law_amount" = some (some (.ref f40))) (l40 : K.lookup f40 = some ⟨oc40, od40, .func (PySem.W.fnOf "_law_amount" "_law_amount" (defArgs s_amount) (defBody s_amount) (defScope s_amount) .none kV40 dc40 pm40 an40 cd40 ct40), sl40⟩) (c40 : PySem.W.codeIn K cd40 "_law_amount" = true) (k40 : PySem.W.keepIn K (.ref f40) = true)
    {f41 : Addr} {od41 an41 : Option Addr} {sl41 : Array (Option Value)} {oc41 kV41 dc41 pm41 cd41 ct41 : Value} (a41 : PySem.W.nsIn K mainGlobals "_law_mix" = some (some (.ref f41))) (l41 : K.lookup f41 = some ⟨oc41, od41, .func (PySem.W.fnOf "_law_mix" "_law_mix" (defArgs s_mix) (defBody s_mix) (defScope s_mix) .none kV41 dc41 pm41 an41 cd41 ct41), sl41⟩) (c41 : PySem.W.codeIn K cd41 "_law_mix" = true) (k41 : PySem.W.keepIn K (.ref f41) = true)
    {f42 : Addr} {od42 an42 : Option Addr} {sl42 : Array (Option Value)} {oc42 kV42 dc42 pm42 cd42 ct42 : Value} (a42 : PySem.W.nsIn K mainGlobals "_law_name_by" = some (some (.ref f42))) (l42 : K.lookup f42 = some ⟨oc42, od42, .func (PySem.W.fnOf "_law_name_by" "_law_name_by" (defArgs s_name_by) (defBody s_name_by) (defScope s_name_by) .none kV42 dc42 pm42 an42 cd42 ct42), sl42⟩) (c42 : PySem.W.codeIn K cd42 "_law_name_by" = true) (k42 : PySem.W.keepIn K (.ref f42) = true)
    {f43 : Addr} {od43 an43 : Option Addr} {sl43 : Array (Option Value)} {oc43 kV43 dc43 pm43 cd43 ct43 : Value} (a43 : PySem.W.nsIn K mainGlobals "_law_dishes" = some (some (.ref f43))) (l43 : K.lookup f43 = some ⟨oc43, od43, .func (PySem.W.fnOf "_law_dishes" "_law_dishes" (defArgs s_dishes) (defBody s_dishes) (defScope s_dishes) .none kV43 dc43 pm43 an43 cd43 ct43), sl43⟩) (c43 : PySem.W.codeIn K cd43 "_law_dishes" = true) (k43 : PySem.W.keepIn K (.ref f43) = true)
    {f44 : Addr} {od44 an44 : Option Addr} {sl44 : Array (Option Value)} {oc44 kV44 dc44 pm44 cd44 ct44 : Value} (a44 : PySem.W.nsIn K mainGlobals "_law_last" = some (some (.ref f44))) (l44 : K.lookup f44 = some ⟨oc44, od44, .func (PySem.W.fnOf "_law_last" "_law_last" (defArgs s_last) (defBody s_last) (defScope s_last) .none kV44 dc44 pm44 an44 cd44 ct44), sl44⟩) (c44 : PySem.W.codeIn K cd44 "_law_last" = true) (k44 : PySem.W.keepIn K (.ref f44) = true)
    {f45 : Addr} {od45 an45 : Option Addr} {sl45 : Array (Option Value)} {oc45 kV45 dc45 pm45 cd45 ct45 : Value} (a45 : PySem.W.nsIn K mainGlobals "_law_larder" = some (some (.ref f45))) (l45 : K.lookup f45 = some ⟨oc45, od45, .func (PySem.W.fnOf "_law_larder" "_law_larder" (defArgs s_larder) (defBody s_larder) (defScope s_larder) .none kV45 dc45 pm45 an45 cd45 ct45), sl45⟩) (c45 : PySem.W.codeIn K cd45 "_law_larder" = true) (k45 : PySem.W.keepIn K (.ref f45) = true)
    {f46 : Addr} {od46 an46 : Option Addr} {sl46 : Array (Option Value)} {oc46 kV46 dc46 pm46 cd46 ct46 : Value} (a46 : PySem.W.nsIn K mainGlobals "_law_many" = some (some (.ref f46))) (l46 : K.lookup f46 = some ⟨oc46, od46, .func (PySem.W.fnOf "_law_many" "_law_many" (defArgs s_many) (defBody s_many) (defScope s_many) .none kV46 dc46 pm46 an46 cd46 ct46), sl46⟩) (c46 : PySem.W.codeIn K cd46 "_law_many" = true) (k46 : PySem.W.keepIn K (.ref f46) = true)
    {f47 : Addr} {od47 an47 : Option Addr} {sl47 : Array (Option Value)} {oc47 kV47 dc47 pm47 cd47 ct47 : Value} (a47 : PySem.W.nsIn K mainGlobals "_law_names" = some (some (.ref f47))) (l47 : K.lookup f47 = some ⟨oc47, od47, .func (PySem.W.fnOf "_law_names" "_law_names" (defArgs s_names) (defBody s_names) (defScope s_names) .none kV47 dc47 pm47 an47 cd47 ct47), sl47⟩) (c47 : PySem.W.codeIn K cd47 "_law_names" = true) (k47 : PySem.W.keepIn K (.ref f47) = true)
    {f48 : Addr} {od48 an48 : Option Addr} {sl48 : Array (Option Value)} {oc48 kV48 dc48 pm48 cd48 ct48 : Value} (a48 : PySem.W.nsIn K mainGlobals "_law_near" = some (some (.ref f48))) (l48 : K.lookup f48 = some ⟨oc48, od48, .func (PySem.W.fnOf "_law_near" "_law_near" (defArgs s_near) (defBody s_near) (defScope s_near) .none kV48 dc48 pm48 an48 cd48 ct48), sl48⟩) (c48 : PySem.W.codeIn K cd48 "_law_near" = true) (k48 : PySem.W.keepIn K (.ref f48) = true)
    {f49 : Addr} {od49 an49 : Option Addr} {sl49 : Array (Option Value)} {oc49 kV49 dc49 pm49 cd49 ct49 : Value} (a49 : PySem.W.nsIn K mainGlobals "_law_price" = some (some (.ref f49))) (l49 : K.lookup f49 = some ⟨oc49, od49, .func (PySem.W.fnOf "_law_price" "_law_price" (defArgs s_price) (defBody s_price) (defScope s_price) .none kV49 dc49 pm49 an49 cd49 ct49), sl49⟩) (c49 : PySem.W.codeIn K cd49 "_law_price" = true) (k49 : PySem.W.keepIn K (.ref f49) = true)
    {f50 : Addr} {od50 an50 : Option Addr} {sl50 : Array (Option Value)} {oc50 kV50 dc50 pm50 cd50 ct50 : Value} (a50 : PySem.W.nsIn K mainGlobals "_law_packs" = some (some (.ref f50))) (l50 : K.lookup f50 = some ⟨oc50, od50, .func (PySem.W.fnOf "_law_packs" "_law_packs" (defArgs s_packs) (defBody s_packs) (defScope s_packs) .none kV50 dc50 pm50 an50 cd50 ct50), sl50⟩) (c50 : PySem.W.codeIn K cd50 "_law_packs" = true) (k50 : PySem.W.keepIn K (.ref f50) = true)
    {f51 : Addr} {od51 an51 : Option Addr} {sl51 : Array (Option Value)} {oc51 kV51 dc51 pm51 cd51 ct51 : Value} (a51 : PySem.W.nsIn K mainGlobals "_law_world" = some (some (.ref f51))) (l51 : K.lookup f51 = some ⟨oc51, od51, .func (PySem.W.fnOf "_law_world" "_law_world" (defArgs s_world) (defBody s_world) (defScope s_world) .none kV51 dc51 pm51 an51 cd51 ct51), sl51⟩) (c51 : PySem.W.codeIn K cd51 "_law_world" = true) (k51 : PySem.W.keepIn K (.ref f51) = true)
    {f52 : Addr} {od52 an52 : Option Addr} {sl52 : Array (Option Value)} {oc52 kV52 dc52 pm52 cd52 ct52 : Value} (a52 : PySem.W.nsIn K mainGlobals "law" = some (some (.ref f52))) (l52 : K.lookup f52 = some ⟨oc52, od52, .func (PySem.W.fnOf "law" "law" (defArgs s_law) (defBody s_law) (defScope s_law) .none kV52 dc52 pm52 an52 cd52 ct52), sl52⟩) (c52 : PySem.W.codeIn K cd52 "law" = true) (k52 : PySem.W.keepIn K (.ref f52) = true)
    {t0 : Tok} (z0 : PySem.W.nsIn K mainGlobals "DAYS" = some (some (.int 7 t0)))
    {t1 : Tok} (z1 : PySem.W.nsIn K mainGlobals "MOST" = some (some (.int 200 t1)))
    (z2 : PySem.W.nsIn K mainGlobals "ValueError" = some none)
    (z3 : PySem.W.nsIn K mainGlobals "bool" = some none)
    (z4 : PySem.W.nsIn K mainGlobals "enumerate" = some none)
    (z5 : PySem.W.nsIn K mainGlobals "int" = some none)
    (z6 : PySem.W.nsIn K mainGlobals "isinstance" = some none)
    (z7 : PySem.W.nsIn K mainGlobals "len" = some none)
    (z8 : PySem.W.nsIn K mainGlobals "max" = some none)
    (z9 : PySem.W.nsIn K mainGlobals "min" = some none)
    (z10 : PySem.W.nsIn K mainGlobals "range" = some none)
    (z11 : PySem.W.nsIn K mainGlobals "sorted" = some none)
    (z12 : PySem.W.nsIn K mainGlobals "sum" = some none)
    (z13 : PySem.W.nsIn K mainGlobals "tuple" = some none)
    (z14 : PySem.W.nsIn K mainGlobals "zip" = some none)
    {eL eS eT fI : Addr} {nmS qS : Str} {NS : Addr} {bsS : List Value} {snS : List Str} {subS : List Value} {abS : Bool} {colS : Option Bool} {ddS : Option Addr} {m0S m1S m2S m3S m5S : Option Value} {nmT qT : Str} {NT : Addr} {bsT : List Value} {snT : List Str} {subT : List Value} {abT : Bool} {colT : Option Bool} {ddT : Option Addr} {m0T m1T m2T m3T m5T : Option Value} {odI anI : Option Addr} {slI : Array (Option Value)} {ocI kVI dcI pmI cdI ctI : Value}
    (gL : PySem.W.nsIn K mainGlobals "LarderError" = some (some (.ref eL)))
    (gS : PySem.W.nsIn K mainGlobals "Short" = some (some (.ref eS)))
    (xS : K.lookup eS = some (excClassObj nmS qS eS NS bsS [.ref eL, .type "ValueError", .type "Exception", .type "BaseException", .type "object"] true snS subS abS colS ddS m0S m1S m2S m3S m5S "ValueError.__new__"))
    (saS : PySem.W.findIn K (.ref eS) "__setattr__" = some (some (.builtin "object.__setattr__")))
    (gaS : PySem.W.findIn K (.ref eS) "__getattribute__" = some (some (.builtin "BaseException.__getattribute__")))
    (ggS : PySem.W.findIn K (.ref eS) "__getattr__" = some none)
    (nwS : PySem.W.findIn K (.ref eS) "word" = some none)
    (inS : PySem.W.findIn K (.ref eS) "__init__" = some (some (.ref fI)))
    (kCS : PySem.W.keepIn K (.ref eS) = true)
    (eCS : PySem.W.subIn K (.ref eS) (.type "BaseException") = some true)
    (tCS : PySem.W.typeIn K (.ref eS) = some (.type "type"))
    (hCS : PySem.W.hasDictIn K eS = true)
    (caS : PySem.W.findIn K (.ref eS) "__class__" = some (some (.builtin "object.__class__")))
    (moS : PySem.W.mroIn K eS (.type "object") = some true)
    (mLS : PySem.W.exmOne K (.ref eS) (.ref eL) = some true)
    (gT : PySem.W.nsIn K mainGlobals "TooMuch" = some (some (.ref eT)))
    (xT : K.lookup eT = some (excClassObj nmT qT eT NT bsT [.ref eL, .type "ValueError", .type "Exception", .type "BaseException", .type "object"] true snT subT abT colT ddT m0T m1T m2T m3T m5T "ValueError.__new__"))
    (saT : PySem.W.findIn K (.ref eT) "__setattr__" = some (some (.builtin "object.__setattr__")))
    (gaT : PySem.W.findIn K (.ref eT) "__getattribute__" = some (some (.builtin "BaseException.__getattribute__")))
    (ggT : PySem.W.findIn K (.ref eT) "__getattr__" = some none)
    (nwT : PySem.W.findIn K (.ref eT) "word" = some none)
    (inT : PySem.W.findIn K (.ref eT) "__init__" = some (some (.ref fI)))
    (kCT : PySem.W.keepIn K (.ref eT) = true)
    (eCT : PySem.W.subIn K (.ref eT) (.type "BaseException") = some true)
    (tCT : PySem.W.typeIn K (.ref eT) = some (.type "type"))
    (hCT : PySem.W.hasDictIn K eT = true)
    (caT : PySem.W.findIn K (.ref eT) "__class__" = some (some (.builtin "object.__class__")))
    (moT : PySem.W.mroIn K eT (.type "object") = some true)
    (mLT : PySem.W.exmOne K (.ref eT) (.ref eL) = some true)
    (hn : PySem.W.specialIn K (.builtin "object.__class__") "__get__" = some (some (.builtin "getset_descriptor.__get__")))
    (ht : PySem.W.takesIn K (.builtin "object.__class__") = some true)
    (tI : PySem.W.typeIn K (.ref fI) = some (.type "function"))
    (lI : K.lookup fI = some ⟨ocI, odI, .func (PySem.W.fnOf "__init__" "LarderError.__init__" (defArgs s_init) (defBody s_init) (defScope s_init) .none kVI dcI pmI anI cdI ctI), slI⟩)
    (cI : PySem.W.codeIn K cdI "LarderError.__init__" = true)
    (kI : PySem.W.keepIn K (.ref fI) = true)
    (vV : PySem.W.findCls K (.type "ValueError") (.type "type") "__init__" = some (.val (.builtin "ValueError.__init__")))
    (sT : PySem.W.kitOne K (.ref eS) (.ref eT) = some false)
    (sS : PySem.W.kitOne K (.ref eS) (.ref eS) = some true)
    (sV : PySem.W.kitOne K (.ref eS) (.type "ValueError") = some true)
    (tT : PySem.W.kitOne K (.ref eT) (.ref eT) = some true)
    (tS : PySem.W.kitOne K (.ref eT) (.ref eS) = some false)
    (tV : PySem.W.kitOne K (.ref eT) (.type "ValueError") = some true) :
    ∃ fd : FuncData, (∀ (s : Shared) (v : Value), BindsTo s fd ⟨[v], []⟩ [("_law_script", v)]) ∧ ∀ base : Heap, K.In base → base.Ns mainGlobals mg → FnOk l.prog w K mg base CX0 9 fa fd ["_law_script"] (spLaw K) := by
  have e := hfa.symm.trans (PySem.W.mg_of X G a52)
  cases e
  have F_whole := fun_mk (st := s_whole) l0 c0 k0
  have D_whole : DefAt K mg "_law_whole" s_whole := ⟨f0, _, F_whole, PySem.W.mg_of X G a0⟩
  have F_dish_fits := fun_mk (st := s_dish_fits) l1 c1 k1
  have D_dish_fits : DefAt K mg "_law_dish_fits" s_dish_fits := ⟨f1, _, F_dish_fits, PySem.W.mg_of X G a1⟩
  have F_lacks := fun_mk (st := s_lacks) l2 c2 k2
  have D_lacks : DefAt K mg "_law_lacks" s_lacks := ⟨f2, _, F_lacks, PySem.W.mg_of X G a2⟩
  have F_of_all := fun_mk (st := s_of_all) l3 c3 k3
  have D_of_all : DefAt K mg "_law_of_all" s_of_all := ⟨f3, _, F_of_all, PySem.W.mg_of X G a3⟩
  have F_things := fun_mk (st := s_things) l4 c4 k4
  have D_things : DefAt K mg "_law_things" s_things := ⟨f4, _, F_things, PySem.W.mg_of X G a4⟩
  have F_due := fun_mk (st := s_due) l5 c5 k5
  have D_due : DefAt K mg "_law_due" s_due := ⟨f5, _, F_due, PySem.W.mg_of X G a5⟩
  have F_numbers := fun_mk (st := s_numbers) l6 c6 k6
  have D_numbers : DefAt K mg "_law_numbers" s_numbers := ⟨f6, _, F_numbers, PySem.W.mg_of X G a6⟩
  have F_wends := fun_mk (st := s_wends) l7 c7 k7
  have D_wends : DefAt K mg "_law_ends" s_wends := ⟨f7, _, F_wends, PySem.W.mg_of X G a7⟩
  have F_mixed := fun_mk (st := s_mixed) l8 c8 k8
  have D_mixed : DefAt K mg "_law_mixed" s_mixed := ⟨f8, _, F_mixed, PySem.W.mg_of X G a8⟩
  have F_wstocked := fun_mk (st := s_wstocked) l9 c9 k9
  have D_wstocked : DefAt K mg "_law_stocked" s_wstocked := ⟨f9, _, F_wstocked, PySem.W.mg_of X G a9⟩
  have F_kinds := fun_mk (st := s_kinds) l10 c10 k10
  have D_kinds : DefAt K mg "_law_kinds" s_kinds := ⟨f10, _, F_kinds, PySem.W.mg_of X G a10⟩
  have F_lines_of := fun_mk (st := s_lines_of) l11 c11 k11
  have D_lines_of : DefAt K mg "lines_of" s_lines_of := ⟨f11, _, F_lines_of, PySem.W.mg_of X G a11⟩
  have F_taken := fun_mk (st := s_taken) l12 c12 k12
  have D_taken : DefAt K mg "taken" s_taken := ⟨f12, _, F_taken, PySem.W.mg_of X G a12⟩
  have F_used_by := fun_mk (st := s_used_by) l13 c13 k13
  have D_used_by : DefAt K mg "used_by" s_used_by := ⟨f13, _, F_used_by, PySem.W.mg_of X G a13⟩
  have F_cooked := fun_mk (st := s_cooked) l14 c14 k14
  have D_cooked : DefAt K mg "cooked" s_cooked := ⟨f14, _, F_cooked, PySem.W.mg_of X G a14⟩
  have F_end_of := fun_mk (st := s_end_of) l15 c15 k15
  have D_end_of : DefAt K mg "end_of" s_end_of := ⟨f15, _, F_end_of, PySem.W.mg_of X G a15⟩
  have F_sums_of := fun_mk (st := s_sums_of) l16 c16 k16
  have D_sums_of : DefAt K mg "sums_of" s_sums_of := ⟨f16, _, F_sums_of, PySem.W.mg_of X G a16⟩
  have F_ends := fun_mk (st := s_ends) l17 c17 k17
  have D_ends : DefAt K mg "ends" s_ends := ⟨f17, _, F_ends, PySem.W.mg_of X G a17⟩
  have F_with_offer := fun_mk (st := s_with_offer) l18 c18 k18
  have D_with_offer : DefAt K mg "with_offer" s_with_offer := ⟨f18, _, F_with_offer, PySem.W.mg_of X G a18⟩
  have F_first_fitting := fun_mk (st := s_first_fitting) l19 c19 k19
  have D_first_fitting : DefAt K mg "first_fitting" s_first_fitting := ⟨f19, _, F_first_fitting, PySem.W.mg_of X G a19⟩
  have F_going_on := fun_mk (st := s_going_on) l20 c20 k20
  have D_going_on : DefAt K mg "going_on" s_going_on := ⟨f20, _, F_going_on, PySem.W.mg_of X G a20⟩
  have F_sold_on := fun_mk (st := s_sold_on) l21 c21 k21
  have D_sold_on : DefAt K mg "sold_on" s_sold_on := ⟨f21, _, F_sold_on, PySem.W.mg_of X G a21⟩
  have F_least := fun_mk (st := s_least) l22 c22 k22
  have D_least : DefAt K mg "least" s_least := ⟨f22, _, F_least, PySem.W.mg_of X G a22⟩
  have F_row_of := fun_mk (st := s_row_of) l23 c23 k23
  have D_row_of : DefAt K mg "row_of" s_row_of := ⟨f23, _, F_row_of, PySem.W.mg_of X G a23⟩
  have F_table := fun_mk (st := s_table) l24 c24 k24
  have D_table : DefAt K mg "table" s_table := ⟨f24, _, F_table, PySem.W.mg_of X G a24⟩
  have F_bought := fun_mk (st := s_bought) l25 c25 k25
  have D_bought : DefAt K mg "bought" s_bought := ⟨f25, _, F_bought, PySem.W.mg_of X G a25⟩
  have F_from_day := fun_mk (st := s_from_day) l26 c26 k26
  have D_from_day : DefAt K mg "from_day" s_from_day := ⟨f26, _, F_from_day, PySem.W.mg_of X G a26⟩
  have F_kept_to := fun_mk (st := s_kept_to) l27 c27 k27
  have D_kept_to : DefAt K mg "kept_to" s_kept_to := ⟨f27, _, F_kept_to, PySem.W.mg_of X G a27⟩
  have F_kept := fun_mk (st := s_kept) l28 c28 k28
  have D_kept : DefAt K mg "kept" s_kept := ⟨f28, _, F_kept, PySem.W.mg_of X G a28⟩
  have F_needed_on := fun_mk (st := s_needed_on) l29 c29 k29
  have D_needed_on : DefAt K mg "needed_on" s_needed_on := ⟨f29, _, F_needed_on, PySem.W.mg_of X G a29⟩
  have F_needed := fun_mk (st := s_needed) l30 c30 k30
  have D_needed : DefAt K mg "needed" s_needed := ⟨f30, _, F_needed, PySem.W.mg_of X G a30⟩
  have F_lacking := fun_mk (st := s_lacking) l31 c31 k31
  have D_lacking : DefAt K mg "lacking" s_lacking := ⟨f31, _, F_lacking, PySem.W.mg_of X G a31⟩
  have F_counts_of := fun_mk (st := s_counts_of) l32 c32 k32
  have D_counts_of : DefAt K mg "counts_of" s_counts_of := ⟨f32, _, F_counts_of, PySem.W.mg_of X G a32⟩
  have F_offers_of := fun_mk (st := s_offers_of) l33 c33 k33
  have D_offers_of : DefAt K mg "offers_of" s_offers_of := ⟨f33, _, F_offers_of, PySem.W.mg_of X G a33⟩
  have F_things_of := fun_mk (st := s_things_of) l34 c34 k34
  have D_things_of : DefAt K mg "things_of" s_things_of := ⟨f34, _, F_things_of, PySem.W.mg_of X G a34⟩
  have F_shopped := fun_mk (st := s_shopped) l35 c35 k35
  have D_shopped : DefAt K mg "shopped" s_shopped := ⟨f35, _, F_shopped, PySem.W.mg_of X G a35⟩
  have F_stocked := fun_mk (st := s_stocked) l36 c36 k36
  have D_stocked : DefAt K mg "stocked" s_stocked := ⟨f36, _, F_stocked, PySem.W.mg_of X G a36⟩
  have F_week := fun_mk (st := s_week) l37 c37 k37
  have D_week : DefAt K mg "week" s_week := ⟨f37, _, F_week, PySem.W.mg_of X G a37⟩
  have F_tried := fun_mk (st := s_tried) l38 c38 k38
  have D_tried : DefAt K mg "_law_tried" s_tried := ⟨f38, _, F_tried, PySem.W.mg_of X G a38⟩
  have F_cell_at := fun_mk (st := s_cell_at) l39 c39 k39
  have D_cell_at : DefAt K mg "_law_cell_at" s_cell_at := ⟨f39, _, F_cell_at, PySem.W.mg_of X G a39⟩
  have F_amount := fun_mk (st := s_amount) l40 c40 k40
  have D_amount : DefAt K mg "_law_amount" s_amount := ⟨f40, _, F_amount, PySem.W.mg_of X G a40⟩
  have F_mix := fun_mk (st := s_mix) l41 c41 k41
  have D_mix : DefAt K mg "_law_mix" s_mix := ⟨f41, _, F_mix, PySem.W.mg_of X G a41⟩
  have F_name_by := fun_mk (st := s_name_by) l42 c42 k42
  have D_name_by : DefAt K mg "_law_name_by" s_name_by := ⟨f42, _, F_name_by, PySem.W.mg_of X G a42⟩
  have F_dishes := fun_mk (st := s_dishes) l43 c43 k43
  have D_dishes : DefAt K mg "_law_dishes" s_dishes := ⟨f43, _, F_dishes, PySem.W.mg_of X G a43⟩
  have F_last := fun_mk (st := s_last) l44 c44 k44
  have D_last : DefAt K mg "_law_last" s_last := ⟨f44, _, F_last, PySem.W.mg_of X G a44⟩
  have F_larder := fun_mk (st := s_larder) l45 c45 k45
  have D_larder : DefAt K mg "_law_larder" s_larder := ⟨f45, _, F_larder, PySem.W.mg_of X G a45⟩
  have F_many := fun_mk (st := s_many) l46 c46 k46
  have D_many : DefAt K mg "_law_many" s_many := ⟨f46, _, F_many, PySem.W.mg_of X G a46⟩
  have F_names := fun_mk (st := s_names) l47 c47 k47
  have D_names : DefAt K mg "_law_names" s_names := ⟨f47, _, F_names, PySem.W.mg_of X G a47⟩
  have F_near := fun_mk (st := s_near) l48 c48 k48
  have D_near : DefAt K mg "_law_near" s_near := ⟨f48, _, F_near, PySem.W.mg_of X G a48⟩
  have F_price := fun_mk (st := s_price) l49 c49 k49
  have D_price : DefAt K mg "_law_price" s_price := ⟨f49, _, F_price, PySem.W.mg_of X G a49⟩
  have F_packs := fun_mk (st := s_packs) l50 c50 k50
  have D_packs : DefAt K mg "_law_packs" s_packs := ⟨f50, _, F_packs, PySem.W.mg_of X G a50⟩
  have F_world := fun_mk (st := s_world) l51 c51 k51
  have D_world : DefAt K mg "_law_world" s_world := ⟨f51, _, F_world, PySem.W.mg_of X G a51⟩
  have F_law := fun_mk (st := s_law) l52 c52 k52
  have m_DAYS := PySem.W.mg_of X G z0
  have m_MOST := PySem.W.mg_of X G z1
  have m_ValueError := PySem.W.mg_none_of X G z2
  have m_bool := PySem.W.mg_none_of X G z3
  have m_enumerate := PySem.W.mg_none_of X G z4
  have m_int := PySem.W.mg_none_of X G z5
  have m_isinstance := PySem.W.mg_none_of X G z6
  have m_len := PySem.W.mg_none_of X G z7
  have m_max := PySem.W.mg_none_of X G z8
  have m_min := PySem.W.mg_none_of X G z9
  have m_range := PySem.W.mg_none_of X G z10
  have m_sorted := PySem.W.mg_none_of X G z11
  have m_sum := PySem.W.mg_none_of X G z12
  have m_tuple := PySem.W.mg_none_of X G z13
  have m_zip := PySem.W.mg_none_of X G z14
  refine ⟨PySem.W.fnOf "law" "law" (defArgs s_law) (defBody s_law) (defScope s_law) .none kV52 dc52 pm52 an52 cd52 ct52, fun s v => .of_eq rfl, fun base _ _ => ?_⟩
  have F_init := fun_mk (x := "__init__") (qual := "LarderError.__init__") (st := s_init) lI cI kI
  have oeS : OexC K eS := ⟨⟨_, _, _, _, _, _, _, _, _, _, _, _, _, _, _, xS, rfl⟩, saS, eCS, tCS, kCS⟩
  have oeT : OexC K eT := ⟨⟨_, _, _, _, _, _, _, _, _, _, _, _, _, _, _, xT, rfl⟩, saT, eCT, tCT, kCT⟩
  have FI := ok_init (P := l.prog) (w := w) (base := base) F_init m_ValueError vV
  have bI := F_init.binds (ps := ["self", "word"]) bd_init
  have M_Short : MkAt l.prog w K mg base 1 "Short" eS := ⟨PySem.W.mg_of X G gS, oeS, nwS, _, _, inS, tI, FI, bI⟩
  have M_TooMuch : MkAt l.prog w K mg base 1 "TooMuch" eT := ⟨PySem.W.mg_of X G gT, oeT, nwT, _, _, inT, tI, FI, bI⟩
  have ER : ErrAt K mg eL eS eT := ⟨PySem.W.mg_of X G gL, PySem.W.mg_of X G gS, PySem.W.mg_of X G gT, ⟨gaS, ggS, eCS, hCS, caS, hn, ht, moS⟩, ⟨gaT, ggT, eCT, hCT, caT, hn, ht, moT⟩, ⟨gaS, ggS, eCS, hCS⟩, ⟨gaT, ggT, eCT, hCT⟩, nwS, nwT, mLS, mLT, sT, sS, sV, tT, tS, tV⟩
  have C_whole := ok_whole (P := l.prog) (w := w) (base := base) D_whole m_isinstance m_int m_bool
  have C_dish_fits := ok_dish_fits (P := l.prog) (w := w) (base := base) D_dish_fits m_isinstance m_tuple m_len C_whole
  have C_lacks := ok_lacks (P := l.prog) (w := w) (base := base) D_lacks m_range m_sum m_max
  have C_of_all := ok_of_all (P := l.prog) (w := w) (base := base) D_of_all m_sum
  have C_things := ok_things (P := l.prog) (w := w) (base := base) D_things m_sorted
  have C_due := ok_due (P := l.prog) (w := w) (base := base) D_due m_range C_things C_of_all C_lacks
  have C_numbers := ok_numbers (P := l.prog) (w := w) (base := base) D_numbers m_isinstance m_tuple m_len m_range C_whole
  have C_wends := ok_wends (P := l.prog) (w := w) (base := base) D_wends m_isinstance m_tuple m_len m_range C_numbers
  have C_mixed := ok_mixed (P := l.prog) (w := w) (base := base) D_mixed
  have C_wstocked := ok_wstocked (P := l.prog) (w := w) (base := base) D_wstocked m_len m_range
  have C_kinds := ok_kinds (P := l.prog) (w := w) (base := base) D_kinds ER m_isinstance m_ValueError
  have C_lines_of := ok_lines_of (P := l.prog) (w := w) (base := base) D_lines_of m_enumerate m_sorted
  have C_taken := ok_taken (P := l.prog) (w := w) (base := base) D_taken m_min M_Short
  have C_used_by := ok_used_by (P := l.prog) (w := w) (base := base) D_used_by m_tuple C_taken
  have C_cooked := ok_cooked (P := l.prog) (w := w) (base := base) D_cooked m_enumerate m_len m_sorted m_tuple C_lines_of C_used_by
  have C_end_of := ok_end_of (P := l.prog) (w := w) (base := base) D_end_of m_DAYS
  have C_sums_of := ok_sums_of (P := l.prog) (w := w) (base := base) D_sums_of
  have C_ends := ok_ends (P := l.prog) (w := w) (base := base) D_ends m_enumerate m_tuple C_sums_of C_end_of
  have C_with_offer := ok_with_offer (P := l.prog) (w := w) (base := base) D_with_offer m_max
  have C_first_fitting := ok_first_fitting (P := l.prog) (w := w) (base := base) D_first_fitting C_with_offer
  have C_going_on := ok_going_on (P := l.prog) (w := w) (base := base) D_going_on m_DAYS m_max
  have C_sold_on := ok_sold_on (P := l.prog) (w := w) (base := base) D_sold_on m_DAYS m_enumerate m_min
  have C_least := ok_least (P := l.prog) (w := w) (base := base) D_least m_min
  have C_row_of := ok_row_of (P := l.prog) (w := w) (base := base) D_row_of m_max m_range m_tuple C_sold_on C_going_on C_with_offer C_least
  have C_table := ok_table (P := l.prog) (w := w) (base := base) D_table m_DAYS m_range m_tuple C_row_of
  have C_bought := ok_bought (P := l.prog) (w := w) (base := base) D_bought m_DAYS m_len m_max m_range m_tuple C_table C_going_on C_sold_on C_first_fitting
  have C_from_day := ok_from_day (P := l.prog) (w := w) (base := base) D_from_day m_tuple m_range m_sum m_DAYS
  have C_kept_to := ok_kept_to (P := l.prog) (w := w) (base := base) D_kept_to m_sum
  have C_kept := ok_kept (P := l.prog) (w := w) (base := base) D_kept m_tuple m_range m_DAYS C_kept_to
  have C_needed_on := ok_needed_on (P := l.prog) (w := w) (base := base) D_needed_on m_sum
  have C_needed := ok_needed (P := l.prog) (w := w) (base := base) D_needed m_tuple m_range m_DAYS C_needed_on
  have C_lacking := ok_lacking (P := l.prog) (w := w) (base := base) D_lacking m_tuple m_zip m_max C_needed C_from_day C_kept
  have C_counts_of := ok_counts_of (P := l.prog) (w := w) (base := base) D_counts_of m_sum m_MOST M_TooMuch M_Short C_needed C_lacking C_bought
  have C_offers_of := ok_offers_of (P := l.prog) (w := w) (base := base) D_offers_of m_tuple
  have C_things_of := ok_things_of (P := l.prog) (w := w) (base := base) D_things_of m_tuple m_sorted
  have C_shopped := ok_shopped (P := l.prog) (w := w) (base := base) D_shopped m_enumerate m_len m_tuple m_zip C_things_of C_offers_of C_counts_of
  have C_stocked := ok_stocked (P := l.prog) (w := w) (base := base) D_stocked m_zip m_tuple
  have C_week := ok_week (P := l.prog) (w := w) (base := base) D_week C_shopped C_stocked C_cooked C_ends
  have C_tried := ok_tried (P := l.prog) (w := w) (base := base) D_tried ER C_week C_kinds
  have C_cell_at := ok_cell_at (P := l.prog) (w := w) (base := base) D_cell_at m_len
  have C_amount := ok_amount (P := l.prog) (w := w) (base := base) D_amount
  have C_mix := ok_mix (P := l.prog) (w := w) (base := base) D_mix
  have C_name_by := ok_name_by (P := l.prog) (w := w) (base := base) D_name_by m_len m_min m_range
  have C_dishes := ok_dishes (P := l.prog) (w := w) (base := base) D_dishes m_range m_int m_tuple C_mix C_cell_at C_amount C_name_by
  have C_last := ok_last (P := l.prog) (w := w) (base := base) D_last
  have C_larder := ok_larder (P := l.prog) (w := w) (base := base) D_larder m_range m_tuple C_mix C_cell_at C_amount C_last C_name_by
  have C_many := ok_many (P := l.prog) (w := w) (base := base) D_many
  have C_names := ok_names (P := l.prog) (w := w) (base := base) D_names C_cell_at
  have C_near := ok_near (P := l.prog) (w := w) (base := base) D_near m_len C_of_all
  have C_price := ok_price (P := l.prog) (w := w) (base := base) D_price
  have C_packs := ok_packs (P := l.prog) (w := w) (base := base) D_packs m_range m_tuple C_mix C_cell_at C_amount C_last C_price C_name_by
  have C_world := ok_world (P := l.prog) (w := w) (base := base) D_world m_max m_range m_tuple C_names C_cell_at C_dishes C_many C_larder C_packs C_name_by C_near
  exact ok_law F_law m_isinstance m_range m_tuple m_len C_mixed C_world C_due C_tried C_whole C_wstocked C_shopped C_cooked C_dish_fits C_wends
end Lar
open PySem PySem.W PyProof.Rows
set_option maxHeartbeats 0 in
theorem PySem.Challenge.cw_larderlist_k10_whole_week_serves_holds : PySem.Challenge.rw_larderlist_k10_whole_week_serves.Holds := by
  w_on; o_law; k_head; (case hw => w_witness2)
  k_fill
  refine L2.walk_of (l := PySem.Challenge.rw_larderlist_k10_whole_week_serves) (n := 63) (k := 9) (x := "_law_script") (CX := fun _ => L2.CX0) (sp := fun w => Lar.spLaw _) rfl (by decide) rfl ⟨rfl, by decide, by decide⟩ (fun w h Y => PySem.W.kIn_of Y) ?F (fun _ _ a ns hl _ hS => ⟨a, ns, rfl, hS, hl, fun _ => rfl⟩) (fun _ _ _ _ _ h => h)
  case F =>
    intro w mg fa h KX G hmg
    refine' Lar.all_mk KX G hmg ?a0 ?l0 ?c0 ?k0 ?a1 ?l1 ?c1 ?k1 ?a2 ?l2 ?c2 ?k2 ?a3 ?l3 ?c3 ?k3 ?a4 ?l4 ?c4 ?k4 ?a5 ?l5 ?c5 ?k5 ?a6 ?l6 ?c6 ?k6 ?a7 ?l7 ?c7 ?k7 ?a8 ?l8 ?c8 ?k8 ?a9 ?l9 ?c9 ?k9 ?a10 ?l10 ?c10 ?k10 ?a11 ?l11 ?c11 ?k11 ?a12 ?l12 ?c12 ?k12 ?a13 ?l13 ?c13 ?k13 ?a14 ?l14 ?c14 ?k14 ?a15 ?l15 ?c15 ?k15 ?a16 ?l16 ?c16 ?k16 ?a17 ?l17 ?c17 ?k17 ?a18 ?l18 ?c18 ?k18 ?a19 ?l19 ?c19 ?k19 ?a20 ?l20 ?c20 ?k20 ?a21 ?l21 ?c21 ?k21 ?a22 ?l22 ?c22 ?k22 ?a23 ?l23 ?c23 ?k23 ?a24 ?l24 ?c24 ?k24 ?a25 ?l25 ?c25 ?k25 ?a26 ?l26 ?c26 ?k26 ?a27 ?l27 ?c27 ?k27 ?a28 ?l28 ?c28 ?k28 ?a29 ?l29 ?c29 ?k29 ?a30 ?l30 ?c30 ?k30 ?a31 ?l31 ?c31 ?k31 ?a32 ?l32 ?c32 ?k32 ?a33 ?l33 ?c33 ?k33 ?a34 ?l34 ?c34 ?k34 ?a35 ?l35 ?c35 ?k35 ?a36 ?l36 ?c36 ?k36 ?a37 ?l37 ?c37 ?k37 ?a38 ?l38 ?c38 ?k38 ?a39 ?l39 ?c39 ?k39 ?a40 ?l40 ?c40 ?k40 ?a41 ?l41 ?c41 ?k41 ?a42 ?l42 ?c42 ?k42 ?a43 ?l43 ?c43 ?k43 ?a44 ?l44 ?c44 ?k44 ?a45 ?l45 ?c45 ?k45 ?a46 ?l46 ?c46 ?k46 ?a47 ?l47 ?c47 ?k47 ?a48 ?l48 ?c48 ?k48 ?a49 ?l49 ?c49 ?k49 ?a50 ?l50 ?c50 ?k50 ?a51 ?l51 ?c51 ?k51 ?a52 ?l52 ?c52 ?k52 ?z0 ?z1 ?z2 ?z3 ?z4 ?z5 ?z6 ?z7 ?z8 ?z9 ?z10 ?z11 ?z12 ?z13 ?z14 ?gL ?gS ?xS ?saS ?gaS ?ggS ?nwS ?inS ?kCS ?eCS ?tCS ?hCS ?caS ?moS ?mLS ?gT ?xT ?saT ?gaT ?ggT ?nwT ?inT ?kCT ?eCT ?tCT ?hCT ?caT ?moT ?mLT ?hn ?ht ?tI ?lI ?cI ?kI ?vV ?sT ?sS ?sV ?tT ?tS ?tV
    (case a0 => k_is); (case l0 => k_is); (case c0 => k_is); (case k0 => k_is); (case a1 => k_is); (case l1 => k_is); (case c1 => k_is); (case k1 => k_is); (case a2 => k_is); (case l2 => k_is); (case c2 => k_is); (case k2 => k_is); (case a3 => k_is); (case l3 => k_is); (case c3 => k_is); (case k3 => k_is); (case a4 => k_is); (case l4 => k_is); (case c4 => k_is); (case k4 => k_is); (case a5 => k_is); (case l5 => k_is); (case c5 => k_is); (case k5 => k_is); (case a6 => k_is); (case l6 => k_is); (case c6 => k_is); (case k6 => k_is); (case a7 => k_is); (case l7 => k_is); (case c7 => k_is); (case k7 => k_is); (case a8 => k_is); (case l8 => k_is); (case c8 => k_is); (case k8 => k_is); (case a9 => k_is); (case l9 => k_is); (case c9 => k_is); (case k9 => k_is); (case a10 => k_is); (case l10 => k_is); (case c10 => k_is); (case k10 => k_is); (case a11 => k_is); (case l11 => k_is); (case c11 => k_is); (case k11 => k_is); (case a12 => k_is); (case l12 => k_is); (case c12 => k_is); (case k12 => k_is); (case a13 => k_is); (case l13 => k_is); (case c13 => k_is); (case k13 => k_is); (case a14 => k_is); (case l14 => k_is); (case c14 => k_is); (case k14 => k_is); (case a15 => k_is); (case l15 => k_is); (case c15 => k_is); (case k15 => k_is); (case a16 => k_is); (case l16 => k_is); (case c16 => k_is); (case k16 => k_is); (case a17 => k_is); (case l17 => k_is); (case c17 => k_is); (case k17 => k_is); (case a18 => k_is); (case l18 => k_is); (case c18 => k_is); (case k18 => k_is); (case a19 => k_is); (case l19 => k_is); (case c19 => k_is); (case k19 => k_is); (case a20 => k_is); (case l20 => k_is); (case c20 => k_is); (case k20 => k_is); (case a21 => k_is); (case l21 => k_is); (case c21 => k_is); (case k21 => k_is); (case a22 => k_is); (case l22 => k_is); (case c22 => k_is); (case k22 => k_is); (case a23 => k_is); (case l23 => k_is); (case c23 => k_is); (case k23 => k_is); (case a24 => k_is); (case l24 => k_is); (case c24 => k_is); (case k24 => k_is); (case a25 => k_is); (case l25 => k_is); (case c25 => k_is); (case k25 => k_is); (case a26 => k_is); (case l26 => k_is); (case c26 => k_is); (case k26 => k_is); (case a27 => k_is); (case l27 => k_is); (case c27 => k_is); (case k27 => k_is); (case a28 => k_is); (case l28 => k_is); (case c28 => k_is); (case k28 => k_is); (case a29 => k_is); (case l29 => k_is); (case c29 => k_is); (case k29 => k_is); (case a30 => k_is); (case l30 => k_is); (case c30 => k_is); (case k30 => k_is); (case a31 => k_is); (case l31 => k_is); (case c31 => k_is); (case k31 => k_is); (case a32 => k_is); (case l32 => k_is); (case c32 => k_is); (case k32 => k_is); (case a33 => k_is); (case l33 => k_is); (case c33 => k_is); (case k33 => k_is); (case a34 => k_is); (case l34 => k_is); (case c34 => k_is); (case k34 => k_is); (case a35 => k_is); (case l35 => k_is); (case c35 => k_is); (case k35 => k_is); (case a36 => k_is); (case l36 => k_is); (case c36 => k_is); (case k36 => k_is); (case a37 => k_is); (case l37 => k_is); (case c37 => k_is); (case k37 => k_is); (case a38 => k_is); (case l38 => k_is); (case c38 => k_is); (case k38 => k_is); (case a39 => k_is); (case l39 => k_is); (case c39 => k_is); (case k39 => k_is); (case a40 => k_is); (case l40 => k_is); (case c40 => k_is); (case k40 => k_is); (case a41 => k_is); (case l41 => k_is); (case c41 => k_is); (case k41 => k_is); (case a42 => k_is); (case l42 => k_is); (case c42 => k_is); (case k42 => k_is); (case a43 => k_is); (case l43 => k_is); (case c43 => k_is); (case k43 => k_is); (case a44 => k_is); (case l44 => k_is); (case c44 => k_is); (case k44 => k_is); (case a45 => k_is); (case l45 => k_is); (case c45 => k_is); (case k45 => k_is); (case a46 => k_is); (case l46 => k_is); (case c46 => k_is); (case k46 => k_is); (case a47 => k_is); (case l47 => k_is); (case c47 => k_is); (case k47 => k_is); (case a48 => k_is); (case l48 => k_is); (case c48 => k_is); (case k48 => k_is); (case a49 => k_is); (case l49 => k_is); (case c49 => k_is); (case k49 => k_is); (case a50 => k_is); (case l50 => k_is); (case c50 => k_is); (case k50 => k_is); (case a51 => k_is); (case l51 => k_is); (case c51 => k_is); (case k51 => k_is); (case a52 => k_is); (case l52 => k_is); (case c52 => k_is); (case k52 => k_is); (case z0 => k_is); (case z1 => k_is); (case z2 => k_is); (case z3 => k_is); (case z4 => k_is); (case z5 => k_is); (case z6 => k_is); (case z7 => k_is); (case z8 => k_is); (case z9 => k_is); (case z10 => k_is); (case z11 => k_is); (case z12 => k_is); (case z13 => k_is); (case z14 => k_is)
    (case gL => first | k_is | rfl | decide +kernel)
    (case gS => first | k_is | rfl | decide +kernel)
    (case xS => first | k_is | rfl | decide +kernel)
    (case saS => first | k_is | rfl | decide +kernel)
    (case gaS => first | k_is | rfl | decide +kernel)
    (case ggS => first | k_is | rfl | decide +kernel)
    (case nwS => first | k_is | rfl | decide +kernel)
    (case inS => first | k_is | rfl | decide +kernel)
    (case kCS => first | k_is | rfl | decide +kernel)
    (case eCS => first | k_is | rfl | decide +kernel)
    (case tCS => first | k_is | rfl | decide +kernel)
    (case hCS => first | k_is | rfl | decide +kernel)
    (case caS => first | k_is | rfl | decide +kernel)
    (case moS => first | k_is | rfl | decide +kernel)
    (case mLS => first | k_is | rfl | decide +kernel)
    (case gT => first | k_is | rfl | decide +kernel)
    (case xT => first | k_is | rfl | decide +kernel)
    (case saT => first | k_is | rfl | decide +kernel)
    (case gaT => first | k_is | rfl | decide +kernel)
    (case ggT => first | k_is | rfl | decide +kernel)
    (case nwT => first | k_is | rfl | decide +kernel)
    (case inT => first | k_is | rfl | decide +kernel)
    (case kCT => first | k_is | rfl | decide +kernel)
    (case eCT => first | k_is | rfl | decide +kernel)
    (case tCT => first | k_is | rfl | decide +kernel)
    (case hCT => first | k_is | rfl | decide +kernel)
    (case caT => first | k_is | rfl | decide +kernel)
    (case moT => first | k_is | rfl | decide +kernel)
    (case mLT => first | k_is | rfl | decide +kernel)
    (case hn => first | k_is | rfl | decide +kernel)
    (case ht => first | k_is | rfl | decide +kernel)
    (case tI => first | k_is | rfl | decide +kernel)
    (case lI => first | k_is | rfl | decide +kernel)
    (case cI => first | k_is | rfl | decide +kernel)
    (case kI => first | k_is | rfl | decide +kernel)
    (case vV => first | k_is | rfl | decide +kernel)
    (case sT => first | k_is | rfl | decide +kernel)
    (case sS => first | k_is | rfl | decide +kernel)
    (case sV => first | k_is | rfl | decide +kernel)
    (case tT => first | k_is | rfl | decide +kernel)
    (case tS => first | k_is | rfl | decide +kernel)
    (case tV => first | k_is | rfl | decide +kernel)
