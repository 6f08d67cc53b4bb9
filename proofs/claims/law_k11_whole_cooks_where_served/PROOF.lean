import PyProof.Rows.All
import Wide.All
import OpenK.AllK
import Wide.FinOn
import HandS.ForMost
import HandS.IsInst
import HandS.Zip
import HandS.TupAny
import HandS.Walk
import HandS.More
import HandS.Codes
import KE.KTupSum
import HandS.TupMul
import HandS.Style
import KE.GoesEnumKw
import HandS.Set
import HandS.SetBool
import HandS.Text
import KE.KxText
import PyProof.FitsReplace
import KE.KExcIs
import HandS.ExcInit
import HandS.ExcField
import HandS.ExcIs
import HandS.TryOnly
import HandS.WordsExc
import KE.SortData
import HandS.SortKw
import HandS.TupSets
import HandS.FStr
import HandS.DictSub
import HandS.SetKeys
import PySem.Challenge.RW_larderlist_k11_whole_cooks_where_served
set_option Elab.async false
set_option linter.all false
set_option maxRecDepth 100000
set_option maxHeartbeats 4000000
namespace Lar
open PySem PySem.Spec PyProof.Rows L2

/-! ### defs of the text, as they are called -/
structure DefAt (K : PySem.W.Frag) (mg : Str → Option Value) (x : Str) (st : Stmt) : Prop where
  ex : ∃ f fd, Fun K x x st f fd ∧ mg x = some (.ref f)
structure Clb (P : Program) (w : World) (K : PySem.W.Frag) (mg : Str → Option Value) (base : Heap) (k : Nat) (x : Str) (ps : List Str) (sp : Sp) : Prop where
  ex : ∃ f fd, FnOk P w K mg base CX0 k f fd ps sp ∧ mg x = some (.ref f) ∧ PySem.W.keepIn K (.ref f) = true ∧ Binds K fd ps []
theorem DefAt.clb {P : Program} {w : World} {K : PySem.W.Frag} {mg : Str → Option Value} {base : Heap} {x : Str} {st : Stmt} {N ps : List Str} {k : Nat} {sp : Sp} (D : DefAt K mg x st)
    (S : FnScope N ps (defScope st)) (len : ∀ vs H Q E, sp vs H Q E → vs.length = ps.length)
    (hb : ∀ (kV doc pm : Value) (an : Option Addr) (cdv ct : Value) (us : List Value), us.length = ps.length → bindArgs (PySem.W.fnOf x x (defArgs st) (defBody st) (defScope st) .none kV doc pm an cdv ct) ⟨us, []⟩ = pure (ps.zip us))
    (hbody : ∀ (f : Addr) (cdv : Value) (A : Around) (outer : List Env) (s : Shared) (H : Hp) (vs : List V) (Q : VK) (E : XK), Room k (A.deeper (envOfC x (defScope st) s.heap.objs.size f cdv)) → sp vs H Q E →
      ∃ t, PSs (cxOf CX0 P w K mg base N x (defScope st) f cdv A outer s H E).nox (defBody st) t ∧ t { nx := fun _ H' => Q .non H', rt := Q } (start N vs) H) : Clb P w K mg base (k + 1) x ps sp := by
  obtain ⟨f, fd, F, hm⟩ := D.ex
  exact ⟨f, fd, F.ok S len (fun cdv A outer s H vs Q E hr h => hbody f cdv A outer s H vs Q E hr h), hm, F.kp, F.binds hb⟩
theorem pe_cal {X : Cx} {k : Nat} {x : Str} {ps : List Str} {sp : Sp} {e : Expr} {es : List Expr} {t : TA} {p pos : Pos} (C : Clb X.prog X.w X.K X.mg X.base k x ps sp) (hr : Room k X.A) (ha : PA X (e :: es) t) (hg : Gl X x := by rfl)
    (hdb : (x == ("__debug__" : Str)) = false := by decide) (he : starEach (e :: es) X.env = (false, eval e X.env) :: starEach es X.env := by rfl) (hpl : (backTo pos (starEach es X.env)).any (·.1) = false := by rfl) :
    PE X (.Call (.Name x p) (e :: es) [] pos) (tCall sp [] E0 t) := by
  obtain ⟨f, fd, F, hm, hk, hb⟩ := C.ex
  exact pe_call F hr hg hm hk hb .nil pass0 ha hdb he hpl

/-! ### heaps -/
theorem same_upd {H : Hp} {p : Addr} {o : HO} (h : H p = none) : Same H (upd H p o) := fun b x e => by
  rw [upd_ne (ne_of_none e h)]
  exact e
theorem _root_.L2.Same.new {H H' : Hp} {p : Addr} {o : HO} (e : Same H H') (h : H' p = none) : Same H (upd H' p o) := e.trans (same_upd h)
/-- what H did not know may change -/
theorem _root_.L2.Same.mut {H H' : Hp} {p : Addr} {o : HO} (e : Same H H') (h : H p = none) : Same H (upd H' p o) := fun a u ha => by
  rw [upd_ne (ne_of_none ha h)]
  exact e a u ha
theorem _root_.L2.Same.seqT {K : PySem.W.Frag} {H H' : Hp} {a : Addr} {xs : List V} (e : Same H H') (h : SqT K H a xs) : SqT K H' a xs := by
  rcases h with (h | ⟨o, h⟩) | h
  · exact .inl (.inl (e _ _ h))
  · exact .inl (.inr ⟨o, e _ _ h⟩)
  · exact .inr h
theorem sqL {K : PySem.W.Frag} {H : Hp} {a : Addr} {xs : List V} (h : H a = some (.lst xs)) : SqL K H a xs := .inl (.inl h)
theorem sqT {K : PySem.W.Frag} {H : Hp} {a : Addr} {xs : List V} (h : H a = some (.tup xs)) : SqT K H a xs := .inl (.inl h)
theorem small {n : Nat} (h : n ≤ 100000) : n ≤ sizeLine := Nat.le_trans h (by decide)
theorem small' {n : Nat} (h : n < 100000) : n < sizeLine := Nat.lt_of_lt_of_le h (by decide)
theorem map_ix {α : Type} {f : α → V} {xs : List α} {i : Nat} {v : V} (h : (xs.map f)[i]? = some v) : ∃ x, xs[i]? = some x ∧ v = f x := by
  rw [List.getElem?_map] at h
  cases e : xs[i]? with
  | none => rw [e] at h; cases h
  | some x => rw [e] at h; exact ⟨x, rfl, (Option.some.inj h).symm⟩
theorem ix_map {α : Type} {f : α → V} {xs : List α} {i : Nat} {x : α} (h : xs[i]? = some x) : (xs.map f)[i]? = some (f x) := by
  rw [List.getElem?_map, h]; rfl
theorem take_succ' {α : Type} {xs : List α} {i : Nat} {x : α} (h : xs[i]? = some x) : xs.take (i + 1) = xs.take i ++ [x] := by
  rw [List.take_add_one, h]; rfl

/-! ### tests -/
section
variable {A B : Prop} {i j : Int} {x y : Str}
theorem it_lt (h1 : i < j → A) (h2 : ¬ i < j → B) : if decide (i < j) = true then A else B := ite2 (fun h => h1 (of_decide_eq_true h)) (fun h => h2 fun z => h (decide_eq_true z))
theorem it_le (h1 : i ≤ j → A) (h2 : ¬ i ≤ j → B) : if decide (i ≤ j) = true then A else B := ite2 (fun h => h1 (of_decide_eq_true h)) (fun h => h2 fun z => h (decide_eq_true z))
theorem it_eqI (h1 : i = j → A) (h2 : ¬ i = j → B) : if decide (V.int i = V.int j) = true then A else B := ite2 (fun h => h1 (V.int.inj (of_decide_eq_true h))) (fun h => h2 fun z => h (decide_eq_true (congrArg V.int z)))
theorem it_eqS (h1 : x = y → A) (h2 : ¬ x = y → B) : if decide (V.str x = V.str y) = true then A else B := ite2 (fun h => h1 (V.str.inj (of_decide_eq_true h))) (fun h => h2 fun z => h (decide_eq_true (congrArg V.str z)))
theorem it_neI (h1 : ¬ i = j → A) (h2 : i = j → B) : if (!decide (V.int i = V.int j)) = true then A else B := by
  by_cases e : i = j
  · subst e
    rw [decide_eq_true rfl]
    exact iteF (h2 rfl)
  · rw [decide_eq_false (fun z => e (V.int.inj z))]
    exact iteT (h1 e)
end
/-! ### the rules that speak of the written part, with it said -/
section
variable {X : Cx} {K : PySem.W.Frag}
theorem kpg_tup (K : PySem.W.Frag) {es : List Expr} {k : Nat} {t : TGs} {n : Nat} {pos : Pos} (hc : X.calm = true) (h : PGs X es t) (hK : X.K = K := by rfl) (hn : (assignEach es X.env).length = n := by rfl) (hst : (assignEach es X.env).findIdx? (·.1) = none := by rfl) :
    PG X (.Tuple es k pos) (gTup K n t) := by subst hK; exact pg_tup hc h hn hst
theorem kpi_list (K : PySem.W.Frag) {tg l : Expr} {tl : TE} (h : PE X l tl) (hK : X.K = K := by rfl) : PI X tg l (iList K tl) := by subst hK; exact pi_list h
theorem kpi_tup (K : PySem.W.Frag) {tg l : Expr} {tl : TE} (h : PE X l tl) (hK : X.K = K := by rfl) : PI X tg l (iTup K tl) := by subst hK; exact pi_tup h
theorem kix_list (K : PySem.W.Frag) (hK : X.K = K := by rfl) : IxR X (rIxL K) := by subst hK; exact ix_list
theorem kix_tup (K : PySem.W.Frag) (hK : X.K = K := by rfl) : IxR X (rIxT K) := by subst hK; exact ix_tup
theorem ksl_list (K : PySem.W.Frag) (hK : X.K = K := by rfl) : SlR X (rSlL K) := by subst hK; exact sl_list
theorem ksl_tupA (K : PySem.W.Frag) (hK : X.K = K := by rfl) : SlR X (rSlA K) := by subst hK; exact sl_tupA
theorem kcall_len_seq (K : PySem.W.Frag) (hK : X.K = K := by rfl) : CallR X (.builtin "len") (fun xs H Q => ∃ p ys, xs = [.ref p] ∧ (SqL K H p ys ∨ SqT K H p ys) ∧ Q (.int ys.length) H) := by subst hK; exact call_len_seq
theorem kcr_sum (K : PySem.W.Frag) (hc : X.calm = true) (hK : X.K = K := by rfl) : CallR X (.builtin "sum") (rSum K) := by subst hK; exact cr_sum hc
theorem kcr_max (K : PySem.W.Frag) (hc : X.calm = true) (hK : X.K = K := by rfl) : CallR X (.builtin "max") (rMax K) := by subst hK; exact cr_max hc
theorem kcr_min (K : PySem.W.Frag) (hc : X.calm = true) (hK : X.K = K := by rfl) : CallR X (.builtin "min") (rMin K) := by subst hK; exact cr_min hc
theorem kcall_tuple_of (K : PySem.W.Frag) (hK : X.K = K := by rfl) : CallR X (.type "tuple") (fun xs H Q => ∃ p ys, xs = [.ref p] ∧ ((SqL K H p ys ∧ ∀ l, H l = none → Q (.ref l) (upd H l (.tup ys))) ∨ (SqT K H p ys ∧ Q (.ref p) H))) := by subst hK; exact call_tuple_of
theorem kcall_list_of (K : PySem.W.Frag) (hK : X.K = K := by rfl) : CallR X (.type "list") (fun xs H Q => ∃ p ys, xs = [.ref p] ∧ (SqL K H p ys ∨ SqT K H p ys) ∧ ∀ l, H l = none → Q (.ref l) (upd H l (.lst ys))) := by subst hK; exact call_list_of
theorem kcall_isi (K : PySem.W.Frag) (hK : X.K = K := by rfl) : CallR X (.builtin "isinstance") (rIsi K) := by subst hK; exact call_isi
theorem kop_eqD (K : PySem.W.Frag) (hu : X.A.units + 64 < cLine) (hK : X.K = K := by rfl) : OpR X (compareOp .Eq) (rEqD K) := by subst hK; exact op_eqD hu
theorem kop_neD (K : PySem.W.Frag) (hu : X.A.units + 64 < cLine) (hK : X.K = K := by rfl) : OpR X (compareOp .NotEq) (rNeD K) := by subst hK; exact op_neD hu
theorem kop_catA (K : PySem.W.Frag) (hK : X.K = K := by rfl) : OpR X (binaryOp .Add) (rCatA K) := by subst hK; exact op_catA
theorem kpi_zipA (K : PySem.W.Frag) {e e2 : Expr} {ta : TA} {p pos tpos : Pos} {elts : List Expr} {kk : Nat} (hg : Gl X "zip") (hm : X.mg "zip" = none) (ha : PA X [e, e2] ta) (hK : X.K = K := by rfl)
    (hs : starEach [e, e2] X.env = (false, eval e X.env) :: starEach [e2] X.env := by rfl) (hpl : (backTo pos (starEach [e2] X.env)).any (·.1) = false := by rfl) :
    PI X (.Tuple elts kk tpos) (.Call (.Name "zip" p) [e, e2] [] pos) (RZ.iZipA K ta) := by subst hK; exact RZ.pi_zipA hg hm ha hs hpl
theorem kpi_enum (K : PySem.W.Frag) {e : Expr} {ta : TA} {p pos tpos : Pos} {elts : List Expr} {kk : Nat} (hg : Gl X "enumerate") (hm : X.mg "enumerate" = none) (ha : PA X [e] ta) (hK : X.K = K := by rfl)
    (hs : starEach [e] X.env = [(false, eval e X.env)] := by rfl) :
    PI X (.Tuple elts kk tpos) (.Call (.Name "enumerate" p) [e] [] pos) (iEnum K ta) := by subst hK; exact pi_enum hg hm ha hs
theorem kpe_bm (K : PySem.W.Frag) {T name id : String} {r : V → List V → Hp → VK → Prop} {o e : Expr} {es : List Expr} {to : TE} {t : TA} {apos cpos : Pos} (pa : PlainAttrs T) (slot : Slot T name id) (hty : typeOf (.builtin id) = pure (.type "method_descriptor")) (hm : MtR X id r) (ho : PE X o to) (ha : PA X (e :: es) t) (hK : X.K = K := by rfl)
    (hbase : attributeBase o name X.env (eval o X.env) = eval o X.env := by rfl)
    (hfew : ((backTo cpos (starEach (e :: es) X.env)).all (fun x => !x.1) && (backToKw cpos (keywordEach [] X.env)).all (fun x => x.1.isSome)
      && decide ((e :: es).length + ([] : List Keyword).length + (if ([] : List Keyword).isEmpty then 0 else 1) < 30)) = true := by rfl)
    (hline : (apos.endLine == cpos.line) = true := by rfl) (hs : starEach (e :: es) X.env = (false, eval e X.env) :: starEach es X.env := by rfl) (hplain : (backTo cpos (starEach es X.env)).any (·.1) = false := by rfl) :
    PE X (.Call (.Attribute o name apos) (e :: es) [] cpos) (tBM K T r to t) := by subst hK; exact pe_bm pa slot hty hm ho ha hbase hfew hline hs hplain
end
/-! ### sum of a tuple of ints -/
section
variable {X : Cx} {K : PySem.W.Frag}
def rSumT (K : PySem.W.Frag) : List V → Hp → VK → Prop := fun vs H Q => ∃ (a : Addr) (ns : List Int), vs = [V.ref a] ∧ SqT K H a (ns.map V.int) ∧ Q (.int ns.sum) H
theorem kcr_sumT (K : PySem.W.Frag) (hc : X.calm = true) (hK : X.K = K := by rfl) : CallR X (.builtin "sum") (rSumT K) := by
  subst hK
  intro pins s σ H vs us Q I r h
  obtain ⟨a, ns, rfl, hs, q⟩ := h
  obtain ⟨its, rv, hl, _⟩ := I.tuple hs
  rw [Vals.ref1 r]
  have hi : IntsAre its ns := rv.ints
  obtain ⟨xs, e⟩ := hi.allInts.items
  have hn : numsOf (intItems xs).toList = ns := by rw [← e]; exact hi.numsOf
  rw [nums_intItems] at hn
  rw [e] at hl
  refine PySem.W.ktm_sumG (I.ok.hd hc) hl fun h' tk t' hk => ?_
  rw [preSum_eq, List.take_of_length_le (by simp), hn]
  exact ⟨.int _, H, I.kept hk, ⟨_, rfl⟩, q⟩
end
end Lar
namespace Lar
open PySem PySem.Spec PyProof.Rows L2
/-! ### the names -/
abbrev sgn : Str := "abcdefghijklmnopqrstuvwxyz"
def sg (i : Int) : Str := ⟨#[sgn.cps.toList.getD (i % 26).toNat 0]⟩
theorem sgn_len : sgn.cps.toList.length = 26 := by decide +kernel
theorem sgn_len' : sgn.length = 26 := by decide +kernel
theorem sg_at (i : Int) : atI sgn.cps.toList (i % 26) = some (sgn.cps.toList.getD (i % 26).toNat 0) := by
  have h1 := Int.emod_nonneg i (show (26 : Int) ≠ 0 by decide)
  have h2 := Int.emod_lt_of_pos i (show (0 : Int) < 26 by decide)
  have hl : (i % 26).toNat < sgn.cps.toList.length := by rw [sgn_len]; omega
  have e : sgn.cps.toList[(i % 26).toNat]? = some (sgn.cps.toList.getD (i % 26).toNat 0) := by
    rw [List.getD_eq_getElem?_getD, List.getElem?_eq_getElem hl]; rfl
  have q := atI_nat e
  rw [Int.toNat_of_nonneg h1] at q
  exact q
theorem sg_len (i : Int) : (sg i).length = 1 := rfl
def nmAt (more : Int) : Nat → Int
  | 0 => more / 7
  | t + 1 => nmAt more t + 1 + more / 182 % 25
def nmNm (more : Int) : Nat → Str
  | 0 => ""
  | t + 1 => nmNm more t ++ sg (nmAt more (t + 1))
theorem app_len (x y : Str) : (x ++ y).length = x.length + y.length := by
  show (x.cps ++ y.cps).size = x.cps.size + y.cps.size
  exact Array.size_append
theorem nmNm_len (more : Int) : ∀ t, (nmNm more t).length = t
  | 0 => rfl
  | t + 1 => by
    show (nmNm more t ++ sg _).length = t + 1
    rw [app_len, nmNm_len more t]; rfl
def words : List Str := ["total", "day", "flour", "salt", "left", "used", "short", "salts", "a", "z", "oil"]
def min6 (i : Int) : Int := if 6 < i then 6 else i
def nameBy (seed k : Int) : Str :=
  if seed % 6 = 0 ∧ k < 4 then words.getD ((seed / 6 + k) % 11).toNat ""
  else
    let more := seed / 6
    let n := (1 + more % 7).toNat
    let nm := nmNm more n
    let at' := nmAt more n
    let spot := more / 4550 % (n : Int)
    if 3 < k then cutS nm none (some (min6 spot)) ++ (sg (at' + k / 26) ++ sg k) ++ cutS nm (some (min6 spot)) (some 6)
    else if 3 < seed % 6 then sg (more / 7 + k) ++ nm
    else if k = 1 then cutS nm none (some spot) ++ sg (Txt.find sgn ⟨#[nm.cps.toList.getD spot.toNat 0]⟩ + 1) ++ cutS nm (some (spot + 1)) none
    else nm ++ [("" : Str), "", sg at', sg (at' + 1)].getD k.toNat ""
/-! ### data of tuples in the heap -/
/-- the tuples stand as they stood -/
def SameT (H H' : Hp) : Prop := ∀ b xs, H b = some (.tup xs) → H' b = some (.tup xs)
theorem SameT.refl (H : Hp) : SameT H H := fun _ _ h => h
theorem SameT.trans {H H1 H2 : Hp} (a : SameT H H1) (b : SameT H1 H2) : SameT H H2 := fun c o h => b c o (a c o h)
theorem SameT.of {H H' : Hp} (e : Same H H') : SameT H H' := fun b xs h => e b _ h
theorem SameT.lst {H : Hp} {p : Addr} {xs : List V} {o : HO} (h : H p = some (.lst xs)) : SameT H (upd H p o) := fun b ys hb => by
  rw [upd_ne (fun z => by subst z; rw [h] at hb; cases hb)]
  exact hb
theorem SameT.dict {H : Hp} {p : Addr} {kvs : List (Key × V)} {o : HO} (h : H p = some (.dK kvs)) : SameT H (upd H p o) := fun b ys hb => by
  rw [upd_ne (fun z => by subst z; rw [h] at hb; cases hb)]
  exact hb
theorem SameT.new {H : Hp} {p : Addr} {o : HO} (h : H p = none) : SameT H (upd H p o) := SameT.of (same_upd h)
section
variable {α : Type}
/-- vs tell xs, one by one -/
structure Held (R : Hp → V → α → Prop) (H : Hp) (vs : List V) (xs : List α) : Prop where
  len : vs.length = xs.length
  all : ∀ (i : Nat) (v : V) (x : α), vs[i]? = some v → xs[i]? = some x → R H v x
def MonoT (R : Hp → V → α → Prop) : Prop := ∀ H H' v x, SameT H H' → R H v x → R H' v x
theorem Held.nil {R : Hp → V → α → Prop} {H : Hp} : Held R H [] [] := ⟨rfl, fun i v x h => by simp at h⟩
theorem Held.mono {R : Hp → V → α → Prop} (m : MonoT R) {H H' : Hp} {vs : List V} {xs : List α} (e : SameT H H') (h : Held R H vs xs) : Held R H' vs xs := ⟨h.len, fun i v x a b => m _ _ _ _ e (h.all i v x a b)⟩
theorem Held.snoc {R : Hp → V → α → Prop} {H : Hp} {vs : List V} {xs : List α} {v : V} {x : α} (h : Held R H vs xs) (r : R H v x) : Held R H (vs ++ [v]) (xs ++ [x]) := by
  refine ⟨by rw [List.length_append, List.length_append, h.len]; rfl, fun i v' x' hv hx => ?_⟩
  by_cases hi : i < vs.length
  · rw [List.getElem?_append_left hi] at hv
    rw [List.getElem?_append_left (by rw [← h.len]; exact hi)] at hx
    exact h.all i _ _ hv hx
  · rw [List.getElem?_append_right (by omega)] at hv
    rw [List.getElem?_append_right (by have := h.len; omega)] at hx
    have e : i - vs.length = 0 := by
      have := (List.getElem?_eq_some_iff.mp hv).1
      simp at this
      omega
    rw [e] at hv
    rw [← h.len, e] at hx
    have e1 : v = v' := Option.some.inj hv
    have e2 : x = x' := Option.some.inj hx
    rw [← e1, ← e2]
    exact r
theorem Held.get {R : Hp → V → α → Prop} {H : Hp} {vs : List V} {xs : List α} {i : Nat} {v : V} (h : Held R H vs xs) (hv : vs[i]? = some v) : ∃ x, xs[i]? = some x ∧ R H v x := by
  have hi : i < xs.length := by rw [← h.len]; exact (List.getElem?_eq_some_iff.mp hv).1
  exact ⟨xs[i], List.getElem?_eq_getElem hi, h.all i v _ hv (List.getElem?_eq_getElem hi)⟩
/-- a tuple of things -/
def TupAll (R : Hp → V → α → Prop) (H : Hp) (v : V) (xs : List α) : Prop := ∃ t vs, v = .ref t ∧ H t = some (.tup vs) ∧ Held R H vs xs
theorem TupAll.mono {R : Hp → V → α → Prop} (m : MonoT R) : MonoT (TupAll R) := fun H H' v xs e ⟨t, vs, h1, h2, h3⟩ => ⟨t, vs, h1, e _ _ h2, h3.mono m e⟩
end
abbrev Need := Str × Int
abbrev Dish := Int × List Need
structure Batch where
  name : Str
  amount : Int
  last : Int
def NeedAt (H : Hp) (v : V) (x : Need) : Prop := ∃ t, v = .ref t ∧ H t = some (.tup [.str x.1, .int x.2])
theorem NeedAt.mono : MonoT NeedAt := fun _ _ _ _ e ⟨t, h1, h2⟩ => ⟨t, h1, e _ _ h2⟩
def DishAt (H : Hp) (v : V) (d : Dish) : Prop := ∃ t u, v = .ref t ∧ H t = some (.tup [.int d.1, u]) ∧ TupAll NeedAt H u d.2
theorem DishAt.mono : MonoT DishAt := fun _ _ _ _ e ⟨t, u, h1, h2, h3⟩ => ⟨t, u, h1, e _ _ h2, TupAll.mono NeedAt.mono _ _ _ _ e h3⟩
abbrev DishesAt : Hp → V → List Dish → Prop := TupAll DishAt
theorem DishesAt.mono : MonoT DishesAt := TupAll.mono DishAt.mono
def BatchAt (H : Hp) (v : V) (b : Batch) : Prop := ∃ t, v = .ref t ∧ H t = some (.tup [.str b.name, .int b.amount, .int b.last])
theorem BatchAt.mono : MonoT BatchAt := fun _ _ _ _ e ⟨t, h1, h2⟩ => ⟨t, h1, e _ _ h2⟩
abbrev LarderAt : Hp → V → List Batch → Prop := TupAll BatchAt
theorem LarderAt.mono : MonoT LarderAt := TupAll.mono BatchAt.mono
def NameOf (seed : Int) (x : Str) : Prop := ∃ k : Nat, k < 12 ∧ x = nameBy seed k
structure GoodDish (seed : Int) (d : Dish) : Prop where
  day1 : 1 ≤ d.1
  day7 : d.1 ≤ 7
  many : d.2.length ≤ 20
  need : ∀ x ∈ d.2, (1 ≤ x.2 ∧ x.2 ≤ 200) ∧ NameOf seed x.1
structure GoodBatch (seed : Int) (b : Batch) : Prop where
  am1 : 1 ≤ b.amount
  am2 : b.amount ≤ 200
  la1 : 1 ≤ b.last
  la2 : b.last ≤ 99
  name : NameOf seed b.name
/-! ### comprehensions, by filterMap -/
section
variable {α β γ : Type} {J : It} {n : Nat} {G : Hp → Prop} {Y : Nat → Hp → V → Hp → Prop}
theorem held_eq {f : α → V} {H : Hp} {vs : List V} {xs : List α} (h : Held (fun _ v x => v = f x) H vs xs) : vs = xs.map f := by
  apply List.ext_getElem?
  intro i
  rw [List.getElem?_map]
  cases e : vs[i]? with
  | none =>
    have : xs[i]? = none := by
      rw [List.getElem?_eq_none_iff, ← h.len]
      exact List.getElem?_eq_none_iff.mp e
    rw [this]; rfl
  | some v =>
    obtain ⟨x, hx, rx⟩ := h.get e
    rw [hx, rx]; rfl
theorem mono_eq {f : α → V} : MonoT (fun (_ : Hp) (v : V) (x : α) => v = f x) := fun _ _ _ _ _ h => h
/-- a comprehension over what walks: the new list tells (xs.filterMap f) -/
theorem lc_rel (w : Walk J n G Y) {xs : List α} (hn : xs.length = n) {f : α → Option β} {R : Hp → V → β → Prop} (mR : MonoT R) {g : TG} {tt : TT} {te : TE} {ws : List Nat} {σ : L2.St} {H1 : Hp} {D : Addr} {Qd : Hp → Prop}
    (hD : H1 D = none) (hG : ∀ H, Same H1 H → G H) (hz : n ≤ 100000)
    (hs : ∀ (i : Nat) (v : V) (x : α) (H H' : Hp) (Ky : V → Hp → Prop) (Kn : Hp → Prop), xs[i]? = some x → Same H1 H → Y i H v H' → (∀ y b H4, f x = some b → Same H H4 → R H4 y b → Ky y H4) → (∀ H3, f x = none → Same H H3 → Kn H3) →
      g v (wipe σ ws) H' fun σ2 H2 => wipe σ2 ws = wipe σ ws ∧ tt σ2 H2 fun b H3 => if b = true then te σ2 H3 Ky else Kn H3)
    (hd : ∀ H' ys, Same H1 H' → H' D = some (.lst ys) → Held R H' ys (xs.filterMap f) → Qd H') :
    ∃ W : Nat → Nat → Hp → Prop, (∃ m, W 0 m (upd H1 D (.lst []))) ∧ ∀ i m H, W i m H →
      (J.stop i H ∧ Qd H) ∨ (J.go i H ∧ ∃ Nx : Hp → Prop, (∀ H', Nx H' → ∃ m', m' < m ∧ W (i + 1) m' H') ∧ ∀ x H', J.yld i H x H' → g x (wipe σ ws) H' fun σ2 H2 => wipe σ2 ws = wipe σ ws ∧ tt σ2 H2 fun b H3 =>
        if b = true then te σ2 H3 fun y H4 => ∃ acc, H4 D = some (.lst acc) ∧ acc.length < sizeLine ∧ Nx (upd H4 D (.lst (acc ++ [y]))) else Nx H3) := by
  refine lc_it w (fun i H => Same H1 H ∧ ∃ ys, H D = some (.lst ys) ∧ Held R H ys ((xs.take i).filterMap f)) ⟨same_upd hD, [], upd_same, Held.nil⟩ (fun i H _ p => hG H p.1) (fun i v H H' hi p y => ?_) (fun H p => ?_)
  · obtain ⟨sm, ys, hDl, hh⟩ := p
    have hx : xs[i]? = some (xs[i]'(by omega)) := List.getElem?_eq_getElem (by omega)
    refine hs i v _ H H' _ _ hx sm y (fun y b H4 e s4 r => ?_) (fun H3 e s3 => ?_)
    · refine ⟨_, s4 _ _ hDl, ?_, (sm.trans s4).mut hD, ys ++ [y], upd_same, ?_⟩
      · have h1 := List.length_filterMap_le f (xs.take i)
        rw [List.length_take] at h1
        exact small' (by rw [hh.len]; omega)
      · have st := SameT.lst (o := .lst (ys ++ [y])) (s4 _ _ hDl)
        rw [take_succ' hx, List.filterMap_append]
        have e2 : List.filterMap f [xs[i]'(by omega)] = [b] := by rw [List.filterMap_cons_some e]; rfl
        rw [e2]
        exact (hh.mono mR ((SameT.of s4).trans st)).snoc (mR _ _ _ _ st r)
    · refine ⟨sm.trans s3, ys, s3 _ _ hDl, ?_⟩
      rw [take_succ' hx, List.filterMap_append]
      have e2 : List.filterMap f [xs[i]'(by omega)] = [] := by rw [List.filterMap_cons_none e]; rfl
      rw [e2, List.append_nil]
      exact hh.mono mR (SameT.of s3)
  · obtain ⟨sm, ys, hDl, hh⟩ := p
    rw [← hn, List.take_length] at hh
    exact hd H ys sm hDl hh
/-- .. of two clauses: the outer one -/
theorem lc2_out (w : Walk J n G Y) {xs : List α} (hn : xs.length = n) {F : α → List γ} {R : Hp → V → γ → Prop} {g : TG} {te : L2.St → Hp → (Hp → Prop) → Prop} {ws : List Nat} {σ : L2.St} {H1 : Hp} {D : Addr} {Qd : Hp → Prop}
    (hD : H1 D = none) (hG : ∀ H, Same H1 H → G H)
    (hs : ∀ (i : Nat) (v : V) (x : α) (H H' : Hp) (ys : List V) (Nx : Hp → Prop), xs[i]? = some x → Same H1 H → Y i H v H' → H D = some (.lst ys) → Held R H ys ((xs.take i).flatMap F) →
      (∀ H3 ys, Same H1 H3 → H3 D = some (.lst ys) → Held R H3 ys ((xs.take i).flatMap F ++ F x) → Nx H3) →
      g v (wipe σ ws) H' fun σ2 H2 => wipe σ2 ws = wipe σ ws ∧ te σ2 H2 Nx)
    (hd : ∀ H' ys, Same H1 H' → H' D = some (.lst ys) → Held R H' ys (xs.flatMap F) → Qd H') :
    ∃ W : Nat → Nat → Hp → Prop, (∃ m, W 0 m (upd H1 D (.lst []))) ∧ ∀ i m H, W i m H →
      (J.stop i H ∧ Qd H) ∨ (J.go i H ∧ ∃ Nx : Hp → Prop, (∀ H', Nx H' → ∃ m', m' < m ∧ W (i + 1) m' H') ∧ ∀ x H', J.yld i H x H' → g x (wipe σ ws) H' fun σ2 H2 => wipe σ2 ws = wipe σ ws ∧ te σ2 H2 Nx) := by
  refine ⟨fun i m H => m = n - i ∧ i ≤ n ∧ Same H1 H ∧ ∃ ys, H D = some (.lst ys) ∧ Held R H ys ((xs.take i).flatMap F), ⟨n, by simp, Nat.zero_le _, same_upd hD, [], upd_same, Held.nil⟩, ?_⟩
  rintro i m H ⟨rfl, hi, sm, ys, hDl, hh⟩
  by_cases hlt : i < n
  · refine .inr ⟨w.goes i H hlt (hG H sm), fun H' => Same H1 H' ∧ ∃ ys, H' D = some (.lst ys) ∧ Held R H' ys ((xs.take (i + 1)).flatMap F), fun H' p' => ⟨n - (i + 1), by omega, rfl, hlt, p'⟩, fun v H' y => ?_⟩
    have hx : xs[i]? = some (xs[i]'(by omega)) := List.getElem?_eq_getElem (by omega)
    refine hs i v _ H H' ys _ hx sm (w.yields i H v H' hlt (hG H sm) y) hDl hh (fun H3 ys' s3 hD3 h3 => ⟨s3, ys', hD3, ?_⟩)
    rw [take_succ' hx, List.flatMap_append]
    have e2 : List.flatMap F [xs[i]'(by omega)] = F (xs[i]'(by omega)) := by simp
    rw [e2]
    exact h3
  · have e : i = n := by omega
    subst e
    rw [← hn, List.take_length] at hh
    exact .inl ⟨w.stops H (hG H sm), hd H ys sm hDl hh⟩
/-- .. the inner one -/
theorem lc2_in (w : Walk J n G Y) {xs : List α} (hn : xs.length = n) {f : α → Option γ} {R : Hp → V → γ → Prop} (mR : MonoT R) {g : TG} {tt : TT} {te : TE} {ws : List Nat} {σ : L2.St} {H0 H1 : Hp} {D : Addr} {ys0 : List V} {zs : List γ} {Qd : Hp → Prop}
    (hD : H0 D = none) (s1 : Same H0 H1) (hD1 : H1 D = some (.lst ys0)) (h1 : Held R H1 ys0 zs) (hG : ∀ H, Same H0 H → SameT H1 H → G H) (hz : zs.length + n ≤ 100000)
    (hs : ∀ (i : Nat) (v : V) (x : α) (H H' : Hp) (Ky : V → Hp → Prop) (Kn : Hp → Prop), xs[i]? = some x → Same H0 H → SameT H1 H → Y i H v H' → (∀ y b H4, f x = some b → Same H H4 → R H4 y b → Ky y H4) → (∀ H3, f x = none → Same H H3 → Kn H3) →
      g v (wipe σ ws) H' fun σ2 H2 => wipe σ2 ws = wipe σ ws ∧ tt σ2 H2 fun b H3 => if b = true then te σ2 H3 Ky else Kn H3)
    (hd : ∀ H' ys, Same H0 H' → H' D = some (.lst ys) → Held R H' ys (zs ++ xs.filterMap f) → Qd H') :
    ∃ W : Nat → Nat → Hp → Prop, (∃ m, W 0 m H1) ∧ ∀ i m H, W i m H →
      (J.stop i H ∧ Qd H) ∨ (J.go i H ∧ ∃ Nx : Hp → Prop, (∀ H', Nx H' → ∃ m', m' < m ∧ W (i + 1) m' H') ∧ ∀ x H', J.yld i H x H' → g x (wipe σ ws) H' fun σ2 H2 => wipe σ2 ws = wipe σ ws ∧ tt σ2 H2 fun b H3 =>
        if b = true then te σ2 H3 fun y H4 => ∃ acc, H4 D = some (.lst acc) ∧ acc.length < sizeLine ∧ Nx (upd H4 D (.lst (acc ++ [y]))) else Nx H3) := by
  refine ⟨fun i m H => m = n - i ∧ i ≤ n ∧ Same H0 H ∧ SameT H1 H ∧ ∃ ys, H D = some (.lst ys) ∧ Held R H ys (zs ++ (xs.take i).filterMap f), ⟨n, by simp, Nat.zero_le _, s1, SameT.refl _, ys0, hD1, by simpa using h1⟩, ?_⟩
  rintro i m H ⟨rfl, hi, sm, st, ys, hDl, hh⟩
  by_cases hlt : i < n
  · refine .inr ⟨w.goes i H hlt (hG H sm st), fun H' => Same H0 H' ∧ SameT H1 H' ∧ ∃ ys, H' D = some (.lst ys) ∧ Held R H' ys (zs ++ (xs.take (i + 1)).filterMap f), fun H' p' => ⟨n - (i + 1), by omega, rfl, hlt, p'⟩, fun v H' y => ?_⟩
    have hx : xs[i]? = some (xs[i]'(by omega)) := List.getElem?_eq_getElem (by omega)
    refine hs i v _ H H' _ _ hx sm st (w.yields i H v H' hlt (hG H sm st) y) (fun y b H4 e s4 r => ?_) (fun H3 e s3 => ?_)
    · have su := SameT.lst (o := .lst (ys ++ [y])) (s4 _ _ hDl)
      refine ⟨_, s4 _ _ hDl, ?_, (sm.trans s4).mut hD, (st.trans (SameT.of s4)).trans su, ys ++ [y], upd_same, ?_⟩
      · have h2 := List.length_filterMap_le f (xs.take i)
        rw [List.length_take] at h2
        exact small' (by rw [hh.len, List.length_append]; omega)
      · rw [take_succ' hx, List.filterMap_append]
        have e2 : List.filterMap f [xs[i]'(by omega)] = [b] := by rw [List.filterMap_cons_some e]; rfl
        rw [e2, ← List.append_assoc]
        exact (hh.mono mR ((SameT.of s4).trans su)).snoc (mR _ _ _ _ su r)
    · refine ⟨sm.trans s3, st.trans (SameT.of s3), ys, s3 _ _ hDl, ?_⟩
      rw [take_succ' hx, List.filterMap_append]
      have e2 : List.filterMap f [xs[i]'(by omega)] = [] := by rw [List.filterMap_cons_none e]; rfl
      rw [e2, List.append_nil]
      exact hh.mono mR (SameT.of s3)
  · have e : i = n := by omega
    subst e
    rw [← hn, List.take_length] at hh
    exact .inl ⟨w.stops H (hG H sm st), hd H ys sm hDl hh⟩
end
/-- the walk over two tuples -/
theorem walk_zipT {K : PySem.W.Frag} {a b : Addr} {xs ys : List V} {n : Nat} (hn : n = min xs.length ys.length) : Walk (RZ.ItzT K a b) n (fun H => SqT K H a xs ∧ SqT K H b ys) (YPair (fun i => xs[i]?) (fun i => ys[i]?)) := by
  subst hn
  refine ⟨fun i _ hi q => ?_, fun _ q => ⟨xs, ys, q.1, q.2, by omega⟩, fun i H v H' _ q y => ?_⟩
  · have h1 : i < xs.length := by omega
    have h2 : i < ys.length := by omega
    exact ⟨xs, ys, xs[i], ys[i], q.1, q.2, by simp [h1], by simp [h2]⟩
  · obtain ⟨T, x, z, h1, h2, h3, h4, h5⟩ := y
    exact ⟨T, x, z, h1, h2, h3, h4 xs q.1, h5 ys q.2⟩
/-- the turns of a range -/
theorem range_ix {n i k : Nat} (h : (List.range n)[i]? = some k) : k = i ∧ i < n := by
  obtain ⟨h1, h2⟩ := List.getElem?_eq_some_iff.mp h
  rw [List.getElem_range] at h2
  exact ⟨h2.symm, by simpa using h1⟩
/-! ### what is needed, kept, lacking -/
def PairAt (H : Hp) (v : V) (x : Int × Int) : Prop := ∃ t, v = .ref t ∧ H t = some (.tup [.int x.1, .int x.2])
theorem PairAt.mono : MonoT PairAt := fun _ _ _ _ e ⟨t, h1, h2⟩ => ⟨t, h1, e _ _ h2⟩
def onDay (ps : List (Int × Int)) (day : Int) : Int := (ps.filterMap fun x => if x.1 = day then some x.2 else none).sum
def toDay (ps : List (Int × Int)) (day : Int) : Int := (ps.filterMap fun x => if day ≤ x.2 then some x.1 else none).sum
def pairsOf (ds : List Dish) (nm : Str) : List (Int × Int) := ds.flatMap fun d => d.2.filterMap fun x => if x.1 = nm then some (d.1, x.2) else none
def neededL (ds : List Dish) (nm : Str) : List Int := (List.range 7).map fun i => onDay (pairsOf ds nm) (1 + (i : Nat))
def fromL (xs : List Int) : List Int := (List.range 7).map fun i => (xs.drop i).sum
def keptPairs (lar : List Batch) (nm : Str) : List (Int × Int) := lar.filterMap fun b => if b.name = nm then some (b.amount, b.last) else none
def keptL (lar : List Batch) (nm : Str) : List Int := (List.range 7).map fun i => toDay (keptPairs lar nm) (1 + (i : Nat))
def mx0 (x : Int) : Int := if x > 0 then x else 0
def lackL (ds : List Dish) (lar : List Batch) (nm : Str) : List Int := (List.range 7).map fun i => mx0 ((fromL (neededL ds nm)).getD i 0 - (keptL lar nm).getD i 0)
theorem neededL_len (ds : List Dish) (nm : Str) : (neededL ds nm).length = 7 := by unfold neededL; simp
theorem fromL_len (xs : List Int) : (fromL xs).length = 7 := by unfold fromL; simp
theorem keptL_len (lar : List Batch) (nm : Str) : (keptL lar nm).length = 7 := by unfold keptL; simp
theorem lackL_len (ds : List Dish) (lar : List Batch) (nm : Str) : (lackL ds lar nm).length = 7 := by unfold lackL; simp
theorem fm_some {α β : Type} (f : α → β) (xs : List α) : xs.filterMap (fun x => some (f x)) = xs.map f := by
  induction xs with
  | nil => rfl
  | cons x r ih =>
    show f x :: List.filterMap (fun x => some (f x)) r = _
    rw [ih]; rfl
theorem pairsOf_len {n : Nat} : ∀ (ds : List Dish) (nm : Str), (∀ d ∈ ds, d.2.length ≤ n) → (pairsOf ds nm).length ≤ ds.length * n
  | [], _, _ => by simp [pairsOf]
  | d :: r, nm, h => by
    have ih := pairsOf_len r nm fun d hd => h d (List.mem_cons_of_mem _ hd)
    have h1 := List.length_filterMap_le (fun x : Need => if x.1 = nm then some (d.1, x.2) else none) d.2
    have h2 := h d List.mem_cons_self
    unfold pairsOf at ih ⊢
    rw [List.flatMap_cons, List.length_append, List.length_cons, Nat.succ_mul]
    omega
/-! ### the law's own reckoning of what lacks -/
def needOf (d : Dish) (nm : Str) : Int := (d.2.filterMap fun x => if x.1 = nm then some x.2 else none).sum
def needFrom (ds : List Dish) (nm : Str) (day : Int) : Int := (ds.map fun d => if day ≤ d.1 then needOf d nm else 0).sum
def keptTo (lar : List Batch) (nm : Str) (day : Int) : Int := (lar.map fun b => if b.name = nm ∧ day ≤ b.last then b.amount else 0).sum
def lackDay (ds : List Dish) (lar : List Batch) (nm : Str) (day : Int) : Int := mx0 (needFrom ds nm day - keptTo lar nm day)
def lackW (ds : List Dish) (lar : List Batch) (nm : Str) : List Int := (List.range 7).map fun i => lackDay ds lar nm (1 + (i : Nat))
theorem toDay_kept (nm : Str) (day : Int) : ∀ lar : List Batch, toDay (keptPairs lar nm) day = keptTo lar nm day
  | [] => rfl
  | b :: r => by
    have ih := toDay_kept nm day r
    unfold toDay keptPairs keptTo at ih ⊢
    rw [List.map_cons, List.sum_cons, ← ih]
    by_cases e : b.name = nm
    · by_cases l : day ≤ b.last
      · simp only [List.filterMap_cons, if_pos e, if_pos l, if_pos (And.intro e l), List.sum_cons]
      · simp only [List.filterMap_cons, if_pos e, if_neg l, if_neg (fun z : b.name = nm ∧ day ≤ b.last => l z.2)]
        omega
    · simp only [List.filterMap_cons, if_neg e, if_neg (fun z : b.name = nm ∧ day ≤ b.last => e z.1)]
      omega
theorem onDay_app (xs ys : List (Int × Int)) (day : Int) : onDay (xs ++ ys) day = onDay xs day + onDay ys day := by
  unfold onDay
  rw [List.filterMap_append, List.sum_append]
theorem onDay_one (k day : Int) (nm : Str) : ∀ ns : List Need, onDay (ns.filterMap fun x => if x.1 = nm then some (k, x.2) else none) day = if k = day then (ns.filterMap fun x => if x.1 = nm then some x.2 else none).sum else 0
  | [] => by unfold onDay; simp
  | x :: r => by
    have ih := onDay_one k day nm r
    unfold onDay at ih ⊢
    by_cases e : x.1 = nm
    · by_cases d : k = day
      · simp only [List.filterMap_cons, if_pos e, if_pos d, List.sum_cons] at ih ⊢
        rw [ih]
      · simp only [List.filterMap_cons, if_pos e, if_neg d] at ih ⊢
        exact ih
    · simp only [List.filterMap_cons, if_neg e]
      exact ih
theorem onDay_cons (d : Dish) (r : List Dish) (nm : Str) (day : Int) : onDay (pairsOf (d :: r) nm) day = (if d.1 = day then needOf d nm else 0) + onDay (pairsOf r nm) day := by
  unfold pairsOf
  rw [List.flatMap_cons, onDay_app, onDay_one]; rfl
theorem seven (f : Nat → Int) : (List.range 7).map f = [f 0, f 1, f 2, f 3, f 4, f 5, f 6] := rfl
theorem from_needed (nm : Str) : ∀ (ds : List Dish), (∀ d ∈ ds, 1 ≤ d.1 ∧ d.1 ≤ 7) → ∀ i : Nat, i < 7 → ((neededL ds nm).drop i).sum = needFrom ds nm (1 + (i : Nat))
  | [], _, i, hi => by
    have h : i = 0 ∨ i = 1 ∨ i = 2 ∨ i = 3 ∨ i = 4 ∨ i = 5 ∨ i = 6 := by omega
    rcases h with e | e | e | e | e | e | e <;> subst e <;> rfl
  | d :: r, hd, i, hi => by
    have ih := from_needed nm r (fun x hx => hd x (List.mem_cons_of_mem _ hx)) i hi
    have hd1 := hd d List.mem_cons_self
    unfold neededL at ih ⊢
    unfold needFrom at ih ⊢
    rw [List.map_cons, List.sum_cons, ← ih, seven, seven]
    simp only [onDay_cons]
    generalize needOf d nm = z
    have h : i = 0 ∨ i = 1 ∨ i = 2 ∨ i = 3 ∨ i = 4 ∨ i = 5 ∨ i = 6 := by omega
    have h2 : d.1 = 1 ∨ d.1 = 2 ∨ d.1 = 3 ∨ d.1 = 4 ∨ d.1 = 5 ∨ d.1 = 6 ∨ d.1 = 7 := by omega
    rcases h2 with e2 | e2 | e2 | e2 | e2 | e2 | e2 <;> rw [e2] <;> rcases h with e | e | e | e | e | e | e <;> subst e <;> simp <;> omega
theorem lack_eq (ds : List Dish) (lar : List Batch) (nm : Str) (hd : ∀ d ∈ ds, 1 ≤ d.1 ∧ d.1 ≤ 7) : lackL ds lar nm = lackW ds lar nm := by
  unfold lackL lackW
  apply List.map_congr_left
  intro i hi
  have hi7 : i < 7 := List.mem_range.mp hi
  unfold lackDay
  have e1 : (fromL (neededL ds nm)).getD i 0 = needFrom ds nm (1 + (i : Nat)) := by
    unfold fromL
    rw [List.getD_eq_getElem?_getD, List.getElem?_map, List.getElem?_eq_getElem (by simpa using hi7), List.getElem_range]
    exact from_needed nm ds hd i hi7
  have e2 : (keptL lar nm).getD i 0 = keptTo lar nm (1 + (i : Nat)) := by
    unfold keptL
    rw [List.getD_eq_getElem?_getD, List.getElem?_map, List.getElem?_eq_getElem (by simpa using hi7), List.getElem_range]
    exact toDay_kept nm _ lar
  rw [e1, e2]
theorem needFrom_snoc (ds : List Dish) (d : Dish) (nm : Str) (day : Int) : needFrom (ds ++ [d]) nm day = needFrom ds nm day + if day ≤ d.1 then needOf d nm else 0 := by
  unfold needFrom
  rw [List.map_append, List.sum_append]; simp
theorem keptTo_snoc (lar : List Batch) (b : Batch) (nm : Str) (day : Int) : keptTo (lar ++ [b]) nm day = keptTo lar nm day + if b.name = nm ∧ day ≤ b.last then b.amount else 0 := by
  unfold keptTo
  rw [List.map_append, List.sum_append]; simp
/-- what is kept, as the law reckons it -/
def dueK (lar : List Batch) (nm : Str) (i : Int) : Int := (lar.filterMap fun b => if b.name = nm ∧ i < b.last then some b.amount else none).sum
theorem dueK_eq (nm : Str) (i : Int) : ∀ lar : List Batch, dueK lar nm i = keptTo lar nm (1 + i)
  | [] => rfl
  | b :: r => by
    have ih := dueK_eq nm i r
    unfold dueK keptTo at ih ⊢
    rw [List.map_cons, List.sum_cons, ← ih]
    by_cases e : b.name = nm ∧ i < b.last
    · have e2 : b.name = nm ∧ 1 + i ≤ b.last := ⟨e.1, by omega⟩
      simp only [List.filterMap_cons, if_pos e, if_pos e2, List.sum_cons]
    · have e2 : ¬ (b.name = nm ∧ 1 + i ≤ b.last) := fun z => e ⟨z.1, by omega⟩
      simp only [List.filterMap_cons, if_neg e, if_neg e2]
      omega
theorem keptL_eq (lar : List Batch) (nm : Str) : keptL lar nm = (List.range 7).map fun i => dueK lar nm (i : Nat) := by
  unfold keptL
  apply List.map_congr_left
  intro i _
  rw [toDay_kept, dueK_eq]
end Lar
namespace Lar
open PySem PySem.Spec PyProof.Rows L2
/-! ### the greatest of a tuple of ints -/
section
variable {prog : Program} {w : World} {A : Around} {E : Value → Shared → Prop} {s : Shared} {t : Addr}
theorem max_tupI {xs : Array (Int × Tok)} {Q : Value → Shared → Prop} (hh : A.handled = none) (ht : s.heap.IsTuple t (intItems xs)) (h0 : 0 < xs.size)
    (h : ∀ v h' tk, (intItems xs)[argBest (fun i j => decide (numAt xs i > numAt xs j)) (xs.size - 1)]? = some v → (∀ b o, s.heap.get? b = some o → h'.get? b = some o) → Q v { s with heap := h', toks := tk }) :
    wpAny (model prog w) A (call (.builtin "max") [.ref t]) Q E s := by
  obtain ⟨o, ho, hc, n, hd⟩ := id ht
  have hne : t ≠ s.heap.objs.size := Nat.ne_of_lt (Heap.lt_size ho)
  have hsz : (intItems xs).size = xs.size := by simp [intItems]
  have W := (Walks.tuple (prog := prog) (w := w) (A := A.in1) hh s.heap.objs.size t hne (intItems xs)).toS
  rw [hsz] at W
  refine call_max_walkS (wpAny_pyIter_tuple ht ?_)
  refine ⟨s.heap.objs.size, _, _, _, _, _, _, _, rfl, W, ⟨⟨_, Heap.get?_push_size _ rfl, rfl, rfl⟩, ht.at fun o e => Heap.get?_push_of_some _ e⟩, fun b hb => ?_, h0, CmpOf.ints_gt (numAt xs) (fun i v hP => intItems_at hP), fun v s' hP hm => ?_⟩
  · rcases List.mem_cons.mp hb with rfl | hb
    · exact Heap.lt_size (Heap.get?_push_size _ rfl)
    · obtain rfl := List.mem_singleton.mp hb
      exact Heap.lt_size (Heap.get?_push_of_some _ ho)
  · obtain ⟨h', g', d', tk', os'⟩ := s'
    have e1 : g' = s.gens := hm.gens
    have e2 : d' = s.drawn := hm.drawn
    have e3 : os' = s.os := hm.os
    subst e1 e2 e3
    exact h v h' tk' hP fun b o e => hm.heap b o (fun hb => absurd (Heap.lt_size e) ((List.mem_singleton.mp hb) ▸ Nat.lt_irrefl _)) (Heap.get?_push_of_some _ e)
end
section
variable {X : Cx}
/-- max(xs), xs a list or a tuple of ints -/
def rMaxA (K : PySem.W.Frag) : List V → Hp → VK → Prop := fun vs H Q => ∃ (a : Addr) (ns : List Int), vs = [V.ref a] ∧ (SqL K H a (ns.map V.int) ∨ SqT K H a (ns.map V.int)) ∧ 0 < ns.length ∧ ∀ m, m ∈ ns → (∀ y, y ∈ ns → y ≤ m) → Q (.int m) H
theorem kcr_maxA (K : PySem.W.Frag) (hc : X.calm = true) (hK : X.K = K := by rfl) : CallR X (.builtin "max") (rMaxA K) := by
  subst hK
  intro pins s σ H vs us Q I r h
  obtain ⟨a, ns, rfl, hs, hne, q⟩ := h
  rw [Vals.ref1 r]
  rcases hs with hs | hs
  · obtain ⟨its, rv, hl, _⟩ := I.list hs
    exact max_raw (I.ok.hd hc) hl.isList rv.ints hne fun h' tk m t' hk h1 h2 => ⟨.int _, H, I.kept hk, ⟨_, rfl⟩, q m h1 h2⟩
  · obtain ⟨its, rv, hl, _⟩ := I.tuple hs
    have hi : IntsAre its ns := rv.ints
    obtain ⟨xs, e⟩ := hi.allInts.items
    have hn : numsOf (intItems xs).toList = ns := by rw [← e]; exact hi.numsOf
    rw [nums_intItems] at hn
    rw [e] at hl
    have hsz : 0 < xs.size := by rw [← hn] at hne; simpa using hne
    refine max_tupI (I.ok.hd hc) hl hsz fun v h' tk hv hk => ?_
    obtain ⟨t', rfl⟩ := intItems_at hv
    obtain ⟨h1, h2⟩ := argBest_gt (numAt xs) (xs.size - 1)
    refine ⟨.int _, H, I.kept hk, ⟨_, rfl⟩, q _ ?_ fun y hy => ?_⟩
    · rw [numAt_eq, hn]; exact PySem.getD_mem (by rw [← hn, List.length_map, Array.length_toList]; omega)
    · rw [← hn] at hy
      obtain ⟨j, hj, rfl⟩ := mem_getD hy
      rw [List.length_map, Array.length_toList] at hj
      rw [← numAt_eq]; exact h2 j (by omega)
/-- a list's or a tuple's item -/
def rIxA (K : PySem.W.Frag) : R2 := fun x y H Q => ∃ p xs i v, x = .ref p ∧ y = .int i ∧ (SqL K H p xs ∨ SqT K H p xs) ∧ atI xs i = some v ∧ Q v H
theorem kix_seq (K : PySem.W.Frag) (hK : X.K = K := by rfl) : IxR X (rIxA K) := by
  subst hK
  intro value slice pins s σ H x y v u Q I rx ry h hs
  obtain ⟨p, xs, i, z, hx, hy, hq, he, q⟩ := h
  refine (IxR.or ix_list ix_tup) value slice pins s σ H x y v u Q I rx ry ?_ hs
  rcases hq with hq | hq
  · exact .inl ⟨p, xs, i, z, hx, hy, hq, he, q⟩
  · exact .inr ⟨p, xs, i, z, hx, hy, hq, he, q⟩
theorem kop_repT (K : PySem.W.Frag) (hK : X.K = K := by rfl) : OpR X (binaryOp .Mult) (rRepT K) := by subst hK; exact op_repT
end
theorem ixN_of {n j : Nat} {k : Int} (h : k = j) (hj : j < n) : ixN n k = some j := by
  subst h
  unfold ixN
  rw [if_pos (by omega), if_pos (by omega)]; simp
theorem same_none {H H' : Hp} {a : Addr} (s : Same H H') (h : H' a = none) : H a = none := by
  cases e : H a with
  | none => rfl
  | some x => rw [s _ _ e] at h; cases h
/-! ### offers -/
structure Offer where
  size : Int
  price : Int
  last : Int
def OfferAt (H : Hp) (v : V) (o : Offer) : Prop := ∃ t, v = .ref t ∧ H t = some (.tup [.int o.size, .int o.price, .int o.last])
theorem OfferAt.mono : MonoT OfferAt := fun _ _ _ _ e ⟨t, h1, h2⟩ => ⟨t, h1, e _ _ h2⟩
structure GoodOffer (o : Offer) : Prop where
  size1 : 1 ≤ o.size
  size2 : o.size ≤ 200
  price0 : 0 ≤ o.price
  price2 : o.price ≤ 1000000
  last1 : 1 ≤ o.last
  last2 : o.last ≤ 99
/-- a list or a tuple -/
def SqA (K : PySem.W.Frag) (H : Hp) (a : Addr) (xs : List V) : Prop := SqL K H a xs ∨ SqT K H a xs
theorem SqA.l {K : PySem.W.Frag} {H : Hp} {a : Addr} {xs : List V} (h : H a = some (.lst xs)) : SqA K H a xs := .inl (sqL h)
theorem SqA.t {K : PySem.W.Frag} {H : Hp} {a : Addr} {xs : List V} (h : H a = some (.tup xs)) : SqA K H a xs := .inr (sqT h)
theorem SqA.same {K : PySem.W.Frag} {H H' : Hp} {a : Addr} {xs : List V} (h : SqA K H a xs) (e : Same H H') : SqA K H' a xs := by
  rcases h with h | h
  · exact .inl (e.seq h)
  · exact .inr (e.seqT h)
def OffersIn (K : PySem.W.Frag) (H : Hp) (v : V) (os : List Offer) : Prop := ∃ a us, v = .ref a ∧ SqA K H a us ∧ Held OfferAt H us os
theorem OffersIn.same {K : PySem.W.Frag} {H H' : Hp} {v : V} {os : List Offer} (h : OffersIn K H v os) (e : Same H H') : OffersIn K H' v os := by
  obtain ⟨a, us, h1, h2, h3⟩ := h
  exact ⟨a, us, h1, h2.same e, h3.mono OfferAt.mono (SameT.of e)⟩
def IntsIn (K : PySem.W.Frag) (H : Hp) (v : V) (ns : List Int) : Prop := ∃ a, v = .ref a ∧ SqA K H a (ns.map V.int)
theorem IntsIn.same {K : PySem.W.Frag} {H H' : Hp} {v : V} {ns : List Int} (h : IntsIn K H v ns) (e : Same H H') : IntsIn K H' v ns := by
  obtain ⟨a, h1, h2⟩ := h
  exact ⟨a, h1, h2.same e⟩
/-- a tuple of offers -/
abbrev OffersAt : Hp → V → List Offer → Prop := TupAll OfferAt
theorem OffersAt.mono : MonoT OffersAt := TupAll.mono OfferAt.mono
theorem OffersAt.in {K : PySem.W.Frag} {H : Hp} {v : V} {os : List Offer} (h : OffersAt H v os) : OffersIn K H v os := by
  obtain ⟨a, us, h1, h2, h3⟩ := h
  exact ⟨a, us, h1, SqA.t h2, h3⟩
/-! ### plain sums over what is bought -/
def costOf (os : List Offer) (cs : List Int) : Int := ((os.zip cs).map fun p => p.1.price * p.2).sum
def heldZ (zs : List (Offer × Int)) (day : Int) : Int := (zs.map fun p => if day ≤ p.1.last then p.1.size * p.2 else 0).sum
def heldOn (os : List Offer) (cs : List Int) (day : Int) : Int := heldZ (os.zip cs) day
def servesB (os : List Offer) (cs : List Int) (ls : List Int) : Bool := (List.range 7).all fun i => decide (ls.getD i 0 ≤ heldOn os cs (1 + (i : Nat)))
theorem heldZ_snoc (zs : List (Offer × Int)) (p : Offer × Int) (day : Int) : heldZ (zs ++ [p]) day = heldZ zs day + if day ≤ p.1.last then p.1.size * p.2 else 0 := by
  unfold heldZ
  rw [List.map_append, List.sum_append]; simp
theorem heldZ_fm (zs : List (Offer × Int)) (day : Int) : (zs.filterMap fun p => if day ≤ p.1.last then some (p.1.size * p.2) else none).sum = heldZ zs day := by
  unfold heldZ
  induction zs with
  | nil => rfl
  | cons p r ih =>
    rw [List.map_cons, List.sum_cons, ← ih]
    by_cases e : day ≤ p.1.last
    · simp only [List.filterMap_cons, if_pos e, List.sum_cons]
    · simp only [List.filterMap_cons, if_neg e]; omega
theorem zip_ix {α β : Type} {xs : List α} {ys : List β} {i : Nat} {x : α} {y : β} (h1 : xs[i]? = some x) (h2 : ys[i]? = some y) : (xs.zip ys)[i]? = some (x, y) := by
  rw [List.getElem?_zip_eq_some]; exact ⟨h1, h2⟩
theorem ix_zip {α β : Type} {xs : List α} {ys : List β} {i : Nat} {p : α × β} (h : (xs.zip ys)[i]? = some p) : xs[i]? = some p.1 ∧ ys[i]? = some p.2 := by
  rwa [List.getElem?_zip_eq_some] at h
theorem zip_len {α β : Type} {xs : List α} {ys : List β} (h : xs.length = ys.length) : (xs.zip ys).length = xs.length := by
  rw [List.length_zip]; omega
def GoodLs (ls : List Int) : Prop := ls.length = 7 ∧ ∀ x ∈ ls, 0 ≤ x ∧ x ≤ 200
theorem GoodLs.set {ls : List Int} {i : Nat} {z : Int} (h : GoodLs ls) (h0 : 0 ≤ z) (h1 : z ≤ 200) : GoodLs (ls.set i z) := ⟨by rw [List.length_set]; exact h.1, fun x hx => by
  rcases List.mem_or_eq_of_mem_set hx with y | y
  · exact h.2 x y
  · subst y; exact ⟨h0, h1⟩⟩
/-! ### what the program's functions promise -/
def spPriceOf : Sp := fun vs H Q _ => ∃ (v : V) (b : Addr) (os : List Offer) (cs : List Int), vs = [v, .ref b] ∧ OffersAt H v os ∧ H b = some (.tup (cs.map V.int)) ∧ os.length = cs.length ∧ os.length ≤ 1000 ∧ (∀ o ∈ os, GoodOffer o) ∧ (∀ c ∈ cs, 0 ≤ c) ∧
  ∀ H', Same H H' → Q (.int (costOf os cs)) H'
def spServes : Sp := fun vs H Q _ => ∃ (v : V) (b c : Addr) (os : List Offer) (cs ls : List Int), vs = [v, .ref b, .ref c] ∧ OffersAt H v os ∧ H b = some (.tup (cs.map V.int)) ∧ H c = some (.tup (ls.map V.int)) ∧ os.length = cs.length ∧ os.length ≤ 1000 ∧ (∀ o ∈ os, GoodOffer o) ∧ (∀ c ∈ cs, 0 ≤ c) ∧ GoodLs ls ∧
  ∀ H', Same H H' → Q (.bl (servesB os cs ls)) H'
end Lar
namespace Lar
open PySem PySem.Spec PyProof.Rows L2
section
theorem meets_enum1B {v : Value} {o : Obj} {H : Heap → Prop} (B : Begins v o H) :
    Meets (Builtin.«enumerate.__new__» ⟨[.type "enumerate", v], []⟩) (fun _ R s => H s.heap ∧
      R (.ok (.ret (.ref (s.heap.push o).objs.size))) { s with heap := (s.heap.push o).push { cls := .type "enumerate", data := .fields #[.none, .bool false, .ref s.heap.objs.size, rawInt 0, .none, .none] } }) :=
  .of_wp fun prog w A R s h => by
    obtain ⟨hp, g, d, tk, os⟩ := s; obtain ⟨h1, h⟩ := h
    have hsub := sub_enumerate
    have q1 : ∀ {A' : Around} {E : Value → Shared → Prop} {Q : Value → Shared → Prop}, Q (.ref hp.objs.size) ⟨hp.push o, g, d, tk, os⟩ → wpAny (model prog w) A' (pyIter v) Q E ⟨hp, g, d, tk, os⟩ :=
      fun q => B.iter prog w _ _ ⟨hp, g, d, tk, os⟩ _ h1 q
    wp_walk using q1
    refine wpAny_stack_any fun st => wpAny_pure ?_
    split
    · rename_i c _ _ _ _ _
      cases (c == Value.type "enumerate")
      · wp_walk using q1
        exact ⟨_, rfl, h⟩
      · wp_walk using q1
        exact ⟨_, rfl, h⟩
    · wp_walk using q1
      exact ⟨_, rfl, h⟩
end
end Lar
namespace Lar
open PySem PySem.Spec PyProof.Rows L2
/-! ### enumerate over a tuple, from a number on -/
section
variable {prog : Program} {w : World} {A : Around} {E : Value → Shared → Prop} {s : Shared}
theorem enum_begins1 {v : Value} {o : Obj} {H : Heap → Prop} {Q : Value → Shared → Prop} (B : Begins v o H) (h1 : H s.heap)
    (h : ∀ h', IsEnum h' (s.heap.objs.size + 1) s.heap.objs.size 0 .none → h'.get? s.heap.objs.size = some o → h'.objs.size = s.heap.objs.size + 2 →
      (∀ b o, s.heap.get? b = some o → h'.get? b = some o) → Q (.ref (s.heap.objs.size + 1)) { s with heap := h' }) :
    wpAny (model prog w) A (call (.type "enumerate") [v]) Q E s := by
  refine callType_new F.called_enumerate (by decide) (F.typeCall_enumerate_1 _) (F.newCall_enumerate_1 _) (fun obj => F.args_object_init_2 obj _) F.entry_enumerate_new
    (meets_enum1B B) ⟨h1, ?_⟩
  have hz : (s.heap.push o).objs.size = s.heap.objs.size + 1 := Heap.size_push ..
  show _ ∧ _
  rw [hz]
  have he : IsEnum ((s.heap.push o).push { cls := .type "enumerate", data := .fields #[.none, .bool false, .ref s.heap.objs.size, rawInt 0, .none, .none] }) (s.heap.objs.size + 1) s.heap.objs.size 0 .none := by
    have := Heap.get?_push_size (s.heap.push o) (o := { cls := .type "enumerate", data := .fields #[.none, .bool false, .ref s.heap.objs.size, rawInt 0, .none, .none] }) rfl
    rw [hz] at this; exact this
  refine ⟨⟨_, he, rfl⟩, h _ he (Heap.get?_push_of_some _ (Heap.get?_push_size _ B.free)) (by rw [Heap.size_push, hz]) fun b o x => Heap.get?_push_of_some _ (Heap.get?_push_of_some _ x)⟩
theorem callWith_typeKw {M : Model} {E : Value → Shared → Prop} {env : Env} {pos : Pos} {T : String} {e : Expr} {rest : List Expr} {kws : List Keyword} {Q : Value → Shared → Prop}
    (h : wpAny M A (spliced (backTo pos (starEach (e :: rest) env))) (fun vs s₁ => wpAny M A (evalAll ((backToKw pos (keywordEach kws env)).map (·.2)))
      (fun kvs s₂ => wpAny M A (call (.type T) vs (((backToKw pos (keywordEach kws env)).filterMap (·.1)).zip kvs)) Q E s₂) E s₁) E s)
    (he : backTo pos (starEach (e :: rest) env) = (false, eval e env) :: backTo pos (starEach rest env) := by rfl)
    (hplain : (backTo pos (starEach (e :: rest) env)).any (·.1) = false := by rfl)
    (hall : (backToKw pos (keywordEach kws env)).all (·.1.isSome) = true := by rfl)
    (hkw : (backToKw pos (keywordEach kws env)).any (·.1.isNone) = false := by rfl) :
    wpAny M A (callWith pos (.type T) [] (backTo pos (starEach (e :: rest) env)) (backToKw pos (keywordEach kws env))) Q E s := by
  have h2 : wpAny M A (evalArgs (.type T) true (backTo pos (starEach (e :: rest) env)) (backToKw pos (keywordEach kws env))) (fun a s₁ => wpAny M A (call (.type T) ([] ++ a.pos) a.kw) Q E s₁) E s := by
    rw [he] at h ⊢
    exact evalArgs_kwB hall h
  unfold callWith
  refine wpAny_bind (wpAny_holding (wpAny_mono h2 (fun a s₁ h₁ => wpAny_bind (wpAny_standAt ?_)) fun _ _ x => x))
  simp only [hplain, hkw, Bool.or_false]
  refine wpAny_bind (wpAny_pure ?_)
  exact wpAny_bind (wpAny_mono h₁ (fun r s₂ hr => wpAny_bind (wpAny_holding (wpAny_point (wpAny_pure hr)))) fun _ _ x => x)
end
/-- the tuple at a, each item in a new pair behind its number, from lo on -/
def IteT (K : PySem.W.Frag) (lo : Int) (a : Addr) : It :=
  ⟨fun i H => ∃ (xs : List V) (x : V), SqT K H a xs ∧ xs[i]? = some x, fun i H v H' => ∃ T x, v = .ref T ∧ H T = none ∧ H' = upd H T (.tup [.int (lo + (i : Nat)), x]) ∧ ∀ xs, SqT K H a xs → xs[i]? = some x, fun i H => ∃ xs : List V, SqT K H a xs ∧ xs.length = i⟩
theorem tup_ne {h : Heap} {a e : Addr} {its : Array Value} {o : Obj} (p : h.IsTuple a its) (he : h.get? e = some o) (hc : o.cls ≠ .type "tuple") : e ≠ a := by
  rintro rfl
  obtain ⟨o', ho, c, _⟩ := p
  rw [he] at ho
  cases ho
  exact hc c
theorem turn_enumT {P : Program} {w : World} {K : PySem.W.Frag} {elts : List Expr} {kk : Nat} {tpos : Pos} (lo : Int) (a e it : Addr) :
    Turn P w K (.Tuple elts kk tpos) (IteT K lo a) [e, it] e (fun i h => (∃ old, IsEnum h e it (lo + (i : Nat)) old) ∧ h.IsTupleIter it a i ∧ e ≠ it) where
  mem := by simp
  obj := fun i h st b hb => by
    obtain ⟨⟨old, he⟩, ⟨o, ho, hc, hd⟩, _⟩ := st
    have e' : b = e ∨ b = it := by simpa using hb
    rcases e' with z | z
    · rw [z]; exact ⟨_, he, fun v q => nomatch q⟩
    · rw [z]; exact ⟨o, ho, fun v q => by rw [hd] at q; cases q⟩
  keep := fun i h h' st k => let ⟨⟨old, he⟩, hi, hne⟩ := st; ⟨⟨old, k e (by simp) _ he⟩, hi.at fun o q => k it (by simp) o q, hne⟩
  item := by
    intro X hP hw hK hc i pins s σ H E I hf st hg
    subst hP hw hK
    obtain ⟨⟨old, he⟩, hit, hne⟩ := st
    obtain ⟨xs, x, hq, hx⟩ := hg
    obtain ⟨its, rv, p, hz⟩ := I.tuple hq
    have pT : s.heap.IsTuple a its.toArray := p
    obtain ⟨u, hu, ru⟩ := rv.get hx
    have hel : e < s.heap.objs.size := Heap.lt_size he
    have hil : it < s.heap.objs.size := by obtain ⟨_, q, _⟩ := hit; exact Heap.lt_size q
    have hea : e ≠ a := tup_ne pT he (fun z => absurd z (by simp))
    have hia : it ≠ a := by
      obtain ⟨o, ho, hcl, _⟩ := id hit
      exact tup_ne pT ho (fun z => by rw [hcl] at z; simp at z)
    have hin : i < its.toArray.size := by
      have := (List.getElem?_eq_some_iff.mp hu).1
      simpa using this
    refine wpAny_pyNext_enum_itemC (Draws.tuple (A := X.A.in1) (show X.A.in1.handled = none from I.ok.hd hc) it a (Ne.symm hia) its.toArray) he ⟨hit, pT⟩ hin hne (by simp [hne, hea]) fun y h' tk hy ho hst hT hsz hk => ?_
    have ey : y = u := by
      have h1 : its.toArray[i]? = some u := by simpa using hu
      rw [h1] at hy
      exact (Option.some.inj hy).symm
    subst ey
    refine ⟨_, rfl, wpAny_letOwnedTupleGo_enum (s := { s with heap := h', toks := tk + 1 }) ho fun h'' he' sb => ?_⟩
    have hT2 : h''.get? s.heap.objs.size = some { cls := .type "tuple", data := .seq #[.int (lo + (i : Nat)) tk, y] } := (sb.2 _ (Nat.ne_of_gt hel)).trans hT
    have new : ObjOk X.prog X.w (upd H s.heap.objs.size (.tup [.int (lo + (i : Nat)), x])) h'' s.heap.objs.size (.tup [.int (lo + (i : Nat)), x]) :=
      ⟨by show 2 ≤ sizeLine; decide, [.int (lo + (i : Nat)) tk, y], .cons ⟨_, rfl⟩ (.cons ru .nil), ⟨_, hT2, rfl, _, rfl⟩⟩
    have I1 : Inv X pins σ (upd H s.heap.objs.size (.tup [.int (lo + (i : Nat)), x])) { s with heap := h'', toks := tk + 1 } :=
      I.turnedNew (ch := [e, it]) (fun b ob hb q => (sb.2 b (fun z => hb (by simp [z]))).trans (hk b ob (fun z => hb (by simp [z])) (fun z => hb (by simp [z])) q)) hf (Nat.le_refl _) new
    refine ⟨.ref s.heap.objs.size, _, I1, rfl, ⟨_, x, rfl, I.hok.fresh (Nat.le_refl _), rfl, fun ys hy => by rw [I.tuple_inj hy hq]; exact hx⟩, ⟨⟨y, ?_⟩, hst.1.at fun o q => (sb.2 it (Ne.symm hne)).trans q, hne⟩, fun b hb => ?_⟩
    · have e1 : lo + ((i + 1 : Nat) : Int) = lo + (i : Int) + 1 := by omega
      rw [e1]; exact he'
    · have hb' : b < s.heap.objs.size := by
        have e' : b = e ∨ b = it := by simpa using hb
        rcases e' with z | z
        · rw [z]; exact hel
        · rw [z]; exact hil
      rw [upd_ne (Nat.ne_of_lt hb')]
      exact (hf b hb).1
  done := by
    intro X hP hw hK hc i pins s σ H E I hf st hg
    subst hP hw hK
    obtain ⟨⟨old, he⟩, hit, hne⟩ := st
    obtain ⟨xs, hq, hx⟩ := hg
    obtain ⟨its, rv, p, hz⟩ := I.tuple hq
    have pT : s.heap.IsTuple a its.toArray := p
    obtain ⟨f0, f1, f2, f3, f4, f5⟩ := hf it (by simp)
    have hl := rv.length
    have hia : it ≠ a := by
      obtain ⟨o, ho, hcl, _⟩ := id hit
      exact tup_ne pT ho (fun z => by rw [hcl] at z; simp at z)
    have en : i = its.toArray.size := by simp; omega
    refine wpAny_pyNext_enum_endD (Draws.tuple (A := X.A.in1) (show X.A.in1.handled = none from I.ok.hd hc) it a (Ne.symm hia) its.toArray) he (by rw [← en]; exact ⟨hit, pT⟩) fun h' eb => ⟨rfl, I.turned (t' := s.toks) (fun b o hb q => eb b o hb q) f0 f1 f3 f4 f5⟩
  self := fun A i s Q E st h => let ⟨⟨_, he⟩, _⟩ := st; wpAny_pyIter_enum he h
def iEnumT (K : PySem.W.Frag) (ta : TA) : TI := fun σ H R => ta σ H fun vs H1 => ∃ a xs, vs = [.ref a] ∧ SqT K H1 a xs ∧ R (IteT K 0 a) H1
theorem kpi_enumT {X : Cx} (K : PySem.W.Frag) {e : Expr} {ta : TA} {p pos tpos : Pos} {elts : List Expr} {kk : Nat} (hg : Gl X "enumerate") (hm : X.mg "enumerate" = none) (ha : PA X [e] ta) (hK : X.K = K := by rfl) (hs : starEach [e] X.env = [(false, eval e X.env)] := by rfl) :
    PI X (.Tuple elts kk tpos) (.Call (.Name "enumerate" p) [e] [] pos) (iEnumT K ta) := by
  subst hK
  refine ⟨fun pins s σ H R I h => ?_⟩
  refine Call_ (ld_blt I hg hm boot_enumerate (PyProof.Rows.callWith_type1 (thn (ha.run pos pins s σ H _ I h) fun us s1 ⟨vs, H1, I1, r1, q1⟩ => ?_) hs rfl))
  obtain ⟨a, xs, ex, hq, q⟩ := q1
  subst ex
  cases r1 with
  | cons r rr =>
    cases rr
    cases r
    obtain ⟨its, rv, p', hz⟩ := I1.tuple hq
    have pT : s1.heap.IsTuple a its.toArray := p'
    refine enum_begins1 (begins_tuple a its.toArray) pT fun h' he hit hsz hk => wpAny_pyIter_enum he ?_
    have I2 : Inv X pins σ H1 { s1 with heap := h' } := I1.kept (t' := s1.toks) hk
    refine ⟨s1.heap.objs.size + 1, [s1.heap.objs.size + 1, s1.heap.objs.size], _, _, H1, rfl, I2, turn_enumT 0 a (s1.heap.objs.size + 1) s1.heap.objs.size, ⟨⟨.none, he⟩, ⟨_, hit, rfl, rfl⟩, Nat.succ_ne_self _⟩, fun b hb => ?_, q⟩
    have e' : b = s1.heap.objs.size + 1 ∨ b = s1.heap.objs.size := by simpa using hb
    have hle : s1.heap.objs.size ≤ b := by
      rcases e' with z | z
      · rw [z]; exact Nat.le_add_right _ _
      · rw [z]; exact Nat.le_refl _
    exact I1.fpOk hle (I1.hok.fresh hle)
/-- enumerate(e, start=n) -/
def iEnumS (K : PySem.W.Frag) (n : Int) (ta : TA) : TI := fun σ H R => ta σ H fun vs H1 => ∃ a xs, vs = [.ref a] ∧ SqT K H1 a xs ∧ R (IteT K n a) H1
theorem kpi_enumS {X : Cx} (K : PySem.W.Frag) {e : Expr} {ta : TA} {p pos tpos kpos npos : Pos} {knd : Nat} {elts : List Expr} {kk : Nat} {n : Int} (hg : Gl X "enumerate") (hm : X.mg "enumerate" = none) (ha : PA X [e] ta) (h0 : -(2 ^ 63) ≤ n) (h1 : n < 2 ^ 63) (hK : X.K = K := by rfl)
    (he : backTo pos (starEach [e] X.env) = (false, eval e X.env) :: backTo pos (starEach [] X.env) := by rfl) (hpl : (backTo pos (starEach [e] X.env)).any (·.1) = false := by rfl) :
    PI X (.Tuple elts kk tpos) (.Call (.Name "enumerate" p) [e] [⟨some "start", .Constant (.int n) knd npos, kpos⟩] pos) (iEnumS K n ta) := by
  subst hK
  refine ⟨fun pins s σ H R I h => ?_⟩
  refine wpAny_Call_Name_kw (ld_blt I hg hm boot_enumerate (callWith_typeKw (T := "enumerate") (thn (ha.run pos pins s σ H _ I h) fun us s1 ⟨vs, H1, I1, r1, q1⟩ => ?_) he hpl))
  obtain ⟨a, xs, ex, hq, q⟩ := q1
  subst ex
  cases r1 with
  | cons r rr =>
    cases rr
    cases r
    obtain ⟨its, rv, p', hz⟩ := I1.tuple hq
    have pT : s1.heap.IsTuple a its.toArray := p'
    refine kws_cons (wpAny_Constant_int (kws_nil ?_))
    refine enum_begins_start (s := { s1 with toks := _ }) (begins_tuple a its.toArray) pT h0 h1 fun h' he hit hsz hk => wpAny_pyIter_enum he ?_
    have I2 : Inv X pins σ H1 { s1 with heap := h', toks := _ } := I1.kept (t' := s1.toks + 1) hk
    refine ⟨s1.heap.objs.size + 1, [s1.heap.objs.size + 1, s1.heap.objs.size], _, _, H1, rfl, I2, turn_enumT n a (s1.heap.objs.size + 1) s1.heap.objs.size, ⟨⟨.none, ?_⟩, ⟨_, hit, rfl, rfl⟩, Nat.succ_ne_self _⟩, fun b hb => ?_, q⟩
    · have e1 : n + ((0 : Nat) : Int) = n := by simp
      rw [e1]; exact he
    have e' : b = s1.heap.objs.size + 1 ∨ b = s1.heap.objs.size := by simpa using hb
    have hle : s1.heap.objs.size ≤ b := by
      rcases e' with z | z
      · rw [z]; exact Nat.le_add_right _ _
      · rw [z]; exact Nat.le_refl _
    exact I1.fpOk hle (I1.hok.fresh hle)
/-- its walk -/
theorem walk_enumT {K : PySem.W.Frag} {lo : Int} {a : Addr} {xs : List V} : Walk (IteT K lo a) xs.length (fun H => SqT K H a xs) (YPair (fun i => some (.int (lo + (i : Nat)))) (fun i => xs[i]?)) := by
  refine ⟨fun i _ hi q => ⟨xs, xs[i], q, by simp [hi]⟩, fun _ q => ⟨xs, q, rfl⟩, fun i H v H' _ q y => ?_⟩
  obtain ⟨T, x, h1, h2, h3, h4⟩ := y
  exact ⟨T, .int (lo + (i : Nat)), x, h1, h2, h3, rfl, h4 xs q⟩
end Lar
/-! a set of texts that a comprehension fills, and its sorted members -/
namespace Lar
open PySem PySem.Spec PyProof.Rows L2
def txt (e : Int × Value) : Str := match e.2 with | .str x _ => x | _ => ""
def EntS (w : World) (e : Int × Value) : Prop := ∃ x u, e = (hashStr w x, Value.str x u)
/-- the set at a holds the texts ks, and can be walked -/
def SetS (w : World) (h : Heap) (a : Addr) (ks : List Str) : Prop := ∃ o es ep t, h.get? a = some o ∧ o.ExactSet ∧ o.data = .set es ep t ∧ (∀ e ∈ es.toList, EntS w e) ∧ (es.toList.map txt).Perm ks ∧ ks.Nodup ∧
  (es.size < scanBound ∧ t.fits es.size = true) ∧ Ris t.place.toList ∧ (w.params.followText "set-order" = true ∨ t.led = true)
def insS (ks : List Str) (k : Str) : List Str := if k ∈ ks then ks else ks ++ [k]
section
variable {P : Program} {w : World} {A : Around} {E : Value → Shared → Prop} {s : Shared} {a : Addr} {ks : List Str}
theorem SetS.stay {h h' : Heap} (R : SetS w h a ks) (k : ∀ o, h.get? a = some o → h'.get? a = some o) : SetS w h' a ks := by
  obtain ⟨o, es, ep, t, ho, r⟩ := R
  exact ⟨o, es, ep, t, k o ho, r⟩
theorem ents_elems {l : List (Int × Value)} (g : ∀ e ∈ l, EntS w e) : ElemsOf (strKind P w) l := fun e he => by
  obtain ⟨x, u, rfl⟩ := g e he
  exact ⟨⟨x, show (x == x) = true from beq_self_eq_true x, rfl⟩, rfl⟩
theorem ent_is {e : Int × Value} (g : EntS w e) (k : Str) : (strKind P w).is k e.2 = true ↔ txt e = k := by
  obtain ⟨x, u, rfl⟩ := g
  exact show (x == k) = true ↔ x = k from beq_iff_eq
theorem SetS.of {h : Heap} (R : SetS w h a ks) : h.SetOf (strKind P w) a (fun k => decide (k ∈ ks)) ks.length := by
  obtain ⟨o, es, ep, t, ho, hx, hd, g, pm, nd, ⟨hb, hf⟩, _⟩ := R
  refine ⟨o, es, ep, t, ho, hx, hd, ents_elems g, fun k => ?_, hb, hf, by rw [← pm.length_eq, List.length_map, Array.length_toList]⟩
  rw [decide_eq_true_eq, ← pm.mem_iff, List.mem_map]
  exact ⟨fun ⟨e, he, q⟩ => ⟨e, he, (ent_is (g e he) k).2 q⟩, fun ⟨e, he, q⟩ => ⟨e, he, (ent_is (g e he) k).1 q⟩⟩
/-- the tail of an add: the entries stored, the table laid anew where it is too full -/
theorem setS_tail {ks' : List Str} {og : Bool → Sem Unit} (hog : ∀ (b : Bool) (s₁ : Shared) (Q' : Unit → Shared → Prop), Q' () s₁ → wpAny (model P w) A (og b) Q' E s₁) {o : Obj} {es : Array (Int × Value)} {ep : Nat} {t : SetTable} (at0 : s.heap.get? a = some o) (ex0 : o.ExactSet) (da0 : o.data = .set es ep t)
    {ys : Array (Int × Value)} {tb : SetTable} (g : ∀ e ∈ ys.toList, EntS w e) (pm : (ys.toList.map txt).Perm ks') (nd : ks'.Nodup) (hb : ys.size < scanBound) (hf : tb.fits ys.size = true) (hr : Ris tb.place.toList) (hl : w.params.followText "set-order" = true ∨ tb.led = true) {wd : Bool} {R : Option Bool → Shared → Prop}
    (fin : ∀ h', Heap.SameBut a s.heap h' → SetS w h' a ks' → R (some true) { s with heap := h' }) :
    wpAny (model P w) A (do
      storeSet a ys tb
      if (!wd && tb.tooFull) = true then do
        og (relayAll tb ys (SetTable.grown ys.size)).2.2
        storeSet a (relayAll tb ys (SetTable.grown ys.size)).1 (relayAll tb ys (SetTable.grown ys.size)).2.1
        pure (some true)
      else pure (some true)) R E s := by
  have ls := store_at (es' := ys) (t' := tb) at0 da0
  have b1 := Heap.SameBut.update s.heap a (Obj.putSet ys tb)
  refine wpAny_bind (wpAny_storeSet_of at0 da0 ?_ (fits_of_scanBound hb))
  by_cases full : (!wd && tb.tooFull) = true
  · rw [if_pos full]
    have q1 := relayAll_perm tb ys (SetTable.grown ys.size); have q2 := relayAll_fits tb ys (SetTable.grown ys.size)
    have q3 := relayAll_ris tb ys (SetTable.grown ys.size); have q4 := relayAll_led tb ys (SetTable.grown ys.size)
    revert q1 q2 q3 q4
    generalize relayAll tb ys (SetTable.grown ys.size) = rl
    rcases rl with ⟨zs, tc, gv⟩
    intro q1 q2 q3 q4
    have q1 : zs.toList.Perm ys.toList := q1
    have zsz : zs.size < scanBound := by rw [← Array.length_toList, q1.length_eq, Array.length_toList]; exact hb
    refine wpAny_bind (hog _ _ _ (wpAny_bind (wpAny_storeSet_of ls rfl ?_ (fits_of_scanBound zsz))))
    refine wpAny_pure (fin _ (b1.trans (Heap.SameBut.update _ a _)) ⟨_, zs, _, tc, store_at ls rfl, ex0, rfl, fun e he => g e (q1.mem_iff.1 he), (q1.map txt).trans pm, nd, ⟨zsz, q2⟩, q3, ?_⟩)
    rcases hl with z | z
    · exact .inl z
    · exact .inr ((show tc.led = tb.led from q4).trans z)
  · rw [if_neg full]
    exact wpAny_pure (fin _ b1 ⟨_, ys, _, tb, ls, ex0, rfl, g, pm, nd, ⟨hb, hf⟩, hr, hl⟩)
theorem setS_hashed {k : Str} {u : Tok} {Q : Bool → Shared → Prop} (R : SetS w s.heap a ks) (room : ks.length + 1 < scanBound) (fin : ∀ (b : Bool) h', Heap.SameBut a s.heap h' → SetS w h' a (insS ks k) → Q b { s with heap := h' }) :
    wpAny (model P w) A (setAddHashed a (.str k u) ((strKind P w).hash k)) Q E s := by
  have R0 := R
  obtain ⟨o, es, ep, t, at0, ex0, da0, g, pm, nd, ⟨hb, hf⟩, hr, hl⟩ := R
  have el : ElemsOf (strKind P w) es.toList := ents_elems g
  have self : (strKind P w).is k (.str k u) = true := show (k == k) = true from beq_self_eq_true k
  (unfold setAddHashed setAddHashedIn; refine wpAny_holding (wpAny_bind (wpAny_setState_of at0 da0 hf ?_)); dsimp only)
  rw [byScan_of (show (Value.str k u).scannable = true from rfl) hb el, if_pos rfl]
  (unfold setAddByScan; refine wpAny_bind (wpAny_bind (wpAny_rule (wpAny_bind (wpAny_setScan_of self at0 da0 hf el ?_)))))
  cases hfi : List.findIdx? (fun e => (strKind P w).is k e.2) es.toList with
  | none =>
    -- not there
    have hnk : k ∉ ks := fun hk => by
      obtain ⟨e, he, q⟩ := List.mem_map.1 (pm.mem_iff.2 hk)
      have z := List.findIdx?_eq_none_iff.1 hfi e he
      rw [(ent_is (P := P) (g e he) k).2 q] at z
      cases z
    have p1 := layNew_perm t es ((strKind P w).hash k) (.str k u); have p2 := layNew_fits t es ((strKind P w).hash k) (.str k u)
    have p3 := layNew_ris t es ((strKind P w).hash k) (.str k u) hr; have p4 := layNew_led t es ((strKind P w).hash k) (.str k u)
    dsimp only
    revert p1 p2 p3 p4
    generalize layNew t es ((strKind P w).hash k) (.str k u) = ln
    rcases ln with ⟨ys, tb, wd, gv⟩
    intro p1 p2 p3 p4
    have p1 : ys.toList.Perm (es.toList ++ [((strKind P w).hash k, Value.str k u)]) := by rw [← Array.toList_push]; exact p1
    have gy : ∀ e ∈ ys.toList, EntS w e := fun e he => by
      rcases List.mem_append.1 (p1.mem_iff.1 he) with z | z
      · exact g e z
      · exact ⟨k, u, List.mem_singleton.1 z⟩
    have py : (ys.toList.map txt).Perm (ks ++ [k]) := by
      have z := p1.map txt
      rw [List.map_append] at z
      exact z.trans (pm.append_right _)
    have ndy : (ks ++ [k]).Nodup := nd_snoc nd hnk
    have szy : ys.size < scanBound := by
      have z := py.length_eq
      rw [List.length_map, Array.length_toList, List.length_append] at z
      rw [z]; exact room
    have ly : w.params.followText "set-order" = true ∨ tb.led = true := by
      rcases hl with z | z
      · exact .inl z
      · exact .inr ((show tb.led = t.led from p4).trans z)
    have fin' : ∀ h', Heap.SameBut a s.heap h' → SetS w h' a (ks ++ [k]) → Q true { s with heap := h' } := fun h' sb r => fin true h' sb (by unfold insS; rw [if_neg hnk]; exact r)
    have og : ∀ (b : Bool) (s₁ : Shared) (Q' : Unit → Shared → Prop), Q' () s₁ → wpAny (model P w) A (match b with | true => rule "set.scan.the-table-gave-way" | false => pure ()) Q' E s₁ := fun b s₁ Q' q => by
      cases b
      · exact wpAny_pure q
      · exact wpAny_rule q
    refine wpAny_bind (og _ _ _ ?_)
    by_cases pl : tb.plain = true
    · rw [if_pos pl]
      refine wpAny_bind ?_
      rw [hashByValue_scannable 8 (show (Value.str k u).scannable = true from rfl)]
      refine wpAny_pure (setS_tail (ks' := ks ++ [k]) og at0 ex0 da0 gy py ndy szy ?_ ?_ ?_ fun h' sb r => ?_)
      · first | exact p2 | (split <;> first | exact p2 | exact SetTable.fits_plain_off p2)
      · first | exact p3 | (split <;> exact p3)
      · first | exact ly | (split <;> exact ly)
      · exact wpAny_pure (fin' h' sb r)
    · rw [if_neg pl]
      refine wpAny_bind (wpAny_pure ?_)
      refine setS_tail (ks' := ks ++ [k]) og at0 ex0 da0 gy py ndy szy ?_ ?_ ?_ fun h' sb r => ?_
      · exact p2
      · exact p3
      · exact ly
      · exact wpAny_pure (fin' h' sb r)
  | some j =>
    -- there
    dsimp only
    obtain ⟨hj, pj, _⟩ := List.findIdx?_eq_some_iff_getElem.1 hfi
    have hk : k ∈ ks := pm.mem_iff.1 (List.mem_map.2 ⟨_, List.getElem_mem hj, (ent_is (P := P) (g _ (List.getElem_mem hj)) k).1 pj⟩)
    refine wpAny_pure (wpAny_pure (fin false s.heap (Heap.SameBut.refl a s.heap) ?_))
    unfold insS
    rw [if_pos hk]
    exact R0
theorem setS_add {k : Str} {u : Tok} {Q : Value → Shared → Prop} (R : SetS w s.heap a ks) (room : ks.length + 1 < scanBound) (fin : ∀ h', Heap.SameBut a s.heap h' → SetS w h' a (insS ks k) → Q .none { s with heap := h', toks := s.toks + 1 }) :
    wpAny (model P w) A (call (.builtin "set.add") [.ref a, .str k u]) Q E s := by
  refine wpAny_call_entry F.slot_set_add (SetS.of (P := P) R).typeIs F.entry_set_add ?_ (F.args_set_add_2 _ _)
  (unfold Builtin.«set.add» Builtin.Frozenset.oneOther; simp only [List.isEmpty_nil, bind_assoc]; unfold Builtin.Frozenset.addrOf setAdd)
  refine wpAny_bind (wpAny_pure ?_); try dsimp only
  refine wpAny_bind (wpAny_pure ?_); try dsimp only
  refine wpAny_bind (wpAny_holding (wpAny_bind ((strKind P w).pyHash (k := k) (beq_self_eq_true k) (setS_hashed (s := { s with toks := s.toks + 1 }) R room fun b h' sb r => ?_))))
  exact wpAny_pure ⟨_, rfl, fin h' sb r⟩
theorem setS_new {h : Heap} (w : World) : SetS w (h.push { cls := .type "set", dict := none, data := .set #[] 0 (.fresh 0 0 (!w.params.followText "set-order")) }) h.objs.size [] :=
  ⟨_, #[], 0, _, Heap.get?_push_size _ rfl, ⟨rfl, rfl, rfl⟩, rfl, fun e he => (nomatch he), List.Perm.nil, List.nodup_nil, ⟨by decide, rfl⟩, List.Pairwise.nil, by
    show _ ∨ (!w.params.followText "set-order") = true
    cases w.params.followText "set-order"
    · exact .inr rfl
    · exact .inl rfl⟩
end
end Lar
namespace Lar
open PySem PySem.Spec PyProof.Rows L2
/-! ### {elt for t0 in i0 for t1 in i1} -/
abbrev cSet (elt t0 i0 t1 i1 : Expr) (scope : Scope) (pos : Pos) : Expr := .SetComp elt [⟨t0, i0, [], 0⟩, ⟨t1, i1, [], 0⟩] scope pos
theorem turn_first (elt t0 i0 t1 i1 : Expr) (scope : Scope) (pos : Pos) (it acc : Value) (env : Env) : compTurn (cSet elt t0 i0 t1 i1 scope pos) 0 it acc env = (do
    standAt i0.pos
    let r ← pyNext it
    match r with
    | none => pure (.done .next)
    | some v => do
      letOwnedTupleGo t0 it v
      assign t0 env v
      let x ← eval i1 env
      standAt i1.pos
      let x ← foldedSetIterable i1 env x
      let z ← holding [x] (pyIter x)
      let _ ← runOwn (.compStart (cSet elt t0 i0 t1 i1 scope pos) 1 z acc env) env
      again (.compLoop (cSet elt t0 i0 t1 i1 scope pos) 0 it acc env)) := by rfl
theorem turn_second (elt t0 i0 t1 i1 : Expr) (scope : Scope) (pos : Pos) (it acc : Value) (env : Env) : compTurn (cSet elt t0 i0 t1 i1 scope pos) 1 it acc env = (do
    standAt i1.pos
    let r ← pyNext it
    match r with
    | none => pure (.done .next)
    | some v => do
      letOwnedTupleGo t1 it v
      assign t1 env v
      (do let x ← eval elt env
          standAt elt.pos
          let _ ← call (.builtin "set.add") [acc, x]
          pure ())
      again (.compLoop (cSet elt t0 i0 t1 i1 scope pos) 1 it acc env)) := by rfl
section
variable {prog : Program} {w : World} {A : Around} {R : Result → Shared → Prop} {s : Shared} {elt t0 i0 t1 i1 : Expr} {scope : Scope} {pos : Pos} {it acc : Value} {env : Env}
/-- the loop of the first clause, by what stands at its head -/
theorem first_loop (hf : ∀ x, foldedSetIterable i1 env x = pure x) (Hd : Nat → Shared → Prop) (turn : ∀ n s, Hd n s → wpAny (model prog w) A (pyNext it) (fun r s1 => match r with
    | none => R (.ok .next) s1
    | some v => wpAny (model prog w) A (letOwnedTupleGo t0 it v) (fun _ s2 => wpAny (model prog w) A (assign t0 env v) (fun _ s3 => wpAny (model prog w) A (eval i1 env) (fun x s4 => wpAny (model prog w) A (pyIter x) (fun z s5 =>
        codeAny (model prog w) A (.compStart (cSet elt t0 i0 t1 i1 scope pos) 1 z acc env) (fun r s' => match r with | .ok _ => ∃ m, m < n ∧ Hd m s' | .error _ => False) s5) (fun _ _ => False) s4) (fun _ _ => False) s3) (fun _ _ => False) s2) (fun _ _ => False) s1) (fun _ _ => False) s)
    (n : Nat) (h : Hd n s) : codeAny (model prog w) A (.compLoop (cSet elt t0 i0 t1 i1 scope pos) 0 it acc env) R s := by
  refine codeAny_loop rfl Hd (fun n s hd => ?_) n h
  show wpAny _ A ((compTurn (cSet elt t0 i0 t1 i1 scope pos) 0 it acc env).onRaise (fun x => do noteFrame x env; theTreesLotGoes x)) _ _ s
  refine wpAny_noted ?_
  rw [turn_first]
  refine wpAny_bind (wpAny_standAt (wpAny_bind (thnF (turn n s hd) fun r s1 h1 => ?_)))
  rcases r with _ | v
  · exact wpAny_pure h1
  refine wpAny_bind (thnF h1 fun _ s2 h2 => wpAny_bind (thnF h2 fun _ s3 h3 => wpAny_bind (thnF h3 fun x s4 h4 => ?_)))
  refine wpAny_bind (wpAny_standAt (wpAny_bind (wpAny_of_eq (hf x) (wpAny_bind (wpAny_holding (thnF h4 fun z s5 h5 => ?_))))))
  refine wpAny_bind (wpAny_runOwn ?_)
  rw [Around.mark_none]
  refine codeAny_mono h5 fun r s' hr => ?_
  rcases r with f | e
  · first
      | exact wpAny_pure ⟨rfl, hr⟩
      | exact hr.elim
  · first
      | exact wpAny_pure ⟨rfl, hr⟩
      | exact hr.elim
/-- the loop of the second one -/
theorem second_loop (Hd : Nat → Shared → Prop) (turn : ∀ n s, Hd n s → wpAny (model prog w) A (pyNext it) (fun r s1 => match r with
    | none => R (.ok .next) s1
    | some v => wpAny (model prog w) A (letOwnedTupleGo t1 it v) (fun _ s2 => wpAny (model prog w) A (assign t1 env v) (fun _ s3 => wpAny (model prog w) A (eval elt env) (fun x s4 =>
        wpAny (model prog w) A (call (.builtin "set.add") [acc, x]) (fun _ s5 => ∃ m, m < n ∧ Hd m s5) (fun _ _ => False) s4) (fun _ _ => False) s3) (fun _ _ => False) s2) (fun _ _ => False) s1) (fun _ _ => False) s)
    (n : Nat) (h : Hd n s) : codeAny (model prog w) A (.compLoop (cSet elt t0 i0 t1 i1 scope pos) 1 it acc env) R s := by
  refine codeAny_loop rfl Hd (fun n s hd => ?_) n h
  show wpAny _ A ((compTurn (cSet elt t0 i0 t1 i1 scope pos) 1 it acc env).onRaise (fun x => do noteFrame x env; theTreesLotGoes x)) _ _ s
  refine wpAny_noted ?_
  rw [turn_second]
  refine wpAny_bind (wpAny_standAt (wpAny_bind (thnF (turn n s hd) fun r s1 h1 => ?_)))
  rcases r with _ | v
  · exact wpAny_pure h1
  refine wpAny_bind (thnF h1 fun _ s2 h2 => wpAny_bind (thnF h2 fun _ s3 h3 => wpAny_bind (wpAny_bind (thnF h3 fun x s4 h4 => ?_))))
  exact wpAny_bind (wpAny_standAt (wpAny_bind (thnF h4 fun _ s5 h5 => wpAny_pure (wpAny_pure ⟨rfl, h5⟩))))
/-- how a clause's loop starts: with its iterator, or with the iterator's own iter -/
theorem clause_start {k : Nat} (hk : k = 0 ∨ k = 1) (h0 : codeAny (model prog w) A (.compLoop (cSet elt t0 i0 t1 i1 scope pos) k it acc env) R s)
    (h : wpAny (model prog w) A (pyIter it) (fun it' s' => codeAny (model prog w) A (.compLoop (cSet elt t0 i0 t1 i1 scope pos) k it' acc env) R s') (notedBy (model prog w) A env fun x s' => R (.error x) s') s) :
    codeAny (model prog w) A (.compStart (cSet elt t0 i0 t1 i1 scope pos) k it acc env) R s := by
  refine codeAny_of_tree ?_
  show wpAny _ _ ((compStart (cSet elt t0 i0 t1 i1 scope pos) k it acc env).onRaise (fun x => do noteFrame x env; standAt theWindowsPlace)) _ _ s
  refine wpAny_notedAt ?_
  rcases hk with rfl | rfl <;>
  · unfold compStart
    show wpAny _ _ (ask >>= _) _ _ s
    refine wpAny_bind (wpAny_askSetting (wpAny_ite ?_))
    split
    · first
        | exact wpAny_pure (And.intro rfl h0)
        | exact wpAny_bind (wpAny_pure (wpAny_pure (And.intro rfl h0)))
    · refine wpAny_bind (wpAny_rule ?_)
      first
        | exact wpAny_bind (wpAny_standAt (wpAny_bind (wpAny_mono h (fun it' s' h' => wpAny_pure (And.intro rfl h')) fun _ _ x => x)))
        | (show wpAny _ _ (standAt _ >>= _) _ _ s; exact wpAny_bind (wpAny_standAt (wpAny_bind (wpAny_mono h (fun it' s' h' => wpAny_pure (And.intro rfl h')) fun _ _ x => x))))
end
/-! ### as an expression -/
def SetSO (w : World) (a : Addr) (ks : List Str) : HO := .ext fun h => SetS w h a ks
theorem setSO_ok {w : World} {P : Program} {H : Hp} {h : Heap} {a : Addr} {ks : List Str} (R : SetS w h a ks) : ObjOk P w H h a (SetSO w a ks) := by
  have ⟨o, _, _, _, ho, _⟩ := R
  exact ⟨R, ⟨o, ho⟩, fun h1 h2 p k => p.stay k⟩
section
variable {X : Cx}
theorem setSO_at {pins : List (Addr × Obj)} {σ : L2.St} {H : Hp} {s : Shared} {a : Addr} {ks : List Str} (I : Inv X pins σ H s) (ha : H a = some (SetSO X.w a ks)) : SetS X.w s.heap a ks := (I.hok a _ ha).1
theorem setSO_add {pins : List (Addr × Obj)} {σ : L2.St} {H : Hp} {s : Shared} {E : Value → Shared → Prop} {D : Addr} {ks : List Str} {z : Str} {u : Value} {Q : Value → Shared → Prop} (I : Inv X pins σ H s) (rz : RelV (.str z) u) (hD : H D = some (SetSO X.w D ks)) (room : ks.length + 1 < scanBound)
    (h : ∀ s', Inv X pins σ (upd H D (SetSO X.w D (insS ks z))) s' → Q .none s') : wpAny (model X.prog X.w) X.A (call (.builtin "set.add") [.ref D, u]) Q E s := by
  obtain ⟨tk, rfl⟩ := rz
  refine setS_add (setSO_at I hD) room fun h' sb new => h _ ?_
  have ⟨o, _, _, _, ho, _⟩ := new
  exact I.write (e := D) (t' := s.toks + 1) (by rw [hD]; trivial) (.inl rfl) (fun b u hb hu => (sb.2 b hb).trans hu) ⟨o, ho⟩ (setSO_ok new)
/-- {elt for t0 in i0 for t1 in i1}, elt a text: D the new set, ks its members in the order in which they came -/
def tScS (w : World) (wi : TI) (g : TG) (wi1 : TI) (g1 : TG) (te : TE) (vs vs1 : List Nat) : TE := fun σ H Q => wi σ H fun J H1 => ∀ D, H1 D = none → ∃ W : Nat → Nat → Hp → Prop, (∃ m, W 0 m (upd H1 D (SetSO w D []))) ∧ ∀ i m H, W i m H →
  (J.stop i H ∧ Q (.ref D) H) ∨ (J.go i H ∧ ∃ Nx : Hp → Prop, (∀ H', Nx H' → ∃ m', m' < m ∧ W (i + 1) m' H') ∧ ∀ x H', J.yld i H x H' → g x (wipe σ vs) H' fun σ2 H2 => wipe σ2 vs = wipe σ vs ∧ wi1 σ2 H2 fun J1 H3 => ∃ W1 : Nat → Nat → Hp → Prop, (∃ m, W1 0 m H3) ∧ ∀ j k H, W1 j k H →
    (J1.stop j H ∧ Nx H) ∨ (J1.go j H ∧ ∃ Nx1 : Hp → Prop, (∀ H', Nx1 H' → ∃ k', k' < k ∧ W1 (j + 1) k' H') ∧ ∀ x H', J1.yld j H x H' → g1 x (wipe σ2 vs1) H' fun σ3 H4 => wipe σ3 vs1 = wipe σ2 vs1 ∧
      te σ3 H4 fun y H5 => ∃ (z : Str) (ks : List Str), y = .str z ∧ H5 D = some (SetSO w D ks) ∧ ks.length + 1 < scanBound ∧ Nx1 (upd H5 D (SetSO w D (insS ks z)))))
theorem pe_scS {elt t0 i0 t1 i1 : Expr} {scope : Scope} {own : List (Str × Nat)} {vs1 : List Nat} {pos : Pos} {wi wi1 : TI} {g g1 : TG} {te : TE} (hc : X.calm = true) (hN : X.N.Nodup) (hi : PI X t0 i0 wi) (ok : BlkOk X.N X.env.scope scope own) (hv : ∀ i ∈ vs1, i ∈ own.map (·.2))
    (hg : ∀ (s : Shared) (H : Hp) (C : Addr) (cl : List (Str × Addr)) (fp : List Addr), PG (X.blk s H scope (compEnvC scope cl C X.env) fp) t0 g)
    (hi1 : ∀ (s : Shared) (H : Hp) (C : Addr) (cl : List (Str × Addr)) (fp : List Addr), PI (X.blk s H scope (compEnvC scope cl C X.env) fp) t1 i1 wi1)
    (hg1 : ∀ (s : Shared) (H : Hp) (C : Addr) (cl : List (Str × Addr)) (fp : List Addr), PG (X.blk s H scope (compEnvC scope cl C X.env) fp) t1 g1)
    (he : ∀ (s : Shared) (H : Hp) (C : Addr) (cl : List (Str × Addr)) (fp : List Addr), PE (X.blk s H scope (compEnvC scope cl C X.env) fp) elt te)
    (hf : ∀ x, foldedSetIterable i0 X.env x = pure x := by intro _; rfl) (hf1 : ∀ env x, foldedSetIterable i1 env x = pure x := by intro _ _; rfl) :
    PE X (cSet elt t0 i0 t1 i1 scope pos) (tScS X.w wi g wi1 g1 te (own.map (·.2)) vs1) := by
  refine ⟨fun pins s σ H Q I h => ?_⟩
  rw [PpSet.eval_SetComp]
  have cells : ∀ y ∈ scope.names, y.2 = .free → ∃ c, X.env.cells.lookup y.1 = some c := fun y hy e => (ok.free y hy e).elim (fun k => I.ok.has _ (.inl k)) fun k => I.ok.has _ (.inr k)
  refine wpAny_comprehension_free (use := none) rfl hf (closure_ok cells) ok.kind (fun y hy e => (ok.uniq y hy).trans (congrArg some e)) (thn (hi.run pins s σ H _ I h) fun xv sa hx => thn hx fun itv sb hb => ?_)
  obtain ⟨it, fp, tn, J, Hb, rfl, Ib, T, stb, fb, q⟩ := hb
  refine PpSet.newSet_ok (newEnv_comp ?_)
  -- the new set, at D
  obtain ⟨D, hD⟩ : ∃ D, D = sb.heap.objs.size := ⟨_, rfl⟩
  obtain ⟨sc, hsc⟩ : ∃ sc : Shared, sc = { sb with heap := sb.heap.push { cls := .type "set", dict := none, data := .set #[] 0 (.fresh 0 0 (!X.w.params.followText "set-order")) } } := ⟨_, rfl⟩
  have hsh : sc.heap = sb.heap.push { cls := .type "set", dict := none, data := .set #[] 0 (.fresh 0 0 (!X.w.params.followText "set-order")) } := congrArg Shared.heap hsc
  have olds : ∀ b o, sb.heap.get? b = some o → sc.heap.get? b = some o := fun b o e => by rw [hsh]; exact Heap.get?_push_of_some _ e
  rw [← hD]
  obtain ⟨W, ⟨m0, w0⟩, turn⟩ := q D (Ib.hok.fresh (Nat.le_of_eq hD.symm))
  have Ic : Inv X pins σ (upd Hb D (SetSO X.w D [])) sc := by
    rw [hsc]
    refine Ib.laid (t' := sb.toks) (fun b o e => Heap.get?_push_of_some _ e) (Nat.le_of_eq hD.symm) ?_
    rw [hD]
    exact setSO_ok (setS_new X.w)
  obtain ⟨Hc, hHc⟩ : ∃ Hc, Hc = upd Hb D (SetSO X.w D []) := ⟨_, rfl⟩
  rw [← hHc] at Ic w0
  have below : ∀ b ∈ fp, b < sb.heap.objs.size := fun b hb => let ⟨o, e, _⟩ := T.obj _ _ stb b hb; Heap.lt_size e
  have fc : ∀ b ∈ fp, FpOk X pins Hc b ∧ b < sc.heap.objs.size := fun b hb => by
    refine ⟨⟨?_, (fb b hb).2⟩, ?_⟩
    · rw [hHc, upd_ne (Nat.ne_of_lt (hD ▸ below b hb))]
      exact (fb b hb).1
    · rw [hsh, Heap.size_push]
      exact Nat.lt_succ_of_lt (below b hb)
  have stc : tn 0 sc.heap := T.keep _ _ _ stb fun b _ o e => olds b o e
  have Id := block_start Ic ok hN fc
  obtain ⟨ce, hce⟩ : ∃ ce, ce = compEnvC scope (cellsFrom (sc.heap.objs.size + 1) scope.names (cloFrom X.env.cells scope.names [])) sc.heap.objs.size X.env := ⟨_, rfl⟩
  have pg : PG (X.blk sc Hc scope ce fp) t0 g := hce ▸ hg sc Hc _ _ fp
  have pi1 : PI (X.blk sc Hc scope ce fp) t1 i1 wi1 := hce ▸ hi1 sc Hc _ _ fp
  have pg1 : PG (X.blk sc Hc scope ce fp) t1 g1 := hce ▸ hg1 sc Hc _ _ fp
  have pe : PE (X.blk sc Hc scope ce fp) elt te := hce ▸ he sc Hc _ _ fp
  have cL : ce.locals = sc.heap.objs.size := by rw [hce]; rfl
  obtain ⟨sd, hsd⟩ : ∃ sd : Shared, sd = { sc with heap := pushCells (sc.heap.push { cls := .type "dict", data := .dict #[] }) scope.names } := ⟨_, rfl⟩
  have Id : Inv (X.blk sc Hc scope ce fp) [] (wipe σ (own.map (·.2))) Hc sd := by rw [hsd, hce]; exact Id
  have std : tn 0 sd.heap := T.keep _ _ _ stc fun b _ o e => by rw [hsd]; exact pushCells_keeps _ _ _ _ (Heap.get?_push_of_some _ e)
  have calmB : (X.blk sc Hc scope ce fp).calm = true := hc
  have stand : ∀ {σ' : L2.St} {H' : Hp} {s' : Shared}, Inv (X.blk sc Hc scope ce fp) [] σ' H' s' → (∀ b ∈ fp, H' b = none) → ∀ b ∈ fp, FpOk (X.blk sc Hc scope ce fp) [] H' b := fun {σ' H' s'} I' hn b hb =>
    ⟨hn b hb, (I'.ok.exf b hb).1, I'.ok.exfs b hb, .inl hb, fun x c e => (I'.ok.exf b hb).2 x c e, fun p hp => (nomatch (show p ∈ ([] : List (Addr × Obj)) from hp))⟩
  -- the head of the first loop
  let Hd0 : Nat → Shared → Prop := fun n s' => ∃ i H', Inv (X.blk sc Hc scope ce fp) [] (wipe σ (own.map (·.2))) H' s' ∧ tn i s'.heap ∧ (∀ b ∈ fp, H' b = none) ∧ W i n H'
  have run : codeAny (model X.prog X.w) X.A (.compLoop (cSet elt t0 i0 t1 i1 scope pos) 0 (.ref it) (.ref D) ce) (compPost (model X.prog X.w) X.A X.xe none (EP X pins σ Q) (.ref D) sc.heap.objs.size) sd := by
    refine first_loop (hf1 ce) Hd0 ?_ m0 ⟨0, Hc, Id, std, fun b hb => (fc b hb).1.1, w0⟩
    rintro n se ⟨i, He, Ie, ste, ne, we⟩
    rcases turn i n He we with ⟨stop, qd⟩ | ⟨go, Nx, hNx, step⟩
    · refine thnF (T.done (X.blk sc Hc scope ce fp) rfl rfl rfl calmB i [] se _ He (fun _ _ => False) Ie (stand Ie ne) ste stop) fun r sf ⟨hr, If⟩ => ?_
      subst hr
      have Ig : Inv X pins σ He sf := Ic.call' (ch := fp) If.os If.base If.hok If.bare fun b hb => let z := (fc b hb).1.2; ⟨z.2.2.1, z.1, z.2.2.2.1, z.2.2.2.2⟩
      have nC : He sc.heap.objs.size = none := cL ▸ (show He ce.locals = none from If.free)
      obtain ⟨m, hm, _⟩ := If.loc
      have hm : sf.heap.Ns sc.heap.objs.size m := cL ▸ (show sf.heap.Ns ce.locals m from hm)
      obtain ⟨f0, f1, f2, f3, f4, f5⟩ := Ic.fpOk (Nat.le_refl _) nC
      exact ⟨m, hm, fun h'' sb' => ⟨.ref D, He, Ig.turned (t' := sf.toks) (fun b o hb e => (sb'.2 b hb).trans e) f0 f1 f3 f4 f5, rfl, qd⟩⟩
    · refine thnF (T.item (X.blk sc Hc scope ce fp) rfl rfl rfl calmB i [] se _ He (fun _ _ => False) Ie (stand Ie ne) ste go) fun r sf ⟨u, hr, hf'⟩ => ?_
      subst hr
      refine thnF hf' fun _ sg ⟨x, Hg, Ig, rg, yg, stg, ng⟩ => ?_
      refine thnF (pg.run _ sg _ Hg x u _ (Ig.pinned (stand Ig ng) (T.obj _ _ stg)) rg (step x Hg yg)) fun _ sh ⟨σh, Hh, Ih, hwh, qh⟩ => ?_
      -- what holds where a turn of the first loop has ended
      have back : ∀ {σ' : L2.St} {s' : Shared} {H' : Hp}, Inv (X.blk sc Hc scope ce fp) ([] ++ pinsAt fp sg.heap) σ' H' s' → σ'.length = σh.length → (∀ (j : Nat) v, (wipe σ (own.map (·.2)))[j]? = some (some v) → σ'[j]? = some (some v)) → Nx H' → ∃ m, m < n ∧ Hd0 m s' := fun {σ' s' H'} I' hl hk nx => by
        obtain ⟨m', hm, w'⟩ := hNx H' nx
        have keptP : ∀ b ∈ fp, ∀ o, sg.heap.get? b = some o → s'.heap.get? b = some o ∧ H' b = none := fun b hb o e => let z := I'.pin (b, o) (List.mem_append_right _ (List.mem_append_right _ (mem_pinsAt hb e))); ⟨z.1, z.2.1⟩
        refine ⟨m', hm, i + 1, H', (I'.unpinned (pins := [])).weak (by rw [hl, ← hwh, wipe_length]) hk, T.keep _ _ _ stg fun b hb o e => (keptP b hb o e).1, fun b hb => ?_, w'⟩
        obtain ⟨o, e, _⟩ := T.obj _ _ stg b hb
        exact (keptP b hb o e).2
      refine thnF (pi1.run _ sh σh Hh _ Ih qh) fun xv si hx => thnF hx fun itv sj hj => ?_
      obtain ⟨it1, fp1, tn1, J1, Hj, rfl, Ij, T1, stj, fj, W1, ⟨m1, w1⟩, turn1⟩ := hj
      have stand1 : ∀ {H' : Hp}, (∀ b ∈ fp1, H' b = none) → ∀ b ∈ fp1, FpOk (X.blk sc Hc scope ce fp) ([] ++ pinsAt fp sg.heap) H' b := fun hn b hb => ⟨hn b hb, (fj b hb).2⟩
      let Hd1 : Nat → Shared → Prop := fun k s' => ∃ j H', Inv (X.blk sc Hc scope ce fp) ([] ++ pinsAt fp sg.heap) (wipe σh vs1) H' s' ∧ tn1 j s'.heap ∧ (∀ b ∈ fp1, H' b = none) ∧ W1 j k H'
      have run1 : codeAny (model X.prog X.w) X.A (.compLoop (cSet elt t0 i0 t1 i1 scope pos) 1 (.ref it1) (.ref D) ce) (fun r s' => match r with | .ok _ => ∃ m, m < n ∧ Hd0 m s' | .error _ => False) sj := by
        refine second_loop Hd1 ?_ m1 ⟨0, Hj, Ij.weak (wipe_length _ _) (fun j v e => (wipe_some e).1), stj, fun b hb => (fj b hb).1, w1⟩
        rintro k sk ⟨j, Hk, Ik, stk, nk, wk⟩
        rcases turn1 j k Hk wk with ⟨stop1, nx1⟩ | ⟨go1, Nx1, hNx1, step1⟩
        · refine thnF (T1.done (X.blk sc Hc scope ce fp) rfl rfl rfl calmB j _ sk (wipe σh vs1) Hk (fun _ _ => False) Ik (stand1 nk) stk stop1) fun r sl ⟨hr, Il⟩ => ?_
          subst hr
          refine back Il (wipe_length σh vs1) (fun j v e => ?_) nx1
          rw [← hwh] at e
          obtain ⟨e1, e2⟩ := wipe_some e
          rw [wipe_out fun z => e2 (hv j z)]
          exact e1
        · refine thnF (T1.item (X.blk sc Hc scope ce fp) rfl rfl rfl calmB j _ sk (wipe σh vs1) Hk (fun _ _ => False) Ik (stand1 nk) stk go1) fun r sl ⟨u1, hr, hl'⟩ => ?_
          subst hr
          refine thnF hl' fun _ sm ⟨x1, Hm, Im, rm, ym, stm, nm⟩ => ?_
          refine thnF (pg1.run _ sm (wipe σh vs1) Hm x1 u1 _ (Im.pinned (stand1 nm) (T1.obj _ _ stm)) rm (step1 x1 Hm ym)) fun _ sn ⟨σn, Hn, In, hwn, qn⟩ => ?_
          refine thnF (pe.run _ sn σn Hn _ In qn) fun zv so ⟨yv, Ho, Io, ro, z, ks, ey, hDo, room, nx⟩ => ?_
          subst ey
          refine setSO_add (X := X.blk sc Hc scope ce fp) Io ro hDo room fun sp Ip => ?_
          obtain ⟨m', hm, w'⟩ := hNx1 _ nx
          have keptQ : ∀ b ∈ fp1, ∀ o, sm.heap.get? b = some o → sp.heap.get? b = some o ∧ (upd Ho D (SetSO X.w D (insS ks z))) b = none := fun b hb o e => let z := Ip.pin (b, o) (List.mem_append_right _ (List.mem_append_right _ (mem_pinsAt hb e))); ⟨z.1, z.2.1⟩
          refine ⟨m', hm, j + 1, _, Ip.unpinned.weak (by rw [← hwn, wipe_length]) (fun j v e => by rw [← hwn] at e; exact (wipe_some e).1), T1.keep _ _ _ stm fun b hb o e => (keptQ b hb o e).1, fun b hb => ?_, w'⟩
          obtain ⟨o, e, _⟩ := T1.obj _ _ stm b hb
          exact (keptQ b hb o e).2
      exact clause_start (.inr rfl) run1 (T1.self X.A 0 _ _ _ stj run1)
  have fine := clause_start (.inl rfl) run (T.self X.A 0 _ _ _ std run)
  rw [hsd, hce, hsc] at fine
  exact fine
end
/-! ### sorted of such a set -/
def tv (v : Value) : Str := match v with | .str x _ => x | _ => ""
theorem strs_all : ∀ (l : List Value), (∀ v ∈ l, ∃ x u, v = Value.str x u) → StrsAre l (l.map tv)
  | [], _ => .nil
  | v :: r, h => by
    obtain ⟨x, u, rfl⟩ := h v List.mem_cons_self
    exact .cons x u (strs_all r fun z hz => h z (List.mem_cons_of_mem _ hz))
def rSortedSet (w : World) : List V → Hp → VK → Prop := fun vs H Q => ∃ (a : Addr) (ks : List Str), vs = [V.ref a] ∧ H a = some (SetSO w a ks) ∧ ks.length < 64 ∧ ∀ (ys : List Str) (p : Addr), ys.Perm ks → sortedS ys = true → H p = none → Q (.ref p) (upd H p (.lst (ys.map V.str)))
theorem cr_sortedSetS {X : Cx} (hc : X.calm = true) : CallR X (.builtin "sorted") (rSortedSet X.w) := by
  intro pins s σ H vs us Q I r h
  obtain ⟨a, ks, rfl, ha, h64, q⟩ := h
  obtain ⟨o, es, ep, t, ho, hx, hd, g, pm, nd, ⟨hb, hf⟩, hr, hl⟩ := setSO_at I ha
  rw [Vals.ref1 r]
  refine Calls.call_function_entry kind_sorted plain_sorted entry_sorted (args_sorted1 _) ?_
  (unfold Builtin.«sorted»; refine wpAny_bind (m := checkCount "sorted" 1 1 _) (wpAny_pure ?_))
  refine wpAny_bind (collect_set (A := X.A.in1) (I.ok.hd hc) ⟨o, ho, hx.1, hd⟩ hf hb hr hl fun s1 out kp gr g1 o1 pm1 => ?_)
  have pk : (out.map tv).Perm ks := by
    have z := pm1.map tv
    rw [List.map_map] at z
    exact z.trans pm
  have len : out.length = ks.length := by rw [← pk.length_eq, List.length_map]
  have hS : StrsAre out (out.map tv) := strs_all out fun v hv => by
    obtain ⟨e, he, q⟩ := List.mem_map.1 (pm1.mem_iff.1 hv)
    obtain ⟨x, u, rfl⟩ := g e he
    exact ⟨x, u, q.symm⟩
  have I1 : Inv X pins σ H { s with heap := s1.heap, gens := s1.gens, drawn := s1.drawn, toks := s1.toks } := I.call (ch := []) (Un.kept kp) (I.hok.kept kp) (g1 ▸ I.bare) (fun _ z => nomatch z)
  have es1 : s1 = { s with heap := s1.heap, gens := s1.gens, drawn := s1.drawn, toks := s1.toks } := by
    rcases s1 with ⟨_, _, _, _, _⟩
    rcases s with ⟨_, _, _, _, _⟩
    cases o1
    rfl
  rw [← es1] at I1
  refine wpAny_bind (wpAny_newList ?_ (small64 (len ▸ h64)))
  have new : (s1.heap.push (seqObj "list" out.toArray 0)).get? s1.heap.objs.size = some (seqObj "list" out.toArray 0) := Heap.get?_push_size _ rfl
  refine wpAny_bind (wpAny_holding (wpAny_call_entry slot_list_sort ⟨_, new, rfl⟩ entry_list_sort (list_sort_treeK strKind_oneLt (s := { s1 with heap := s1.heap.push (seqObj "list" out.toArray 0) }) new hS.keysOf (fun v1 v2 rest e => keyKind_strs (e ▸ hS)) (len ▸ h64) fun st' hp hs => ⟨_, rfl, ?_⟩) (args_list_sort _)))
  obtain ⟨ys, w1, w2, w3⟩ := sorted_out_str hS hp hs
  obtain ⟨c, hc'⟩ := sortedHeap_at (vs := out) (out := (arrOf st').map (·.2)) new
  have small : (ys.map V.str).length ≤ sizeLine := by rw [List.length_map, w2.length_eq, List.length_map]; exact small64 (len ▸ h64)
  refine wpAny_pure ⟨_, rfl, .ref s1.heap.objs.size, upd H s1.heap.objs.size (.lst (ys.map V.str)), I1.laid (t' := s1.toks) (fun b u e => ?_) (Nat.le_refl _) (show ObjOk X.prog X.w _ _ _ (.lst (ys.map V.str)) from ⟨small, ((arrOf st').map (·.2)).toList, c, vals_of_strs w1, by rw [Array.toArray_toList]; exact hc'⟩), rfl, q ys _ (w2.trans pk) w3 (I1.hok.fresh (Nat.le_refl _))⟩
  have hlt : b < s1.heap.objs.size := Heap.lt_size e
  rw [sortedHeap_old (Nat.ne_of_lt hlt) (by rw [size_push']; exact Nat.lt_succ_of_lt hlt)]
  exact Heap.get?_push_of_some _ e
end Lar
namespace Lar
open PySem PySem.Spec PyProof.Rows L2
/-! ### the order of texts -/
def leS (x y : Str) : Prop := ltCps y.cps.toList x.cps.toList = false
theorem lt_asym : ∀ {a b : List Nat}, ltCps a b = false → ltCps b a = false → a = b
  | [], [], _, _ => rfl
  | [], _ :: _, h, _ => by cases h
  | _ :: _, [], _, h => by cases h
  | x :: a, y :: b, h1, h2 => by
    unfold ltCps at h1 h2
    rw [Bool.or_eq_false_iff] at h1 h2
    have e : x = y := by
      have z1 := of_decide_eq_false h1.1
      have z2 := of_decide_eq_false h2.1
      omega
    subst e
    have q1 := h1.2
    have q2 := h2.2
    rw [beq_self_eq_true, Bool.true_and] at q1 q2
    rw [lt_asym q1 q2]
theorem lt_trans : ∀ {a b c : List Nat}, ltCps b a = false → ltCps c b = false → ltCps c a = false
  | [], b, [], _, _ => rfl
  | [], [], _ :: _, _, h => h
  | [], _ :: _, _ :: _, _, _ => rfl
  | _ :: _, [], c, h, _ => by cases h
  | _ :: _, _ :: _, [], _, h => by cases h
  | x :: a, y :: b, z :: c, h1, h2 => by
    unfold ltCps at h1 h2 ⊢
    rw [Bool.or_eq_false_iff] at h1 h2 ⊢
    have z1 := of_decide_eq_false h1.1
    have z2 := of_decide_eq_false h2.1
    refine ⟨decide_eq_false (by omega), ?_⟩
    by_cases e : z = x
    · subst e
      have e2 : y = z := by omega
      subst e2
      have q1 := h1.2
      have q2 := h2.2
      rw [beq_self_eq_true, Bool.true_and] at q1 q2
      rw [beq_self_eq_true, Bool.true_and]
      exact lt_trans q1 q2
    · rw [beq_eq_false_iff_ne.mpr e]; rfl
theorem rising_all : ∀ (p : Str) (l : List Str), risingS p l = true → (∀ x ∈ l, leS p x) ∧ l.Pairwise leS
  | _, [], _ => ⟨fun _ h => (nomatch h), List.Pairwise.nil⟩
  | p, x :: r, h => by
    unfold risingS at h
    rw [Bool.and_eq_true] at h
    have hx : leS p x := by
      have z := h.1
      unfold leS
      cases q : ltCps x.cps.toList p.cps.toList with
      | false => rfl
      | true => rw [q] at z; cases z
    obtain ⟨h1, h2⟩ := rising_all x r h.2
    refine ⟨fun y hy => ?_, List.pairwise_cons.mpr ⟨h1, h2⟩⟩
    rcases List.mem_cons.mp hy with z | z
    · rw [z]; exact hx
    · exact lt_trans hx (h1 y z)
theorem sortedS_all : ∀ {l : List Str}, sortedS l = true → l.Pairwise leS
  | [], _ => List.Pairwise.nil
  | x :: r, h => let ⟨h1, h2⟩ := rising_all x r h; List.pairwise_cons.mpr ⟨h1, h2⟩
theorem sorted_one {xs ys zs : List Str} (h1 : xs.Perm zs) (h2 : ys.Perm zs) (s1 : sortedS xs = true) (s2 : sortedS ys = true) : xs = ys := by
  refine List.Perm.eq_of_pairwise (le := leS) (fun a b _ _ h1 h2 => ?_) (sortedS_all s1) (sortedS_all s2) (h1.trans h2.symm)
  have e := lt_asym h2 h1
  have e2 : a.cps = b.cps := Array.toList_inj.mp e
  cases a; cases b
  cases e2
  rfl
/-! ### the names of some dishes, in the order in which they come -/
def allS (ds : List Dish) : List Str := ds.flatMap fun d => d.2.map (·.1)
def insAll (ks : List Str) (xs : List Str) : List Str := xs.foldl insS ks
def namesOf (ds : List Dish) : List Str := insAll [] (allS ds)
theorem insS_nodup {ks : List Str} {k : Str} (h : ks.Nodup) : (insS ks k).Nodup := by
  unfold insS
  split
  · exact h
  · exact nd_snoc h (by assumption)
theorem insS_mem {ks : List Str} {k x : Str} : x ∈ insS ks k ↔ x ∈ ks ∨ x = k := by
  unfold insS
  split
  · rename_i h
    exact ⟨.inl, fun z => z.elim id fun e => e ▸ h⟩
  · simp
theorem insS_len (ks : List Str) (k : Str) : (insS ks k).length ≤ ks.length + 1 := by
  unfold insS
  split
  · omega
  · simp
theorem insAll_nodup : ∀ (xs : List Str) {ks : List Str}, ks.Nodup → (insAll ks xs).Nodup
  | [], _, h => h
  | x :: r, ks, h => insAll_nodup r (insS_nodup h)
theorem insAll_mem : ∀ (xs : List Str) {ks : List Str} {x : Str}, x ∈ insAll ks xs ↔ x ∈ ks ∨ x ∈ xs
  | [], ks, x => by simp [insAll]
  | y :: r, ks, x => by
    show x ∈ insAll (insS ks y) r ↔ _
    rw [insAll_mem r, insS_mem, List.mem_cons]
    constructor
    · rintro ((h | h) | h)
      · exact .inl h
      · exact .inr (.inl h)
      · exact .inr (.inr h)
    · rintro (h | h | h)
      · exact .inl (.inl h)
      · exact .inl (.inr h)
      · exact .inr h
theorem insAll_snoc (ks xs : List Str) (x : Str) : insAll ks (xs ++ [x]) = insS (insAll ks xs) x := by
  unfold insAll
  rw [List.foldl_append]; rfl
theorem insAll_app (ks xs ys : List Str) : insAll ks (xs ++ ys) = insAll (insAll ks xs) ys := by
  unfold insAll
  rw [List.foldl_append]
theorem insAll_len : ∀ (xs ks : List Str), (insAll ks xs).length ≤ ks.length + xs.length
  | [], ks => Nat.le_refl _
  | x :: r, ks => by
    have h := insAll_len r (insS ks x)
    have h2 := insS_len ks x
    show (insAll (insS ks x) r).length ≤ ks.length + (r.length + 1)
    omega
theorem nodup_len {α : Type} [DecidableEq α] : ∀ (xs ys : List α), xs.Nodup → (∀ x ∈ xs, x ∈ ys) → xs.length ≤ ys.length
  | [], _, _, _ => Nat.zero_le _
  | x :: r, ys, nd, h => by
    obtain ⟨h1, h2⟩ := List.nodup_cons.mp nd
    have hx := h x List.mem_cons_self
    have ih := nodup_len r (ys.erase x) h2 fun y hy => by
      refine (List.mem_erase_of_ne (fun e => ?_)).mpr (h y (List.mem_cons_of_mem _ hy))
      subst e
      exact h1 hy
    have e := List.length_erase_of_mem hx
    have p : 0 < ys.length := List.length_pos_of_mem hx
    show r.length + 1 ≤ ys.length
    omega
theorem names_few (seed : Int) (xs : List Str) (h : ∀ x ∈ xs, NameOf seed x) : (insAll [] xs).length ≤ 12 := by
  have z := nodup_len (insAll [] xs) ((List.range 12).map fun k => nameBy seed (k : Nat)) (insAll_nodup xs List.nodup_nil) fun x hx => by
    rcases insAll_mem xs |>.mp hx with q | q
    · cases q
    · obtain ⟨k, hk, e⟩ := h x q
      exact List.mem_map.mpr ⟨k, List.mem_range.mpr hk, e.symm⟩
  simpa using z
theorem allS_good {seed : Int} {ds : List Dish} (h : ∀ d ∈ ds, GoodDish seed d) : ∀ x ∈ allS ds, NameOf seed x := fun x hx => by
  obtain ⟨d, hd, hx⟩ := List.mem_flatMap.mp hx
  obtain ⟨n, hn, e⟩ := List.mem_map.mp hx
  exact e ▸ ((h d hd).need n hn).2
theorem allS_len {n : Nat} : ∀ (ds : List Dish), (∀ d ∈ ds, d.2.length ≤ n) → (allS ds).length ≤ ds.length * n
  | [], _ => by simp [allS]
  | d :: r, h => by
    have ih := allS_len r fun d hd => h d (List.mem_cons_of_mem _ hd)
    have h2 := h d List.mem_cons_self
    unfold allS at ih ⊢
    rw [List.flatMap_cons, List.length_append, List.length_map, List.length_cons, Nat.succ_mul]
    omega
theorem putK_keys {kvs : List (Key × V)} {ks : List Str} {k : Str} {v : V} (h : kvs.map (·.1) = ks.map Sum.inr) : (putK kvs (Sum.inr k) v).map (·.1) = (insS ks k).map Sum.inr := by
  have hm : (kvs.any fun kv => decide (kv.1 = (Sum.inr k : Key))) = decide (k ∈ ks) := by
    rw [Bool.eq_iff_iff, List.any_eq_true, decide_eq_true_eq]
    constructor
    · rintro ⟨p, hp, e⟩
      have z : (Sum.inr k : Key) ∈ ks.map Sum.inr := by
        rw [← h]
        exact List.mem_map.mpr ⟨p, hp, of_decide_eq_true e⟩
      obtain ⟨y, hy, e2⟩ := List.mem_map.mp z
      rw [← Sum.inr.inj e2]; exact hy
    · intro hk
      have z : (Sum.inr k : Key) ∈ kvs.map (·.1) := by
        rw [h]
        exact List.mem_map.mpr ⟨k, hk, rfl⟩
      obtain ⟨p, hp, e⟩ := List.mem_map.mp z
      exact ⟨p, hp, decide_eq_true e⟩
  unfold putK insS
  rw [hm]
  by_cases hk : k ∈ ks
  · rw [if_pos (decide_eq_true hk), if_pos hk, List.map_map, ← h]
    apply List.map_congr_left
    intro p _
    show (if p.1 = Sum.inr k then (p.1, v) else p).1 = p.1
    split <;> rfl
  · rw [if_neg (fun z => hk (of_decide_eq_true z)), if_neg hk, List.map_append, List.map_append, h]; rfl
/-! ### tuples of texts as data -/
theorem str_lay : ∀ {ys : List Str}, (∀ y ∈ ys, PyData.canLay0 (.str y) = true) → PyData.canLayAll0 (ys.map PyData.str) = true
  | [], _ => by simp [PyData.canLayAll0]
  | y :: r, h => by
    have ih := str_lay (ys := r) fun z hz => h z (List.mem_cons_of_mem _ hz)
    have h1 := h y List.mem_cons_self
    rw [List.map_cons, PyData.canLayAll0, h1, ih]
    rfl
theorem str_deep : ∀ ys : List Str, PyData.depthAll (ys.map PyData.str) = 0
  | [] => by simp [PyData.depthAll]
  | y :: r => by
    rw [List.map_cons, PyData.depthAll, str_deep r]
    simp [PyData.depth]
theorem dp_strs {K : PySem.W.Frag} {H : Hp} : ∀ ys : List Str, DpAll K H (ys.map V.str) (ys.map PyData.str)
  | [] => DpAll.nil
  | y :: r => DpAll.cons (Dp.str y) (dp_strs r)
theorem str_shaped {ys : List Str} (h : ∀ y ∈ ys, PyData.canLay0 (.str y) = true) : SeqAt.shaped (.tuple (ys.map PyData.str)) = true := by
  have h1 := str_lay h
  have h2 := str_deep ys
  unfold SeqAt.shaped
  rw [PyData.canLay0, h1, PyData.depth, h2]
  rfl
theorem str_self {ys : List Str} (h : ∀ y ∈ ys, PyData.canLay0 (.str y) = true) : PyData.eqv (.tuple (ys.map PyData.str)) (.tuple (ys.map PyData.str)) = true := by
  refine SeqAt.eqv_refl _ ?_
  rw [PyData.canLay0]
  exact str_lay h
/-! ### the names' signs -/
def OkS (x : Str) : Prop := ∀ c ∈ x.cps.toList, c < 0x110000
theorem OkS.lay {x : Str} (h : OkS x) : PyData.canLay0 (.str x) = true := by
  rw [PyData.canLay0]
  show x.cps.all (· < 0x110000) = true
  rw [Array.all_eq_true']
  intro c hc
  exact decide_eq_true (h c (Array.mem_toList_iff.mpr hc))
theorem OkS.app {x y : Str} (h1 : OkS x) (h2 : OkS y) : OkS (x ++ y) := fun c hc => by
  have e : (x ++ y).cps.toList = x.cps.toList ++ y.cps.toList := Array.toList_append
  rw [e] at hc
  exact (List.mem_append.mp hc).elim (h1 c) (h2 c)
theorem OkS.cut {x : Str} (h : OkS x) (lo hi : Option Int) : OkS (cutS x lo hi) := fun c hc => h c (List.mem_of_mem_drop (List.mem_of_mem_take (show c ∈ ((x.cps.toList.drop _).take _) from hc)))
theorem sgn_ok : ∀ c ∈ sgn.cps.toList, c < 128 := by decide +kernel
theorem sg_ok (i : Int) : OkS (sg i) := fun c hc => by
  have e : c = sgn.cps.toList.getD (i % 26).toNat 0 := List.mem_singleton.mp hc
  rw [e, List.getD_eq_getElem?_getD]
  cases q : sgn.cps.toList[(i % 26).toNat]? with
  | none => exact (by decide : (0 : Nat) < 0x110000)
  | some z => exact Nat.lt_trans (sgn_ok z (List.mem_of_getElem? q)) (by decide)
theorem nmNm_ok (more : Int) : ∀ t, OkS (nmNm more t)
  | 0 => fun c hc => (nomatch (show c ∈ ([] : List Nat) from hc))
  | t + 1 => (nmNm_ok more t).app (sg_ok _)
theorem empty_ok : OkS "" := fun c hc => (nomatch (show c ∈ ([] : List Nat) from hc))
theorem words_ok : ∀ x ∈ words, ∀ c ∈ x.cps.toList, c < 128 := by decide +kernel
theorem getD_ok {l : List Str} (h : ∀ x ∈ l, OkS x) (i : Nat) : OkS (l.getD i "") := by
  rw [List.getD_eq_getElem?_getD]
  cases q : l[i]? with
  | none => exact empty_ok
  | some z => exact h z (List.mem_of_getElem? q)
theorem nameBy_ok (seed k : Int) : OkS (nameBy seed k) := by
  unfold nameBy
  split
  · exact getD_ok (fun x hx c hc => Nat.lt_trans (words_ok x hx c hc) (by decide)) _
  · dsimp only
    split
    · exact (((nmNm_ok _ _).cut _ _).app ((sg_ok _).app (sg_ok _))).app ((nmNm_ok _ _).cut _ _)
    · split
      · exact (sg_ok _).app (nmNm_ok _ _)
      · split
        · exact (((nmNm_ok _ _).cut _ _).app (sg_ok _)).app ((nmNm_ok _ _).cut _ _)
        · refine (nmNm_ok _ _).app (getD_ok (fun x hx => ?_) _)
          rcases List.mem_cons.mp hx with e | hx
          · rw [e]; exact empty_ok
          rcases List.mem_cons.mp hx with e | hx
          · rw [e]; exact empty_ok
          rcases List.mem_cons.mp hx with e | hx
          · rw [e]; exact sg_ok _
          rcases List.mem_cons.mp hx with e | hx
          · rw [e]; exact sg_ok _
          · cases hx
/-! ### the law's own sums of what is needed -/
theorem onDay_snoc (ps : List (Int × Int)) (k x day : Int) : onDay (ps ++ [(k, x)]) day = onDay ps day + if k = day then x else 0 := by
  rw [onDay_app]
  unfold onDay
  by_cases e : k = day
  · simp [e]
  · simp [e]
def sevenOf (ps : List (Int × Int)) : List Int := (List.range 7).map fun i => onDay ps (1 + (i : Nat))
theorem sevenOf_len (ps : List (Int × Int)) : (sevenOf ps).length = 7 := by unfold sevenOf; simp
theorem sevenOf_at (ps : List (Int × Int)) {j : Nat} (h : j < 7) : (sevenOf ps)[j]? = some (onDay ps (1 + (j : Nat))) := by
  unfold sevenOf
  rw [List.getElem?_map, List.getElem?_eq_getElem (by simpa using h), List.getElem_range]; rfl
theorem sevenOf_set (ps : List (Int × Int)) (k x : Int) {j : Nat} (hj : j < 7) (hk : k = 1 + (j : Nat)) : (sevenOf ps).set j (onDay ps (1 + (j : Nat)) + x) = sevenOf (ps ++ [(k, x)]) := by
  apply List.ext_getElem?
  intro i
  by_cases hi : i < 7
  · rw [sevenOf_at _ hi, onDay_snoc, List.getElem?_set]
    by_cases e : j = i
    · subst e
      rw [if_pos rfl, if_pos (by rw [sevenOf_len]; exact hj), hk, if_pos rfl]
    · rw [if_neg e, sevenOf_at _ hi, if_neg (by omega), Int.add_zero]
  · rw [List.getElem?_eq_none (by rw [List.length_set, sevenOf_len]; omega), List.getElem?_eq_none (by rw [sevenOf_len]; omega)]
theorem drop_comp (xs : List Int) (hl : xs.length = 7) {i : Nat} (hi : i < 7) : (List.range (7 - i)).filterMap (fun k => some (xs.getD (i + k) 0)) = xs.drop i := by
  rw [fm_some]
  apply List.ext_getElem?
  intro j
  rw [List.getElem?_map, List.getElem?_drop]
  by_cases h : j < 7 - i
  · rw [List.getElem?_eq_getElem (by simpa using h), List.getElem_range, List.getElem?_eq_getElem (by omega)]
    show some (xs.getD (i + j) 0) = _
    rw [List.getD_eq_getElem?_getD, List.getElem?_eq_getElem (by omega)]
    rfl
  · rw [List.getElem?_eq_none (by simpa using h), List.getElem?_eq_none (by omega)]
    rfl
end Lar
namespace Lar
/-! ### sums weighed by counts -/
def wsum (f : Offer → Int) (os : List Offer) (cs : List Int) : Int := ((os.zip cs).map fun p => f p.1 * p.2).sum
theorem wsum_nil (f : Offer → Int) (cs : List Int) : wsum f [] cs = 0 := by simp [wsum]
theorem wsum_cons (f : Offer → Int) (o : Offer) (os : List Offer) (c : Int) (cs : List Int) : wsum f (o :: os) (c :: cs) = f o * c + wsum f os cs := by simp [wsum]
theorem costOf_w (os : List Offer) (cs : List Int) : costOf os cs = wsum Offer.price os cs := rfl
def onto (day : Int) (o : Offer) : Int := if day ≤ o.last then o.size else 0
theorem heldOn_w (os : List Offer) (cs : List Int) (day : Int) : heldOn os cs day = wsum (onto day) os cs := by
  unfold heldOn heldZ wsum
  congr 1
  apply List.map_congr_left
  intro p _
  unfold onto
  split
  · rfl
  · simp
/-- one more of the k-th -/
theorem wsum_set (f : Offer → Int) (z : Int) : ∀ (os : List Offer) (cs : List Int) (k : Nat) (o : Offer) (c : Int), os[k]? = some o → cs[k]? = some c → wsum f os (cs.set k (c + z)) = wsum f os cs + f o * z
  | [], _, k, _, _, h, _ => by simp at h
  | _ :: _, [], k, _, _, _, h => by simp at h
  | o' :: os, c' :: cs, 0, o, c, h1, h2 => by
    have e1 : o' = o := by simpa using h1
    have e2 : c' = c := by simpa using h2
    subst e1 e2
    rw [List.set_cons_zero, wsum_cons, wsum_cons, Int.mul_add]
    omega
  | o' :: os, c' :: cs, k + 1, o, c, h1, h2 => by
    rw [List.set_cons_succ, wsum_cons, wsum_cons, wsum_set f z os cs k o c (by simpa using h1) (by simpa using h2)]
    omega
theorem wsum_nonneg (f : Offer → Int) : ∀ (os : List Offer) (cs : List Int), (∀ o ∈ os, 0 ≤ f o) → (∀ c ∈ cs, 0 ≤ c) → 0 ≤ wsum f os cs
  | [], cs, _, _ => by rw [wsum_nil]; decide
  | _ :: _, [], _, _ => by simp [wsum]
  | o :: os, c :: cs, h1, h2 => by
    rw [wsum_cons]
    have a := wsum_nonneg f os cs (fun x hx => h1 x (List.mem_cons_of_mem _ hx)) (fun x hx => h2 x (List.mem_cons_of_mem _ hx))
    have b := Int.mul_nonneg (h1 o List.mem_cons_self) (h2 c List.mem_cons_self)
    omega
/-- where no counted one tells f and g apart -/
theorem wsum_congr (f g : Offer → Int) : ∀ (os : List Offer) (cs : List Int), (∀ (k : Nat) o c, os[k]? = some o → cs[k]? = some c → c ≠ 0 → f o = g o) → wsum f os cs = wsum g os cs
  | [], cs, _ => by rw [wsum_nil, wsum_nil]
  | _ :: _, [], _ => by simp [wsum]
  | o :: os, c :: cs, h => by
    rw [wsum_cons, wsum_cons, wsum_congr f g os cs (fun k o' c' h1 h2 => h (k + 1) o' c' (by simpa using h1) (by simpa using h2))]
    by_cases e : c = 0
    · subst e; simp
    · rw [h 0 o c rfl rfl e]
theorem wsum_zero (f : Offer → Int) : ∀ (os : List Offer) (cs : List Int), (∀ (k : Nat) o c, os[k]? = some o → cs[k]? = some c → c ≠ 0 → f o = 0) → wsum f os cs = 0
  | [], cs, _ => wsum_nil _ _
  | _ :: _, [], _ => by simp [wsum]
  | o :: os, c :: cs, h => by
    rw [wsum_cons, wsum_zero f os cs (fun k o' c' h1 h2 => h (k + 1) o' c' (by simpa using h1) (by simpa using h2))]
    by_cases e : c = 0
    · subst e; simp
    · rw [h 0 o c rfl rfl e]; simp
theorem wsum_zeros (f : Offer → Int) (os : List Offer) (n : Nat) : wsum f os (List.replicate n 0) = 0 := wsum_zero f _ _ fun k o c _ h2 hc => by
  rw [List.getElem?_replicate] at h2
  split at h2
  · exact absurd (Option.some.inj h2).symm hc
  · cases h2
/-! ### what a table is -/
def dayOf (o : Offer) : Int := if o.last < 7 then o.last else 7
def lackAt (ls : List Int) (d : Nat) : Nat := (ls.getD (d - 1) 0).toNat
def cellT (rows : List (List (Option Int))) (d a : Nat) : Option Int := (rows.getD (d - 1) []).getD a none
def goT (ls : List Int) (rows : List (List (Option Int))) (d a : Nat) : Option Int := if d < 7 then cellT rows (d + 1) (max a (lackAt ls (d + 1))) else if a = 0 then some 0 else none
structure IsTable (os : List Offer) (ls : List Int) (M : Nat) (rows : List (List (Option Int))) : Prop where
  len : rows.length = 7
  each : ∀ r ∈ rows, r.length = M + 1
  most : ∀ d : Nat, lackAt ls d ≤ M
  from_ : ∀ (d a : Nat) (c : Int), 1 ≤ d → d ≤ 7 → a ≤ M → cellT rows d a = some c → goT ls rows d a = some c ∨ (0 < a ∧ ∃ o r, o ∈ os ∧ dayOf o = d ∧ cellT rows d (a - o.size.toNat) = some r ∧ c = r + o.price)
  go : ∀ (d a : Nat) (g : Int), 1 ≤ d → d ≤ 7 → a ≤ M → goT ls rows d a = some g → ∃ c, cellT rows d a = some c ∧ c ≤ g
  take : ∀ (d a : Nat) (o : Offer) (r : Int), 1 ≤ d → d ≤ 7 → a ≤ M → 0 < a → o ∈ os → dayOf o = d → cellT rows d (a - o.size.toNat) = some r → ∃ c, cellT rows d a = some c ∧ c ≤ r + o.price
theorem day_on {o : Offer} {d : Nat} (h : dayOf o = d) (h1 : 1 ≤ d) : ∀ e : Nat, e ≤ d → onto e o = o.size := fun e he => by
  unfold onto
  rw [if_pos]
  unfold dayOf at h
  split at h <;> omega
theorem onto_next {o : Offer} {d : Nat} (h : dayOf o ≠ d) (hd : d < 7) : onto d o = onto ((d + 1 : Nat) : Int) o := by
  unfold onto
  unfold dayOf at h
  have : ((d : Int) ≤ o.last) ↔ (((d + 1 : Nat) : Int) ≤ o.last) := by
    split at h <;> omega
  by_cases e : (d : Int) ≤ o.last
  · rw [if_pos e, if_pos (this.mp e)]
  · rw [if_neg e, if_neg (fun z => e (this.mpr z))]
theorem onto_last {o : Offer} (h : dayOf o ≠ (7 : Nat)) : onto ((7 : Nat) : Int) o = 0 := by
  unfold onto
  unfold dayOf at h
  rw [if_neg]
  split at h <;> omega
theorem onto_nonneg {o : Offer} (g : GoodOffer o) (e : Int) : 0 ≤ onto e o := by
  unfold onto
  split
  · have := g.size1; omega
  · decide
theorem ix_mem {α : Type} {xs : List α} {k : Nat} {x : α} (h : xs[k]? = some x) : x ∈ xs := List.mem_of_getElem? h
section
variable {os : List Offer} {ls : List Int} {M : Nat} {rows : List (List (Option Int))}
/-- the sum of the counts -/
def sumC (cs : List Int) : Nat := (cs.map Int.toNat).sum
theorem sumC_set : ∀ (cs : List Int) (k : Nat) (c : Int), cs[k]? = some c → 0 < c → sumC (cs.set k (c + -1)) + 1 = sumC cs
  | [], k, c, h, _ => by simp at h
  | c' :: cs, 0, c, h, hc => by
    have e : c' = c := by simpa using h
    subst e
    unfold sumC
    rw [List.set_cons_zero, List.map_cons, List.sum_cons, List.map_cons, List.sum_cons]
    omega
  | c' :: cs, k + 1, c, h, hc => by
    have ih := sumC_set cs k c (by simpa using h) hc
    unfold sumC at ih ⊢
    rw [List.set_cons_succ, List.map_cons, List.sum_cons, List.map_cons, List.sum_cons]
    omega
theorem nn_set {cs : List Int} {k : Nat} {z : Int} (h : ∀ c ∈ cs, 0 ≤ c) (hz : 0 ≤ z) : ∀ c ∈ cs.set k z, 0 ≤ c := fun c hc => by
  rcases List.mem_or_eq_of_mem_set hc with y | y
  · exact h c y
  · omega
/-- no buying undercuts a cell -/
theorem under (T : IsTable os ls M rows) (hg : ∀ o ∈ os, GoodOffer o) {fs : List Offer} (hf : ∀ o ∈ fs, o ∈ os) :
    ∀ (j n d a : Nat) (cs : List Int), d + j = 7 → 1 ≤ d → sumC cs = n → (∀ c ∈ cs, 0 ≤ c) → a ≤ M → (a : Int) ≤ heldOn fs cs d → (∀ e : Nat, d < e → e ≤ 7 → (lackAt ls e : Int) ≤ heldOn fs cs e) →
      ∃ c, cellT rows d a = some c ∧ c ≤ costOf fs cs := by
  intro j
  induction j with
  | zero =>
    intro n
    induction n with
    | zero =>
      intro d a cs hd h1 hs hn ha hh hb
      have hd7 : d = 7 := by omega
      subst hd7
      have z : ∀ (k : Nat) o c, fs[k]? = some o → cs[k]? = some c → c ≠ 0 → onto ((7 : Nat) : Int) o = 0 := fun k o c _ h2 hc => by
        exfalso
        have hpos : 0 < c := by have := hn c (ix_mem h2); omega
        have := sumC_set cs k c h2 hpos
        omega
      rw [heldOn_w, wsum_zero _ _ _ z] at hh
      have ha0 : a = 0 := by omega
      subst ha0
      obtain ⟨c, e, l⟩ := T.go 7 0 0 (by decide) (by decide) (Nat.zero_le _) rfl
      refine ⟨c, e, Int.le_trans l ?_⟩
      rw [costOf_w]
      exact wsum_nonneg _ _ _ (fun o ho => (hg o (hf o ho)).price0) hn
    | succ n ih =>
      intro d a cs hd h1 hs hn ha hh hb
      have hd7 : d = 7 := by omega
      subst hd7
      by_cases ex : ∃ (k : Nat) (o : Offer) (c : Int), fs[k]? = some o ∧ cs[k]? = some c ∧ 0 < c ∧ dayOf o = (7 : Nat)
      · obtain ⟨k, o, c, ho, hc, hp, hdo⟩ := ex
        have g := hg o (hf o (ix_mem ho))
        have hs' := sumC_set cs k c hc hp
        have hheld := wsum_set (onto ((7 : Nat) : Int)) (-1) fs cs k o c ho hc
        have hcost := wsum_set Offer.price (-1) fs cs k o c ho hc
        rw [day_on hdo (by decide) 7 (Nat.le_refl _)] at hheld
        have hw0 := wsum_nonneg (onto ((7 : Nat) : Int)) fs (cs.set k (c + -1)) (fun x hx => onto_nonneg (hg x (hf x hx)) _) (nn_set hn (by omega))
        have g1 := g.size1
        have g0 := g.price0
        obtain ⟨r, er, lr⟩ := ih 7 (a - o.size.toNat) (cs.set k (c + -1)) hd h1 (by omega) (nn_set hn (by omega)) (by omega) (by rw [heldOn_w, hheld]; rw [heldOn_w] at hh; omega) (fun e h7 h8 => by omega)
        rw [costOf_w, hcost] at lr
        by_cases ha0 : a = 0
        · subst ha0
          rw [Nat.zero_sub] at er
          refine ⟨r, er, ?_⟩
          rw [costOf_w]
          omega
        · obtain ⟨c', e', l'⟩ := T.take 7 a o r (by decide) (by decide) ha (by omega) (hf o (ix_mem ho)) hdo er
          refine ⟨c', e', ?_⟩
          rw [costOf_w]
          omega
      · have z : ∀ (k : Nat) o c, fs[k]? = some o → cs[k]? = some c → c ≠ 0 → onto ((7 : Nat) : Int) o = 0 := fun k o c h1 h2 hc => by
          have hpos : 0 < c := by have := hn c (ix_mem h2); omega
          exact onto_last fun e => ex ⟨k, o, c, h1, h2, hpos, e⟩
        rw [heldOn_w, wsum_zero _ _ _ z] at hh
        have ha0 : a = 0 := by omega
        subst ha0
        obtain ⟨c, e, l⟩ := T.go 7 0 0 (by decide) (by decide) (Nat.zero_le _) rfl
        refine ⟨c, e, Int.le_trans l ?_⟩
        rw [costOf_w]
        exact wsum_nonneg _ _ _ (fun o ho => (hg o (hf o ho)).price0) hn
  | succ j jh =>
    intro n
    induction n with
    | zero =>
      intro d a cs hd h1 hs hn ha hh hb
      have z : ∀ (k : Nat) o c, fs[k]? = some o → cs[k]? = some c → c ≠ 0 → onto (d : Int) o = onto ((d + 1 : Nat) : Int) o := fun k o c _ h2 hc => by
        exfalso
        have hpos : 0 < c := by have := hn c (ix_mem h2); omega
        have := sumC_set cs k c h2 hpos
        omega
      rw [heldOn_w, wsum_congr _ _ _ _ z, ← heldOn_w] at hh
      have hl := hb (d + 1) (by omega) (by omega)
      have hm := T.most (d + 1)
      obtain ⟨c, e, l⟩ := jh 0 (d + 1) (max a (lackAt ls (d + 1))) cs (by omega) (by omega) hs hn (by omega) (by omega) (fun e h7 h8 => hb e (by omega) h8)
      have eg : goT ls rows d a = some c := by unfold goT; rw [if_pos (by omega)]; exact e
      obtain ⟨c', e', l'⟩ := T.go d a c h1 (by omega) ha eg
      exact ⟨c', e', by omega⟩
    | succ n ih =>
      intro d a cs hd h1 hs hn ha hh hb
      by_cases ex : ∃ (k : Nat) (o : Offer) (c : Int), fs[k]? = some o ∧ cs[k]? = some c ∧ 0 < c ∧ dayOf o = d
      · obtain ⟨k, o, c, ho, hc, hp, hdo⟩ := ex
        have g := hg o (hf o (ix_mem ho))
        have hs' := sumC_set cs k c hc hp
        have hheld := wsum_set (onto (d : Int)) (-1) fs cs k o c ho hc
        have hcost := wsum_set Offer.price (-1) fs cs k o c ho hc
        rw [day_on hdo h1 d (Nat.le_refl _)] at hheld
        have hw0 := wsum_nonneg (onto (d : Int)) fs (cs.set k (c + -1)) (fun x hx => onto_nonneg (hg x (hf x hx)) _) (nn_set hn (by omega))
        have g1 := g.size1
        have g0 := g.price0
        obtain ⟨r, er, lr⟩ := ih d (a - o.size.toNat) (cs.set k (c + -1)) hd h1 (by omega) (nn_set hn (by omega)) (by omega) (by rw [heldOn_w, hheld]; rw [heldOn_w] at hh; omega) (fun e h7 h8 => by
          have hb' := hb e h7 h8
          have hx := wsum_set (onto (e : Int)) (-1) fs cs k o c ho hc
          have : onto (e : Int) o = 0 := by
            unfold onto
            rw [if_neg]
            unfold dayOf at hdo
            split at hdo <;> omega
          rw [this] at hx
          rw [heldOn_w, hx]
          rw [heldOn_w] at hb'
          omega)
        rw [costOf_w, hcost] at lr
        by_cases ha0 : a = 0
        · subst ha0
          rw [Nat.zero_sub] at er
          refine ⟨r, er, ?_⟩
          rw [costOf_w]
          omega
        · obtain ⟨c', e', l'⟩ := T.take d a o r h1 (by omega) ha (by omega) (hf o (ix_mem ho)) hdo er
          refine ⟨c', e', ?_⟩
          rw [costOf_w]
          omega
      · have z : ∀ (k : Nat) o c, fs[k]? = some o → cs[k]? = some c → c ≠ 0 → onto (d : Int) o = onto ((d + 1 : Nat) : Int) o := fun k o c h1 h2 hc => by
          have hpos : 0 < c := by have := hn c (ix_mem h2); omega
          exact onto_next (fun e => ex ⟨k, o, c, h1, h2, hpos, e⟩) (by omega)
        rw [heldOn_w, wsum_congr _ _ _ _ z, ← heldOn_w] at hh
        have hl := hb (d + 1) (by omega) (by omega)
        have hm := T.most (d + 1)
        obtain ⟨c, e, l⟩ := jh (n + 1) (d + 1) (max a (lackAt ls (d + 1))) cs (by omega) (by omega) hs hn (by omega) (by omega) (fun e h7 h8 => hb e (by omega) h8)
        have eg : goT ls rows d a = some c := by unfold goT; rw [if_pos (by omega)]; exact e
        obtain ⟨c', e', l'⟩ := T.go d a c h1 (by omega) ha eg
        exact ⟨c', e', by omega⟩
end
end Lar
namespace Lar
section
variable {os : List Offer} {ls : List Int} {M : Nat} {rows rows2 : List (List (Option Int))}
/-! ### one table alone -/
theorem tab_le (T : IsTable os ls M rows) (U : IsTable os ls M rows2) (hg : ∀ o ∈ os, GoodOffer o) :
    ∀ (j d : Nat), d + j = 7 → 1 ≤ d → ∀ (n a : Nat) (c : Int), a ≤ n → a ≤ M → cellT rows d a = some c → ∃ c', cellT rows2 d a = some c' ∧ c' ≤ c := by
  intro j
  induction j with
  | zero =>
    intro d hd h1 n
    induction n with
    | zero =>
      intro a c hn ha hc
      have hd7 : d = 7 := by omega
      have ha0 : a = 0 := by omega
      subst hd7 ha0
      rcases T.from_ 7 0 c (by decide) (by decide) ha hc with e | ⟨h, _⟩
      · exact U.go 7 0 c (by decide) (by decide) ha e
      · omega
    | succ n ih =>
      intro a c hn ha hc
      have hd7 : d = 7 := by omega
      subst hd7
      rcases T.from_ 7 a c (by decide) (by decide) ha hc with e | ⟨h, o, r, ho, hdo, hr, rfl⟩
      · exact U.go 7 a c (by decide) (by decide) ha e
      · have := (hg o ho).size1
        obtain ⟨r', er, lr⟩ := ih (a - o.size.toNat) r (by omega) (by omega) hr
        obtain ⟨c', e', l'⟩ := U.take 7 a o r' (by decide) (by decide) ha h ho hdo er
        exact ⟨c', e', by omega⟩
  | succ j jh =>
    intro d hd h1 n
    have GO : ∀ (a : Nat) (c : Int), a ≤ M → goT ls rows d a = some c → ∃ c', cellT rows2 d a = some c' ∧ c' ≤ c := fun a c ha e => by
      unfold goT at e
      rw [if_pos (by omega)] at e
      have hm := T.most (d + 1)
      obtain ⟨r, er, lr⟩ := jh (d + 1) (by omega) (by omega) _ _ c (Nat.le_refl _) (by omega) e
      obtain ⟨c', e', l'⟩ := U.go d a r h1 (by omega) ha (by unfold goT; rw [if_pos (by omega)]; exact er)
      exact ⟨c', e', by omega⟩
    induction n with
    | zero =>
      intro a c hn ha hc
      have ha0 : a = 0 := by omega
      subst ha0
      rcases T.from_ d 0 c h1 (by omega) ha hc with e | ⟨h, _⟩
      · exact GO 0 c ha e
      · omega
    | succ n ih =>
      intro a c hn ha hc
      rcases T.from_ d a c h1 (by omega) ha hc with e | ⟨h, o, r, ho, hdo, hr, rfl⟩
      · exact GO a c ha e
      · have := (hg o ho).size1
        obtain ⟨r', er, lr⟩ := ih (a - o.size.toNat) r (by omega) (by omega) hr
        obtain ⟨c', e', l'⟩ := U.take d a o r' h1 (by omega) ha h ho hdo er
        exact ⟨c', e', by omega⟩
theorem tab_cell (T : IsTable os ls M rows) (U : IsTable os ls M rows2) (hg : ∀ o ∈ os, GoodOffer o) (d a : Nat) (h1 : 1 ≤ d) (h7 : d ≤ 7) (ha : a ≤ M) : cellT rows d a = cellT rows2 d a := by
  have A := tab_le T U hg (7 - d) d (by omega) h1 a a
  have B := tab_le U T hg (7 - d) d (by omega) h1 a a
  cases e : cellT rows d a with
  | none =>
    cases e2 : cellT rows2 d a with
    | none => rfl
    | some c2 =>
      obtain ⟨c, z, _⟩ := B c2 (Nat.le_refl _) ha e2
      rw [e] at z; cases z
  | some c =>
    obtain ⟨c2, z, l⟩ := A c (Nat.le_refl _) ha e
    obtain ⟨c3, z3, l3⟩ := B c2 (Nat.le_refl _) ha z
    rw [e] at z3
    have e4 := Option.some.inj z3
    rw [z]
    congr 1
    omega
theorem tab_one (T : IsTable os ls M rows) (U : IsTable os ls M rows2) (hg : ∀ o ∈ os, GoodOffer o) : rows = rows2 := by
  have hl : rows.length = rows2.length := by rw [T.len, U.len]
  refine List.ext_getElem hl fun i h1 h2 => ?_
  have e1 := T.each _ (List.getElem_mem h1)
  have e2 := U.each _ (List.getElem_mem h2)
  refine List.ext_getElem (by rw [e1, e2]) fun a h3 h4 => ?_
  have i7 : i < 7 := by rw [← T.len]; exact h1
  have := tab_cell T U hg (i + 1) a (by omega) (by omega) (by omega)
  unfold cellT at this
  rw [Nat.add_sub_cancel, List.getD_eq_getElem?_getD, List.getD_eq_getElem?_getD, List.getD_eq_getElem?_getD, List.getD_eq_getElem?_getD, List.getElem?_eq_getElem h1, List.getElem?_eq_getElem h2] at this
  simp only [Option.getD_some] at this
  rw [List.getElem?_eq_getElem h3, List.getElem?_eq_getElem h4] at this
  simpa using this
/-! ### the greatest lack behind a day -/
def mxA (ls : List Int) : Nat → Nat
  | 0 => 0
  | j + 1 => max (lackAt ls (7 - j)) (mxA ls j)
theorem mxA_le (T : IsTable os ls M rows) : ∀ j, mxA ls j ≤ M
  | 0 => Nat.zero_le _
  | j + 1 => by
    have := T.most (7 - j)
    have := mxA_le T j
    unfold mxA
    omega
/-- a lesser amount costs no more; nor does one that lacks behind all the same -/
theorem tab_mono (T : IsTable os ls M rows) (hg : ∀ o ∈ os, GoodOffer o) :
    ∀ (j d : Nat), d + j = 7 → 1 ≤ d → ∀ (n a a' : Nat) (c : Int), a ≤ n → a ≤ M → a' ≤ max a (mxA ls j) → cellT rows d a = some c → ∃ c', cellT rows d a' = some c' ∧ c' ≤ c := by
  intro j
  induction j with
  | zero =>
    intro d hd h1 n
    have hd7 : d = 7 := by omega
    subst hd7
    induction n with
    | zero =>
      intro a a' c hn ha h' hc
      have : a = 0 := by omega
      subst this
      have : a' = 0 := by unfold mxA at h'; omega
      subst this
      exact ⟨c, hc, Int.le_refl _⟩
    | succ n ih =>
      intro a a' c hn ha h' hc
      unfold mxA at h'
      rcases T.from_ 7 a c (by decide) (by decide) ha hc with e | ⟨h, o, r, ho, hdo, hr, rfl⟩
      · unfold goT at e
        rw [if_neg (by decide)] at e
        split at e
        · rename_i a0
          subst a0
          have : a' = 0 := by omega
          subst this
          exact ⟨c, hc, Int.le_refl _⟩
        · cases e
      · have g := hg o ho
        have := g.size1
        have := g.price0
        obtain ⟨r', er, lr⟩ := ih (a - o.size.toNat) (a' - o.size.toNat) r (by omega) (by omega) (by unfold mxA; omega) hr
        by_cases a0 : a' = 0
        · subst a0
          rw [Nat.zero_sub] at er
          exact ⟨r', er, by omega⟩
        · obtain ⟨c', e', l'⟩ := T.take 7 a' o r' (by decide) (by decide) (by omega) (by omega) ho hdo er
          exact ⟨c', e', by omega⟩
  | succ j jh =>
    intro d hd h1 n
    have hmx := mxA_le T (j + 1)
    have hL : lackAt ls (7 - j) = lackAt ls (d + 1) := by congr 1; omega
    have hlm := T.most (d + 1)
    have GO : ∀ (a a' : Nat) (c : Int), a ≤ M → a' ≤ max a (mxA ls (j + 1)) → goT ls rows d a = some c → ∃ c', cellT rows d a' = some c' ∧ c' ≤ c := fun a a' c ha h' e => by
      unfold mxA at h'
      rw [hL] at h'
      unfold mxA at hmx
      rw [hL] at hmx
      unfold goT at e
      rw [if_pos (by omega)] at e
      obtain ⟨r, er, lr⟩ := jh (d + 1) (by omega) (by omega) _ _ (max a' (lackAt ls (d + 1))) c (Nat.le_refl _) (by omega) (by omega) e
      obtain ⟨c', e', l'⟩ := T.go d a' r h1 (by omega) (by omega) (by unfold goT; rw [if_pos (by omega)]; exact er)
      exact ⟨c', e', by omega⟩
    induction n with
    | zero =>
      intro a a' c hn ha h' hc
      have ha0 : a = 0 := by omega
      subst ha0
      rcases T.from_ d 0 c h1 (by omega) ha hc with e | ⟨h, _⟩
      · exact GO 0 a' c ha h' e
      · omega
    | succ n ih =>
      intro a a' c hn ha h' hc
      rcases T.from_ d a c h1 (by omega) ha hc with e | ⟨h, o, r, ho, hdo, hr, rfl⟩
      · exact GO a a' c ha h' e
      · have g := hg o ho
        have := g.size1
        have := g.price0
        obtain ⟨r', er, lr⟩ := ih (a - o.size.toNat) (a' - o.size.toNat) r (by omega) (by omega) (by omega) hr
        by_cases a0 : a' = 0
        · subst a0
          rw [Nat.zero_sub] at er
          exact ⟨r', er, by omega⟩
        · obtain ⟨c', e', l'⟩ := T.take d a' o r' h1 (by omega) (by omega) (by omega) ho hdo er
          exact ⟨c', e', by omega⟩
/-- where no more is asked than lacks behind, the walk goes on -/
theorem tab_stay (T : IsTable os ls M rows) (hg : ∀ o ∈ os, GoodOffer o) {j d : Nat} (hd : d + j = 7) (h1 : 1 ≤ d) :
    ∀ (n a : Nat) (c : Int), a ≤ n → a ≤ mxA ls j → cellT rows d a = some c → goT ls rows d a = some c := by
  have hmx := mxA_le T j
  intro n
  induction n with
  | zero =>
    intro a c hn ha hc
    rcases T.from_ d a c h1 (by omega) (by omega) hc with e | ⟨h, _⟩
    · exact e
    · omega
  | succ n ih =>
    intro a c hn ha hc
    rcases T.from_ d a c h1 (by omega) (by omega) hc with e | ⟨h, o, r, ho, hdo, hr, rfl⟩
    · exact e
    · have g := hg o ho
      have := g.size1
      have := g.price0
      have e2 := ih (a - o.size.toNat) r (by omega) (by omega) hr
      cases j with
      | zero => unfold mxA at ha; omega
      | succ j =>
        have hL : lackAt ls (7 - j) = lackAt ls (d + 1) := by congr 1; omega
        unfold mxA at ha
        rw [hL] at ha
        unfold mxA at hmx
        rw [hL] at hmx
        unfold goT at e2
        rw [if_pos (by omega)] at e2
        obtain ⟨r', er, lr⟩ := tab_mono T hg j (d + 1) (by omega) (by omega) _ _ (max a (lackAt ls (d + 1))) r (Nat.le_refl _) (by omega) (by omega) e2
        have eg : goT ls rows d a = some r' := by unfold goT; rw [if_pos (by omega)]; exact er
        obtain ⟨c', e', l'⟩ := T.go d a r' h1 (by omega) (by omega) eg
        rw [hc] at e'
        have := Option.some.inj e'
        rw [eg]
        congr 1
        omega
/-! ### the walk -/
def fits (rows : List (List (Option Int))) (d a : Nat) (o : Offer) : Bool := decide (dayOf o = d) && (match cellT rows d (a - o.size.toNat) with | none => false | some r => decide (some (r + o.price) = cellT rows d a))
theorem fits_iff {d a : Nat} {o : Offer} : fits rows d a o = true ↔ dayOf o = d ∧ ∃ r, cellT rows d (a - o.size.toNat) = some r ∧ some (r + o.price) = cellT rows d a := by
  unfold fits
  cases e : cellT rows d (a - o.size.toNat) with
  | none => simp
  | some r => simp
def firstT (os : List Offer) (rows : List (List (Option Int))) (d a : Nat) : Option Nat := os.findIdx? (fits rows d a)
def walkT (os : List Offer) (ls : List Int) (rows : List (List (Option Int))) : Nat → Nat → Nat → List Int → Option (List Int)
  | 0, _, _, _ => none
  | t + 1, d, a, cs =>
    if cellT rows d a = goT ls rows d a then
      if d = 7 then some cs else walkT os ls rows t (d + 1) (max a (lackAt ls (d + 1))) cs
    else
      match firstT os rows d a with
      | none => none
      | some k => walkT os ls rows t d (a - ((os.getD k ⟨0, 0, 0⟩).size.toNat)) (cs.set k (cs.getD k 0 + 1))
structure Walked (os : List Offer) (ls : List Int) (d a : Nat) (c : Int) (cs cs' : List Int) : Prop where
  len : cs'.length = cs.length
  nn : ∀ x ∈ cs', 0 ≤ x
  cost : costOf os cs' = costOf os cs + c
  here : heldOn os cs d + a ≤ heldOn os cs' d
  behind : ∀ e : Nat, d < e → e ≤ 7 → heldOn os cs e + lackAt ls e ≤ heldOn os cs' e
  ahead : ∀ e : Nat, e ≤ d → heldOn os cs' d - heldOn os cs d = heldOn os cs' e - heldOn os cs e
theorem walk_ok (T : IsTable os ls M rows) (hg : ∀ o ∈ os, GoodOffer o) :
    ∀ (t j d a : Nat) (c : Int) (cs : List Int), d + j = 7 → 1 ≤ d → a ≤ M → max a (mxA ls j) + j + 1 ≤ t → cs.length = os.length → (∀ x ∈ cs, 0 ≤ x) → cellT rows d a = some c →
      ∃ cs', walkT os ls rows t d a cs = some cs' ∧ Walked os ls d a c cs cs' := by
  intro t
  induction t with
  | zero => intro j d a c cs _ _ _ h; omega
  | succ t ih =>
    intro j d a c cs hd h1 ha ht hlen hn hc
    unfold walkT
    by_cases eg : cellT rows d a = goT ls rows d a
    · rw [if_pos eg]
      rw [hc] at eg
      by_cases d7 : d = 7
      · rw [if_pos d7]
        subst d7
        unfold goT at eg
        rw [if_neg (by decide)] at eg
        split at eg
        · rename_i a0
          subst a0
          have := Option.some.inj eg
          subst this
          exact ⟨cs, rfl, rfl, hn, by omega, by omega, fun e h h' => by omega, fun e _ => by omega⟩
        · cases eg
      · rw [if_neg d7]
        cases j with
        | zero => omega
        | succ j =>
          have hL : lackAt ls (7 - j) = lackAt ls (d + 1) := by congr 1; omega
          unfold goT at eg
          rw [if_pos (by omega)] at eg
          have hm := T.most (d + 1)
          unfold mxA at ht
          rw [hL] at ht
          obtain ⟨cs', e', W⟩ := ih j (d + 1) (max a (lackAt ls (d + 1))) c cs (by omega) (by omega) (by omega) (by omega) hlen hn eg.symm
          have w1 := W.here
          refine ⟨cs', e', W.len, W.nn, W.cost, ?_, fun e h h' => ?_, fun e h => ?_⟩
          · have := W.ahead d (by omega)
            omega
          · by_cases e1 : e = d + 1
            · subst e1; omega
            · exact W.behind e (by omega) h'
          · -- of those of a later day each holds on all days up to d alike
            have a1 := W.ahead e (by omega)
            have a2 := W.ahead d (by omega)
            omega
    · rw [if_neg eg]
      rcases T.from_ d a c h1 (by omega) ha hc with e | ⟨h0, o, r, ho, hdo, hr, rfl⟩
      · rw [hc, e] at eg; exact absurd rfl eg
      · have ff : fits rows d a o = true := fits_iff.mpr ⟨hdo, r, hr, hc.symm⟩
        cases ef : firstT os rows d a with
        | none =>
          have := List.findIdx?_eq_none_iff.mp ef o ho
          rw [ff] at this; cases this
        | some k =>
          obtain ⟨hk, fk, _⟩ := List.findIdx?_eq_some_iff_getElem.mp ef
          obtain ⟨hdk, r', hr', hs⟩ := fits_iff.mp fk
          have eo : os.getD k ⟨0, 0, 0⟩ = os[k] := by rw [List.getD_eq_getElem?_getD, List.getElem?_eq_getElem hk]; rfl
          have ec : cs.getD k 0 = cs[k]'(by omega) := by rw [List.getD_eq_getElem?_getD, List.getElem?_eq_getElem (by omega)]; rfl
          rw [hc] at hs
          have hs' := Option.some.inj hs
          have gk := hg _ (List.getElem_mem hk)
          have g1 := gk.size1
          have hst : mxA ls j < a := by
            by_cases z : a ≤ mxA ls j
            · have := tab_stay T hg hd h1 a a _ (Nat.le_refl _) z hc
              rw [hc, this] at eg
              exact absurd rfl eg
            · omega
          show ∃ cs', walkT os ls rows t d (a - ((os.getD k ⟨0, 0, 0⟩).size.toNat)) (cs.set k (cs.getD k 0 + 1)) = some cs' ∧ _
          rw [eo, ec]
          have hco := List.getElem?_eq_getElem (show k < cs.length by omega)
          have hoo := List.getElem?_eq_getElem hk
          have c0 := hn _ (List.getElem_mem (show k < cs.length by omega))
          obtain ⟨cs', e', W⟩ := ih j d (a - os[k].size.toNat) r' (cs.set k (cs[k]'(by omega) + 1)) hd h1 (by omega) (by omega) (by rw [List.length_set]; exact hlen) (nn_set hn (by omega)) hr'
          have wc := wsum_set Offer.price 1 os cs k _ _ hoo hco
          have wh : ∀ e : Int, heldOn os (cs.set k (cs[k]'(by omega) + 1)) e = heldOn os cs e + onto e os[k] * 1 := fun e => by
            rw [heldOn_w, heldOn_w]
            exact wsum_set (onto e) 1 os cs k _ _ hoo hco
          have on : ∀ e : Nat, e ≤ d → onto e os[k] = os[k].size := day_on hdk h1
          refine ⟨cs', e', by rw [W.len, List.length_set], W.nn, ?_, ?_, fun e h h' => ?_, fun e h => ?_⟩
          · rw [W.cost, costOf_w, wc, ← costOf_w]; omega
          · have := W.here
            rw [wh, on d (Nat.le_refl _)] at this
            omega
          · have b := W.behind e h h'
            rw [wh] at b
            have := onto_nonneg gk e
            omega
          · have b := W.ahead e h
            rw [wh, wh, on e h, on d (Nat.le_refl _)] at b
            omega
end
end Lar
namespace Lar
open PySem PySem.Spec PyProof.Rows L2
theorem min7 (o : Offer) : (if (7 : Int) < o.last then (7 : Int) else o.last) = dayOf o := by
  unfold dayOf
  split <;> split <;> omega
def cellV : Option Int → V
  | none => .non
  | some x => .int x
theorem cellV_inj {x y : Option Int} (h : cellV x = cellV y) : x = y := by
  cases x with
  | none => cases y with
    | none => rfl
    | some y => cases h
  | some x => cases y with
    | none => cases h
    | some y => rw [V.int.inj h]
theorem cellV_scal (x y : Option Int) : scal (cellV x) (cellV y) = true := by cases x <;> cases y <;> rfl
theorem it_some {A B : Prop} {x : Option Int} (h1 : ∀ z, x = some z → A) (h2 : x = none → B) : if (!decide (cellV x = V.non)) = true then A else B := by
  cases x with
  | none => exact iteF (h2 rfl)
  | some z => exact iteT (h1 z rfl)
theorem it_none {A B : Prop} {x : Option Int} (h1 : x = none → A) (h2 : ∀ z, x = some z → B) : if decide (cellV x = V.non) = true then A else B := by
  cases x with
  | none => exact iteT (h1 rfl)
  | some z => exact iteF (h2 z rfl)
theorem dp_ints {K : PySem.W.Frag} {H : Hp} : ∀ zs : List Int, DpAll K H (zs.map V.int) (zs.map PyData.int)
  | [] => .nil
  | z :: r => .cons (.int z) (dp_ints r)
theorem int_lay : ∀ zs : List Int, PyData.canLayAll0 (zs.map PyData.int) = true
  | [] => by simp [PyData.canLayAll0]
  | z :: r => by
    rw [List.map_cons, PyData.canLayAll0, int_lay r]
    simp [PyData.canLay0]
theorem int_deep : ∀ zs : List Int, PyData.depthAll (zs.map PyData.int) = 0
  | [] => by simp [PyData.depthAll]
  | z :: r => by
    rw [List.map_cons, PyData.depthAll, int_deep r]
    simp [PyData.depth]
theorem int_shaped (zs : List Int) : SeqAt.shaped (.list (zs.map PyData.int)) = true := by
  unfold SeqAt.shaped
  rw [PyData.canLay0, int_lay, PyData.depth, int_deep]
  rfl
theorem nil_eqv (zs : List Int) : PyData.eqv (.list (zs.map PyData.int)) (.list []) = zs.isEmpty := by
  rw [PyData.eqv]
  cases zs with
  | nil => simp [PyData.eqvAll]
  | cons z r => simp [PyData.eqvAll]
def RowAt (H : Hp) (v : V) (r : List (Option Int)) : Prop := ∃ t, v = .ref t ∧ H t = some (.tup (r.map cellV))
theorem RowAt.mono : MonoT RowAt := fun _ _ _ _ e ⟨t, h1, h2⟩ => ⟨t, h1, e _ _ h2⟩
abbrev RowsAt : Hp → V → List (List (Option Int)) → Prop := TupAll RowAt
theorem RowsAt.mono : MonoT RowsAt := TupAll.mono RowAt.mono
/-- the greatest -/
def mostL (ls : List Int) : Nat := (ls.map Int.toNat).foldr max 0
theorem mostL_ge : ∀ (ls : List Int) (x : Int), x ∈ ls → x.toNat ≤ mostL ls
  | [], x, h => nomatch h
  | y :: r, x, h => by
    unfold mostL
    rw [List.map_cons, List.foldr_cons]
    rcases List.mem_cons.mp h with e | e
    · subst e; omega
    · have := mostL_ge r x e
      unfold mostL at this
      omega
theorem mostL_mem : ∀ (ls : List Int), ls ≠ [] → ∃ x ∈ ls, x.toNat = mostL ls
  | [], h => absurd rfl h
  | [y], _ => ⟨y, List.mem_singleton.mpr rfl, by unfold mostL; simp⟩
  | y :: z :: r, _ => by
    obtain ⟨x, hx, e⟩ := mostL_mem (z :: r) (by simp)
    unfold mostL at e ⊢
    rw [List.map_cons, List.foldr_cons]
    by_cases h : y.toNat ≤ ((z :: r).map Int.toNat).foldr max 0
    · exact ⟨x, List.mem_cons_of_mem _ hx, by rw [e]; omega⟩
    · exact ⟨y, List.mem_cons_self, by omega⟩
theorem mostL_eq {ls : List Int} (g : GoodLs ls) {m : Int} (h1 : m ∈ ls) (h2 : ∀ y ∈ ls, y ≤ m) : m = mostL ls := by
  have a := mostL_ge ls m h1
  obtain ⟨x, hx, e⟩ := mostL_mem ls (List.ne_nil_of_mem h1)
  have b := h2 x hx
  have c := (g.2 m h1).1
  have d := (g.2 x hx).1
  omega
theorem GoodLs.most {ls : List Int} (g : GoodLs ls) : mostL ls ≤ 200 := by
  obtain ⟨x, hx, e⟩ := mostL_mem ls (by intro z; have := g.1; rw [z] at this; cases this)
  have := g.2 x hx
  omega
theorem GoodLs.lack {ls : List Int} (g : GoodLs ls) (d : Nat) : lackAt ls d ≤ mostL ls := by
  unfold lackAt
  rw [List.getD_eq_getElem?_getD]
  cases e : ls[d - 1]? with
  | none => exact Nat.zero_le _
  | some x => exact mostL_ge ls x (List.mem_of_getElem? e)
theorem GoodLs.at {ls : List Int} (g : GoodLs ls) {d : Nat} (h1 : 1 ≤ d) (h7 : d ≤ 7) : ls[d - 1]? = some (lackAt ls d : Int) := by
  have hl : d - 1 < ls.length := by rw [g.1]; omega
  have e := List.getElem?_eq_getElem hl
  rw [e]
  congr 1
  unfold lackAt
  rw [List.getD_eq_getElem?_getD, e]
  have := (g.2 _ (List.getElem_mem hl)).1
  show _ = ((ls[d - 1].toNat : Nat) : Int)
  omega
theorem cell_at' {rows : List (List (Option Int))} {M d a : Nat} (hl : rows.length = 7) (he : ∀ r ∈ rows, r.length = M + 1) (h1 : 1 ≤ d) (h7 : d ≤ 7) (ha : a ≤ M) : ∃ r, rows[d - 1]? = some r ∧ r[a]? = some (cellT rows d a) := by
  have h : d - 1 < rows.length := by omega
  have e := List.getElem?_eq_getElem h
  refine ⟨_, e, ?_⟩
  have hr := he _ (List.getElem_mem h)
  unfold cellT
  rw [List.getD_eq_getElem?_getD, List.getD_eq_getElem?_getD, e]
  show _ = some ((rows[d - 1])[a]?.getD none)
  rw [List.getElem?_eq_getElem (by omega)]; rfl
/-- what is told for a cell -/
def candT (rows : List (List (Option Int))) (d a : Nat) (o : Offer) : Option Int := if 0 < a ∧ dayOf o = d then (match cellT rows d (a - o.size.toNat) with | none => none | some r => some (r + o.price)) else none
def dueT (os : List Offer) (ls : List Int) (rows : List (List (Option Int))) (d a : Nat) : List Int := (goT ls rows d a).toList ++ os.filterMap (candT rows d a)
section
variable {os : List Offer} {ls : List Int} {M : Nat} {rows : List (List (Option Int))} {d a : Nat}
theorem due_mem (T : IsTable os ls M rows) (h1 : 1 ≤ d) (h7 : d ≤ 7) (ha : a ≤ M) {z : Int} (hz : z ∈ dueT os ls rows d a) : ∃ c, cellT rows d a = some c ∧ c ≤ z := by
  rcases List.mem_append.mp hz with h | h
  · rw [Option.mem_toList] at h
    exact T.go d a z h1 h7 ha h
  · obtain ⟨o, ho, e⟩ := List.mem_filterMap.mp h
    unfold candT at e
    split at e
    · rename_i hc
      split at e
      · cases e
      · rename_i r hr
        cases e
        exact T.take d a o r h1 h7 ha hc.1 ho hc.2 hr
    · cases e
theorem due_of (T : IsTable os ls M rows) (h1 : 1 ≤ d) (h7 : d ≤ 7) (ha : a ≤ M) {c : Int} (hc : cellT rows d a = some c) : c ∈ dueT os ls rows d a := by
  rcases T.from_ d a c h1 h7 ha hc with e | ⟨h0, o, r, ho, hdo, hr, rfl⟩
  · exact List.mem_append_left _ (by rw [e]; simp)
  · refine List.mem_append_right _ (List.mem_filterMap.mpr ⟨o, ho, ?_⟩)
    unfold candT
    rw [if_pos ⟨h0, hdo⟩, hr]
theorem due_none (T : IsTable os ls M rows) (h1 : 1 ≤ d) (h7 : d ≤ 7) (ha : a ≤ M) (h : dueT os ls rows d a = []) : cellT rows d a = none := by
  cases e : cellT rows d a with
  | none => rfl
  | some c =>
    have := due_of T h1 h7 ha e
    rw [h] at this
    cases this
theorem due_min (T : IsTable os ls M rows) (h1 : 1 ≤ d) (h7 : d ≤ 7) (ha : a ≤ M) {m : Int} (hm : m ∈ dueT os ls rows d a) (hl : ∀ y ∈ dueT os ls rows d a, m ≤ y) : cellT rows d a = some m := by
  obtain ⟨c, e, l⟩ := due_mem T h1 h7 ha hm
  have := hl c (due_of T h1 h7 ha e)
  rw [e]
  congr 1
  omega
end
def spTable : Sp := fun vs H Q _ => ∃ (v : V) (c : Addr) (os : List Offer) (ls : List Int), vs = [v, .ref c] ∧ OffersAt H v os ∧ H c = some (.tup (ls.map V.int)) ∧ os.length ≤ 60 ∧ (∀ o ∈ os, GoodOffer o) ∧ GoodLs ls ∧
  ∀ v' rows H', Same H H' → RowsAt H' v' rows → IsTable os ls (mostL ls) rows → Q v' H'
def boughtT (os : List Offer) (ls : List Int) (rows : List (List (Option Int))) : Option (List Int) := if cellT rows 1 (lackAt ls 1) = none then none else walkT os ls rows 220 1 (lackAt ls 1) (List.replicate os.length 0)
def spBought : Sp := fun vs H Q _ => ∃ (v : V) (c : Addr) (os : List Offer) (ls : List Int), vs = [v, .ref c] ∧ OffersAt H v os ∧ H c = some (.tup (ls.map V.int)) ∧ os.length ≤ 60 ∧ (∀ o ∈ os, GoodOffer o) ∧ GoodLs ls ∧
  ∀ rows H', Same H H' → IsTable os ls (mostL ls) rows → (boughtT os ls rows = none → Q .non H') ∧ (∀ cs p, boughtT os ls rows = some cs → H' p = some (.tup (cs.map V.int)) → Q (.ref p) H')
end Lar
namespace Lar
open PySem PySem.Spec PyProof.Rows L2
/-! ### all but one object as it was -/
def SameBut (c : Addr) (H H' : Hp) : Prop := ∀ b x, b ≠ c → H b = some x → H' b = some x
theorem SameBut.of {c : Addr} {H H' : Hp} (e : Same H H') : SameBut c H H' := fun b x _ h => e b x h
theorem SameBut.refl (c : Addr) (H : Hp) : SameBut c H H := fun _ _ _ h => h
theorem SameBut.trans {c : Addr} {H H1 H2 : Hp} (a : SameBut c H H1) (b : SameBut c H1 H2) : SameBut c H H2 := fun d o n h => b d o n (a d o n h)
theorem SameBut.put {c : Addr} {H H' : Hp} {o : HO} (a : SameBut c H H') : SameBut c H (upd H' c o) := fun b x n h => by
  rw [upd_ne n]
  exact a b x n h
theorem SameBut.over {c : Addr} {H0 H H' : Hp} (s : Same H0 H) (h : H0 c = none) (a : SameBut c H H') : Same H0 H' := fun b x e => a b x (ne_of_none e h) (s b x e)
theorem keepA {K : PySem.W.Frag} {H H' : Hp} {a : Addr} {xs : List V} (h : ∀ x, H a = some x → H' a = some x) (q : SqA K H a xs) : SqA K H' a xs := by
  rcases q with ((q | ⟨o, q⟩) | q) | ((q | ⟨o, q⟩) | q)
  · exact .inl (.inl (.inl (h _ q)))
  · exact .inl (.inl (.inr ⟨o, h _ q⟩))
  · exact .inl (.inr q)
  · exact .inr (.inl (.inl (h _ q)))
  · exact .inr (.inl (.inr ⟨o, h _ q⟩))
  · exact .inr (.inr q)
theorem SameBut.sq {K : PySem.W.Frag} {c : Addr} {H H' : Hp} {a : Addr} {xs : List V} (e : SameBut c H H') (n : a ≠ c) (q : SqA K H a xs) : SqA K H' a xs := keepA (fun x h => e a x n h) q
/-- where c is a list all along, tuples stay -/
theorem SameBut.tup {c : Addr} {H H' : Hp} {zs : List V} (e : SameBut c H H') (h : H c = some (.lst zs)) : SameT H H' := fun b xs hb => e b _ (fun z => by subst z; rw [h] at hb; cases hb) hb
theorem cutV_from (xs : List V) (i : Nat) : cutV xs (some (i : Int)) none = xs.drop i := by
  unfold cutV
  rw [HT.sIx_nat, HT.sIx_none]
  by_cases h : i ≤ xs.length
  · rw [Nat.min_eq_left h]
    exact List.take_of_length_le (by rw [List.length_drop]; exact Nat.le_refl _)
  · rw [Nat.min_eq_right (by omega), List.drop_of_length_le (Nat.le_refl _), List.drop_of_length_le (by omega), List.take_nil]
theorem rep0 (d : Nat) : (List.replicate (d : Int).toNat [V.int 0]).flatten = (List.replicate d (0 : Int)).map V.int := by
  rw [Int.toNat_natCast]
  induction d with
  | zero => rfl
  | succ d ih => rw [List.replicate_succ, List.flatten_cons, ih, List.replicate_succ, List.map_cons]; rfl
/-! ### the offers that fit -/
abbrev oz : Offer := ⟨0, 0, 0⟩
def fitK (os : List Offer) (d : Int) : List Nat := (List.range os.length).filterMap fun k => if d ≤ (os.getD k oz).last then some k else none
theorem fit_mem {os : List Offer} {d : Int} {k : Nat} (h : k ∈ fitK os d) : k < os.length ∧ d ≤ (os.getD k oz).last := by
  obtain ⟨j, hj, e⟩ := List.mem_filterMap.mp h
  split at e
  · rename_i hd
    cases e
    exact ⟨List.mem_range.mp hj, hd⟩
  · cases e
theorem fit_nil {os : List Offer} {d : Int} (h : fitK os d = []) : ∀ o ∈ os, ¬ d ≤ o.last := fun o ho hd => by
  obtain ⟨k, hk, e⟩ := List.getElem_of_mem ho
  have : k ∈ fitK os d := List.mem_filterMap.mpr ⟨k, List.mem_range.mpr hk, by
    have e2 : os.getD k oz = o := by rw [List.getD_eq_getElem?_getD, List.getElem?_eq_getElem hk, ← e]; rfl
    rw [e2, if_pos hd]⟩
  rw [h] at this
  cases this
theorem zip_range (os : List Offer) (cs : List Int) (h : os.length = cs.length) : os.zip cs = (List.range os.length).map fun k => (os.getD k oz, cs.getD k 0) := by
  refine List.ext_getElem (by rw [zip_len h]; simp) fun i h1 h2 => ?_
  have hi : i < os.length := by rw [zip_len h] at h1; exact h1
  rw [List.getElem_zip, List.getElem_map, List.getElem_range]
  rw [List.getD_eq_getElem?_getD, List.getD_eq_getElem?_getD, List.getElem?_eq_getElem hi, List.getElem?_eq_getElem (by omega)]; rfl
theorem sum_fm (p : Nat → Prop) [DecidablePred p] (g : Nat → Int) : ∀ xs : List Nat, ((xs.filterMap fun k => if p k then some k else none).map g).sum = (xs.map fun k => if p k then g k else 0).sum
  | [] => rfl
  | x :: r => by
    rw [List.map_cons, List.sum_cons, ← sum_fm p g r]
    by_cases e : p x
    · simp only [List.filterMap_cons, if_pos e, List.map_cons, List.sum_cons]
    · simp only [List.filterMap_cons, if_neg e]; omega
theorem held_fit (os : List Offer) (cs : List Int) (h : os.length = cs.length) (d : Int) : ((fitK os d).map fun k => (os.getD k oz).size * cs.getD k 0).sum = heldOn os cs d := by
  unfold fitK
  rw [sum_fm]
  unfold heldOn heldZ
  rw [zip_range os cs h, List.map_map]; rfl
/-- what a filling up leaves -/
structure Filled (os : List Offer) (ls : List Int) (M : Nat) (i : Nat) (cs cs' : List Int) : Prop where
  len : cs'.length = cs.length
  nn : ∀ x ∈ cs', 0 ≤ x
  few : sumC cs' ≤ sumC cs + i * M
  serve : ∀ e : Nat, 7 - i < e → e ≤ 7 → (lackAt ls e : Int) ≤ heldOn os cs' e
theorem sumC_add : ∀ (cs : List Int) (k : Nat) (c x : Int), cs[k]? = some c → 0 ≤ c → 0 ≤ x → sumC (cs.set k (c + x)) = sumC cs + x.toNat
  | [], k, c, x, h, _, _ => by simp at h
  | c' :: cs, 0, c, x, h, hc, hx => by
    have e : c' = c := by simpa using h
    subst e
    unfold sumC
    rw [List.set_cons_zero, List.map_cons, List.sum_cons, List.map_cons, List.sum_cons]
    omega
  | c' :: cs, k + 1, c, x, h, hc, hx => by
    have ih := sumC_add cs k c x (by simpa using h) hc hx
    unfold sumC at ih ⊢
    rw [List.set_cons_succ, List.map_cons, List.sum_cons, List.map_cons, List.sum_cons]
    omega
theorem fill_div {l h s : Int} (hs : 1 ≤ s) (hl : h < l) : l - h ≤ s * ((l - h + s - 1) / s) ∧ 0 ≤ (l - h + s - 1) / s ∧ (l - h + s - 1) / s ≤ l - h := by
  have e := Int.mul_ediv_add_emod (l - h + s - 1) s
  have m0 := Int.emod_nonneg (l - h + s - 1) (show s ≠ 0 by omega)
  have m1 := Int.emod_lt_of_pos (l - h + s - 1) (show 0 < s by omega)
  have n0 := Int.ediv_nonneg (show 0 ≤ l - h + s - 1 by omega) (show 0 ≤ s by omega)
  refine ⟨by omega, n0, ?_⟩
  by_cases z : (l - h + s - 1) / s ≤ l - h
  · exact z
  · exfalso
    have z2 : l - h + 1 ≤ (l - h + s - 1) / s := by omega
    have := Int.mul_le_mul_of_nonneg_left z2 (show 0 ≤ s by omega)
    rw [Int.mul_add] at this
    have q : l - h ≤ s * (l - h) := by
      have := Int.mul_le_mul_of_nonneg_right hs (show 0 ≤ l - h by omega)
      omega
    omega
theorem Filled.none {os : List Offer} {ls : List Int} {M i : Nat} {cs cs' : List Int} (F : Filled os ls M i cs cs') (hi : i < 7) (h : (lackAt ls (7 - i) : Int) ≤ heldOn os cs' ((7 - i : Nat) : Int)) : Filled os ls M (i + 1) cs cs' :=
  ⟨F.len, F.nn, by have := F.few; rw [Nat.succ_mul]; omega, fun e h1 h2 => by
    by_cases z : e = 7 - i
    · subst z; exact h
    · exact F.serve e (by omega) h2⟩
theorem Filled.more {os : List Offer} {ls : List Int} {M i : Nat} {cs cs' : List Int} (F : Filled os ls M i cs cs') (hl : os.length = cs.length) (hg : ∀ o ∈ os, GoodOffer o) (hi : i < 7) (hM : lackAt ls (7 - i) ≤ M)
    {k : Nat} (hk : k ∈ fitK os ((7 - i : Nat) : Int)) (h : heldOn os cs' ((7 - i : Nat) : Int) < (lackAt ls (7 - i) : Int)) :
    Filled os ls M (i + 1) cs (cs'.set k (cs'.getD k 0 + ((lackAt ls (7 - i) : Int) - heldOn os cs' ((7 - i : Nat) : Int) + (os.getD k oz).size - 1) / (os.getD k oz).size)) := by
  obtain ⟨hk1, hk2⟩ := fit_mem hk
  have eo : os.getD k oz = os[k] := by rw [List.getD_eq_getElem?_getD, List.getElem?_eq_getElem hk1]; rfl
  have hkc : k < cs'.length := by rw [F.len, ← hl]; exact hk1
  have ec : cs'.getD k 0 = cs'[k] := by rw [List.getD_eq_getElem?_getD, List.getElem?_eq_getElem hkc]; rfl
  rw [eo] at hk2
  rw [eo, ec]
  have g := hg _ (List.getElem_mem hk1)
  have g1 := g.size1
  obtain ⟨d1, d2, d3⟩ := fill_div g1 h
  have c0 := F.nn _ (List.getElem_mem hkc)
  have hh : 0 ≤ heldOn os cs' ((7 - i : Nat) : Int) := by rw [heldOn_w]; exact wsum_nonneg _ _ _ (fun o ho => onto_nonneg (hg o ho) _) F.nn
  generalize hx : ((lackAt ls (7 - i) : Int) - heldOn os cs' ((7 - i : Nat) : Int) + os[k].size - 1) / os[k].size = x at d1 d2 d3 ⊢
  have hw : ∀ e : Int, heldOn os (cs'.set k (cs'[k] + x)) e = heldOn os cs' e + onto e os[k] * x := fun e => by
    rw [heldOn_w, heldOn_w]
    exact wsum_set (onto e) x os cs' k _ _ (List.getElem?_eq_getElem hk1) (List.getElem?_eq_getElem hkc)
  refine ⟨by rw [List.length_set]; exact F.len, nn_set F.nn (by omega), ?_, fun e h1 h2 => ?_⟩
  · have := sumC_add cs' k _ x (List.getElem?_eq_getElem hkc) c0 d2
    have f := F.few
    rw [this, Nat.succ_mul]
    omega
  · rw [hw]
    by_cases z : e = 7 - i
    · subst z
      unfold onto
      rw [if_pos hk2]
      omega
    · have := F.serve e (by omega) h2
      have := Int.mul_nonneg (onto_nonneg g e) d2
      omega
end Lar
namespace Lar
open PySem PySem.Spec PyProof.Rows L2
section
variable {os : List Offer} {ls : List Int} {rows : List (List (Option Int))}
theorem serves_iff (hls : GoodLs ls) (os : List Offer) (cs : List Int) : servesB os cs ls = true ↔ ∀ e : Nat, 1 ≤ e → e ≤ 7 → (lackAt ls e : Int) ≤ heldOn os cs e := by
  have at_ : ∀ e : Nat, 1 ≤ e → e ≤ 7 → ls.getD (e - 1) 0 = lackAt ls e := fun e h1 h7 => by
    rw [List.getD_eq_getElem?_getD, hls.at h1 h7]; rfl
  unfold servesB
  rw [List.all_eq_true]
  constructor
  · intro h e h1 h7
    have := of_decide_eq_true (h (e - 1) (List.mem_range.mpr (by omega)))
    rw [at_ e h1 h7] at this
    have e2 : (1 : Int) + ((e - 1 : Nat) : Int) = (e : Int) := by omega
    rw [e2] at this
    exact this
  · intro h i hi
    have hi7 := List.mem_range.mp hi
    have := h (i + 1) (by omega) (by omega)
    have e1 := at_ (i + 1) (by omega) (by omega)
    rw [Nat.add_sub_cancel] at e1
    have e2 : (1 : Int) + (i : Int) = ((i + 1 : Nat) : Int) := by omega
    refine decide_eq_true ?_
    rw [e1, e2]
    exact this
theorem costOf_zeros (os : List Offer) (n : Nat) : costOf os (List.replicate n 0) = 0 := by rw [costOf_w]; exact wsum_zeros _ _ _
theorem heldOn_zeros (os : List Offer) (n : Nat) (d : Int) : heldOn os (List.replicate n 0) d = 0 := by rw [heldOn_w]; exact wsum_zeros _ _ _
theorem bought_ok (T : IsTable os ls (mostL ls) rows) (hg : ∀ o ∈ os, GoodOffer o) (hls : GoodLs ls) {c : Int} (hc : cellT rows 1 (lackAt ls 1) = some c) :
    ∃ cs, boughtT os ls rows = some cs ∧ cs.length = os.length ∧ (∀ x ∈ cs, 0 ≤ x) ∧ costOf os cs = c ∧ servesB os cs ls = true := by
  have hm := hls.most
  have h1 := T.most 1
  have h2 := mxA_le T 6
  obtain ⟨cs, e, W⟩ := walk_ok T hg 220 6 1 (lackAt ls 1) c (List.replicate os.length 0) (by decide) (by decide) h1 (by omega) List.length_replicate (fun x hx => by rw [(List.mem_replicate.mp hx).2]; exact Int.le_refl _) hc
  refine ⟨cs, ?_, by rw [W.len, List.length_replicate], W.nn, by rw [W.cost, costOf_zeros]; omega, ?_⟩
  · unfold boughtT
    rw [hc, if_neg (by intro z; cases z)]
    exact e
  · rw [serves_iff hls]
    intro e h1 h7
    by_cases z : e = 1
    · subst z
      have := W.here
      rw [heldOn_zeros] at this
      omega
    · have := W.behind e (by omega) h7
      rw [heldOn_zeros] at this
      omega
theorem bought_none (hc : cellT rows 1 (lackAt ls 1) = none) : boughtT os ls rows = none := by
  unfold boughtT
  rw [if_pos hc]
/-- what serves costs no less than the cell -/
theorem serve_cell (T : IsTable os ls (mostL ls) rows) (hg : ∀ o ∈ os, GoodOffer o) (hls : GoodLs ls) {cs : List Int} (hn : ∀ x ∈ cs, 0 ≤ x) (h : servesB os cs ls = true) :
    ∃ c, cellT rows 1 (lackAt ls 1) = some c ∧ c ≤ costOf os cs := by
  rw [serves_iff hls] at h
  exact under T hg (fun o ho => ho) 6 (sumC cs) 1 (lackAt ls 1) cs (by decide) (by decide) rfl hn (T.most 1) (h 1 (by decide) (by decide)) (fun e h1 h7 => h e (by omega) h7)
end
theorem it_eqC {A B : Prop} {x y : Option Int} (h1 : x = y → A) (h2 : x ≠ y → B) : if decide (cellV x = cellV y) = true then A else B := ite2 (fun h => h1 (cellV_inj (of_decide_eq_true h))) (fun h => h2 fun z => h (decide_eq_true (congrArg cellV z)))
end Lar
namespace Lar
open PySem PySem.Spec PyProof.Rows L2
/-! ### uses: tuples of pairs (batch, amount) -/
abbrev Use := Nat × Int
def UseAt (H : Hp) (v : V) (p : Use) : Prop := ∃ t, v = .ref t ∧ H t = some (.tup [.int (p.1 : Int), .int p.2])
theorem UseAt.mono : MonoT UseAt := fun _ _ _ _ e ⟨t, h1, h2⟩ => ⟨t, h1, e _ _ h2⟩
abbrev PairsAt : Hp → V → List Use → Prop := TupAll UseAt
theorem PairsAt.mono : MonoT PairsAt := TupAll.mono UseAt.mono
abbrev UsesAt : Hp → V → List (List Use) → Prop := TupAll PairsAt
theorem UsesAt.mono : MonoT UsesAt := TupAll.mono PairsAt.mono
/-- a tuple of ints -/
def IntsT (H : Hp) (v : V) (xs : List Int) : Prop := ∃ t, v = .ref t ∧ H t = some (.tup (xs.map V.int))
theorem IntsT.mono : MonoT IntsT := fun _ _ _ _ e ⟨t, h1, h2⟩ => ⟨t, h1, e _ _ h2⟩
/-- how much of a batch is used -/
def usedP (ps : List Use) (k : Nat) : Int := (ps.map fun p => if p.1 = k then p.2 else 0).sum
def usedOf (us : List (List Use)) (k : Nat) : Int := (us.map fun ps => usedP ps k).sum
theorem usedP_snoc (ps : List Use) (p : Use) (k : Nat) : usedP (ps ++ [p]) k = usedP ps k + if p.1 = k then p.2 else 0 := by
  unfold usedP
  rw [List.map_append, List.sum_append]; simp
theorem usedOf_snoc (us : List (List Use)) (ps : List Use) (k : Nat) : usedOf (us ++ [ps]) k = usedOf us k + usedP ps k := by
  unfold usedOf
  rw [List.map_append, List.sum_append]; simp
abbrev bz : Batch := ⟨"", 0, 0⟩
def endOf (b : Batch) (used : Int) : List Int := if b.last < 7 then [used, b.amount - used, 0] else [used, 0, b.amount - used]
def endsL (lar : List Batch) (us : List (List Use)) : List (List Int) := (List.range lar.length).map fun k => endOf (lar.getD k bz) (usedOf us k)
def spEnds : Sp := fun vs H Q _ => ∃ (v u : V) (lar : List Batch) (us : List (List Use)), vs = [v, u] ∧ LarderAt H v lar ∧ UsesAt H u us ∧ lar.length ≤ 50000 ∧ us.length ≤ 1000 ∧ (∀ ps ∈ us, ps.length ≤ 50000 ∧ ∀ p ∈ ps, p.1 < lar.length ∧ 1 ≤ p.2) ∧ (∀ k, k < lar.length → usedOf us k ≤ (lar.getD k bz).amount) ∧
  ∀ v' H', Same H H' → TupAll IntsT H' v' (endsL lar us) → Q v' H'
/-! ### what is left of the batches -/
def leftL (lar : List Batch) (f : Nat → Int) : List Int := (List.range lar.length).map fun k => (lar.getD k bz).amount - f k
theorem leftL_len (lar : List Batch) (f : Nat → Int) : (leftL lar f).length = lar.length := by unfold leftL; simp
theorem leftL_at {lar : List Batch} {f : Nat → Int} {k : Nat} (h : k < lar.length) : (leftL lar f)[k]? = some ((lar.getD k bz).amount - f k) := by
  unfold leftL
  rw [List.getElem?_map, List.getElem?_range h]; rfl
theorem leftL_set {lar : List Batch} {f g : Nat → Int} {k : Nat} {z : Int} (h : k < lar.length) (h1 : (lar.getD k bz).amount - g k = z) (h2 : ∀ j, j < lar.length → j ≠ k → g j = f j) : (leftL lar f).set k z = leftL lar g := by
  refine List.ext_getElem? fun j => ?_
  rw [List.getElem?_set]
  by_cases e : k = j
  · subst e
    rw [if_pos rfl, leftL_len, if_pos h, leftL_at h, h1]
  · rw [if_neg e]
    by_cases hj : j < lar.length
    · rw [leftL_at hj, leftL_at hj, h2 j hj (fun z => e z.symm)]
    · rw [List.getElem?_eq_none (by rw [leftL_len]; omega), List.getElem?_eq_none (by rw [leftL_len]; omega)]
theorem getD_at {α : Type} {xs : List α} {k : Nat} {x d : α} (h : xs[k]? = some x) : xs.getD k d = x := by rw [List.getD_eq_getElem?_getD, h]; rfl
theorem at_getD {α : Type} {xs : List α} {k : Nat} (h : k < xs.length) (d : α) : xs[k]? = some (xs.getD k d) := by rw [List.getD_eq_getElem?_getD, List.getElem?_eq_getElem h]; rfl
/-- what is told of each can be told of all -/
theorem Held.choose {α β : Type} {R : Hp → V → β → Prop} {P : α → β → Prop} {H : Hp} : ∀ {vs : List V} {xs : List α}, Held (fun H v x => ∃ y, R H v y ∧ P x y) H vs xs → ∃ ys : List β, Held R H vs ys ∧ ys.length = xs.length ∧ ∀ (i : Nat) x y, xs[i]? = some x → ys[i]? = some y → P x y
  | [], [], _ => ⟨[], Held.nil, rfl, fun i x y h => by simp at h⟩
  | [], _ :: _, h => by have := h.len; simp at this
  | _ :: _, [], h => by have := h.len; simp at this
  | v :: vs, x :: xs, h => by
    obtain ⟨ys, a, b, c⟩ := Held.choose (vs := vs) (xs := xs) (R := R) (P := P) (H := H) ⟨by have := h.len; simpa using this, fun i v' x' h1 h2 => h.all (i + 1) v' x' (by simpa using h1) (by simpa using h2)⟩
    obtain ⟨y, r, p⟩ := h.all 0 v x rfl rfl
    refine ⟨y :: ys, ⟨by simp [a.len], fun i v' y' h1 h2 => ?_⟩, by simp [b], fun i x' y' h1 h2 => ?_⟩
    · cases i with
      | zero =>
        have e1 : v = v' := by simpa using h1
        have e2 : y = y' := by simpa using h2
        subst e1 e2
        exact r
      | succ i => exact a.all i v' y' (by simpa using h1) (by simpa using h2)
    · cases i with
      | zero =>
        have e1 : x = x' := by simpa using h1
        have e2 : y = y' := by simpa using h2
        subst e1 e2
        exact p
      | succ i => exact c i x' y' (by simpa using h1) (by simpa using h2)
/-- a tuple and one that is not empty -/
theorem cat_tup {K : PySem.W.Frag} {H : Hp} {Q : VK} {a b : Addr} {xs ys : List V} (ha : SqT K H a xs) (hb : H b = some (.tup ys)) (hz : xs.length + ys.length ≤ sizeLine) (ny : ys ≠ []) (h : ∀ p H', Same H H' → H' p = some (.tup (xs ++ ys)) → Q (.ref p) H') : rCatA K (.ref a) (.ref b) H Q := by
  refine ⟨a, b, xs, ys, rfl, rfl, ha, sqT hb, hz, fun e => ?_, fun _ e => absurd e ny, fun _ _ p hp => ?_⟩
  · subst e
    exact h b H (Same.refl _) hb
  · exact h p _ (same_upd hp) upd_same
theorem endOf_len (b : Batch) (u : Int) : (endOf b u).length = 3 := by unfold endOf; split <;> rfl
end Lar
namespace Lar
open PySem PySem.Spec PyProof.Rows L2
/-! ### packs -/
structure Pack where
  name : Str
  size : Int
  price : Int
  last : Int
def PackAt (H : Hp) (v : V) (p : Pack) : Prop := ∃ t, v = .ref t ∧ H t = some (.tup [.str p.name, .int p.size, .int p.price, .int p.last])
theorem PackAt.mono : MonoT PackAt := fun _ _ _ _ e ⟨t, h1, h2⟩ => ⟨t, h1, e _ _ h2⟩
abbrev PacksAt : Hp → V → List Pack → Prop := TupAll PackAt
theorem PacksAt.mono : MonoT PacksAt := TupAll.mono PackAt.mono
structure GoodPack (seed : Int) (p : Pack) : Prop where
  size1 : 1 ≤ p.size
  size2 : p.size ≤ 200
  price0 : 0 ≤ p.price
  price2 : p.price ≤ 1000000
  last1 : 1 ≤ p.last
  last2 : p.last ≤ 99
  name : NameOf seed p.name
structure FinePack (p : Pack) : Prop where
  size1 : 1 ≤ p.size
  size2 : p.size ≤ 200
  price0 : 0 ≤ p.price
  price2 : p.price ≤ 1000000
  last1 : 1 ≤ p.last
  last2 : p.last ≤ 99
  ok : OkS p.name
  few : p.name.length ≤ 16
def totalP (ps : List Pack) (cs : List Int) : Int := ((ps.zip cs).map fun p => p.1.price * p.2).sum
def batchOf (p : Pack) : Batch := ⟨p.name, p.size, p.last⟩
def stockZ (zs : List (Pack × Int)) : List Batch := zs.flatMap fun p => List.replicate p.2.toNat (batchOf p.1)
def stockL (lar : List Batch) (ps : List Pack) (cs : List Int) : List Batch := lar ++ stockZ (ps.zip cs)
def rowS (p : Pack) (c : Int) : Str := Txt.join " " [Str.ofString (toString c), p.name, Str.ofString (toString p.size), Str.ofString (toString (p.price * c))]
def rowsS (zs : List (Pack × Int)) : Str := zs.foldl (fun acc p => if 0 < p.2 then acc ++ rowS p.1 p.2 ++ ("\n" : Str) else acc) ("" : Str)
def listedS (ps : List Pack) (cs : List Int) : Str := rowsS (ps.zip cs) ++ ("total " : Str) ++ Str.ofString (toString (totalP ps cs))
def spTotal : Sp := fun vs H Q _ => ∃ (v : V) (b : Addr) (ps : List Pack) (cs : List Int), vs = [v, .ref b] ∧ PacksAt H v ps ∧ H b = some (.tup (cs.map V.int)) ∧ ps.length = cs.length ∧ ps.length ≤ 1000 ∧ (∀ p ∈ ps, FinePack p) ∧ (∀ c ∈ cs, 0 ≤ c) ∧
  ∀ H', Same H H' → Q (.int (totalP ps cs)) H'
def spStocked : Sp := fun vs H Q _ => ∃ (u v : V) (b : Addr) (lar : List Batch) (ps : List Pack) (cs : List Int), vs = [u, v, .ref b] ∧ LarderAt H u lar ∧ PacksAt H v ps ∧ H b = some (.tup (cs.map V.int)) ∧ ps.length = cs.length ∧ ps.length ≤ 1000 ∧ (∀ p ∈ ps, FinePack p) ∧ (∀ c ∈ cs, 0 ≤ c) ∧ lar.length + sumC cs ≤ 16000000 ∧
  ∀ v' H', Same H H' → LarderAt H' v' (stockL lar ps cs) → Q v' H'
def spListed : Sp := fun vs H Q _ => ∃ (v : V) (b : Addr) (ps : List Pack) (cs : List Int), vs = [v, .ref b] ∧ PacksAt H v ps ∧ H b = some (.tup (cs.map V.int)) ∧ ps.length = cs.length ∧ ps.length ≤ 60 ∧ (∀ p ∈ ps, FinePack p) ∧ (∀ c ∈ cs, 0 ≤ c ∧ c ≤ 200) ∧
  ∀ H', Same H H' → Q (.str (listedS ps cs)) H'
/-! ### lengths -/
theorem num_len {n : Int} {k : Nat} (h0 : 0 ≤ n) (hk : 0 < k) (h : n < 10 ^ k) : (Str.ofString (toString n)).length ≤ k := toString_length_le h0 hk h
theorem join_len (sep : Str) (ys : List Str) : (Txt.join sep ys).length ≤ (ys.map (·.length)).sum + ys.length * sep.length := by
  have h : (Txt.join sep ys).length = (ys.map (·.length)).sum + (ys.length - 1) * sep.length := size_glued sep ys
  rw [h]
  have := Nat.mul_le_mul_right sep.length (Nat.sub_le ys.length 1)
  omega
theorem words_len : ∀ x ∈ words, x.length ≤ 16 := by decide +kernel
theorem nameBy_len (seed k : Int) : (nameBy seed k).length ≤ 16 := by
  unfold nameBy
  split
  · rw [List.getD_eq_getElem?_getD]
    cases e : words[((seed / 6 + k) % 11).toNat]? with
    | none => exact Nat.zero_le _
    | some x => exact words_len x (List.mem_of_getElem? e)
  · have m1 := Int.emod_nonneg (seed / 6) (show (7 : Int) ≠ 0 by decide)
    have m2 := Int.emod_lt_of_pos (seed / 6) (show (0 : Int) < 7 by decide)
    have hn := nmNm_len (seed / 6) (1 + seed / 6 % 7).toNat
    simp only
    generalize nmNm (seed / 6) (1 + seed / 6 % 7).toNat = nm at *
    have hl : nm.length ≤ 7 := by omega
    split
    · rw [app_len, app_len, app_len, sg_len, sg_len]
      have a := cutS_length nm none (some (min6 (seed / 6 / 4550 % (((1 + seed / 6 % 7).toNat : Nat) : Int))))
      have b := cutS_length nm (some (min6 (seed / 6 / 4550 % (((1 + seed / 6 % 7).toNat : Nat) : Int)))) (some 6)
      omega
    · split
      · rw [app_len, sg_len]; omega
      · split
        · rw [app_len, app_len, sg_len]
          have a := cutS_length nm none (some (seed / 6 / 4550 % (((1 + seed / 6 % 7).toNat : Nat) : Int)))
          have b := cutS_length nm (some (seed / 6 / 4550 % (((1 + seed / 6 % 7).toNat : Nat) : Int) + 1)) none
          omega
        · rw [app_len, List.getD_eq_getElem?_getD]
          have hz : ∀ x ∈ [("" : Str), "", sg (nmAt (seed / 6) (1 + seed / 6 % 7).toNat), sg (nmAt (seed / 6) (1 + seed / 6 % 7).toNat + 1)], x.length ≤ 1 := fun x hx => by
            simp only [List.mem_cons, List.mem_nil_iff, or_false] at hx
            rcases hx with e | e | e | e <;> subst e
            · decide
            · decide
            · exact Nat.le_refl _
            · exact Nat.le_refl _
          cases e : ([("" : Str), "", sg (nmAt (seed / 6) (1 + seed / 6 % 7).toNat), sg (nmAt (seed / 6) (1 + seed / 6 % 7).toNat + 1)])[k.toNat]? with
          | none => show nm.length + 0 ≤ 16; omega
          | some x => have := hz x (List.mem_of_getElem? e); show nm.length + x.length ≤ 16; omega
theorem GoodPack.fine {seed : Int} {p : Pack} (g : GoodPack seed p) : FinePack p := ⟨g.size1, g.size2, g.price0, g.price2, g.last1, g.last2, by obtain ⟨k, _, e⟩ := g.name; rw [e]; exact nameBy_ok _ _, by obtain ⟨k, _, e⟩ := g.name; rw [e]; exact nameBy_len _ _⟩
/-! ### larders as data -/
def batchD (b : Batch) : PyData := .tuple [.str b.name, .int b.amount, .int b.last]
theorem dp_batch {K : PySem.W.Frag} {H : Hp} {v : V} {b : Batch} (h : BatchAt H v b) : Dp K H v (batchD b) := by
  obtain ⟨t, rfl, ht⟩ := h
  exact .tup (sqT ht) (.cons (.str _) (.cons (.int _) (.cons (.int _) .nil)))
theorem dp_held {K : PySem.W.Frag} {H : Hp} : ∀ {vs : List V} {lar : List Batch}, Held BatchAt H vs lar → DpAll K H vs (lar.map batchD)
  | [], [], _ => .nil
  | [], _ :: _, h => by have := h.len; simp at this
  | _ :: _, [], h => by have := h.len; simp at this
  | v :: vs, b :: lar, h => .cons (dp_batch (h.all 0 v b rfl rfl)) (dp_held ⟨by have := h.len; simpa using this, fun i v' x' h1 h2 => h.all (i + 1) v' x' (by simpa using h1) (by simpa using h2)⟩)
theorem dp_larder {K : PySem.W.Frag} {H : Hp} {v : V} {lar : List Batch} (h : LarderAt H v lar) : Dp K H v (.tuple (lar.map batchD)) := by
  obtain ⟨t, vs, rfl, ht, hh⟩ := h
  exact .tup (sqT ht) (dp_held hh)
theorem batch_lay {b : Batch} (h : OkS b.name) : (batchD b).canLay0 = true := by
  unfold batchD
  rw [PyData.canLay0]
  simp only [PyData.canLayAll0, h.lay]
  simp [PyData.canLay0]
theorem larder_lay : ∀ {lar : List Batch}, (∀ b ∈ lar, OkS b.name) → PyData.canLayAll0 (lar.map batchD) = true
  | [], _ => by simp [PyData.canLayAll0]
  | b :: r, h => by
    have ih := larder_lay (lar := r) fun z hz => h z (List.mem_cons_of_mem _ hz)
    rw [List.map_cons, PyData.canLayAll0, batch_lay (h b List.mem_cons_self), ih]
    rfl
theorem larder_deep : ∀ lar : List Batch, PyData.depthAll (lar.map batchD) ≤ 1
  | [] => by simp [PyData.depthAll]
  | b :: r => by
    rw [List.map_cons, PyData.depthAll]
    have := larder_deep r
    have e : (batchD b).depth = 1 := by unfold batchD; simp [PyData.depth, PyData.depthAll]
    omega
theorem larder_shaped {lar : List Batch} (h : ∀ b ∈ lar, OkS b.name) : SeqAt.shaped (.tuple (lar.map batchD)) = true := by
  have h1 := larder_lay h
  have h2 := larder_deep lar
  unfold SeqAt.shaped
  rw [PyData.canLay0, h1, PyData.depth, Bool.true_and]
  exact decide_eq_true (by omega)
theorem larder_self {lar : List Batch} (h : ∀ b ∈ lar, OkS b.name) : PyData.eqv (.tuple (lar.map batchD)) (.tuple (lar.map batchD)) = true := by
  refine SeqAt.eqv_refl _ ?_
  rw [PyData.canLay0]
  exact larder_lay h
/-! ### the rows of a list -/
theorem rowsS_snoc (zs : List (Pack × Int)) (p : Pack × Int) : rowsS (zs ++ [p]) = if 0 < p.2 then rowsS zs ++ rowS p.1 p.2 ++ ("\n" : Str) else rowsS zs := by
  unfold rowsS
  rw [List.foldl_append]; rfl
theorem stockZ_snoc (zs : List (Pack × Int)) (p : Pack × Int) : stockZ (zs ++ [p]) = stockZ zs ++ List.replicate p.2.toNat (batchOf p.1) := by
  unfold stockZ
  rw [List.flatMap_append]; simp
def totalZ (zs : List (Pack × Int)) : Int := (zs.map fun p => p.1.price * p.2).sum
theorem totalP_z (ps : List Pack) (cs : List Int) : totalP ps cs = totalZ (ps.zip cs) := rfl
theorem totalZ_snoc (zs : List (Pack × Int)) (p : Pack × Int) : totalZ (zs ++ [p]) = totalZ zs + p.1.price * p.2 := by
  unfold totalZ
  rw [List.map_append, List.sum_append]; simp
/-- a pack and its count, as the list may hold them -/
def Bit (p : Pack × Int) : Prop := FinePack p.1 ∧ 0 ≤ p.2 ∧ p.2 ≤ 200
theorem Bit.cost {p : Pack × Int} (h : Bit p) : 0 ≤ p.1.price * p.2 ∧ p.1.price * p.2 ≤ 200000000 := by
  obtain ⟨f, h0, h1⟩ := h
  have a := Int.mul_nonneg f.price0 h0
  have b := Int.mul_le_mul_of_nonneg_right f.price2 h0
  have c := Int.mul_le_mul_of_nonneg_left h1 (show (0 : Int) ≤ 1000000 by decide)
  omega
theorem totalZ_few : ∀ zs : List (Pack × Int), (∀ p ∈ zs, Bit p) → 0 ≤ totalZ zs ∧ totalZ zs ≤ zs.length * 200000000
  | [], _ => by unfold totalZ; simp
  | p :: r, h => by
    have ih := totalZ_few r fun q hq => h q (List.mem_cons_of_mem _ hq)
    have c := (h p List.mem_cons_self).cost
    unfold totalZ at ih ⊢
    rw [List.map_cons, List.sum_cons, List.length_cons]
    push_cast
    omega
theorem rowS_len {p : Pack × Int} (h : Bit p) : (rowS p.1 p.2).length ≤ 40 := by
  have c := h.cost
  obtain ⟨f, h0, h1⟩ := h
  have j := join_len " " [Str.ofString (toString p.2), p.1.name, Str.ofString (toString p.1.size), Str.ofString (toString (p.1.price * p.2))]
  have a1 := num_len (k := 3) h0 (by decide) (by omega)
  have a2 := f.few
  have f1 := f.size1
  have f2 := f.size2
  have a3 := num_len (n := p.1.size) (k := 3) (by omega) (by decide) (by omega)
  have a4 := num_len (k := 9) c.1 (by decide) (by omega)
  have a5 : (" " : Str).length = 1 := rfl
  unfold rowS
  simp only [List.map_cons, List.map_nil, List.sum_cons, List.sum_nil, List.length_cons, List.length_nil, a5] at j
  omega
theorem snocRec {α : Type} {P : List α → Prop} (h0 : P []) (h1 : ∀ r p, P r → P (r ++ [p])) : ∀ xs, P xs := fun xs => by
  have : ∀ n, ∀ ys : List α, ys.length = n → P ys := by
    intro n
    induction n with
    | zero => intro ys h; rw [List.length_eq_zero_iff.mp h]; exact h0
    | succ n ih =>
      intro ys h
      have hne : ys ≠ [] := by intro z; rw [z] at h; cases h
      rw [← List.dropLast_concat_getLast hne]
      exact h1 _ _ (ih _ (by rw [List.length_dropLast, h]; rfl))
  exact this _ xs rfl
theorem rowsS_len : ∀ (zs : List (Pack × Int)), (∀ p ∈ zs, Bit p) → (rowsS zs).length ≤ zs.length * 41 := by
  refine snocRec (fun _ => Nat.zero_le _) (fun r p ih h => ?_)
  · skip
    have i := ih fun q hq => h q (List.mem_append_left _ hq)
    have l := rowS_len (h p (List.mem_append_right _ (List.mem_singleton.mpr rfl)))
    rw [rowsS_snoc, List.length_append]
    split
    · rw [app_len, app_len]
      have : ("\n" : Str).length = 1 := rfl
      simp only [List.length_cons, List.length_nil]
      omega
    · simp only [List.length_cons, List.length_nil]
      omega
theorem log_small {i : Int} (h0 : 0 ≤ i) (h : i < 18446744073709551616) : i.natAbs.log2 < 1920 := by
  by_cases z : i.natAbs = 0
  · rw [z]; decide
  · exact (Nat.log2_lt z).mpr (Nat.lt_of_lt_of_le (show i.natAbs < 2 ^ 64 by omega) (Nat.pow_le_pow_right (by decide) (by decide)))
theorem sumC_few (m : Nat) : ∀ cs : List Int, (∀ c ∈ cs, c ≤ m) → sumC cs ≤ cs.length * m
  | [], _ => Nat.zero_le _
  | c :: r, h => by
    have ih := sumC_few m r fun q hq => h q (List.mem_cons_of_mem _ hq)
    have c := h c List.mem_cons_self
    unfold sumC at ih ⊢
    rw [List.map_cons, List.sum_cons, List.length_cons, Nat.succ_mul]
    omega
end Lar
namespace Lar
open PySem PySem.Spec PyProof.Rows L2
/-! ### the plain cooking -/
abbrev Goes (lar : List Batch) (left : List Int) (nm : Str) (day : Int) (k : Nat) : Prop := (lar.getD k bz).name = nm ∧ day ≤ (lar.getD k bz).last ∧ 0 < left.getD k 0
def later (lar : List Batch) (k : Nat) : Option Nat → Option Nat
  | none => some k
  | some j => if (lar.getD k bz).last < (lar.getD j bz).last then some k else some j
def nextStep (lar : List Batch) (left : List Int) (nm : Str) (day : Int) (f : Option Nat) (k : Nat) : Option Nat := if Goes lar left nm day k then later lar k f else f
def nextK (lar : List Batch) (left : List Int) (nm : Str) (day : Int) : Option Nat := (List.range lar.length).foldl (nextStep lar left nm day) none
def mnI (i j : Int) : Int := if j < i then j else i
def metF (lar : List Batch) (nm : Str) (day : Int) : Nat → List Int → Int → List Use → Option (List Use × List Int)
  | 0, left, _, ps => some (ps, left)
  | n + 1, left, amt, ps =>
    if 0 < amt then
      match nextK lar left nm day with
      | none => none
      | some k => metF lar nm day n (left.set k (left.getD k 0 - mnI amt (left.getD k 0))) (amt - mnI amt (left.getD k 0)) (ps ++ [(k, mnI amt (left.getD k 0))])
    else some (ps, left)
def bindE {S T : Type} (x : Except Str S) (f : S → Except Str T) : Except Str T := match x with
  | Except.error e => Except.error e
  | Except.ok s => f s
def foldE {α S : Type} (f : α → S → Except Str S) : List α → S → Except Str S
  | [], s => Except.ok s
  | x :: r, s => bindE (f x s) (foldE f r)
section
variable {α S : Type} {f : α → S → Except Str S}
theorem foldE_app : ∀ (xs ys : List α) (s : S), foldE f (xs ++ ys) s = bindE (foldE f xs s) (foldE f ys)
  | [], _, _ => rfl
  | x :: r, ys, s => by
    show bindE (f x s) (foldE f (r ++ ys)) = bindE (bindE (f x s) (foldE f r)) (foldE f ys)
    cases f x s with
    | error e => rfl
    | ok s' => exact foldE_app r ys s'
theorem foldE_snoc {xs : List α} {x : α} {s s' s2 : S} (h : foldE f xs s = Except.ok s') (h2 : f x s' = Except.ok s2) : foldE f (xs ++ [x]) s = Except.ok s2 := by
  rw [foldE_app, h]
  show bindE (f x s') (foldE f []) = _
  rw [h2]; rfl
theorem foldE_err {xs : List α} {i : Nat} {x : α} {s s' : S} {e : Str} (h : foldE f (xs.take i) s = Except.ok s') (hx : xs[i]? = some x) (h2 : f x s' = Except.error e) : foldE f xs s = Except.error e := by
  obtain ⟨hi, ex⟩ := List.getElem?_eq_some_iff.mp hx
  have : xs = xs.take i ++ (x :: xs.drop (i + 1)) := by
    rw [← ex, List.getElem_cons_drop, List.take_append_drop]
  rw [this, foldE_app, h]
  show bindE (f x s') _ = _
  rw [h2]; rfl
theorem foldE_take {xs : List α} {i : Nat} {x : α} {s s' s2 : S} (h : foldE f (xs.take i) s = Except.ok s') (hx : xs[i]? = some x) (h2 : f x s' = Except.ok s2) : foldE f (xs.take (i + 1)) s = Except.ok s2 := by
  rw [take_succ' hx]
  exact foldE_snoc h h2
end
abbrev dz : Dish := (0, [])
def needF (lar : List Batch) (day : Int) (x : Need) (s : List Use × List Int) : Except Str (List Use × List Int) :=
  match metF lar x.1 day x.2.toNat s.2 x.2 [] with
  | none => Except.error x.1
  | some (qs, left) => Except.ok (s.1 ++ qs, left)
abbrev CkS := List (List Use) × List Int
def dishF (lar : List Batch) (ds : List Dish) (day : Int) (k : Nat) (s : CkS) : Except Str CkS :=
  if (ds.getD k dz).1 = day then bindE (foldE (needF lar day) (ds.getD k dz).2 (s.1.getD k [], s.2)) fun r => Except.ok (s.1.set k r.1, r.2) else Except.ok s
def dayF (lar : List Batch) (ds : List Dish) (d : Nat) (s : CkS) : Except Str CkS := foldE (dishF lar ds (1 + (d : Nat))) (List.range ds.length) s
def cookE (ds : List Dish) (lar : List Batch) : Except Str CkS := foldE (dayF lar ds) (List.range 7) (List.replicate ds.length [], lar.map (·.amount))
def cookedM (ds : List Dish) (lar : List Batch) : Except Str (List (List Use)) := bindE (cookE ds lar) fun s => Except.ok s.1
/-! ### the batch to go first -/
section
variable {lar : List Batch} {left : List Int} {nm : Str} {day : Int}
theorem next_upto : ∀ n : Nat, match (List.range n).foldl (nextStep lar left nm day) none with
    | none => ∀ k, k < n → ¬ Goes lar left nm day k
    | some j => j < n ∧ Goes lar left nm day j ∧ ∀ k, k < n → Goes lar left nm day k → (lar.getD j bz).last ≤ (lar.getD k bz).last
  | 0 => fun k h => absurd h (Nat.not_lt_zero _)
  | n + 1 => by
    have ih := next_upto n
    rw [List.range_succ, List.foldl_append]
    show match nextStep lar left nm day ((List.range n).foldl (nextStep lar left nm day) none) n with | none => _ | some j => _
    cases e : (List.range n).foldl (nextStep lar left nm day) none with
    | none =>
      rw [e] at ih
      unfold nextStep
      by_cases g : Goes lar left nm day n
      · rw [if_pos g]
        refine ⟨Nat.lt_succ_self _, g, fun k hk gk => ?_⟩
        by_cases z : k = n
        · subst z; omega
        · exact absurd gk (ih k (by omega))
      · rw [if_neg g]
        intro k hk
        by_cases z : k = n
        · subst z; exact g
        · exact ih k (by omega)
    | some j =>
      rw [e] at ih
      obtain ⟨h1, h2, h3⟩ := ih
      unfold nextStep
      by_cases g : Goes lar left nm day n
      · rw [if_pos g]
        by_cases l : (lar.getD n bz).last < (lar.getD j bz).last
        · show match (if (lar.getD n bz).last < (lar.getD j bz).last then some n else some j : Option Nat) with | none => _ | some j => _
          rw [if_pos l]
          refine ⟨Nat.lt_succ_self _, g, fun k hk gk => ?_⟩
          by_cases z : k = n
          · subst z; omega
          · have := h3 k (by omega) gk; omega
        · show match (if (lar.getD n bz).last < (lar.getD j bz).last then some n else some j : Option Nat) with | none => _ | some j => _
          rw [if_neg l]
          refine ⟨by omega, h2, fun k hk gk => ?_⟩
          by_cases z : k = n
          · subst z; omega
          · exact h3 k (by omega) gk
      · rw [if_neg g]
        refine ⟨by omega, h2, fun k hk gk => ?_⟩
        by_cases z : k = n
        · subst z; exact absurd gk g
        · exact h3 k (by omega) gk
theorem next_none (h : nextK lar left nm day = none) : ∀ k, k < lar.length → ¬ Goes lar left nm day k := by
  have := next_upto (lar := lar) (left := left) (nm := nm) (day := day) lar.length
  unfold nextK at h
  rw [h] at this
  exact this
theorem next_some {j : Nat} (h : nextK lar left nm day = some j) : j < lar.length ∧ Goes lar left nm day j ∧ ∀ k, k < lar.length → Goes lar left nm day k → (lar.getD j bz).last ≤ (lar.getD k bz).last := by
  have := next_upto (lar := lar) (left := left) (nm := nm) (day := day) lar.length
  unfold nextK at h
  rw [h] at this
  exact this
end
theorem Held.set {α : Type} {R : Hp → V → α → Prop} {H : Hp} {vs : List V} {xs : List α} {k : Nat} {v : V} {x : α} (h : Held R H vs xs) (r : R H v x) : Held R H (vs.set k v) (xs.set k x) := by
  refine ⟨by rw [List.length_set, List.length_set, h.len], fun i v' x' hv hx => ?_⟩
  rw [List.getElem?_set] at hv hx
  by_cases e : k = i
  · rw [if_pos e] at hv hx
    split at hv
    · split at hx
      · cases hv; cases hx; exact r
      · cases hx
    · cases hv
  · rw [if_neg e] at hv hx
    exact h.all i v' x' hv hx
theorem cat_any {K : PySem.W.Frag} {H : Hp} {Q : VK} {a b : Addr} {xs ys : List V} (ha : H a = some (.tup xs)) (hb : H b = some (.tup ys)) (hz : xs.length + ys.length ≤ sizeLine) (h : ∀ p H', Same H H' → H' p = some (.tup (xs ++ ys)) → Q (.ref p) H') : rCatA K (.ref a) (.ref b) H Q := by
  refine ⟨a, b, xs, ys, rfl, rfl, sqT ha, sqT hb, hz, fun e => ?_, fun _ e => ?_, fun _ _ p hp => ?_⟩
  · subst e
    exact h b H (Same.refl _) hb
  · subst e
    exact h a H (Same.refl _) (by rw [List.append_nil]; exact ha)
  · exact h p _ (same_upd hp) upd_same
theorem Held.append {α : Type} {R : Hp → V → α → Prop} {H : Hp} {vs ws : List V} {xs ys : List α} (h : Held R H vs xs) (g : Held R H ws ys) : Held R H (vs ++ ws) (xs ++ ys) := by
  refine ⟨by rw [List.length_append, List.length_append, h.len, g.len], fun i v x hv hx => ?_⟩
  by_cases hi : i < vs.length
  · rw [List.getElem?_append_left hi] at hv
    rw [List.getElem?_append_left (by rw [← h.len]; exact hi)] at hx
    exact h.all i _ _ hv hx
  · rw [List.getElem?_append_right (by omega)] at hv
    rw [List.getElem?_append_right (by have := h.len; omega), ← h.len] at hx
    exact g.all _ _ _ hv hx
theorem set_getD {α : Type} {xs : List α} {k : Nat} {d : α} (h : k < xs.length) : xs.set k (xs.getD k d) = xs := by
  rw [List.getD_eq_getElem?_getD, List.getElem?_eq_getElem h, Option.getD_some, List.set_getElem_self]
theorem range_take_ix {n i : Nat} (h : i < n) : (List.range n)[i]? = some i := by rw [List.getElem?_range h]
end Lar
namespace Lar
open PySem PySem.Spec PyProof.Rows L2
/-- isinstance(e, c), e the exception that the suite holds, with its dict -/
def rIsED (K : PySem.W.Frag) (D a : Addr) (cls : Value) (d : Option Addr) : List V → Hp → VK → Prop := fun xs H Q => ∃ (c : V) (cv : Value) (b : Bool) (dd : Addr) (fs : List (Str × V)), xs = [.ref a, c] ∧ cls = .ref D ∧ (∀ u, RelV c u → u = cv) ∧ PySem.W.kitOne K (.ref D) cv = some b ∧ d = some dd ∧ H dd = some (.xd fs) ∧ Q (.bl b) H
theorem call_isED {X : Cx} {a D : Addr} {oe : Obj} {cls : Value} {d : Option Addr} {pn : List (Addr × Obj)} (C : ExcC X.K D) (hz : Zc cls d oe) (hf : ∃ vs, oe.data = .fields vs) : CallR (X.suite a ((a, oe) :: pn)) (.builtin "isinstance") (rIsED X.K D a cls d) := by
  intro pins s σ H xs us Q I r h
  obtain ⟨c, cv, b, dd, fs, rfl, rfl, hcv, e, rfl, ed, q⟩ := h
  cases r with
  | cons rx rr =>
    cases rr with
    | cons rt rr =>
      cases rr
      cases rx
      have ec := hcv _ rt
      subst ec
      obtain ⟨hget, _⟩ := I.pin (a, oe) (List.mem_append.mpr (.inl List.mem_cons_self))
      obtain ⟨vs, hv⟩ := hf
      have hx : ObjOk X.prog X.w H s.heap dd (.xd fs) := I.hok dd _ ed
      obtain ⟨mA, hns, _⟩ := hx
      obtain ⟨od, ho, _⟩ := lookIn_ns hns
      have J : PySem.W.InstAt s.heap a oe D (some od) := ⟨hget, hz.1, by unfold PySem.W.notCls; rw [hv] <;> rfl, by rw [hz.2]; exact ho⟩
      have hcl : (PySem.W.clsIn X.K D).isSome = true := by
        have hd := C.hd
        unfold PySem.W.hasDictIn at hd
        cases hc : PySem.W.clsIn X.K D with
        | none => rw [hc] at hd; cases hd
        | some cd => rfl
      exact PySem.W.kia_one (PySem.W.kitx_exc hcl C.hg C.hk C.hs C.ha C.hn C.ht C.hm) I.kIn J e (fun z => nomatch z) fun tk => ⟨.bl b, H, I.kept (t' := tk) fun _ _ z => z, rfl, q⟩
/-- a def that may raise, as it is called -/
structure ClbX (P : Program) (w : World) (K : PySem.W.Frag) (mg : Str → Option Value) (base : Heap) (k : Nat) (x : Str) (ps : List Str) (sp : Sp) : Prop where
  ex : ∃ f fd, FnOk P w K mg base (L2.CX P w) k f fd ps sp ∧ mg x = some (.ref f) ∧ PySem.W.keepIn K (.ref f) = true ∧ Binds K fd ps []
/-- called in a try -/
theorem pe_calS {X : Cx} {k : Nat} {x : Str} {ps : List Str} {sp : Sp} {e : Expr} {es : List Expr} {t : TA} {p pos : Pos} {W : WX} (C : ClbX X.prog X.w X.K X.mg X.base k x ps sp) (hr : Room k X.A) (tk : Takes X W) (ha : PA X (e :: es) t) (hg : Gl X x := by rfl)
    (hdb : (x == ("__debug__" : Str)) = false := by decide) (he : starEach (e :: es) X.env = (false, eval e X.env) :: starEach es X.env := by rfl) (hpl : (backTo pos (starEach es X.env)).any (·.1) = false := by rfl) :
    PE X (.Call (.Name x p) (e :: es) [] pos) (tCallS sp (WE W) t) := by
  obtain ⟨f, fd, F, hm, hk, hb⟩ := C.ex
  exact pe_callS F hr hg hm hk hb (fun σ => passAt tk σ) ha hdb he hpl
/-- what the written part says of the program's errors -/
structure ErrAt (K : PySem.W.Frag) (mg : Str → Option Value) (L S T : Addr) : Prop where
  gL : mg "LarderError" = some (.ref L)
  gS : mg "Short" = some (.ref S)
  gT : mg "TooMuch" = some (.ref T)
  eS : ExcC K S
  eT : ExcC K T
  xS : XfC K S
  xT : XfC K T
  nS : PySem.W.findIn K (.ref S) "word" = some none
  nT : PySem.W.findIn K (.ref T) "word" = some none
  mS : PySem.W.exmOne K (.ref S) (.ref L) = some true
  mT : PySem.W.exmOne K (.ref T) (.ref L) = some true
  sT : PySem.W.kitOne K (.ref S) (.ref T) = some false
  sS : PySem.W.kitOne K (.ref S) (.ref S) = some true
  sV : PySem.W.kitOne K (.ref S) (.type "ValueError") = some true
  tT : PySem.W.kitOne K (.ref T) (.ref T) = some true
  tS : PySem.W.kitOne K (.ref T) (.ref S) = some false
  tV : PySem.W.kitOne K (.ref T) (.type "ValueError") = some true
/-- the program's cooking: what the plain one gives, or Short -/
def spCooked (S : Addr) : Sp := fun vs H Q E => ∃ (u v : V) (ds : List Dish) (lar : List Batch), vs = [u, v] ∧ DishesAt H u ds ∧ LarderAt H v lar ∧ ds.length ≤ 1000 ∧ (∀ d ∈ ds, d.2.length ≤ 20 ∧ 1 ≤ d.1 ∧ d.1 ≤ 7 ∧ ∀ x ∈ d.2, 1 ≤ x.2 ∧ x.2 ≤ 200) ∧ lar.length ≤ 16000000 ∧ (∀ b ∈ lar, 1 ≤ b.amount ∧ b.amount ≤ 200 ∧ 1 ≤ b.last) ∧
  ∀ H', Same H H' → (∀ nm d, cookedM ds lar = Except.error nm → H d = none → H' d = some (.xd [("word", .str nm)]) → E (.ref S) (some d) H') ∧
    (∀ us v', cookedM ds lar = Except.ok us → UsesAt H' v' us → us.length = ds.length → (∀ ps ∈ us, ps.length ≤ 100000) → Q v' H')
/-! ### uses as data -/
def useD (x : Use) : PyData := .tuple [.int (x.1 : Int), .int x.2]
def pairsD (ps : List Use) : PyData := .tuple (ps.map useD)
def usesD (us : List (List Use)) : PyData := .tuple (us.map pairsD)
theorem dp_all {α : Type} {K : PySem.W.Frag} {H : Hp} {R : Hp → V → α → Prop} {f : α → PyData} (h : ∀ v x, R H v x → Dp K H v (f x)) : ∀ {vs : List V} {xs : List α}, Held R H vs xs → DpAll K H vs (xs.map f)
  | [], [], _ => .nil
  | [], _ :: _, g => by have := g.len; simp at this
  | _ :: _, [], g => by have := g.len; simp at this
  | v :: vs, b :: lar, g => .cons (h v b (g.all 0 v b rfl rfl)) (dp_all h ⟨by have := g.len; simpa using this, fun i v' x' h1 h2 => g.all (i + 1) v' x' (by simpa using h1) (by simpa using h2)⟩)
theorem dp_use {K : PySem.W.Frag} {H : Hp} (v : V) (x : Use) (h : UseAt H v x) : Dp K H v (useD x) := by
  obtain ⟨t, rfl, ht⟩ := h
  exact .tup (sqT ht) (.cons (.int _) (.cons (.int _) .nil))
theorem dp_pairs {K : PySem.W.Frag} {H : Hp} (v : V) (ps : List Use) (h : PairsAt H v ps) : Dp K H v (pairsD ps) := by
  obtain ⟨t, vs, rfl, ht, hh⟩ := h
  exact .tup (sqT ht) (dp_all dp_use hh)
theorem dp_uses {K : PySem.W.Frag} {H : Hp} (v : V) (us : List (List Use)) (h : UsesAt H v us) : Dp K H v (usesD us) := by
  obtain ⟨t, vs, rfl, ht, hh⟩ := h
  exact .tup (sqT ht) (dp_all dp_pairs hh)
theorem lay_all {α : Type} {f : α → PyData} (h : ∀ x, (f x).canLay0 = true) : ∀ xs : List α, PyData.canLayAll0 (xs.map f) = true
  | [] => by simp [PyData.canLayAll0]
  | x :: r => by rw [List.map_cons, PyData.canLayAll0, h x, lay_all h r]; rfl
theorem deep_all {α : Type} {f : α → PyData} {n : Nat} (h : ∀ x, (f x).depth ≤ n) : ∀ xs : List α, PyData.depthAll (xs.map f) ≤ n
  | [] => by simp [PyData.depthAll]
  | x :: r => by
    rw [List.map_cons, PyData.depthAll]
    have := deep_all h r
    have := h x
    omega
theorem useD_lay (x : Use) : (useD x).canLay0 = true := by unfold useD; simp [PyData.canLay0, PyData.canLayAll0]
theorem useD_deep (x : Use) : (useD x).depth ≤ 1 := by unfold useD; simp [PyData.depth, PyData.depthAll]
theorem pairsD_lay (ps : List Use) : (pairsD ps).canLay0 = true := by unfold pairsD; rw [PyData.canLay0]; exact lay_all useD_lay ps
theorem pairsD_deep (ps : List Use) : (pairsD ps).depth ≤ 2 := by unfold pairsD; rw [PyData.depth]; have := deep_all useD_deep ps; omega
theorem usesD_lay (us : List (List Use)) : (usesD us).canLay0 = true := by unfold usesD; rw [PyData.canLay0]; exact lay_all pairsD_lay us
theorem usesD_shaped (us : List (List Use)) : SeqAt.shaped (usesD us) = true := by
  have h1 := usesD_lay us
  unfold SeqAt.shaped
  rw [h1, Bool.true_and]
  refine decide_eq_true ?_
  unfold usesD
  rw [PyData.depth]
  have := deep_all pairsD_deep us
  omega
theorem usesD_self (us : List (List Use)) : PyData.eqv (usesD us) (usesD us) = true := SeqAt.eqv_refl _ (usesD_lay us)
/-! ### whose name a refusal tells -/
theorem foldE_errs {α S : Type} {f : α → S → Except Str S} {e : Str} : ∀ (xs : List α) (s : S), foldE f xs s = Except.error e → ∃ x ∈ xs, ∃ s', f x s' = Except.error e
  | [], s, h => by cases h
  | x :: r, s, h => by
    cases hf : f x s with
    | error e' =>
      have h' : bindE (f x s) (foldE f r) = Except.error e := h
      rw [hf] at h'
      exact ⟨x, List.mem_cons_self, s, by rw [hf]; exact h'⟩
    | ok s' =>
      have h' : bindE (f x s) (foldE f r) = Except.error e := h
      rw [hf] at h'
      obtain ⟨y, hy, z⟩ := foldE_errs r s' h'
      exact ⟨y, List.mem_cons_of_mem _ hy, z⟩
theorem cooked_name {ds : List Dish} {lar : List Batch} {nm : Str} (h : cookedM ds lar = Except.error nm) : ∃ d ∈ ds, ∃ x ∈ d.2, x.1 = nm := by
  have h1 : cookE ds lar = Except.error nm := by
    unfold cookedM at h
    cases e : cookE ds lar with
    | error e' =>
      rw [e] at h
      have h' : (Except.error e' : Except Str (List (List Use))) = Except.error nm := h
      rw [Except.error.inj h']
    | ok s => rw [e] at h; cases h
  obtain ⟨i, _, s1, h2⟩ := foldE_errs _ _ h1
  obtain ⟨k, hk, s2, h3⟩ := foldE_errs _ _ h2
  have hkd := List.mem_range.mp hk
  unfold dishF at h3
  split at h3
  · have h4 : foldE (needF lar (1 + (i : Nat))) (ds.getD k dz).2 (s2.1.getD k [], s2.2) = Except.error nm := by
      cases e : foldE (needF lar (1 + (i : Nat))) (ds.getD k dz).2 (s2.1.getD k [], s2.2) with
      | error e' =>
        rw [e] at h3
        have h' : (Except.error e' : Except Str CkS) = Except.error nm := h3
        rw [Except.error.inj h']
      | ok s => rw [e] at h3; cases h3
    obtain ⟨x, hx, s3, h5⟩ := foldE_errs _ _ h4
    refine ⟨ds.getD k dz, ix_mem (at_getD hkd dz), x, hx, ?_⟩
    unfold needF at h5
    split at h5
    · cases h5; rfl
    · cases h5
  · cases h3
end Lar
namespace Lar
open PySem PySem.Spec PyProof.Rows L2
/-! ### sums over places -/
def sumR (n : Nat) (f : Nat → Int) : Int := ((List.range n).map f).sum
theorem sumR_succ (n : Nat) (f : Nat → Int) : sumR (n + 1) f = sumR n f + f n := by
  unfold sumR
  rw [List.range_succ, List.map_append, List.sum_append]; simp
theorem sumR_congr {f g : Nat → Int} : ∀ {n : Nat}, (∀ j, j < n → f j = g j) → sumR n f = sumR n g
  | 0, _ => rfl
  | n + 1, h => by rw [sumR_succ, sumR_succ, sumR_congr fun j hj => h j (by omega), h n (by omega)]
theorem sumR_upd {f g : Nat → Int} {k : Nat} : ∀ {n : Nat}, k < n → (∀ j, j < n → j ≠ k → f j = g j) → sumR n g = sumR n f + (g k - f k)
  | 0, h, _ => absurd h (Nat.not_lt_zero _)
  | n + 1, h, e => by
    rw [sumR_succ, sumR_succ]
    by_cases z : k = n
    · subst z
      rw [sumR_congr fun j hj => (e j (by omega) (by omega)).symm]
      omega
    · rw [sumR_upd (n := n) (by omega) fun j hj => e j (by omega), e n (by omega) (by omega)]
      omega
theorem sumR_zero {f : Nat → Int} {n : Nat} (h : ∀ j, j < n → f j = 0) : sumR n f = 0 := by
  rw [sumR_congr (g := fun _ => 0) h]
  induction n with
  | zero => rfl
  | succ n ih => rw [sumR_succ, ih fun j hj => h j (by omega)]; rfl
theorem sumR_nonneg {f : Nat → Int} : ∀ {n : Nat}, (∀ j, j < n → 0 ≤ f j) → 0 ≤ sumR n f
  | 0, _ => Int.le_refl _
  | n + 1, h => by
    rw [sumR_succ]
    have := sumR_nonneg (n := n) fun j hj => h j (by omega)
    have := h n (by omega)
    omega
/-! ### what is left of a name that keeps to a day -/
def leftTo (lar : List Batch) (left : List Int) (nm : Str) (d : Int) : Int := sumR lar.length fun k => if (lar.getD k bz).name = nm ∧ d ≤ (lar.getD k bz).last then left.getD k 0 else 0
section
variable {lar : List Batch} {left : List Int} {nm : Str} {day : Int}
theorem getD_set_self {xs : List Int} {k : Nat} {z : Int} (h : k < xs.length) : (xs.set k z).getD k 0 = z := by
  rw [List.getD_eq_getElem?_getD, List.getElem?_set_self h]; rfl
theorem getD_set_ne {xs : List Int} {k j : Nat} {z : Int} (h : j ≠ k) : (xs.set k z).getD j 0 = xs.getD j 0 := by
  rw [List.getD_eq_getElem?_getD, List.getD_eq_getElem?_getD, List.getElem?_set_ne (fun e => h e.symm)]
theorem leftTo_take {k : Nat} {s : Int} (hl : left.length = lar.length) (hk : k < lar.length) (nm : Str) (d : Int) :
    leftTo lar (left.set k (left.getD k 0 - s)) nm d = leftTo lar left nm d - if (lar.getD k bz).name = nm ∧ d ≤ (lar.getD k bz).last then s else 0 := by
  unfold leftTo
  rw [sumR_upd (k := k) (f := fun j => if (lar.getD j bz).name = nm ∧ d ≤ (lar.getD j bz).last then left.getD j 0 else 0) hk fun j _ hj => by
    show _ = if _ then (left.set k (left.getD k 0 - s)).getD j 0 else 0
    rw [getD_set_ne hj]]
  simp only [getD_set_self (show k < left.length by omega)]
  by_cases c : (lar.getD k bz).name = nm ∧ d ≤ (lar.getD k bz).last
  · rw [if_pos c, if_pos c, if_pos c]; omega
  · rw [if_neg c, if_neg c, if_neg c]; omega
/-- where no batch can go, nothing is left -/
theorem leftTo_none (hn : ∀ x ∈ left, 0 ≤ x) (hl : left.length = lar.length) (h : nextK lar left nm day = none) : leftTo lar left nm day = 0 := by
  refine sumR_zero fun k hk => ?_
  by_cases c : (lar.getD k bz).name = nm ∧ day ≤ (lar.getD k bz).last
  · rw [if_pos c]
    have := next_none h k hk
    have hp : ¬ 0 < left.getD k 0 := fun z => this ⟨c.1, c.2, z⟩
    have := hn _ (ix_mem (at_getD (show k < left.length by omega) 0))
    omega
  · rw [if_neg c]
/-- up to the first batch's last day as much is left as at the day -/
theorem leftTo_first {k : Nat} (hn : ∀ x ∈ left, 0 ≤ x) (hl : left.length = lar.length) (h : nextK lar left nm day = some k) {d : Int} (h1 : day ≤ d) (h2 : d ≤ (lar.getD k bz).last) : leftTo lar left nm d = leftTo lar left nm day := by
  obtain ⟨hk, _, hmin⟩ := next_some h
  refine sumR_congr fun j hj => ?_
  by_cases c : (lar.getD j bz).name = nm ∧ day ≤ (lar.getD j bz).last
  · rw [if_pos c]
    by_cases p : 0 < left.getD j 0
    · have := hmin j hj ⟨c.1, c.2, p⟩
      rw [if_pos ⟨c.1, by omega⟩]
    · have := hn _ (ix_mem (at_getD (show j < left.length by omega) 0))
      have z : left.getD j 0 = 0 := by omega
      rw [z]
      split <;> rfl
  · rw [if_neg c, if_neg (fun z => c ⟨z.1, by omega⟩)]
/-- what a need leaves of each name -/
structure After (lar : List Batch) (nm : Str) (day amt : Int) (left left' : List Int) : Prop where
  len : left'.length = left.length
  nn : ∀ x ∈ left', 0 ≤ x
  other : ∀ nm' d, nm' ≠ nm → leftTo lar left' nm' d = leftTo lar left nm' d
  here : ∀ d, d ≤ day → leftTo lar left' nm d = leftTo lar left nm d - amt
  behind : ∀ d, day < d → leftTo lar left' nm d ≤ leftTo lar left nm d ∧ (leftTo lar left nm d ≤ leftTo lar left' nm d ∨ leftTo lar left' nm day ≤ leftTo lar left' nm d)
theorem met_after : ∀ (n : Nat) (left : List Int) (amt : Int) (ps : List Use), left.length = lar.length → (∀ x ∈ left, 0 ≤ x) → 0 ≤ amt → amt.toNat ≤ n →
    match metF lar nm day n left amt ps with
    | none => leftTo lar left nm day < amt
    | some r => After lar nm day amt left r.2 := by
  intro n
  induction n with
  | zero =>
    intro left amt ps hl hn h0 hm
    have : amt = 0 := by omega
    subst this
    exact ⟨rfl, hn, fun _ _ _ => rfl, fun d _ => (Int.sub_zero _).symm, fun d _ => ⟨Int.le_refl _, .inl (Int.le_refl _)⟩⟩
  | succ n ih =>
    intro left amt ps hl hn h0 hm
    unfold metF
    by_cases e : 0 < amt
    · rw [if_pos e]
      cases hx : nextK lar left nm day with
      | none =>
        show leftTo lar left nm day < amt
        rw [leftTo_none hn hl hx]
        exact e
      | some k =>
        obtain ⟨hk, ⟨g1, g2, g3⟩, _⟩ := next_some hx
        show match metF lar nm day n (left.set k (left.getD k 0 - mnI amt (left.getD k 0))) (amt - mnI amt (left.getD k 0)) (ps ++ [(k, mnI amt (left.getD k 0))]) with | none => _ | some r => _
        have hs : 1 ≤ mnI amt (left.getD k 0) ∧ mnI amt (left.getD k 0) ≤ amt ∧ mnI amt (left.getD k 0) ≤ left.getD k 0 := by unfold mnI; split <;> omega
        generalize mnI amt (left.getD k 0) = s at *
        have hl' : (left.set k (left.getD k 0 - s)).length = lar.length := by rw [List.length_set]; exact hl
        have hn' := nn_set (cs := left) (k := k) (z := left.getD k 0 - s) hn (by omega)
        have tk := leftTo_take (s := s) hl hk
        have := ih (left.set k (left.getD k 0 - s)) (amt - s) (ps ++ [(k, s)]) hl' hn' (by omega) (by omega)
        cases hM : metF lar nm day n (left.set k (left.getD k 0 - s)) (amt - s) (ps ++ [(k, s)]) with
        | none =>
          rw [hM] at this
          replace this : leftTo lar (left.set k (left.getD k 0 - s)) nm day < amt - s := this
          rw [tk nm day, if_pos ⟨g1, g2⟩] at this
          show leftTo lar left nm day < amt
          omega
        | some r =>
          rw [hM] at this
          replace this : After lar nm day (amt - s) (left.set k (left.getD k 0 - s)) r.2 := this
          refine ⟨by rw [this.len, List.length_set], this.nn, fun nm' d ne => ?_, fun d hd => ?_, fun d hd => ?_⟩
          · rw [this.other nm' d ne, tk nm' d, if_neg (fun z => ne (z.1.symm.trans g1))]; omega
          · rw [this.here d hd, tk nm d, if_pos ⟨g1, by omega⟩]; omega
          · have b := this.behind d hd
            rw [tk nm d] at b
            have hh := this.here day (Int.le_refl _)
            by_cases c : d ≤ (lar.getD k bz).last
            · rw [if_pos ⟨g1, c⟩] at b
              have f := leftTo_first hn hl hx (Int.le_of_lt hd) c
              rw [tk nm day, if_pos ⟨g1, g2⟩] at hh
              refine ⟨by omega, ?_⟩
              rcases b.2 with b2 | b2
              · right; omega
              · right; exact b2
            · rw [if_neg (fun z => c z.2)] at b
              refine ⟨by omega, ?_⟩
              rcases b.2 with b2 | b2
              · left; omega
              · right; exact b2
    · rw [if_neg e]
      have : amt = 0 := by omega
      subst this
      exact ⟨rfl, hn, fun _ _ _ => rfl, fun d _ => (Int.sub_zero _).symm, fun d _ => ⟨Int.le_refl _, .inl (Int.le_refl _)⟩⟩
end
end Lar
namespace Lar
open PySem PySem.Spec PyProof.Rows L2
/-! ### the needs in their order, one list -/
abbrev Task := Int × Str × Int
def taskF (lar : List Batch) (t : Task) (left : List Int) : Except Str (List Int) :=
  match metF lar t.2.1 t.1 t.2.2.toNat left t.2.2 [] with
  | none => Except.error t.2.1
  | some r => Except.ok r.2
def needT (ts : List Task) (nm : Str) (d : Int) : Int := (ts.map fun t => if t.2.1 = nm ∧ d ≤ t.1 then t.2.2 else 0).sum
theorem needT_cons (t : Task) (r : List Task) (nm : Str) (d : Int) : needT (t :: r) nm d = (if t.2.1 = nm ∧ d ≤ t.1 then t.2.2 else 0) + needT r nm d := by
  unfold needT
  rw [List.map_cons, List.sum_cons]
theorem needT_app (xs ys : List Task) (nm : Str) (d : Int) : needT (xs ++ ys) nm d = needT xs nm d + needT ys nm d := by
  unfold needT
  rw [List.map_append, List.sum_append]
theorem needT_mono {nm : Str} {d d' : Int} (h : d ≤ d') : ∀ ts : List Task, (∀ t ∈ ts, 0 ≤ t.2.2) → 0 ≤ needT ts nm d' ∧ needT ts nm d' ≤ needT ts nm d
  | [], _ => ⟨Int.le_refl _, Int.le_refl _⟩
  | t :: r, hn => by
    have ih := needT_mono (nm := nm) h r fun x hx => hn x (List.mem_cons_of_mem _ hx)
    have h0 := hn t List.mem_cons_self
    rw [needT_cons, needT_cons]
    by_cases c : t.2.1 = nm ∧ d' ≤ t.1
    · rw [if_pos c, if_pos ⟨c.1, by omega⟩]; omega
    · rw [if_neg c]; split <;> omega
section
variable {lar : List Batch}
theorem task_after {t : Task} {left : List Int} (hl : left.length = lar.length) (hn : ∀ x ∈ left, 0 ≤ x) (h0 : 0 ≤ t.2.2) :
    match taskF lar t left with
    | Except.error e => e = t.2.1 ∧ leftTo lar left t.2.1 t.1 < t.2.2
    | Except.ok left' => After lar t.2.1 t.1 t.2.2 left left' := by
  have := met_after (lar := lar) (nm := t.2.1) (day := t.1) t.2.2.toNat left t.2.2 [] hl hn h0 (Nat.le_refl _)
  unfold taskF
  cases e : metF lar t.2.1 t.1 t.2.2.toNat left t.2.2 [] with
  | none => rw [e] at this; exact ⟨rfl, this⟩
  | some r => rw [e] at this; exact this
theorem run_ok : ∀ (ts : List Task) (left left' : List Int), left.length = lar.length → (∀ x ∈ left, 0 ≤ x) → (∀ t ∈ ts, 0 ≤ t.2.2) → foldE (taskF lar) ts left = Except.ok left' → ∀ nm d, needT ts nm d ≤ leftTo lar left nm d
  | [], left, _, hl, hn, _, _, nm, d => by
    show (0 : Int) ≤ _
    refine sumR_nonneg fun k hk => ?_
    split
    · exact hn _ (ix_mem (at_getD (by omega) 0))
    · exact Int.le_refl _
  | t :: r, left, left', hl, hn, h0, h, nm, d => by
    have A := task_after (t := t) hl hn (h0 t List.mem_cons_self)
    have h' : bindE (taskF lar t left) (foldE (taskF lar) r) = Except.ok left' := h
    cases e : taskF lar t left with
    | error e' => rw [e] at h'; cases h'
    | ok left1 =>
      rw [e] at h' A
      replace A : After lar t.2.1 t.1 t.2.2 left left1 := A
      have ih := run_ok r left1 left' (by rw [A.len]; exact hl) A.nn (fun x hx => h0 x (List.mem_cons_of_mem _ hx)) h' nm d
      rw [needT_cons]
      by_cases c : t.2.1 = nm
      · by_cases l : d ≤ t.1
        · rw [if_pos ⟨c, l⟩]
          have := A.here d l
          rw [c] at this
          omega
        · rw [if_neg (fun z => l z.2)]
          have := (A.behind d (by omega)).1
          rw [c] at this
          omega
      · rw [if_neg (fun z => c z.1)]
        have := A.other nm d (fun z => c z.symm)
        omega
theorem run_err {nm : Str} : ∀ (ts : List Task) (left : List Int), left.length = lar.length → (∀ x ∈ left, 0 ≤ x) → (∀ t ∈ ts, 0 ≤ t.2.2) → (∀ d, needT ts nm d ≤ leftTo lar left nm d) → foldE (taskF lar) ts left ≠ Except.error nm
  | [], _, _, _, _, _ => fun h => by cases h
  | t :: r, left, hl, hn, h0, hI => fun h => by
    have A := task_after (t := t) hl hn (h0 t List.mem_cons_self)
    have h' : bindE (taskF lar t left) (foldE (taskF lar) r) = Except.error nm := h
    have hr0 : ∀ x ∈ r, 0 ≤ x.2.2 := fun x hx => h0 x (List.mem_cons_of_mem _ hx)
    cases e : taskF lar t left with
    | error e' =>
      rw [e] at h' A
      have e2 : e' = nm := Except.error.inj h'
      obtain ⟨a1, a2⟩ := A
      subst e2
      have := hI t.1
      rw [needT_cons, if_pos ⟨a1.symm, Int.le_refl _⟩, a1] at this
      have := (needT_mono (nm := t.2.1) (Int.le_refl t.1) r hr0).1
      omega
    | ok left1 =>
      rw [e] at h' A
      replace A : After lar t.2.1 t.1 t.2.2 left left1 := A
      refine run_err r left1 (by rw [A.len]; exact hl) A.nn hr0 (fun d => ?_) h'
      have hd := hI d
      rw [needT_cons] at hd
      by_cases c : t.2.1 = nm
      · have low : ∀ d', d' ≤ t.1 → needT r nm d' ≤ leftTo lar left1 nm d' := fun d' l => by
          have hd' := hI d'
          rw [needT_cons, if_pos ⟨c, l⟩] at hd'
          have := A.here d' l
          rw [c] at this
          omega
        by_cases l : d ≤ t.1
        · exact low d l
        · rw [if_neg (fun z => l z.2)] at hd
          have b := (A.behind d (by omega)).2
          rw [c] at b
          rcases b with b | b
          · omega
          · have := low t.1 (Int.le_refl _)
            have := (needT_mono (nm := nm) (show t.1 ≤ d by omega) r hr0).2
            omega
      · rw [if_neg (fun z => c z.1)] at hd
        have := A.other nm d (fun z => c z.symm)
        omega
/-! ### the cooking runs through that list -/
theorem foldE_sim {α β S T : Type} {f : α → S → Except Str S} {g : β → T → Except Str T} {π : S → T} {h : α → List β} (H : ∀ x s, bindE (f x s) (fun s' => Except.ok (π s')) = foldE g (h x) (π s)) :
    ∀ (xs : List α) (s : S), bindE (foldE f xs s) (fun s' => Except.ok (π s')) = foldE g (xs.flatMap h) (π s)
  | [], _ => rfl
  | x :: r, s => by
    show bindE (bindE (f x s) (foldE f r)) _ = _
    rw [List.flatMap_cons, foldE_app, ← H x s]
    cases f x s with
    | error e => rfl
    | ok s' => exact foldE_sim H r s'
def tasksK (ds : List Dish) (i k : Nat) : List Task := if (ds.getD k dz).1 = 1 + (i : Nat) then (ds.getD k dz).2.map fun x => ((1 + (i : Nat) : Int), x.1, x.2) else []
def tasks (ds : List Dish) : List Task := (List.range 7).flatMap fun i => (List.range ds.length).flatMap fun k => tasksK ds i k
theorem flatMap_one {α β : Type} (f : α → β) : ∀ xs : List α, xs.flatMap (fun x => [f x]) = xs.map f
  | [] => rfl
  | x :: r => by rw [List.flatMap_cons, flatMap_one f r]; rfl
theorem need_sim (day : Int) (x : Need) (s : List Use × List Int) : bindE (needF lar day x s) (fun s' => Except.ok s'.2) = foldE (taskF lar) [(day, x.1, x.2)] s.2 := by
  show _ = bindE (taskF lar (day, x.1, x.2) s.2) (foldE (taskF lar) [])
  unfold needF taskF
  cases metF lar x.1 day x.2.toNat s.2 x.2 [] with
  | none => rfl
  | some r => rfl
theorem dish_sim (ds : List Dish) (i k : Nat) (s : CkS) : bindE (dishF lar ds (1 + (i : Nat)) k s) (fun s' => Except.ok s'.2) = foldE (taskF lar) (tasksK ds i k) s.2 := by
  unfold dishF tasksK
  by_cases c : (ds.getD k dz).1 = 1 + (i : Nat)
  · rw [if_pos c, if_pos c]
    have := foldE_sim (h := fun x : Need => [((1 + (i : Nat) : Int), x.1, x.2)]) (need_sim (lar := lar) (1 + (i : Nat))) (ds.getD k dz).2 (s.1.getD k [], s.2)
    have e : (ds.getD k dz).2.flatMap (fun x : Need => [((1 + (i : Nat) : Int), x.1, x.2)]) = (ds.getD k dz).2.map fun x => ((1 + (i : Nat) : Int), x.1, x.2) := flatMap_one _ _
    rw [e] at this
    rw [← this]
    cases foldE (needF lar (1 + (i : Nat))) (ds.getD k dz).2 (s.1.getD k [], s.2) with
    | error e => rfl
    | ok r => rfl
  · rw [if_neg c, if_neg c]; rfl
theorem cook_sim (ds : List Dish) (lar : List Batch) : bindE (cookE ds lar) (fun s' => Except.ok s'.2) = foldE (taskF lar) (tasks ds) (lar.map (·.amount)) :=
  foldE_sim (fun i s => foldE_sim (dish_sim ds i) (List.range ds.length) s) (List.range 7) _
end
end Lar
namespace Lar
open PySem PySem.Spec PyProof.Rows L2
theorem needT_flat {α : Type} {h : α → List Task} {nm : Str} {d : Int} : ∀ xs : List α, needT (xs.flatMap h) nm d = (xs.map fun x => needT (h x) nm d).sum
  | [] => rfl
  | x :: r => by rw [List.flatMap_cons, needT_app, needT_flat r, List.map_cons, List.sum_cons]
theorem needT_one (day : Int) (nm : Str) (d : Int) : ∀ ns : List Need, needT (ns.map fun x => (day, x.1, x.2)) nm d = if d ≤ day then (ns.filterMap fun x => if x.1 = nm then some x.2 else none).sum else 0
  | [] => by unfold needT; simp
  | x :: r => by
    rw [List.map_cons, needT_cons, needT_one day nm d r]
    by_cases e : d ≤ day
    · rw [if_pos e, if_pos e]
      by_cases c : x.1 = nm
      · rw [if_pos ⟨c, e⟩]
        simp only [List.filterMap_cons, if_pos c, List.sum_cons]
      · rw [if_neg (fun z => c z.1)]
        simp only [List.filterMap_cons, if_neg c]
        omega
    · rw [if_neg e, if_neg e, if_neg (fun z => e z.2)]; rfl
theorem sumR_add (f g : Nat → Int) : ∀ n : Nat, sumR n f + sumR n g = sumR n fun k => f k + g k
  | 0 => rfl
  | n + 1 => by rw [sumR_succ, sumR_succ, sumR_succ, ← sumR_add f g n]; omega
theorem map_getD {α β : Type} (f : α → β) (z : α) (xs : List α) : xs.map f = (List.range xs.length).map fun k => f (xs.getD k z) := by
  refine List.ext_getElem (by simp) fun i h1 h2 => ?_
  have hi : i < xs.length := by simpa using h1
  rw [List.getElem_map, List.getElem_map, List.getElem_range, List.getD_eq_getElem?_getD, List.getElem?_eq_getElem hi]; rfl
theorem tasks_need (ds : List Dish) (hd : ∀ x ∈ ds, 1 ≤ x.1 ∧ x.1 ≤ 7) (nm : Str) (d : Int) : needT (tasks ds) nm d = needFrom ds nm d := by
  unfold tasks
  rw [needT_flat]
  have one : ∀ i k : Nat, needT (tasksK ds i k) nm d = if (ds.getD k dz).1 = 1 + (i : Nat) then (if d ≤ 1 + (i : Nat) then needOf (ds.getD k dz) nm else 0) else 0 := fun i k => by
    unfold tasksK
    by_cases c : (ds.getD k dz).1 = 1 + (i : Nat)
    · rw [if_pos c, if_pos c, needT_one]; rfl
    · rw [if_neg c, if_neg c]; rfl
  have day : ∀ i : Nat, needT ((List.range ds.length).flatMap fun k => tasksK ds i k) nm d = sumR ds.length fun k => if (ds.getD k dz).1 = 1 + (i : Nat) then (if d ≤ 1 + (i : Nat) then needOf (ds.getD k dz) nm else 0) else 0 := fun i => by
    rw [needT_flat]
    exact sumR_congr fun k _ => one i k
  have e7 : ((List.range 7).map fun i => needT ((List.range ds.length).flatMap fun k => tasksK ds i k) nm d).sum = sumR ds.length fun k => if d ≤ (ds.getD k dz).1 then needOf (ds.getD k dz) nm else 0 := by
    rw [seven (fun i => needT ((List.range ds.length).flatMap fun k => tasksK ds i k) nm d)]
    simp only [List.sum_cons, List.sum_nil, day, Int.add_zero]
    rw [sumR_add, sumR_add, sumR_add, sumR_add, sumR_add, sumR_add]
    refine sumR_congr fun k hk => ?_
    have b := hd _ (ix_mem (at_getD hk dz))
    generalize (ds.getD k dz) = x at *
    have : x.1 = 1 ∨ x.1 = 2 ∨ x.1 = 3 ∨ x.1 = 4 ∨ x.1 = 5 ∨ x.1 = 6 ∨ x.1 = 7 := by omega
    rcases this with e | e | e | e | e | e | e <;> rw [e] <;> simp
  rw [e7]
  unfold needFrom sumR
  rw [map_getD (fun x : Dish => if d ≤ x.1 then needOf x nm else 0) dz ds]
theorem left_kept (lar : List Batch) (nm : Str) (d : Int) : leftTo lar (lar.map (·.amount)) nm d = keptTo lar nm d := by
  unfold leftTo keptTo sumR
  rw [map_getD (fun b : Batch => if b.name = nm ∧ d ≤ b.last then b.amount else 0) bz lar]
  congr 1
  apply List.map_congr_left
  intro k hk
  have hk' := List.mem_range.mp hk
  have : (lar.map (·.amount)).getD k 0 = (lar.getD k bz).amount := by
    rw [List.getD_eq_getElem?_getD, List.getD_eq_getElem?_getD, List.getElem?_map, List.getElem?_eq_getElem hk']; rfl
  rw [this]
theorem tasks_nn {ds : List Dish} (h : ∀ x ∈ ds, ∀ y ∈ x.2, 0 ≤ y.2) : ∀ t ∈ tasks ds, 0 ≤ t.2.2 := fun t ht => by
  unfold tasks at ht
  obtain ⟨i, _, h1⟩ := List.mem_flatMap.mp ht
  obtain ⟨k, hk, h2⟩ := List.mem_flatMap.mp h1
  unfold tasksK at h2
  split at h2
  · obtain ⟨y, hy, rfl⟩ := List.mem_map.mp h2
    exact h _ (ix_mem (at_getD (List.mem_range.mp hk) dz)) y hy
  · cases h2
section
variable {ds : List Dish} {lar : List Batch}
theorem left0_nn (h : ∀ b ∈ lar, 0 ≤ b.amount) : ∀ x ∈ lar.map (·.amount), 0 ≤ x := fun x hx => by
  obtain ⟨b, hb, rfl⟩ := List.mem_map.mp hx
  exact h b hb
/-- cooked: of each name no more is needed from a day on than is kept to it -/
theorem cook_ok (hd : ∀ x ∈ ds, 1 ≤ x.1 ∧ x.1 ≤ 7) (hn : ∀ x ∈ ds, ∀ y ∈ x.2, 0 ≤ y.2) (hb : ∀ b ∈ lar, 0 ≤ b.amount) {us : List (List Use)} (h : cookedM ds lar = Except.ok us) (nm : Str) (d : Int) : needFrom ds nm d ≤ keptTo lar nm d := by
  rw [← tasks_need ds hd, ← left_kept]
  have e := cook_sim ds lar
  cases ec : cookE ds lar with
  | error x => unfold cookedM at h; rw [ec] at h; cases h
  | ok s =>
    rw [ec] at e
    exact run_ok (tasks ds) _ _ (by simp) (left0_nn hb) (tasks_nn hn) e.symm nm d
/-- refused: of the name told more is needed from some day on than is kept to it -/
theorem cook_err (hd : ∀ x ∈ ds, 1 ≤ x.1 ∧ x.1 ≤ 7) (hn : ∀ x ∈ ds, ∀ y ∈ x.2, 0 ≤ y.2) (hb : ∀ b ∈ lar, 0 ≤ b.amount) {nm : Str} (h : cookedM ds lar = Except.error nm) : ∃ d, keptTo lar nm d < needFrom ds nm d := by
  have e := cook_sim ds lar
  cases ec : cookE ds lar with
  | ok s => unfold cookedM at h; rw [ec] at h; cases h
  | error x =>
    have hx : x = nm := by
      unfold cookedM at h
      rw [ec] at h
      have h' : (Except.error x : Except Str (List (List Use))) = Except.error nm := h
      exact Except.error.inj h'
    subst hx
    rw [ec] at e
    by_cases z : ∀ d, needT (tasks ds) x d ≤ leftTo lar (lar.map (·.amount)) x d
    · exact absurd e.symm (run_err (tasks ds) _ (by simp) (left0_nn hb) (tasks_nn hn) z)
    · have ⟨d, hz⟩ := Classical.not_forall.mp z
      refine ⟨d, ?_⟩
      rw [← tasks_need ds hd, ← left_kept]
      omega
/-- .. from some day of the week on -/
theorem cook_err7 (hd : ∀ x ∈ ds, 1 ≤ x.1 ∧ x.1 ≤ 7) (hn : ∀ x ∈ ds, ∀ y ∈ x.2, 0 ≤ y.2) (hb : ∀ b ∈ lar, 0 ≤ b.amount ∧ 1 ≤ b.last) {nm : Str} (h : cookedM ds lar = Except.error nm) : ∃ e : Nat, 1 ≤ e ∧ e ≤ 7 ∧ keptTo lar nm e < needFrom ds nm e := by
  obtain ⟨d, h1⟩ := cook_err hd hn (fun b hb' => (hb b hb').1) h
  by_cases l : d < 1
  · refine ⟨1, by decide, by decide, ?_⟩
    have e1 : keptTo lar nm ((1 : Nat) : Int) = keptTo lar nm d := by
      unfold keptTo
      congr 1
      apply List.map_congr_left
      intro b hb'
      have := (hb b hb').2
      by_cases c : b.name = nm
      · rw [if_pos ⟨c, by show (1 : Int) ≤ _; omega⟩, if_pos ⟨c, by omega⟩]
      · rw [if_neg (fun z => c z.1), if_neg (fun z => c z.1)]
    have e2 : needFrom ds nm ((1 : Nat) : Int) = needFrom ds nm d := by
      unfold needFrom
      congr 1
      apply List.map_congr_left
      intro x hx
      have := (hd x hx).1
      rw [if_pos (show ((1 : Nat) : Int) ≤ x.1 by omega), if_pos (by omega)]
    rw [e1, e2]
    exact h1
  · by_cases g : 7 < d
    · exfalso
      have e2 : needFrom ds nm d = 0 := by
        unfold needFrom
        have : ds.map (fun x => if d ≤ x.1 then needOf x nm else 0) = ds.map fun _ => 0 := List.map_congr_left fun x hx => by
          have := (hd x hx).2
          rw [if_neg (by omega)]
        rw [this]
        clear this h1 h hd hn
        induction ds with
        | nil => rfl
        | cons x r ih => rw [List.map_cons, List.sum_cons, ih]; rfl
      have e1 : 0 ≤ keptTo lar nm d := by
        rw [← left_kept]
        refine sumR_nonneg fun k hk => ?_
        split
        · exact left0_nn (fun b hb' => (hb b hb').1) _ (ix_mem (at_getD (by simpa using hk) 0))
        · exact Int.le_refl _
      omega
    · refine ⟨d.toNat, by omega, by omega, ?_⟩
      have : ((d.toNat : Nat) : Int) = d := by omega
      rw [this]
      exact h1
end
end Lar
namespace Lar
open PySem PySem.Spec PyProof.Rows L2
/-! ### the packs of a name, as offers -/
abbrev pz : Pack := ⟨"", 0, 0, 0⟩
def offerOf (p : Pack) : Offer := ⟨p.size, p.price, p.last⟩
def ofK (ps : List Pack) (nm : Str) : List Nat := (List.range ps.length).filterMap fun k => if (ps.getD k pz).name = nm then some k else none
def offersOf (ps : List Pack) (nm : Str) : List Offer := (ofK ps nm).map fun k => offerOf (ps.getD k pz)
def countsOf (cs : List Int) (ks : List Nat) : List Int := ks.map fun k => cs.getD k 0
theorem of_mem {ps : List Pack} {nm : Str} {k : Nat} (h : k ∈ ofK ps nm) : k < ps.length ∧ (ps.getD k pz).name = nm := by
  obtain ⟨j, hj, e⟩ := List.mem_filterMap.mp h
  split at e
  · rename_i hd
    cases e
    exact ⟨List.mem_range.mp hj, hd⟩
  · cases e
theorem offer_good {p : Pack} (h : FinePack p) : GoodOffer (offerOf p) := ⟨h.size1, h.size2, h.price0, h.price2, h.last1, h.last2⟩
theorem offers_good {ps : List Pack} (h : ∀ p ∈ ps, FinePack p) (nm : Str) : ∀ o ∈ offersOf ps nm, GoodOffer o := fun o ho => by
  obtain ⟨k, hk, rfl⟩ := List.mem_map.mp ho
  exact offer_good (h _ (ix_mem (at_getD (of_mem hk).1 pz)))
theorem counts_nn {cs : List Int} (h : ∀ c ∈ cs, 0 ≤ c) (ks : List Nat) : ∀ c ∈ countsOf cs ks, 0 ≤ c := fun c hc => by
  obtain ⟨k, _, rfl⟩ := List.mem_map.mp hc
  by_cases l : k < cs.length
  · exact h _ (ix_mem (at_getD l 0))
  · rw [List.getD_eq_getElem?_getD, List.getElem?_eq_none (by omega)]; exact Int.le_refl _
theorem keptTo_app (xs ys : List Batch) (nm : Str) (d : Int) : keptTo (xs ++ ys) nm d = keptTo xs nm d + keptTo ys nm d := by
  unfold keptTo
  rw [List.map_append, List.sum_append]
theorem keptTo_rep (b : Batch) (nm : Str) (d : Int) : ∀ n : Nat, keptTo (List.replicate n b) nm d = if b.name = nm ∧ d ≤ b.last then b.amount * n else 0
  | 0 => by unfold keptTo; simp
  | n + 1 => by
    have ih := keptTo_rep b nm d n
    unfold keptTo at ih ⊢
    rw [List.replicate_succ, List.map_cons, List.sum_cons, ih]
    split
    · rw [Int.natCast_succ, Int.mul_add]; omega
    · rfl
theorem zipP_range (ps : List Pack) (cs : List Int) (h : ps.length = cs.length) : ps.zip cs = (List.range ps.length).map fun k => (ps.getD k pz, cs.getD k 0) := by
  refine List.ext_getElem (by rw [zip_len h]; simp) fun i h1 h2 => ?_
  have hi : i < ps.length := by rw [zip_len h] at h1; exact h1
  rw [List.getElem_zip, List.getElem_map, List.getElem_range]
  rw [List.getD_eq_getElem?_getD, List.getD_eq_getElem?_getD, List.getElem?_eq_getElem hi, List.getElem?_eq_getElem (by omega)]; rfl
theorem kept_stockZ (nm : Str) (d : Int) : ∀ zs : List (Pack × Int), (∀ p ∈ zs, 0 ≤ p.2) → keptTo (stockZ zs) nm d = (zs.map fun p => if p.1.name = nm ∧ d ≤ p.1.last then p.1.size * p.2 else 0).sum
  | [], _ => rfl
  | p :: r, h => by
    have ih := kept_stockZ nm d r fun q hq => h q (List.mem_cons_of_mem _ hq)
    have h0 := h p List.mem_cons_self
    have e : stockZ (p :: r) = List.replicate p.2.toNat (batchOf p.1) ++ stockZ r := by unfold stockZ; rw [List.flatMap_cons]
    rw [e, keptTo_app, keptTo_rep, ih, List.map_cons, List.sum_cons]
    have e2 : ((p.2.toNat : Nat) : Int) = p.2 := by omega
    rw [e2]; rfl
theorem zip_map2 {α β γ : Type} (f : α → β) (g : α → γ) : ∀ xs : List α, (xs.map f).zip (xs.map g) = xs.map fun x => (f x, g x)
  | [] => rfl
  | x :: r => by rw [List.map_cons, List.map_cons, List.zip_cons_cons, zip_map2 f g r, List.map_cons]
theorem held_of (ps : List Pack) (cs : List Int) (h : ps.length = cs.length) (hn : ∀ c ∈ cs, 0 ≤ c) (nm : Str) (d : Int) : keptTo (stockZ (ps.zip cs)) nm d = heldOn (offersOf ps nm) (countsOf cs (ofK ps nm)) d := by
  rw [kept_stockZ nm d _ fun p hp => hn _ (List.of_mem_zip hp).2]
  unfold heldOn heldZ offersOf countsOf
  rw [zip_map2, List.map_map]
  unfold ofK
  rw [sum_fm, zipP_range ps cs h, List.map_map]
  congr 1
  apply List.map_congr_left
  intro k _
  show (if (ps.getD k pz).name = nm ∧ d ≤ (ps.getD k pz).last then (ps.getD k pz).size * cs.getD k 0 else 0) = if (ps.getD k pz).name = nm then (if d ≤ (ps.getD k pz).last then (ps.getD k pz).size * cs.getD k 0 else 0) else 0
  by_cases c : (ps.getD k pz).name = nm
  · rw [if_pos c]
    by_cases l : d ≤ (ps.getD k pz).last
    · rw [if_pos l, if_pos ⟨c, l⟩]
    · rw [if_neg l, if_neg (fun z => l z.2)]
  · rw [if_neg c, if_neg (fun z => c z.1)]
theorem kept_stockL (lar : List Batch) (ps : List Pack) (cs : List Int) (h : ps.length = cs.length) (hn : ∀ c ∈ cs, 0 ≤ c) (nm : Str) (d : Int) : keptTo (stockL lar ps cs) nm d = keptTo lar nm d + heldOn (offersOf ps nm) (countsOf cs (ofK ps nm)) d := by
  unfold stockL
  rw [keptTo_app, held_of ps cs h hn]
/-! ### what lacks is served where enough is kept with what is bought -/
theorem lackW_len (ds : List Dish) (lar : List Batch) (nm : Str) : (lackW ds lar nm).length = 7 := by unfold lackW; simp
theorem lackW_at (ds : List Dish) (lar : List Batch) (nm : Str) {i : Nat} (hi : i < 7) : (lackW ds lar nm).getD i 0 = lackDay ds lar nm (1 + (i : Nat)) := by
  unfold lackW
  rw [List.getD_eq_getElem?_getD, List.getElem?_map, List.getElem?_range hi]; rfl
theorem lackW_nn (ds : List Dish) (lar : List Batch) (nm : Str) : ∀ x ∈ lackW ds lar nm, 0 ≤ x := fun x hx => by
  obtain ⟨i, _, rfl⟩ := List.mem_map.mp hx
  unfold lackDay mx0
  split <;> omega
theorem served_iff (ds : List Dish) (lar : List Batch) (ps : List Pack) (cs : List Int) (h : ps.length = cs.length) (hp : ∀ p ∈ ps, FinePack p) (hn : ∀ c ∈ cs, 0 ≤ c) (nm : Str) :
    servesB (offersOf ps nm) (countsOf cs (ofK ps nm)) (lackW ds lar nm) = true ↔ ∀ e : Nat, 1 ≤ e → e ≤ 7 → needFrom ds nm e ≤ keptTo (stockL lar ps cs) nm e := by
  have held0 : ∀ d : Int, 0 ≤ heldOn (offersOf ps nm) (countsOf cs (ofK ps nm)) d := fun d => by
    rw [heldOn_w]
    exact wsum_nonneg _ _ _ (fun o ho => onto_nonneg (offers_good hp nm o ho) _) (counts_nn hn _)
  unfold servesB
  rw [List.all_eq_true]
  constructor
  · intro H e h1 h7
    have := of_decide_eq_true (H (e - 1) (List.mem_range.mpr (by omega)))
    rw [lackW_at ds lar nm (by omega)] at this
    have e2 : (1 : Int) + ((e - 1 : Nat) : Int) = (e : Int) := by omega
    rw [e2] at this
    rw [kept_stockL lar ps cs h hn]
    unfold lackDay mx0 at this
    split at this
    · omega
    · have := held0 e; omega
  · intro H i hi
    have hi7 := List.mem_range.mp hi
    have := H (i + 1) (by omega) (by omega)
    rw [kept_stockL lar ps cs h hn] at this
    have e2 : (1 : Int) + (i : Int) = ((i + 1 : Nat) : Int) := by omega
    refine decide_eq_true ?_
    rw [lackW_at ds lar nm hi7, e2]
    have := held0 ((i + 1 : Nat) : Int)
    unfold lackDay mx0
    split <;> omega
/-- cooking with what is bought is refused just where something lacks; the name told is one of these -/
theorem whole_err {ds : List Dish} {lar : List Batch} {ps : List Pack} {cs : List Int} (h : ps.length = cs.length) (hp : ∀ p ∈ ps, FinePack p) (hn : ∀ c ∈ cs, 0 ≤ c) (hd : ∀ x ∈ ds, 1 ≤ x.1 ∧ x.1 ≤ 7) (hx : ∀ x ∈ ds, ∀ y ∈ x.2, 0 ≤ y.2) (hb : ∀ b ∈ lar, 0 ≤ b.amount ∧ 1 ≤ b.last)
    {nm : Str} (hc : cookedM ds (stockL lar ps cs) = Except.error nm) : servesB (offersOf ps nm) (countsOf cs (ofK ps nm)) (lackW ds lar nm) = false := by
  have hb' : ∀ b ∈ stockL lar ps cs, 0 ≤ b.amount ∧ 1 ≤ b.last := fun b hbm => by
    rcases List.mem_append.mp hbm with z | z
    · exact hb b z
    · obtain ⟨p, hpm, hr⟩ := List.mem_flatMap.mp z
      rw [(List.mem_replicate.mp hr).2]
      have f := hp _ (List.of_mem_zip hpm).1
      exact ⟨by have := f.size1; show 0 ≤ p.1.size; omega, f.last1⟩
  obtain ⟨e, h1, h7, hl⟩ := cook_err7 hd hx hb' hc
  cases hs : servesB (offersOf ps nm) (countsOf cs (ofK ps nm)) (lackW ds lar nm) with
  | false => rfl
  | true =>
    have := (served_iff ds lar ps cs h hp hn nm).mp hs e h1 h7
    omega
theorem whole_ok {ds : List Dish} {lar : List Batch} {ps : List Pack} {cs : List Int} (h : ps.length = cs.length) (hp : ∀ p ∈ ps, FinePack p) (hn : ∀ c ∈ cs, 0 ≤ c) (hd : ∀ x ∈ ds, 1 ≤ x.1 ∧ x.1 ≤ 7) (hx : ∀ x ∈ ds, ∀ y ∈ x.2, 0 ≤ y.2) (hb : ∀ b ∈ lar, 0 ≤ b.amount)
    {us : List (List Use)} (hc : cookedM ds (stockL lar ps cs) = Except.ok us) (nm : Str) : servesB (offersOf ps nm) (countsOf cs (ofK ps nm)) (lackW ds lar nm) = true := by
  have hb' : ∀ b ∈ stockL lar ps cs, 0 ≤ b.amount := fun b hbm => by
    rcases List.mem_append.mp hbm with z | z
    · exact hb b z
    · obtain ⟨p, hpm, hr⟩ := List.mem_flatMap.mp z
      rw [(List.mem_replicate.mp hr).2]
      have f := hp _ (List.of_mem_zip hpm).1
      have := f.size1
      show 0 ≤ p.1.size
      omega
  exact (served_iff ds lar ps cs h hp hn nm).mpr fun e _ _ => cook_ok hd hx hb' hc nm e
/-! ### slices and sums of tuples, whichever object it is -/
theorem slA_of {K : PySem.W.Frag} {H : Hp} {Q : VK} {a : Addr} {xs : List V} {lo hi : Option Int} (ha : H a = some (.tup xs)) (h : ∀ p H', Same H H' → H' p = some (.tup (cutV xs lo hi)) → Q (.ref p) H') : rSlA K (.ref a) lo hi H Q := by
  refine ⟨a, xs, rfl, sqT ha, fun z => ?_, fun _ p hp => h p _ (same_upd hp) upd_same⟩
  refine h a H (Same.refl _) ?_
  have : cutV xs lo hi = xs := by
    unfold cutV
    rw [z.1, z.2, List.drop_zero, Nat.sub_zero, List.take_length]
  rw [this]
  exact ha
theorem cutV_to (xs : List V) (i : Nat) : cutV xs none (some (i : Int)) = xs.take i := by
  unfold cutV
  rw [HT.sIx_nat, HT.sIx_none, List.drop_zero, Nat.sub_zero]
  by_cases h : i ≤ xs.length
  · rw [Nat.min_eq_left h]
  · rw [Nat.min_eq_right (by omega), List.take_length, List.take_of_length_le (by omega)]
theorem Held.take {α : Type} {R : Hp → V → α → Prop} {H : Hp} {vs : List V} {xs : List α} (h : Held R H vs xs) (n : Nat) : Held R H (vs.take n) (xs.take n) := by
  refine ⟨by rw [List.length_take, List.length_take, h.len], fun i v x hv hx => ?_⟩
  rw [List.getElem?_take] at hv hx
  split at hv
  · rename_i c
    rw [if_pos c] at hx
    exact h.all i v x hv hx
  · cases hv
theorem Held.drop {α : Type} {R : Hp → V → α → Prop} {H : Hp} {vs : List V} {xs : List α} (h : Held R H vs xs) (n : Nat) : Held R H (vs.drop n) (xs.drop n) := by
  refine ⟨by rw [List.length_drop, List.length_drop, h.len], fun i v x hv hx => ?_⟩
  rw [List.getElem?_drop] at hv hx
  exact h.all (n + i) v x hv hx
theorem needOf_nn {d : Dish} {nm : Str} (h : ∀ x ∈ d.2, 0 ≤ x.2) : 0 ≤ needOf d nm := by
  unfold needOf
  have : ∀ ns : List Need, (∀ x ∈ ns, 0 ≤ x.2) → 0 ≤ (ns.filterMap fun x => if x.1 = nm then some x.2 else none).sum := by
    intro ns
    induction ns with
    | nil => intro _; exact Int.le_refl _
    | cons x r ih =>
      intro hn
      have a := ih fun y hy => hn y (List.mem_cons_of_mem _ hy)
      have b := hn x List.mem_cons_self
      by_cases c : x.1 = nm
      · simp only [List.filterMap_cons, if_pos c, List.sum_cons]; omega
      · simp only [List.filterMap_cons, if_neg c]; exact a
  exact this d.2 h
end Lar
namespace Lar
/-! ### counts set at places, one by one -/
def setK (cs : List Int) : List (Nat × Int) → List Int
  | [] => cs
  | p :: r => setK (cs.set p.1 p.2) r
theorem setK_len : ∀ (zs : List (Nat × Int)) (cs : List Int), (setK cs zs).length = cs.length
  | [], _ => rfl
  | p :: r, cs => by
    show (setK (cs.set p.1 p.2) r).length = _
    rw [setK_len r, List.length_set]
theorem setK_snoc : ∀ (zs : List (Nat × Int)) (cs : List Int) (p : Nat × Int), setK cs (zs ++ [p]) = (setK cs zs).set p.1 p.2
  | [], _, _ => rfl
  | q :: r, cs, p => setK_snoc r (cs.set q.1 q.2) p
theorem setK_nn : ∀ (zs : List (Nat × Int)) (cs : List Int), (∀ x ∈ cs, 0 ≤ x) → (∀ p ∈ zs, 0 ≤ p.2) → ∀ x ∈ setK cs zs, 0 ≤ x
  | [], _, h, _ => h
  | p :: r, cs, h, hz => setK_nn r (cs.set p.1 p.2) (nn_set h (hz p List.mem_cons_self)) fun q hq => hz q (List.mem_cons_of_mem _ hq)
/-- elsewhere as it was -/
theorem setK_ne : ∀ (zs : List (Nat × Int)) (cs : List Int) (k : Nat), (∀ p ∈ zs, p.1 ≠ k) → (setK cs zs).getD k 0 = cs.getD k 0
  | [], _, _, _ => rfl
  | p :: r, cs, k, h => by
    show (setK (cs.set p.1 p.2) r).getD k 0 = _
    rw [setK_ne r _ k fun q hq => h q (List.mem_cons_of_mem _ hq), getD_set_ne (fun e => h p List.mem_cons_self e.symm)]
/-- at the places what is set, where no place comes twice -/
theorem setK_at : ∀ (ks : List Nat) (zs : List Int) (cs : List Int), ks.Nodup → ks.length = zs.length → (∀ k ∈ ks, k < cs.length) → countsOf (setK cs (ks.zip zs)) ks = zs
  | [], [], _, _, _, _ => rfl
  | [], _ :: _, _, _, h, _ => by simp at h
  | _ :: _, [], _, _, h, _ => by simp at h
  | k :: ks, z :: zs, cs, hn, hl, hk => by
    have hn' := List.nodup_cons.mp hn
    have ih := setK_at ks zs (cs.set k z) hn'.2 (by simpa using hl) (fun j hj => by rw [List.length_set]; exact hk j (List.mem_cons_of_mem _ hj))
    show (setK (cs.set k z) (ks.zip zs)).getD k 0 :: countsOf (setK (cs.set k z) (ks.zip zs)) ks = z :: zs
    rw [ih, setK_ne _ _ k fun p hp => fun e => hn'.1 (e ▸ (List.of_mem_zip hp).1), getD_set_self (hk k List.mem_cons_self)]
theorem sumC_set_le : ∀ (cs : List Int) (k : Nat) (z : Int), sumC (cs.set k z) ≤ sumC cs + z.toNat
  | [], _, _ => by simp
  | c :: cs, 0, z => by
    unfold sumC
    rw [List.set_cons_zero, List.map_cons, List.sum_cons, List.map_cons, List.sum_cons]
    omega
  | c :: cs, k + 1, z => by
    have ih := sumC_set_le cs k z
    unfold sumC at ih ⊢
    rw [List.set_cons_succ, List.map_cons, List.sum_cons, List.map_cons, List.sum_cons]
    omega
theorem setK_sum : ∀ (ks : List Nat) (zs : List Int) (cs : List Int), sumC (setK cs (ks.zip zs)) ≤ sumC cs + sumC zs
  | [], _, _ => by simp [setK]
  | _ :: _, [], _ => by simp [setK]
  | k :: ks, z :: zs, cs => by
    have ih := setK_sum ks zs (cs.set k z)
    have s := sumC_set_le cs k z
    have e : sumC (z :: zs) = z.toNat + sumC zs := by unfold sumC; rw [List.map_cons, List.sum_cons]
    show sumC (setK (cs.set k z) (ks.zip zs)) ≤ _
    omega
theorem of_nodup (ps : List Pack) (nm : PySem.Str) : (ofK ps nm).Nodup := by
  unfold ofK
  have : ∀ xs : List Nat, xs.Nodup → (xs.filterMap fun k => if (ps.getD k pz).name = nm then some k else none).Nodup := by
    intro xs
    induction xs with
    | nil => intro _; exact List.nodup_nil
    | cons x r ih =>
      intro h
      have h' := List.nodup_cons.mp h
      by_cases c : (ps.getD x pz).name = nm
      · simp only [List.filterMap_cons, if_pos c]
        refine List.nodup_cons.mpr ⟨fun hx => ?_, ih h'.2⟩
        obtain ⟨j, hj, e⟩ := List.mem_filterMap.mp hx
        split at e
        · cases e; exact h'.1 hj
        · cases e
      · simp only [List.filterMap_cons, if_neg c]
        exact ih h'.2
  exact this _ List.nodup_range
/-- another name's counts stay -/
theorem setK_other {ps : List Pack} {nm nm' : PySem.Str} (ne : nm' ≠ nm) (cs zs : List Int) : countsOf (setK cs ((ofK ps nm).zip zs)) (ofK ps nm') = countsOf cs (ofK ps nm') := by
  unfold countsOf
  apply List.map_congr_left
  intro k hk
  refine setK_ne _ _ k fun p hp e => ?_
  have a := (of_mem (List.of_mem_zip hp).1).2
  have b := (of_mem hk).2
  rw [e, b] at a
  exact ne a
end Lar
namespace Lar
open PySem PySem.Spec PyProof.Rows L2
/-! ### sorted of tuples, of any length -/
def rSortD {β : Type} (K : PySem.W.Frag) (b : Bool) (enc : β → PyData) (T : Hp → V → β → Prop) : List V → Hp → VK → Prop := fun vs H Q => ∃ (a : Addr) (us : List V) (bs : List β), vs = [.ref a] ∧ SqL K H a us ∧ Held T H us bs ∧ bs.length ≤ sizeLine ∧
  ∀ (p : Addr) (us' : List V), H p = none → Held T H us' (bs.mergeSort (PySem.W.dataLe b enc)) → Q (.ref p) (upd H p (.lst us'))
theorem held_cons {α : Type} {R : Hp → V → α → Prop} {H : Hp} {v : V} {vs : List V} {x : α} {xs : List α} (h : Held R H (v :: vs) (x :: xs)) : R H v x ∧ Held R H vs xs :=
  ⟨h.all 0 v x rfl rfl, by have := h.len; simpa using this, fun i v' x' h1 h2 => h.all (i + 1) v' x' (by simpa using h1) (by simpa using h2)⟩
theorem cons_held {α : Type} {R : Hp → V → α → Prop} {H : Hp} {v : V} {vs : List V} {x : α} {xs : List α} (r : R H v x) (h : Held R H vs xs) : Held R H (v :: vs) (x :: xs) := by
  refine ⟨by simp [h.len], fun i v' x' h1 h2 => ?_⟩
  cases i with
  | zero => cases h1; cases h2; exact r
  | succ i => exact h.all i v' x' (by simpa using h1) (by simpa using h2)
theorem each_of {β : Type} {T : Hp → V → β → Prop} {H : Hp} : ∀ {us : List V} {ws : List Value} {bs : List β}, Vals us ws → Held T H us bs → PySem.W.EachIs (fun u x => ∃ v, RelV v u ∧ T H v x) ws bs
  | [], _, [], r, _ => by cases r; exact .nil
  | [], _, _ :: _, _, h => by have := h.len; simp at this
  | _ :: _, _, [], _, h => by have := h.len; simp at this
  | v :: us, _, x :: bs, r, h => by
    cases r with
    | cons r1 r2 =>
      obtain ⟨h1, h2⟩ := held_cons h
      exact .cons ⟨v, r1, h1⟩ (each_of r2 h2)
theorem of_each {β : Type} {T : Hp → V → β → Prop} {H : Hp} : ∀ {ws : List Value} {bs : List β}, PySem.W.EachIs (fun u x => ∃ v, RelV v u ∧ T H v x) ws bs → ∃ us : List V, Vals us ws ∧ Held T H us bs
  | _, _, .nil => ⟨[], .nil, Held.nil⟩
  | _, _, .cons ⟨v, r, t⟩ e => by
    obtain ⟨us, h1, h2⟩ := of_each e
    exact ⟨v :: us, .cons r h1, cons_held t h2⟩
section
variable {X : Cx} {K : PySem.W.Frag} {β : Type} {enc : β → PyData} {T : Hp → V → β → Prop}
theorem sortD_end {pins : List (Addr × Obj)} {s : Shared} {σ : L2.St} {H : Hp} {Q : VK} {its : List Value} {bs : List β} {b : Bool} (I : Inv X pins σ H s) (hz : bs.length ≤ sizeLine)
    (q : ∀ (p : Addr) (us' : List V), H p = none → Held T H us' (bs.mergeSort (PySem.W.dataLe b enc)) → Q (.ref p) (upd H p (.lst us'))) (out : List Value) (hl : out.length = bs.length) (e : PySem.W.EachIs (fun u x => ∃ v, RelV v u ∧ T H v x) out (bs.mergeSort (PySem.W.dataLe b enc))) :
    EP X pins σ Q (.ref (s.heap.objs.size + 1)) { s with heap := sortedAll s.heap its (List.toArray out) } := by
  obtain ⟨us, h1, h2⟩ := of_each e
  obtain ⟨ep, he'⟩ := PyProof.Rows.sortedAll_at s.heap its (List.toArray out)
  have hlen : us.length ≤ sizeLine := by rw [h1.length, hl]; exact hz
  exact ⟨.ref _, upd H (s.heap.objs.size + 1) (.lst us), I.laid (t' := s.toks) (fun _ _ => PyProof.Rows.sortedAll_old) (Nat.le_succ _) ⟨hlen, out, ep, h1, by simpa using he'⟩, rfl, q _ _ (I.hok.fresh (Nat.le_succ _)) h2⟩
theorem kcr_sortD (K : PySem.W.Frag) (hu : X.A.units + 64 < cLine) (hal : ∀ x y, PySem.W.alike (enc x) (enc y) = true) (hs : ∀ x, ∃ z r, enc x = .tuple (z :: r)) (hd : ∀ x, (enc x).depth ≤ 4) (hdp : ∀ (H : Hp) (v : V) (x : β), T H v x → Dp K H v (enc x)) (hK : X.K = K := by rfl) : CallR X (.builtin "sorted") (rSortD K false enc T) := by
  subst hK
  intro pins s σ H vs us Q I r h
  obtain ⟨a, uvs, bs, rfl, hq, hh, hz, q⟩ := h
  obtain ⟨its, rv, hl, _⟩ := I.list hq
  rw [Vals.ref1 r]
  have e := each_of rv hh
  exact PySem.W.sorted_data (R := fun u x => ∃ v, RelV v u ∧ T H v x) (enc := enc) hl.isList e (e.mono fun u x ⟨v, r1, t1⟩ => Dp.reads I (enc x) v u (hdp H v x t1) r1) (PySem.W.AllAlike.of hal) (PySem.W.Sortable.tuples hs) hz (fun b _ => by have := hd b; omega) (sortD_end I hz q)
theorem kcr_sortRevD (K : PySem.W.Frag) (hu : X.A.units + 64 < cLine) (hal : ∀ x y, PySem.W.alike (enc x) (enc y) = true) (hs : ∀ x, ∃ z r, enc x = .tuple (z :: r)) (hd : ∀ x, (enc x).depth ≤ 4) (hdp : ∀ (H : Hp) (v : V) (x : β), T H v x → Dp K H v (enc x)) (hK : X.K = K := by rfl) :
    CallRK X (.builtin "sorted") [Str.ofString "reverse"] (fun vs zs H Q => zs = [.bl true] ∧ rSortD K true enc T vs H Q) := by
  subst hK
  intro pins s σ H vs zs us ws Q I r rz h
  obtain ⟨rfl, a, uvs, bs, rfl, hq, hh, hz, q⟩ := h
  obtain ⟨its, rv, hl, _⟩ := I.list hq
  obtain rfl := Vals.ref1 r
  obtain ⟨w1, rfl, e1⟩ := vals1 rz
  obtain rfl : w1 = Value.bool true := e1
  have e := each_of rv hh
  exact PySem.W.sorted_rev_data (R := fun u x => ∃ v, RelV v u ∧ T H v x) (enc := enc) (b := true) hl.isList e (e.mono fun u x ⟨v, r1, t1⟩ => Dp.reads I (enc x) v u (hdp H v x t1) r1) (PySem.W.AllAlike.of hal) (PySem.W.Sortable.tuples hs) hz (fun b _ => by have := hd b; omega) (sortD_end I hz q)
end
end Lar
namespace Lar
open PySem PySem.Spec PyProof.Rows L2
/-! ### the lines of batches, the first to go at the end -/
abbrev lastK (lar : List Batch) (k : Nat) : Int := (lar.getD k bz).last
abbrev nameK (lar : List Batch) (k : Nat) : Str := (lar.getD k bz).name
def Asc (lar : List Batch) (i j : Nat) : Prop := lastK lar i < lastK lar j ∨ (lastK lar i = lastK lar j ∧ i < j)
/-- line, the first to go first -/
structure Stack (lar : List Batch) (left : List Int) (nm : Str) (day : Int) (ks : List Nat) : Prop where
  asc : ks.Pairwise (Asc lar)
  ok : ∀ k ∈ ks, k < lar.length ∧ nameK lar k = nm ∧ 0 < left.getD k 0
  all : ∀ k, k < lar.length → nameK lar k = nm → 0 < left.getD k 0 → day ≤ lastK lar k → k ∈ ks
section
variable {lar : List Batch} {left : List Int} {nm : Str} {day : Int}
theorem next_first : ∀ n : Nat, ∀ j, (List.range n).foldl (nextStep lar left nm day) none = some j → ∀ k, k < n → Goes lar left nm day k → lastK lar j < lastK lar k ∨ (lastK lar j = lastK lar k ∧ j ≤ k)
  | 0 => fun j h => by cases h
  | n + 1 => fun j h k hk gk => by
    rw [List.range_succ, List.foldl_append] at h
    replace h : nextStep lar left nm day ((List.range n).foldl (nextStep lar left nm day) none) n = some j := h
    have up := next_upto (lar := lar) (left := left) (nm := nm) (day := day) n
    cases e : (List.range n).foldl (nextStep lar left nm day) none with
    | none =>
      rw [e] at h up
      unfold nextStep at h
      by_cases g : Goes lar left nm day n
      · rw [if_pos g] at h
        have ej : n = j := Option.some.inj h
        subst ej
        by_cases z : k = n
        · subst z; exact .inr ⟨rfl, Nat.le_refl _⟩
        · exact absurd gk (up k (by omega))
      · rw [if_neg g] at h
        cases h
    | some i =>
      have ih := next_first n i e
      rw [e] at h up
      unfold nextStep at h
      by_cases g : Goes lar left nm day n
      · rw [if_pos g] at h
        unfold later at h
        dsimp only at h
        by_cases l : (lar.getD n bz).last < (lar.getD i bz).last
        · rw [if_pos l] at h
          have ej : n = j := Option.some.inj h
          subst ej
          by_cases z : k = n
          · subst z; exact .inr ⟨rfl, Nat.le_refl _⟩
          · have := ih k (by omega) gk
            left
            rcases this with h1 | ⟨h1, _⟩
            · exact Int.lt_trans l h1
            · rw [← h1]; exact l
        · rw [if_neg l] at h
          have ej : i = j := Option.some.inj h
          subst ej
          by_cases z : k = n
          · subst z
            by_cases le : lastK lar i = lastK lar k
            · exact .inr ⟨le, Nat.le_of_lt up.1⟩
            · left
              have : lastK lar i ≤ lastK lar k := Int.not_lt.mp l
              omega
          · exact ih k (by omega) gk
      · rw [if_neg g] at h
        have ej : i = j := Option.some.inj h
        subst ej
        by_cases z : k = n
        · subst z; exact absurd gk g
        · exact ih k (by omega) gk
theorem next_empty (S : Stack lar left nm day []) : nextK lar left nm day = none := by
  cases e : nextK lar left nm day with
  | none => rfl
  | some j =>
    obtain ⟨h1, ⟨h2, h3, h4⟩, _⟩ := next_some e
    exact nomatch S.all j h1 h2 h4 h3
theorem next_head {k : Nat} {r : List Nat} (S : Stack lar left nm day (k :: r)) (hd : day ≤ lastK lar k) : nextK lar left nm day = some k := by
  obtain ⟨k1, k2, k3⟩ := S.ok k List.mem_cons_self
  cases e : nextK lar left nm day with
  | none => exact absurd ⟨k2, hd, k3⟩ (next_none e k k1)
  | some j =>
    obtain ⟨h1, ⟨h2, h3, h4⟩, _⟩ := next_some e
    have hf := next_first lar.length j e k k1 ⟨k2, hd, k3⟩
    rcases List.mem_cons.mp (S.all j h1 h2 h4 h3) with z | z
    · rw [z]
    · have := (List.pairwise_cons.mp S.asc).1 j z
      unfold Asc at this
      omega
theorem Stack.drop {k : Nat} {r : List Nat} (S : Stack lar left nm day (k :: r)) (hd : lastK lar k < day) : Stack lar left nm day r := by
  refine ⟨(List.pairwise_cons.mp S.asc).2, fun j hj => S.ok j (List.mem_cons_of_mem _ hj), fun j h1 h2 h3 h4 => ?_⟩
  rcases List.mem_cons.mp (S.all j h1 h2 h3 h4) with z | z
  · subst z; omega
  · exact z
theorem Stack.notin {k : Nat} {r : List Nat} (S : Stack lar left nm day (k :: r)) : k ∉ r := fun z => by
  have := (List.pairwise_cons.mp S.asc).1 k z
  unfold Asc at this
  omega
theorem Stack.len {ks : List Nat} (S : Stack lar left nm day ks) : ks.length ≤ lar.length := by
  have hn : ks.Nodup := S.asc.imp fun {a b} h z => by subst z; unfold Asc at h; omega
  have := L2.nat_nodup_len ks (List.range lar.length) hn fun k hk => List.mem_range.mpr (S.ok k hk).1
  rwa [List.length_range] at this
/-- some of the first is used -/
theorem Stack.some {k : Nat} {r : List Nat} (S : Stack lar left nm day (k :: r)) (hl : left.length = lar.length) {z : Int} (hz : 0 < z) : Stack lar (left.set k z) nm day (k :: r) := by
  have k1 := (S.ok k List.mem_cons_self).1
  have at_ : ∀ j, (left.set k z).getD j 0 = if j = k then z else left.getD j 0 := fun j => by
    by_cases e : j = k
    · subst e; rw [if_pos rfl, getD_set_self (by omega)]
    · rw [if_neg e, getD_set_ne e]
  refine ⟨S.asc, fun j hj => ?_, fun j h1 h2 h3 h4 => ?_⟩
  · obtain ⟨a, b, c⟩ := S.ok j hj
    refine ⟨a, b, ?_⟩
    rw [at_]
    split
    · exact hz
    · exact c
  · by_cases e : j = k
    · subst e; exact List.mem_cons_self
    · rw [at_, if_neg e] at h3
      exact S.all j h1 h2 h3 h4
/-- all of the first is used -/
theorem Stack.whole {k : Nat} {r : List Nat} (S : Stack lar left nm day (k :: r)) (hl : left.length = lar.length) : Stack lar (left.set k 0) nm day r := by
  have k1 := (S.ok k List.mem_cons_self).1
  refine ⟨(List.pairwise_cons.mp S.asc).2, fun j hj => ?_, fun j h1 h2 h3 h4 => ?_⟩
  · obtain ⟨a, b, c⟩ := S.ok j (List.mem_cons_of_mem _ hj)
    have e : j ≠ k := fun e => S.notin (e ▸ hj)
    exact ⟨a, b, by rw [getD_set_ne e]; exact c⟩
  · have e : j ≠ k := fun e => by
      subst e
      rw [getD_set_self (by omega)] at h3
      omega
    rw [getD_set_ne e] at h3
    rcases List.mem_cons.mp (S.all j h1 h2 h3 h4) with z | z
    · exact absurd z e
    · exact z
theorem Stack.later {ks : List Nat} {day' : Int} (S : Stack lar left nm day ks) (h : day ≤ day') : Stack lar left nm day' ks := ⟨S.asc, S.ok, fun k h1 h2 h3 h4 => S.all k h1 h2 h3 (by omega)⟩
theorem Stack.other {ks : List Nat} {left' : List Int} (S : Stack lar left nm day ks) (h : ∀ k, nameK lar k = nm → left'.getD k 0 = left.getD k 0) : Stack lar left' nm day ks :=
  ⟨S.asc, fun k hk => ⟨(S.ok k hk).1, (S.ok k hk).2.1, by rw [h k (S.ok k hk).2.1]; exact (S.ok k hk).2.2⟩, fun k h1 h2 h3 h4 => S.all k h1 h2 (by rw [← h k h2]; exact h3) h4⟩
end
/-- what stands in a line for a batch -/
def entOf (lar : List Batch) (left : List Int) (k : Nat) : Int × Nat × Int := (lastK lar k, k, left.getD k 0)
def EntAt (H : Hp) (v : V) (x : Int × Nat × Int) : Prop := ∃ t, v = .ref t ∧ H t = some (.tup [.int x.1, .int (x.2.1 : Nat), .int x.2.2])
theorem EntAt.mono : MonoT EntAt := fun _ _ _ _ e ⟨t, h1, h2⟩ => ⟨t, h1, e _ _ h2⟩
theorem ent_set {lar : List Batch} {left : List Int} {k : Nat} {z : Int} {r : List Nat} (h : k ∉ r) : r.map (entOf lar (left.set k z)) = r.map (entOf lar left) := by
  apply List.map_congr_left
  intro j hj
  unfold entOf
  have e : j ≠ k := fun e => h (e ▸ hj)
  rw [getD_set_ne e]
theorem ent_other {lar : List Batch} {left left' : List Int} {r : List Nat} (h : ∀ k ∈ r, left'.getD k 0 = left.getD k 0) : r.map (entOf lar left') = r.map (entOf lar left) := by
  apply List.map_congr_left
  intro j hj
  unfold entOf
  rw [h j hj]
/-! ### one need, met -/
section
variable {lar : List Batch} {nm : Str} {day : Int}
theorem met_len : ∀ (n : Nat) (left : List Int) (amt : Int) (ps qs : List Use) (left' : List Int), metF lar nm day n left amt ps = some (qs, left') → left'.length = left.length ∧ qs.length ≤ ps.length + n ∧ ∀ k, nameK lar k ≠ nm → left'.getD k 0 = left.getD k 0
  | 0, left, amt, ps, qs, left', h => by
    unfold metF at h
    cases h
    exact ⟨rfl, Nat.le_refl _, fun _ _ => rfl⟩
  | n + 1, left, amt, ps, qs, left', h => by
    unfold metF at h
    by_cases p : 0 < amt
    · rw [if_pos p] at h
      cases e : nextK lar left nm day with
      | none => rw [e] at h; cases h
      | some k =>
        rw [e] at h
        obtain ⟨a, b, c⟩ := met_len n _ _ _ _ _ h
        rw [List.length_set] at a
        rw [List.length_append] at b
        refine ⟨a, by simp only [List.length_cons, List.length_nil] at b; omega, fun j hj => ?_⟩
        rw [c j hj]
        refine getD_set_ne fun z => ?_
        subst z
        exact hj (next_some e).2.1.1
    · rw [if_neg p] at h
      cases h
      exact ⟨rfl, by omega, fun _ _ => rfl⟩
theorem met_done {n : Nat} {left : List Int} {amt : Int} {ps : List Use} (h : ¬ 0 < amt) : metF lar nm day n left amt ps = some (ps, left) := by
  cases n with
  | zero => rfl
  | succ n => unfold metF; rw [if_neg h]
end
/-! ### the order of cooking -/
theorem perm_one {α : Type} {R : α → α → Prop} (as : ∀ a b, R a b → ¬ R b a) : ∀ {l m : List α}, l.Perm m → l.Pairwise R → m.Pairwise R → l = m
  | [], m, p, _, _ => (List.Perm.nil_eq p)
  | a :: l, [], p, _, _ => absurd p.length_eq (by simp)
  | a :: l, b :: m, p, h1, h2 => by
    obtain ⟨a1, a2⟩ := List.pairwise_cons.mp h1
    obtain ⟨b1, b2⟩ := List.pairwise_cons.mp h2
    have e : a = b := by
      have ha : a ∈ b :: m := p.subset List.mem_cons_self
      have hb : b ∈ a :: l := p.symm.subset List.mem_cons_self
      rcases List.mem_cons.mp ha with z | z
      · exact z
      · rcases List.mem_cons.mp hb with y | y
        · exact y.symm
        · exact absurd (b1 a z) (as _ _ (a1 b y))
    subst e
    rw [perm_one as (List.Perm.cons_inv p) a2 b2]
abbrev dayK (ds : List Dish) (k : Nat) : Int := (ds.getD k dz).1
def Ahead (ds : List Dish) (i j : Nat) : Prop := dayK ds i < dayK ds j ∨ (dayK ds i = dayK ds j ∧ i < j)
def dayD (ds : List Dish) (k : Nat) : PyData := .tuple [.int (dayK ds k), .int (k : Nat)]
def orderL (ds : List Dish) : List Nat := (List.range ds.length).mergeSort (PySem.W.dataLe false (dayD ds))
def byDays (ds : List Dish) : List Nat := (List.range 7).flatMap fun i => (List.range ds.length).filter fun k => decide (dayK ds k = 1 + (i : Nat))
theorem order_pair (ds : List Dish) : (orderL ds).Pairwise (Ahead ds) := by
  have h1 := PySem.W.sort_pairwise (show PySem.W.TotalLe (PySem.W.dataLe false (dayD ds)) from PySem.W.sortLe_total _ _ _) (List.range ds.length)
  have e := PySem.W.dataLe_ii (β := Nat) (fun k => dayK ds k) (fun k => (k : Int))
  have hp : (orderL ds).Perm (List.range ds.length) := List.mergeSort_perm _ _
  have hn : (orderL ds).Nodup := hp.nodup_iff.mpr List.nodup_range
  have h2 : (orderL ds).Pairwise fun a b => PySem.W.dataLe false (dayD ds) a b = true := h1
  refine (List.Pairwise.and h2 hn).imp fun {a b} hq => ?_
  obtain ⟨q, hab⟩ := hq
  have q2 : decide (dayK ds a < dayK ds b ∨ (dayK ds a = dayK ds b ∧ (a : Int) ≤ (b : Int))) = true := by
    have := congrFun (congrFun e a) b
    rw [← this]
    exact q
  have := of_decide_eq_true q2
  unfold Ahead
  omega
theorem order_mem (ds : List Dish) (k : Nat) : k ∈ orderL ds ↔ k < ds.length := by
  have hp : (orderL ds).Perm (List.range ds.length) := List.mergeSort_perm _ _
  rw [hp.mem_iff, List.mem_range]
theorem ahead_asym (ds : List Dish) (a b : Nat) (h : Ahead ds a b) : ¬ Ahead ds b a := by
  unfold Ahead at *
  omega
theorem filter_perm {n : Nat} {f : Nat → Int} : ∀ (m : Nat), ((List.range m).flatMap fun i => (List.range n).filter fun k => decide (f k = 1 + (i : Nat))).Perm ((List.range n).filter fun k => decide (1 ≤ f k ∧ f k ≤ m))
  | 0 => by
    have : (List.range n).filter (fun k => decide (1 ≤ f k ∧ f k ≤ ((0 : Nat) : Int))) = [] := List.filter_eq_nil_iff.mpr fun k _ h => by
      have := of_decide_eq_true h
      omega
    rw [this]
    exact List.Perm.refl _
  | m + 1 => by
    have ih := filter_perm (n := n) (f := f) m
    rw [List.range_succ, List.flatMap_append]
    refine (List.Perm.append_right _ ih).trans ?_
    have e : ([m].flatMap fun i : Nat => (List.range n).filter fun k => decide (f k = 1 + (i : Nat))) = (List.range n).filter fun k => decide (f k = 1 + (m : Nat)) := by simp
    rw [e]
    generalize List.range n = l
    induction l with
    | nil => exact List.Perm.refl _
    | cons x l ih2 =>
      by_cases a : 1 ≤ f x ∧ f x ≤ (m : Nat)
      · have b : ¬ f x = 1 + (m : Nat) := by omega
        have c : 1 ≤ f x ∧ f x ≤ ((m + 1 : Nat) : Int) := by omega
        simp only [List.filter_cons, decide_eq_true a, decide_eq_false b, decide_eq_true c, if_true]
        exact List.Perm.cons _ ih2
      · by_cases b : f x = 1 + (m : Nat)
        · have c : 1 ≤ f x ∧ f x ≤ ((m + 1 : Nat) : Int) := by omega
          simp only [List.filter_cons, decide_eq_false a, decide_eq_true b, decide_eq_true c, if_true]
          exact List.perm_middle.trans (List.Perm.cons _ ih2)
        · have c : ¬ (1 ≤ f x ∧ f x ≤ ((m + 1 : Nat) : Int)) := by omega
          simp only [List.filter_cons, decide_eq_false a, decide_eq_false b, decide_eq_false c]
          exact ih2
theorem order_days {ds : List Dish} (hd : ∀ d ∈ ds, 1 ≤ d.1 ∧ d.1 ≤ 7) : orderL ds = byDays ds := by
  refine perm_one (ahead_asym ds) ?_ (order_pair ds) ?_
  · have hp : (orderL ds).Perm (List.range ds.length) := List.mergeSort_perm _ _
    refine hp.trans (List.Perm.symm ((filter_perm (n := ds.length) (f := dayK ds) 7).trans ?_))
    have : (List.range ds.length).filter (fun k => decide (1 ≤ dayK ds k ∧ dayK ds k ≤ ((7 : Nat) : Int))) = List.range ds.length := List.filter_eq_self.mpr fun k hk => by
      have hk' := List.mem_range.mp hk
      have e : ds.getD k dz = ds[k] := by rw [List.getD_eq_getElem?_getD, List.getElem?_eq_getElem hk']; rfl
      have := hd _ (List.getElem_mem hk')
      unfold dayK
      rw [e]
      exact decide_eq_true ⟨this.1, by omega⟩
    rw [this]
  · unfold byDays
    rw [List.flatMap_def, List.pairwise_flatten]
    refine ⟨fun l hl => ?_, ?_⟩
    · obtain ⟨i, _, rfl⟩ := List.mem_map.mp hl
      refine List.Pairwise.imp_of_mem ?_ (List.pairwise_lt_range.filter _)
      intro a b ha hb hab
      have h1 := of_decide_eq_true (List.mem_filter.mp ha).2
      have h2 := of_decide_eq_true (List.mem_filter.mp hb).2
      right
      exact ⟨h1.trans h2.symm, hab⟩
    · rw [List.pairwise_map]
      refine List.Pairwise.imp ?_ List.pairwise_lt_range
      intro i j hij a ha b hb
      have h1 := of_decide_eq_true (List.mem_filter.mp ha).2
      have h2 := of_decide_eq_true (List.mem_filter.mp hb).2
      left
      rw [h1, h2]
      omega
/-- one dish, cooked -/
def useF (lar : List Batch) (ds : List Dish) (k : Nat) (s : CkS) : Except Str CkS :=
  bindE (foldE (needF lar (dayK ds k)) (ds.getD k dz).2 (s.1.getD k [], s.2)) fun r => Except.ok (s.1.set k r.1, r.2)
theorem day_filter (lar : List Batch) (ds : List Dish) (i : Nat) : ∀ (l : List Nat) (s : CkS), foldE (dishF lar ds (1 + (i : Nat))) l s = foldE (useF lar ds) (l.filter fun k => decide (dayK ds k = 1 + (i : Nat))) s
  | [], _ => rfl
  | k :: l, s => by
    show bindE (dishF lar ds (1 + (i : Nat)) k s) (foldE _ l) = _
    by_cases e : dayK ds k = 1 + (i : Nat)
    · rw [List.filter_cons, if_pos (decide_eq_true e)]
      show _ = bindE (useF lar ds k s) (foldE _ _)
      have h : dishF lar ds (1 + (i : Nat)) k s = useF lar ds k s := by
        unfold dishF useF
        rw [if_pos e, ← e]
      rw [h]
      cases useF lar ds k s with
      | error z => rfl
      | ok s' => exact day_filter lar ds i l s'
    · rw [List.filter_cons, if_neg (by simp [e])]
      have h : dishF lar ds (1 + (i : Nat)) k s = Except.ok s := by unfold dishF; rw [if_neg e]
      rw [h]
      exact day_filter lar ds i l s
theorem cook_days (lar : List Batch) (ds : List Dish) : ∀ (l : List Nat) (s : CkS), foldE (dayF lar ds) l s = foldE (useF lar ds) (l.flatMap fun i => (List.range ds.length).filter fun k => decide (dayK ds k = 1 + (i : Nat))) s
  | [], _ => rfl
  | i :: l, s => by
    rw [List.flatMap_cons, foldE_app]
    show bindE (dayF lar ds i s) (foldE _ l) = _
    have h : dayF lar ds i s = foldE (useF lar ds) ((List.range ds.length).filter fun k => decide (dayK ds k = 1 + (i : Nat))) s := day_filter lar ds i _ s
    rw [h]
    cases foldE (useF lar ds) ((List.range ds.length).filter fun k => decide (dayK ds k = 1 + (i : Nat))) s with
    | error z => rfl
    | ok s' => exact cook_days lar ds l s'
theorem cook_order {ds : List Dish} {lar : List Batch} (hd : ∀ d ∈ ds, 1 ≤ d.1 ∧ d.1 ≤ 7) : cookE ds lar = foldE (useF lar ds) (orderL ds) (List.replicate ds.length [], lar.map (·.amount)) := by
  rw [order_days hd]
  exact cook_days lar ds _ _
end Lar
namespace Lar
open PySem PySem.Spec PyProof.Rows L2
theorem foldN_len {lar : List Batch} {day : Int} : ∀ (xs : List Need) (s s' : List Use × List Int), foldE (needF lar day) xs s = Except.ok s' → s'.2.length = s.2.length
  | [], s, s', h => by cases h; rfl
  | x :: r, s, s', h => by
    replace h : bindE (needF lar day x s) (foldE (needF lar day) r) = Except.ok s' := h
    cases e : needF lar day x s with
    | error z => rw [e] at h; cases h
    | ok t =>
      rw [e] at h
      have h1 := foldN_len r t s' h
      unfold needF at e
      cases em : metF lar x.1 day x.2.toNat s.2 x.2 [] with
      | none => rw [em] at e; cases e
      | some y =>
        rw [em] at e
        cases e
        have := (met_len _ _ _ _ _ _ em).1
        rw [h1]
        exact this
theorem nodup_at {α : Type} : ∀ {l : List α}, l.Nodup → ∀ (i j : Nat) (hi : i < l.length) (hj : j < l.length), l[i] = l[j] → i = j := fun {l} hn i j hi hj e => by
  have hp := List.pairwise_iff_getElem.mp hn
  rcases Nat.lt_trichotomy i j with h | h | h
  · exact absurd e (hp i j hi hj h)
  · exact h
  · exact absurd e.symm (hp j i hj hi h)
end Lar
namespace Lar
open PySem PySem.Spec PyProof.Rows L2
/-! ### defs that raise -/
theorem DefAt.clbX {P : Program} {w : World} {K : PySem.W.Frag} {mg : Str → Option Value} {base : Heap} {x : Str} {st : Stmt} {N ps : List Str} {k : Nat} {sp : Sp} (D : DefAt K mg x st)
    (S : FnScope N ps (defScope st)) (len : ∀ vs H Q E, sp vs H Q E → vs.length = ps.length)
    (hb : ∀ (kV doc pm : Value) (an : Option Addr) (cdv ct : Value) (us : List Value), us.length = ps.length → bindArgs (PySem.W.fnOf x x (defArgs st) (defBody st) (defScope st) .none kV doc pm an cdv ct) ⟨us, []⟩ = pure (ps.zip us))
    (hbody : ∀ (f : Addr) (cdv : Value) (A : Around) (outer : List Env) (s : Shared) (H : Hp) (vs : List V) (Q : VK) (E : XK), Room k (A.deeper (envOfC x (defScope st) s.heap.objs.size f cdv)) → sp vs H Q E →
      ∃ t, PSs (cxOf (L2.CX P w) P w K mg base N x (defScope st) f cdv A outer s H E) (defBody st) t ∧ t { nx := fun _ H' => Q .non H', rt := Q } (start N vs) H) : ClbX P w K mg base (k + 1) x ps sp := by
  obtain ⟨f, fd, F, hm⟩ := D.ex
  exact ⟨f, fd, F.okX S len (fun cdv A outer s H vs Q E hr h => hbody f cdv A outer s H vs Q E hr h), hm, F.kp, F.binds hb⟩
/-- the error's own __init__: its word in the field word -/
def spInit (K : PySem.W.Frag) : Sp := fun vs H Q _ => ∃ (a C : Addr) (nm : Str), vs = [.ref a, .str nm] ∧ H a = some (exo a C none) ∧ OexC K C ∧ PySem.W.findIn K (.ref C) "word" = some none ∧
  ∀ dx, H dx = none → dx ≠ a → Q .non (upd (upd H dx (exd dx [("word", .str nm)])) a (exo a C (some dx)))
structure MkAt (P : Program) (w : World) (K : PySem.W.Frag) (mg : Str → Option Value) (base : Heap) (k : Nat) (x : Str) (C : Addr) : Prop where
  g : mg x = some (.ref C)
  oe : OexC K C
  nw : PySem.W.findIn K (.ref C) "word" = some none
  ex : ∃ fI fd, PySem.W.findIn K (.ref C) "__init__" = some (some (.ref fI)) ∧ PySem.W.typeIn K (.ref fI) = some (.type "function") ∧ FnOk P w K mg base CX0 k fI fd ["self", "word"] (spInit K) ∧ Binds K fd ["self", "word"] []
def tRaiseN (K : PySem.W.Frag) (C : Addr) (W : WX) (te : TE) : TS := fun _ σ H => tMkO C (spInit K) [] (tCons te tNil) σ H fun cls d H' => W cls d σ H'
theorem ps_raiseN {X : Cx} {k : Nat} {x : Str} {C : Addr} {W : WX} {e : Expr} {te : TE} {p pos pos' : Pos} {K : PySem.W.Frag} (M : MkAt X.prog X.w K X.mg X.base k x C) (hc : X.calm = true) (hr : Room (k + 1) X.A) (tk : Takes X W) (he : PE X e te) (hK : X.K = K := by rfl) (hg : Gl X x := by rfl)
    (hdb : (x == ("__debug__" : Str)) = false := by decide) (hst : starEach [e] X.env = (false, eval e X.env) :: starEach [] X.env := by rfl) (hpl : (backTo pos (starEach [] X.env)).any (·.1) = false := by rfl) :
    PS X (.Raise (some (.Call (.Name x p) [e] [] pos)) none pos') (tRaiseN K C W te) := by
  subst hK
  obtain ⟨fI, fd, h1, h2, F, hb⟩ := M.ex
  exact ps_raise (W := W) hc tk (pmk_oex M.oe h1 h2 F hr hb .nil (fun _ _ _ _ _ _ _ h => h.elim) hg M.g (pa_cons he pa_nil hst) hdb hst hpl)
/-- what is left of it to be shown -/
theorem mk_word {K : PySem.W.Frag} {C : Addr} (T : OexC K C) (nw : PySem.W.findIn K (.ref C) "word" = some none) {nm : Str} {H1 : Hp} {Q : XK} (q : ∀ d, H1 d = none → Q (.ref C) (some d) (upd H1 d (.xd [("word", .str nm)]))) :
    ([V.str nm] : List V).length ≤ 1000 ∧ ∀ a, H1 a = none → spInit K (.ref a :: ([V.str nm] ++ [])) (upd H1 a (exo a C none)) (fun v H2 => v = .non ∧ ∃ (d : Addr) (fs : List (Str × V)), H2 a = some (exo a C (some d)) ∧ H2 d = some (exd d fs) ∧ H1 d = none ∧ Q (.ref C) (some d) (upd (del H2 a) d (.xd fs))) (fun _ _ _ => False) := by
  refine ⟨(show 1 ≤ 1000 by decide), fun a ha => ⟨a, C, nm, rfl, upd_same, T, nw, fun dx hdx hne => ⟨rfl, dx, [("word", .str nm)], upd_same, ?_, ?_, ?_⟩⟩⟩
  · rw [upd_ne hne, upd_same]
  · rw [upd_ne hne] at hdx
    exact hdx
  · have hdx1 : H1 dx = none := by rw [upd_ne hne] at hdx; exact hdx
    have e : upd (del (upd (upd (upd H1 a (exo a C none)) dx (exd dx [("word", .str nm)])) a (exo a C (some dx))) a) dx (.xd [("word", .str nm)]) = upd H1 dx (.xd [("word", .str nm)]) := by
      funext b
      by_cases h1 : b = dx
      · rw [h1, upd_same, upd_same]
      · rw [upd_ne h1, upd_ne h1]
        by_cases h2 : b = a
        · rw [h2, del_same, ha]
        · rw [del_ne h2, upd_ne h2, upd_ne h1, upd_ne h2]
    rw [e]
    exact q dx hdx1
theorem kpe_bm0 {X : Cx} (K : PySem.W.Frag) {T name id : String} {r : V → List V → Hp → VK → Prop} {o : Expr} {to : TE} {apos cpos : Pos} (pa : PlainAttrs T) (slot : Slot T name id) (hty : typeOf (.builtin id) = pure (.type "method_descriptor")) (hm : MtR X id r) (ho : PE X o to) (hK : X.K = K := by rfl)
    (hbase : attributeBase o name X.env (eval o X.env) = eval o X.env := by rfl) (hline : (apos.endLine == cpos.line) = true := by rfl) : PE X (.Call (.Attribute o name apos) [] [] cpos) (tBM0 K T r to) := by subst hK; exact pe_bm0 pa slot hty hm ho hbase hline
end Lar
namespace Lar
open PySem PySem.Spec PyProof.Rows L2
section
variable {α β γ : Type} {J : It} {n : Nat} {G : Hp → Prop} {Y : Nat → Hp → V → Hp → Prop}
/-- lc_rel, for as many as a list may hold -/
theorem lc_relB (w : Walk J n G Y) {xs : List α} (hn : xs.length = n) {f : α → Option β} {R : Hp → V → β → Prop} (mR : MonoT R) {g : TG} {tt : TT} {te : TE} {ws : List Nat} {σ : L2.St} {H1 : Hp} {D : Addr} {Qd : Hp → Prop}
    (hD : H1 D = none) (hG : ∀ H, Same H1 H → G H) (hz : n ≤ sizeLine)
    (hs : ∀ (i : Nat) (v : V) (x : α) (H H' : Hp) (Ky : V → Hp → Prop) (Kn : Hp → Prop), xs[i]? = some x → Same H1 H → Y i H v H' → (∀ y b H4, f x = some b → Same H H4 → R H4 y b → Ky y H4) → (∀ H3, f x = none → Same H H3 → Kn H3) →
      g v (wipe σ ws) H' fun σ2 H2 => wipe σ2 ws = wipe σ ws ∧ tt σ2 H2 fun b H3 => if b = true then te σ2 H3 Ky else Kn H3)
    (hd : ∀ H' ys, Same H1 H' → H' D = some (.lst ys) → Held R H' ys (xs.filterMap f) → Qd H') :
    ∃ W : Nat → Nat → Hp → Prop, (∃ m, W 0 m (upd H1 D (.lst []))) ∧ ∀ i m H, W i m H →
      (J.stop i H ∧ Qd H) ∨ (J.go i H ∧ ∃ Nx : Hp → Prop, (∀ H', Nx H' → ∃ m', m' < m ∧ W (i + 1) m' H') ∧ ∀ x H', J.yld i H x H' → g x (wipe σ ws) H' fun σ2 H2 => wipe σ2 ws = wipe σ ws ∧ tt σ2 H2 fun b H3 =>
        if b = true then te σ2 H3 fun y H4 => ∃ acc, H4 D = some (.lst acc) ∧ acc.length < sizeLine ∧ Nx (upd H4 D (.lst (acc ++ [y]))) else Nx H3) := by
  refine lc_it w (fun i H => Same H1 H ∧ ∃ ys, H D = some (.lst ys) ∧ Held R H ys ((xs.take i).filterMap f)) ⟨same_upd hD, [], upd_same, Held.nil⟩ (fun i H _ p => hG H p.1) (fun i v H H' hi p y => ?_) (fun H p => ?_)
  · obtain ⟨sm, ys, hDl, hh⟩ := p
    have hx : xs[i]? = some (xs[i]'(by omega)) := List.getElem?_eq_getElem (by omega)
    refine hs i v _ H H' _ _ hx sm y (fun y b H4 e s4 r => ?_) (fun H3 e s3 => ?_)
    · refine ⟨_, s4 _ _ hDl, ?_, (sm.trans s4).mut hD, ys ++ [y], upd_same, ?_⟩
      · have h1 := List.length_filterMap_le f (xs.take i)
        rw [List.length_take] at h1
        exact Nat.lt_of_lt_of_le (show ys.length < n by rw [hh.len]; omega) hz
      · have st := SameT.lst (o := .lst (ys ++ [y])) (s4 _ _ hDl)
        rw [take_succ' hx, List.filterMap_append]
        have e2 : List.filterMap f [xs[i]'(by omega)] = [b] := by rw [List.filterMap_cons_some e]; rfl
        rw [e2]
        exact (hh.mono mR ((SameT.of s4).trans st)).snoc (mR _ _ _ _ st r)
    · refine ⟨sm.trans s3, ys, s3 _ _ hDl, ?_⟩
      rw [take_succ' hx, List.filterMap_append]
      have e2 : List.filterMap f [xs[i]'(by omega)] = [] := by rw [List.filterMap_cons_none e]; rfl
      rw [e2, List.append_nil]
      exact hh.mono mR (SameT.of s3)
  · obtain ⟨sm, ys, hDl, hh⟩ := p
    rw [← hn, List.take_length] at hh
    exact hd H ys sm hDl hh
end
/-- a walk over a list or a tuple -/
def iAny (K : PySem.W.Frag) (tl : TE) : TI := fun σ H R => tl σ H fun x H1 => ∃ a xs, x = .ref a ∧ ((SqL K H1 a xs ∧ R (Itl K a) H1) ∨ (SqT K H1 a xs ∧ R (Itt K a) H1))
theorem kpi_any {X : Cx} (K : PySem.W.Frag) {tg l : Expr} {tl : TE} (hl : PE X l tl) (hK : X.K = K := by rfl) : PI X tg l (iAny K tl) := by
  subst hK
  refine ⟨fun pins s σ H R I h => ?_⟩
  refine thn (hl.run pins s σ H _ I h) fun v s1 ⟨x, H1, I1, r1, q1⟩ => ?_
  obtain ⟨a, xs, e, q⟩ := q1
  subst e
  cases r1
  rcases q with ⟨hq, q⟩ | ⟨hq, q⟩
  · obtain ⟨its, rv, p, hz⟩ := I1.list hq
    refine wpAny_pyIter_list p.isList ?_
    refine ⟨s1.heap.objs.size, [s1.heap.objs.size], _, _, H1, rfl, I1.kept (t' := s1.toks) fun b o e => Heap.get?_push_of_some _ e, turn_list a _, ⟨_, Heap.get?_push_size _ rfl, rfl, rfl⟩, fun b hb => ?_, q⟩
    have e : b = s1.heap.objs.size := by simpa using hb
    subst e
    exact I1.fpOk (Nat.le_refl _) (I1.hok.fresh (Nat.le_refl _))
  · obtain ⟨its, rv, p, hz⟩ := I1.tuple hq
    refine wpAny_pyIter_tuple (show s1.heap.IsTuple a its.toArray from p) ?_
    refine ⟨s1.heap.objs.size, [s1.heap.objs.size], _, _, H1, rfl, I1.kept (t' := s1.toks) fun b o e => Heap.get?_push_of_some _ e, turn_tuple a _, ⟨_, Heap.get?_push_size _ rfl, rfl, rfl⟩, fun b hb => ?_, q⟩
    have e : b = s1.heap.objs.size := by simpa using hb
    subst e
    exact I1.fpOk (Nat.le_refl _) (I1.hok.fresh (Nat.le_refl _))
/-! ### packs as offers -/
def offOf (p : Pack) : Offer := ⟨p.size, p.price, p.last⟩
theorem offOf_good {p : Pack} (h : FinePack p) : GoodOffer (offOf p) := ⟨h.size1, h.size2, h.price0, h.price2, h.last1, h.last2⟩
def PacksIn (K : PySem.W.Frag) (H : Hp) (v : V) (ps : List Pack) : Prop := ∃ a us, v = .ref a ∧ SqA K H a us ∧ Held PackAt H us ps
theorem PacksAt.in {K : PySem.W.Frag} {H : Hp} {v : V} {ps : List Pack} (h : PacksAt H v ps) : PacksIn K H v ps := by
  obtain ⟨a, us, h1, h2, h3⟩ := h
  exact ⟨a, us, h1, SqA.t h2, h3⟩
theorem costOf_packs : ∀ (ps : List Pack) (cs : List Int), costOf (ps.map offOf) cs = totalP ps cs
  | [], cs => by simp [costOf, totalP]
  | p :: ps, [] => by simp [costOf, totalP]
  | p :: ps, c :: cs => by
    have ih := costOf_packs ps cs
    unfold costOf totalP at ih ⊢
    rw [List.map_cons, List.zip_cons_cons, List.zip_cons_cons, List.map_cons, List.map_cons, List.sum_cons, List.sum_cons, ih]
    rfl
def spOffersOf (K : PySem.W.Frag) : Sp := fun vs H Q _ => ∃ (v : V) (ps : List Pack), vs = [v] ∧ PacksIn K H v ps ∧ ps.length ≤ 1000 ∧ ∀ v' H', Same H H' → OffersAt H' v' (ps.map offOf) → Q v' H'
/-! ### the rows, as the program writes them -/
theorem str_ext {x y : Str} (h : x.cps.toList = y.cps.toList) : x = y := by
  cases x; cases y
  congr 1
  exact Array.toList_inj.mp h
theorem app_list (x y : Str) : (x ++ y).cps.toList = x.cps.toList ++ y.cps.toList := by
  show (x.cps ++ y.cps).toList = _
  exact Array.toList_append
theorem app_assoc (x y z : Str) : (x ++ y) ++ z = x ++ (y ++ z) := str_ext (by simp only [app_list, List.append_assoc])
theorem empty_app (x : Str) : Str.empty ++ x = x := str_ext (by rw [app_list]; rfl)
theorem join_eq (sep : Str) (ys : List Str) : Txt.join sep ys = Str.join sep ys := StrLaws.glued_eq_join sep ys
theorem rowS_eq (p : Pack) (c : Int) : rowS p c = Str.empty ++ Str.ofString (toString c) ++ " " ++ p.name ++ " " ++ Str.ofString (toString p.size) ++ " " ++ Str.ofString (toString (p.price * c)) := by
  unfold rowS
  rw [join_eq, join_cons_cons, join_cons_cons, join_cons_cons, join_one, empty_app]
  simp only [app_assoc]
/-- the rows that are told -/
def rowsL (zs : List (Pack × Int)) : List Str := zs.filterMap fun p => if 0 < p.2 then some (rowS p.1 p.2) else none
theorem join_snoc (sep : Str) (z : Str) : ∀ ys : List Str, Str.join sep (ys ++ [z]) = ys.foldr (fun y acc => y ++ sep ++ acc) z
  | [] => rfl
  | [y] => rfl
  | y :: x :: r => by
    have ih := join_snoc sep z (x :: r)
    show Str.join sep (y :: x :: (r ++ [z])) = _
    rw [join_cons_cons]
    rw [show x :: (r ++ [z]) = (x :: r) ++ [z] from rfl, ih]
    rfl
theorem rows_fold (z : Str) : ∀ zs : List (Pack × Int), (rowsL zs).foldr (fun y acc => y ++ ("\n" : Str) ++ acc) z = rowsS zs ++ z := by
  refine snocRec ?_ (fun r p ih => ?_)
  · exact (empty_app z).symm
  · have key : ∀ w : Str, (rowsL r).foldr (fun y acc => y ++ ("\n" : Str) ++ acc) w = rowsS r ++ w := fun w => by
      have g : ∀ (l : List Str) (w : Str), l.foldr (fun y acc => y ++ ("\n" : Str) ++ acc) w = l.foldr (fun y acc => y ++ ("\n" : Str) ++ acc) Str.empty ++ w := fun l w => by
        induction l with
        | nil => exact (empty_app w).symm
        | cons y l ih => rw [List.foldr_cons, List.foldr_cons, ih]; simp only [app_assoc]
      have e1 := g (rowsL r) z
      rw [g]
      have : (rowsL r).foldr (fun y acc => y ++ ("\n" : Str) ++ acc) Str.empty = rowsS r := by
        have h : ((rowsL r).foldr (fun y acc => y ++ ("\n" : Str) ++ acc) Str.empty ++ z) = rowsS r ++ z := by rw [← e1, ih]
        have h2 := congrArg (fun x : Str => x.cps.toList) h
        simp only [app_list] at h2
        exact str_ext (List.append_cancel_right h2)
      rw [this]
    unfold rowsL at key ⊢
    rw [List.filterMap_append, rowsS_snoc]
    by_cases e : 0 < p.2
    · rw [if_pos e]
      simp only [List.filterMap_cons, if_pos e, List.filterMap_nil, List.foldr_append, List.foldr_cons, List.foldr_nil]
      rw [key]
      simp only [app_assoc]
    · rw [if_neg e]
      simp only [List.filterMap_cons, if_neg e, List.filterMap_nil, List.append_nil]
      exact key z
theorem listed_eq (ps : List Pack) (cs : List Int) : Txt.join "\n" (rowsL (ps.zip cs) ++ [Str.empty ++ "total " ++ Str.ofString (toString (totalP ps cs))]) = listedS ps cs := by
  rw [join_eq, join_snoc, rows_fold]
  unfold listedS
  rw [empty_app, app_assoc]
theorem rowsL_len : ∀ zs : List (Pack × Int), (∀ p ∈ zs, Bit p) → ((rowsL zs).map (·.length)).sum ≤ zs.length * 40
  | [], _ => Nat.zero_le _
  | p :: r, h => by
    have ih := rowsL_len r fun q hq => h q (List.mem_cons_of_mem _ hq)
    have l := rowS_len (h p List.mem_cons_self)
    unfold rowsL at ih ⊢
    rw [List.length_cons]
    by_cases e : 0 < p.2
    · simp only [List.filterMap_cons, if_pos e, List.map_cons, List.sum_cons]
      omega
    · simp only [List.filterMap_cons, if_neg e]
      omega
end Lar
namespace Lar
open PySem PySem.Spec PyProof.Rows L2
theorem held_app {α : Type} {R : Hp → V → α → Prop} {H : Hp} {vs ws : List V} {xs ys : List α} (h : Held R H vs xs) (g : Held R H ws ys) : Held R H (vs ++ ws) (xs ++ ys) := by
  have hl := h.len
  refine ⟨by rw [List.length_append, List.length_append, h.len, g.len], fun i v x hv hx => ?_⟩
  by_cases hi : i < vs.length
  · rw [List.getElem?_append_left hi] at hv
    rw [List.getElem?_append_left (by omega)] at hx
    exact h.all i v x hv hx
  · rw [List.getElem?_append_right (by omega)] at hv hx
    rw [← hl] at hx
    exact g.all _ v x hv hx
theorem stockZ_le : ∀ (ps : List Pack) (cs : List Int) (i : Nat), (stockZ ((ps.zip cs).take i)).length ≤ sumC cs
  | [], cs, i => by simp [stockZ]
  | p :: ps, [], i => by simp [stockZ]
  | p :: ps, c :: cs, 0 => by simp [stockZ]
  | p :: ps, c :: cs, i + 1 => by
    have ih := stockZ_le ps cs i
    unfold stockZ sumC at *
    rw [List.zip_cons_cons, List.take_succ_cons, List.flatMap_cons, List.length_append, List.length_replicate, List.map_cons, List.sum_cons]
    omega
end Lar
namespace Lar
open PySem PySem.Spec PyProof.Rows L2
def rJoin (K : PySem.W.Frag) : V → List V → Hp → VK → Prop := fun x xs H Q => ∃ a p, ∃ ys : List Str, x = .str a ∧ xs = [.ref p] ∧ (SqL K H p (ys.map V.str) ∨ SqT K H p (ys.map V.str)) ∧ (ys.map (·.length)).sum + ys.length * a.length ≤ 16777216 ∧ Q (.str (Txt.join a ys)) H
theorem kpe_join {X : Cx} (K : PySem.W.Frag) {o e : Expr} {to te : TE} {apos pos : Pos} (ho : PE X o to) (he : PE X e te) (hK : X.K = K := by rfl) (hs : starEach [e] X.env = [(false, eval e X.env)] := by rfl) (hbase : attributeBase o "join" X.env (eval o X.env) = eval o X.env := by rfl) (hline : (apos.endLine == pos.line) = true := by rfl) :
    PE X (.Call (.Attribute o "join" apos) [e] [] pos) (tM1 (rJoin K) to te) := by subst hK; exact pe_join ho he hs hbase hline
end Lar
namespace Lar
open PySem PySem.Spec PyProof.Rows L2
def tJoined (ts : List TE) : TE := fun σ H Q => tJs ts Str.empty σ H fun out H1 => Q (.str out) H1
theorem kpe_joined {X : Cx} {v1 v2 : Expr} {rest : List Expr} {ts : List TE} {pos : Pos} (h : PJ X (v1 :: v2 :: rest) ts) : PE X (.JoinedStr (v1 :: v2 :: rest) pos) (tJoined ts) := pe_joined h
end Lar
namespace Lar
open PySem PySem.Spec PyProof.Rows L2
/-! ### the batches, in the order in which they go, the last first -/
def batD (lar : List Batch) (k : Nat) : PyData := .tuple [.int (lastK lar k), .int (k : Nat), .str (nameK lar k), .int (lar.getD k bz).amount]
def Bat4At (lar : List Batch) (H : Hp) (v : V) (k : Nat) : Prop := ∃ t, v = .ref t ∧ H t = some (.tup [.int (lastK lar k), .int (k : Nat), .str (nameK lar k), .int (lar.getD k bz).amount])
theorem Bat4At.mono (lar : List Batch) : MonoT (Bat4At lar) := fun _ _ _ _ e ⟨t, h1, h2⟩ => ⟨t, h1, e _ _ h2⟩
def descL (lar : List Batch) : List Nat := (List.range lar.length).mergeSort (PySem.W.dataLe true (batD lar))
theorem bat_alike (lar : List Batch) (x y : Nat) : PySem.W.alike (batD lar x) (batD lar y) = true := by
  unfold batD
  simp [PySem.W.alike, PySem.W.alikeAll]
theorem bat_tup (lar : List Batch) (x : Nat) : ∃ z r, batD lar x = .tuple (z :: r) := ⟨_, _, rfl⟩
theorem bat_deep (lar : List Batch) (x : Nat) : (batD lar x).depth ≤ 4 := by
  unfold batD
  simp [PyData.depth, PyData.depthAll]
theorem bat_dp {K : PySem.W.Frag} (lar : List Batch) (H : Hp) (v : V) (x : Nat) (h : Bat4At lar H v x) : Dp K H v (batD lar x) := by
  obtain ⟨t, rfl, ht⟩ := h
  exact .tup (sqT ht) (.cons (.int _) (.cons (.int _) (.cons (.str _) (.cons (.int _) .nil))))
theorem bat_lt {lar : List Batch} {i j : Nat} (h : Asc lar i j) : PySem.W.dataLt (batD lar i) (batD lar j) = true := by
  unfold batD
  rw [PySem.W.dataLt_tuple, PySem.W.dataLt_cons (by simp [PySem.W.alike])]
  rcases h with h | ⟨h1, h2⟩
  · have e : PyData.eqv (.int (lastK lar i)) (.int (lastK lar j)) = false := by
      simp only [PyData.eqv, beq_eq_false_iff_ne, ne_eq]
      omega
    rw [e, if_neg Bool.false_ne_true, PySem.W.dataLt_int]
    exact decide_eq_true h
  · have e : PyData.eqv (.int (lastK lar i)) (.int (lastK lar j)) = true := by
      simp only [PyData.eqv, beq_iff_eq]
      exact h1
    rw [e, if_pos rfl, PySem.W.dataLt_cons (by simp [PySem.W.alike])]
    have e2 : PyData.eqv (.int (i : Nat)) (.int (j : Nat)) = false := by
      simp only [PyData.eqv, beq_eq_false_iff_ne, ne_eq]
      omega
    rw [e2, if_neg Bool.false_ne_true, PySem.W.dataLt_int]
    exact decide_eq_true (by omega)
theorem desc_pair (lar : List Batch) : (descL lar).Pairwise (fun a b => Asc lar b a) := by
  have h1 := PySem.W.sort_pairwise (show PySem.W.TotalLe (PySem.W.dataLe true (batD lar)) from PySem.W.sortLe_total _ _ _) (List.range lar.length)
  have hp : (descL lar).Perm (List.range lar.length) := List.mergeSort_perm _ _
  have hn : (descL lar).Nodup := hp.nodup_iff.mpr List.nodup_range
  have h2 : (descL lar).Pairwise fun a b => PySem.W.dataLe true (batD lar) a b = true := h1
  refine (List.Pairwise.and h2 hn).imp fun {a b} hq => ?_
  obtain ⟨q, hab⟩ := hq
  have q2 : (!PySem.W.dataLt (batD lar a) (batD lar b)) = true := q
  have na : ¬ Asc lar a b := fun z => by rw [bat_lt z] at q2; cases q2
  unfold Asc at *
  omega
theorem desc_mem (lar : List Batch) (k : Nat) : k ∈ descL lar ↔ k < lar.length := by
  have hp : (descL lar).Perm (List.range lar.length) := List.mergeSort_perm _ _
  rw [hp.mem_iff, List.mem_range]
theorem desc_len (lar : List Batch) : (descL lar).length = lar.length := by
  have hp : (descL lar).Perm (List.range lar.length) := List.mergeSort_perm _ _
  rw [hp.length_eq, List.length_range]
/-! ### lines of batches in a dict, by their names -/
abbrev kS (nm : Str) : L2.Key := Sum.inr nm
theorem kS_inj {a b : Str} (h : kS a = kS b) : a = b := Sum.inr.inj h
structure Lines (H : Hp) (d : Addr) (kvs : List (L2.Key × V)) (F : Str → List (Int × Nat × Int)) : Prop where
  dict : H d = some (.dK kvs)
  nol : ∀ nm, valV kvs (kS nm) = none → F nm = []
  lin : ∀ nm v, valV kvs (kS nm) = some v → ∃ l vs, v = .ref l ∧ H l = some (.lst vs) ∧ Held EntAt H vs (F nm)
  inj : ∀ nm nm' l, valV kvs (kS nm) = some (.ref l) → valV kvs (kS nm') = some (.ref l) → nm = nm'
/-- where the lines stand -/
def LineOf (kvs : List (L2.Key × V)) (a : Addr) : Prop := ∃ nm, valV kvs (kS nm) = some (.ref a)
/-- all but the lines stands as it stood -/
def SameOff (kvs : List (L2.Key × V)) (H H' : Hp) : Prop := ∀ b x, ¬ LineOf kvs b → H b = some x → H' b = some x
theorem SameOff.refl (kvs : List (L2.Key × V)) (H : Hp) : SameOff kvs H H := fun _ _ _ h => h
theorem SameOff.trans {kvs : List (L2.Key × V)} {H H1 H2 : Hp} (a : SameOff kvs H H1) (b : SameOff kvs H1 H2) : SameOff kvs H H2 := fun c x n h => b c x n (a c x n h)
theorem SameOff.of {kvs : List (L2.Key × V)} {H H' : Hp} (s : Same H H') : SameOff kvs H H' := fun c x _ h => s c x h
theorem SameOff.but {kvs : List (L2.Key × V)} {H H' : Hp} {l : Addr} {nm : Str} (h : valV kvs (kS nm) = some (.ref l)) (s : SameBut l H H') : SameOff kvs H H' := fun c x n e => s c x (fun z => n ⟨nm, z ▸ h⟩) e
section
variable {H H' : Hp} {d : Addr} {kvs : List (L2.Key × V)} {F G : Str → List (Int × Nat × Int)}
theorem Lines.line (L : Lines H d kvs F) {a : Addr} (h : LineOf kvs a) : ∃ vs, H a = some (.lst vs) := by
  obtain ⟨nm, e⟩ := h
  obtain ⟨l, vs, e2, h2, _⟩ := L.lin nm _ e
  cases e2
  exact ⟨vs, h2⟩
theorem Lines.tup (L : Lines H d kvs F) (s : SameOff kvs H H') : SameT H H' := fun b xs hb => s b _ (fun z => by obtain ⟨vs, e⟩ := L.line z; rw [hb] at e; cases e) hb
theorem Lines.keep (L : Lines H d kvs F) (s : Same H H') : Lines H' d kvs F := by
  refine ⟨s _ _ L.dict, L.nol, fun nm v h => ?_, L.inj⟩
  obtain ⟨l, vs, e1, e2, e3⟩ := L.lin nm v h
  exact ⟨l, vs, e1, s _ _ e2, e3.mono EntAt.mono (SameT.of s)⟩
theorem Lines.ofEq (L : Lines H d kvs F) (h : ∀ nm, F nm = G nm) : Lines H d kvs G := by
  have : F = G := funext h
  rw [← this]
  exact L
/-- one line changes -/
theorem Lines.put (L : Lines H d kvs F) {nm : Str} {l : Addr} {vs ws : List V} (hl : valV kvs (kS nm) = some (.ref l)) (hv : H l = some (.lst ws)) (s : SameBut l H H') (h : H' l = some (.lst vs)) (hh : Held EntAt H' vs (G nm)) (ho : ∀ nm', nm' ≠ nm → G nm' = F nm') : Lines H' d kvs G := by
  have hd : d ≠ l := fun z => by
    have := L.dict
    rw [z, hv] at this
    cases this
  have st : SameT H H' := fun b xs hb => s b _ (fun z => by rw [z, hv] at hb; cases hb) hb
  refine ⟨s _ _ hd L.dict, fun nm' hn => ?_, fun nm' v hn => ?_, L.inj⟩
  · by_cases e : nm' = nm
    · rw [e, hl] at hn; cases hn
    · rw [ho nm' e]; exact L.nol nm' hn
  · by_cases e : nm' = nm
    · subst e
      rw [hl] at hn
      cases hn
      exact ⟨l, vs, rfl, h, hh⟩
    · obtain ⟨l', vs', e1, e2, e3⟩ := L.lin nm' v hn
      subst e1
      have ne : l' ≠ l := fun z => e (L.inj nm' nm l' hn (by rw [z]; exact hl))
      exact ⟨l', vs', rfl, s _ _ ne e2, by rw [ho nm' e]; exact e3.mono EntAt.mono st⟩
/-- a line for a new name -/
theorem Lines.new (L : Lines H d kvs F) {nm : Str} {l : Addr} {vs : List V} (hl : valV kvs (kS nm) = none) (hn : ∀ nm' l', valV kvs (kS nm') = some (.ref l') → l' ≠ l) (hld : l ≠ d) (h : H l = some (.lst vs)) (hh : Held EntAt H vs (F nm)) : Lines (upd H d (.dK (putK kvs (kS nm) (.ref l)))) d (putK kvs (kS nm) (.ref l)) F := by
  have st : SameT H (upd H d (.dK (putK kvs (kS nm) (.ref l)))) := SameT.dict L.dict
  refine ⟨upd_same, fun nm' h1 => ?_, fun nm' v h1 => ?_, fun a b x h1 h2 => ?_⟩
  · rw [valV_put] at h1
    split at h1
    · cases h1
    · exact L.nol nm' h1
  · rw [valV_put] at h1
    split at h1
    · rename_i e
      cases h1
      have := kS_inj e
      subst this
      exact ⟨l, vs, rfl, by rw [upd_ne hld]; exact h, hh.mono EntAt.mono st⟩
    · obtain ⟨l', vs', e1, e2, e3⟩ := L.lin nm' v h1
      refine ⟨l', vs', e1, ?_, e3.mono EntAt.mono st⟩
      rw [upd_ne (fun z => by rw [z, L.dict] at e2; cases e2)]
      exact e2
  · rw [valV_put] at h1 h2
    split at h1
    · rename_i e1
      split at h2
      · rename_i e2
        exact (kS_inj e1).trans (kS_inj e2).symm
      · cases h1
        exact absurd rfl (hn _ _ h2)
    · split at h2
      · cases h2
        exact absurd rfl (hn _ _ h1)
      · exact L.inj a b x h1 h2
end
/-- the lines, as the cooking needs them -/
structure Stacks (H : Hp) (d : Addr) (kvs : List (L2.Key × V)) (lar : List Batch) (left : List Int) (day : Int) (Ks : Str → List Nat) : Prop where
  lines : Lines H d kvs (fun nm => (Ks nm).reverse.map (entOf lar left))
  stack : ∀ nm, Stack lar left nm day (Ks nm)
theorem Stacks.later {H : Hp} {d : Addr} {kvs : List (L2.Key × V)} {lar : List Batch} {left : List Int} {day day' : Int} {Ks : Str → List Nat} (S : Stacks H d kvs lar left day Ks) (h : day ≤ day') : Stacks H d kvs lar left day' Ks := ⟨S.lines, fun nm => (S.stack nm).later h⟩
theorem Stacks.keep {H H' : Hp} {d : Addr} {kvs : List (L2.Key × V)} {lar : List Batch} {left : List Int} {day : Int} {Ks : Str → List Nat} (S : Stacks H d kvs lar left day Ks) (s : Same H H') : Stacks H' d kvs lar left day Ks := ⟨S.lines.keep s, S.stack⟩
/-! ### at first -/
theorem amt_at (lar : List Batch) {k : Nat} (h : k < lar.length) : (lar.map (·.amount)).getD k 0 = (lar.getD k bz).amount := by
  rw [List.getD_eq_getElem?_getD, List.getElem?_map, List.getElem?_eq_getElem h, List.getD_eq_getElem?_getD, List.getElem?_eq_getElem h]; rfl
def lineOf (lar : List Batch) (nm : Str) (ks : List Nat) : List Nat := ks.filter fun k => decide (nameK lar k = nm ∧ 0 < (lar.getD k bz).amount)
theorem stack0 (lar : List Batch) (nm : Str) (day : Int) : Stack lar (lar.map (·.amount)) nm day (lineOf lar nm (descL lar)).reverse := by
  unfold lineOf
  refine ⟨?_, fun k hk => ?_, fun k h1 h2 h3 _ => ?_⟩
  · rw [List.pairwise_reverse]
    exact (desc_pair lar).filter _
  · rw [List.mem_reverse] at hk
    obtain ⟨a, b⟩ := List.mem_filter.mp hk
    have c := of_decide_eq_true b
    have d := (desc_mem lar k).mp a
    exact ⟨d, c.1, by rw [amt_at lar d]; exact c.2⟩
  · rw [List.mem_reverse]
    refine List.mem_filter.mpr ⟨(desc_mem lar k).mpr h1, decide_eq_true ⟨h2, ?_⟩⟩
    rw [← amt_at lar h1]
    exact h3
/-! ### what the program's functions promise -/
def spLinesOf : Sp := fun vs H Q _ => ∃ (v : V) (lar : List Batch), vs = [v] ∧ LarderAt H v lar ∧ lar.length ≤ 16000000 ∧ ∀ d kvs H' Ks, Same H H' → H d = none → (∀ l, LineOf kvs l → H l = none) → Stacks H' d kvs lar (lar.map (·.amount)) 1 Ks → Q (.ref d) H'
def spTaken (S : Addr) : Sp := fun vs H Q E => ∃ (l : Addr) (ws : List V) (lar : List Batch) (left : List Int) (nm : Str) (day amt : Int) (ks : List Nat), vs = [.ref l, .int day, .str nm, .int amt] ∧ H l = some (.lst ws) ∧ Held EntAt H ws (ks.reverse.map (entOf lar left)) ∧ Stack lar left nm day ks ∧ left.length = lar.length ∧ lar.length ≤ 16000000 ∧ amt ≤ 200 ∧
  ∀ H', SameBut l H H' → (∀ dd, metF lar nm day amt.toNat left amt [] = none → H dd = none → H' dd = some (.xd [("word", .str nm)]) → E (.ref S) (some dd) H') ∧
    (∀ qs left' p pus ws' ks', metF lar nm day amt.toNat left amt [] = some (qs, left') → H p = none → H' p = some (.lst pus) → Held UseAt H' pus qs → H' l = some (.lst ws') → Held EntAt H' ws' (ks'.reverse.map (entOf lar left')) → Stack lar left' nm day ks' → Q (.ref p) H')
def spUsedBy (S : Addr) : Sp := fun vs H Q E => ∃ (v : V) (d : Addr) (kvs : List (L2.Key × V)) (dish : Dish) (lar : List Batch) (left : List Int) (Ks : Str → List Nat), vs = [v, .ref d] ∧ DishAt H v dish ∧ Stacks H d kvs lar left dish.1 Ks ∧ left.length = lar.length ∧ lar.length ≤ 16000000 ∧ dish.2.length ≤ 20 ∧ (∀ x ∈ dish.2, 1 ≤ x.2 ∧ x.2 ≤ 200) ∧
  ∀ H', SameOff kvs H H' → (∀ nm dd, foldE (needF lar dish.1) dish.2 ([], left) = Except.error nm → H dd = none → H' dd = some (.xd [("word", .str nm)]) → E (.ref S) (some dd) H') ∧
    (∀ ps left' v' Ks', foldE (needF lar dish.1) dish.2 ([], left) = Except.ok (ps, left') → PairsAt H' v' ps → Stacks H' d kvs lar left' dish.1 Ks' → ps.length ≤ 4000 → Q v' H')
end Lar
namespace Lar
open PySem PySem.Spec PyProof.Rows L2
theorem held_last {α : Type} {R : Hp → V → α → Prop} {H : Hp} {ws : List V} {xs : List α} {x : α} (h : Held R H ws (xs ++ [x])) : ∃ vs v, ws = vs ++ [v] ∧ Held R H vs xs ∧ R H v x := by
  have hl := h.len
  rw [List.length_append] at hl
  have hne : ws ≠ [] := by intro z; rw [z] at hl; simp at hl
  have e := List.dropLast_concat_getLast hne
  have ll : ws.dropLast.length = xs.length := by rw [List.length_dropLast, hl]; simp
  refine ⟨ws.dropLast, ws.getLast hne, e.symm, ⟨ll, fun i v y hv hy => ?_⟩, ?_⟩
  · refine h.all i v y ?_ (by rw [List.getElem?_append_left (List.getElem?_eq_some_iff.mp hy).1]; exact hy)
    rw [← e, List.getElem?_append_left (List.getElem?_eq_some_iff.mp hv).1]
    exact hv
  · refine h.all xs.length _ x ?_ (by rw [List.getElem?_append_right (Nat.le_refl _), Nat.sub_self]; rfl)
    have hx : ws.length - 1 = xs.length := by simp at hl; omega
    rw [List.getLast_eq_getElem, ← hx]
    exact List.getElem?_eq_getElem _
theorem met_empty {lar : List Batch} {left : List Int} {nm : Str} {day amt : Int} {ps : List Use} {n : Nat} (S : Stack lar left nm day []) (h : 0 < amt) (hn : amt.toNat ≤ n) : metF lar nm day n left amt ps = none := by
  cases n with
  | zero => omega
  | succ n => unfold metF; rw [if_pos h, next_empty S]
theorem met_head {lar : List Batch} {left : List Int} {nm : Str} {day amt : Int} {ps : List Use} {n k : Nat} {r : List Nat} (S : Stack lar left nm day (k :: r)) (hd : day ≤ lastK lar k) (h : 0 < amt) (hn : amt.toNat ≤ n + 1) :
    metF lar nm day (n + 1) left amt ps = metF lar nm day n (left.set k (left.getD k 0 - mnI amt (left.getD k 0))) (amt - mnI amt (left.getD k 0)) (ps ++ [(k, mnI amt (left.getD k 0))]) := by
  rw [metF, if_pos h, next_head S hd]
/-- between two turns of one need's loop -/
structure TakeInv (lar : List Batch) (left : List Int) (nm : Str) (day amt : Int) (l p : Addr) (H : Hp) (m : Nat) (H' : Hp) (a : Int) (qs : List Use) (lf : List Int) (ks : List Nat) : Prop where
  same : SameBut l H H'
  pairs : ∃ pus, H' p = some (.lst pus) ∧ Held UseAt H' pus qs
  line : ∃ ws, H' l = some (.lst ws) ∧ Held EntAt H' ws (ks.reverse.map (entOf lar lf))
  stack : Stack lar lf nm day ks
  len : lf.length = lar.length
  fold : ∃ n, metF lar nm day amt.toNat left amt [] = metF lar nm day n lf a qs ∧ a.toNat ≤ n
  most : a ≤ 200
  few : qs.length + a.toNat ≤ 200
  meas : m = ks.length + a.toNat
end Lar
namespace Lar
open PySem PySem.Spec PyProof.Rows L2
/-! ### for the laws over the whole program -/
theorem kop_in {X : Cx} (K : PySem.W.Frag) (hK : X.K = K := by rfl) : OpR X (compareOp .In) (rIn K false) := by subst hK; exact op_in_seq
theorem strs_flat : ∀ xs : List Str, (xs.map V.str).all flatV = true
  | [] => rfl
  | x :: r => by rw [List.map_cons, List.all_cons, strs_flat r]; rfl
theorem names_mem {ds : List Dish} {d : Dish} {x : Need} (hd : d ∈ ds) (hx : x ∈ d.2) : x.1 ∈ namesOf ds := by
  unfold namesOf
  rw [insAll_mem]
  right
  unfold allS
  exact List.mem_flatMap.mpr ⟨d, hd, List.mem_map.mpr ⟨x, hx, rfl⟩⟩
theorem sumC_set_down : ∀ (cs : List Int) (k : Nat) (c z : Int), cs[k]? = some c → z ≤ c ∨ z ≤ 0 → sumC (cs.set k z) ≤ sumC cs
  | [], _, _, _, _, _ => by simp
  | c :: cs, 0, c', z, h, hz => by
    cases h
    unfold sumC
    rw [List.set_cons_zero, List.map_cons, List.sum_cons, List.map_cons, List.sum_cons]
    omega
  | c :: cs, k + 1, c', z, h, hz => by
    have ih := sumC_set_down cs k c' z (by simpa using h) hz
    unfold sumC at ih ⊢
    rw [List.set_cons_succ, List.map_cons, List.sum_cons, List.map_cons, List.sum_cons]
    omega
theorem need_most (nm : Str) : ∀ ns : List Need, (∀ y ∈ ns, 0 ≤ y.2 ∧ y.2 ≤ 200) → 0 ≤ (ns.filterMap fun x => if x.1 = nm then some x.2 else none).sum ∧ (ns.filterMap fun x => if x.1 = nm then some x.2 else none).sum ≤ 200 * ns.length
  | [], _ => by simp
  | y :: r, h => by
    have ih := need_most nm r fun z hz => h z (List.mem_cons_of_mem _ hz)
    have hy := h y List.mem_cons_self
    rw [List.length_cons]
    by_cases e : y.1 = nm
    · simp only [List.filterMap_cons, if_pos e, List.sum_cons]
      omega
    · simp only [List.filterMap_cons, if_neg e]
      omega
theorem from_most (nm : Str) (day : Int) : ∀ ds : List Dish, (∀ d ∈ ds, d.2.length ≤ 20) → (∀ d ∈ ds, ∀ y ∈ d.2, 0 ≤ y.2 ∧ y.2 ≤ 200) → 0 ≤ needFrom ds nm day ∧ needFrom ds nm day ≤ 4000 * ds.length
  | [], _, _ => by simp [needFrom]
  | d :: r, h1, h2 => by
    have ih := from_most nm day r (fun z hz => h1 z (List.mem_cons_of_mem _ hz)) (fun z hz => h2 z (List.mem_cons_of_mem _ hz))
    have a := h1 d List.mem_cons_self
    have b := need_most nm d.2 (h2 d List.mem_cons_self)
    unfold needFrom at ih ⊢
    rw [List.map_cons, List.sum_cons, List.length_cons]
    have : 0 ≤ needOf d nm ∧ needOf d nm ≤ 4000 := ⟨b.1, by have := b.2; unfold needOf; omega⟩
    split <;> omega
theorem kept_nn (nm : Str) (day : Int) : ∀ lar : List Batch, (∀ b ∈ lar, 0 ≤ b.amount) → 0 ≤ keptTo lar nm day
  | [], _ => by simp [keptTo]
  | b :: r, h => by
    have ih := kept_nn nm day r fun z hz => h z (List.mem_cons_of_mem _ hz)
    have a := h b List.mem_cons_self
    unfold keptTo at ih ⊢
    rw [List.map_cons, List.sum_cons]
    split <;> omega
theorem mostL_le {ls : List Int} {B : Nat} (h : ∀ x ∈ ls, x ≤ B) : mostL ls ≤ B := by
  by_cases e : ls = []
  · subst e; exact Nat.zero_le _
  · obtain ⟨x, hx, e2⟩ := mostL_mem ls e
    have := h x hx
    omega
theorem lack_most {ds : List Dish} {lar : List Batch} (nm : Str) (hl : ds.length ≤ 26) (h1 : ∀ d ∈ ds, d.2.length ≤ 20) (h2 : ∀ d ∈ ds, ∀ y ∈ d.2, 0 ≤ y.2 ∧ y.2 ≤ 200) (hb : ∀ b ∈ lar, 0 ≤ b.amount) : mostL (lackW ds lar nm) ≤ 104000 := by
  refine mostL_le fun x hx => ?_
  unfold lackW at hx
  obtain ⟨i, _, rfl⟩ := List.mem_map.mp hx
  have a := from_most nm (1 + (i : Nat)) ds h1 h2
  have b := kept_nn nm (1 + (i : Nat)) lar hb
  unfold lackDay mx0
  split <;> omega
end Lar
namespace Lar
open PySem PySem.Spec PyProof.Rows L2
local macro_rules | `(tactic| walk_at "rd") => `(tactic| repeat' first
  | refine ⟨_, rfl, ?_⟩
  | refine ⟨_, _, rfl, rfl, ?_⟩
  | refine ⟨_, _, rfl, ?_⟩
  | refine ⟨rfl, ?_⟩
  | refine ⟨⟨_, rfl⟩, ?_⟩
  | refine ⟨(by show (0 : Int) < _; decide), ?_⟩
  | refine ⟨⟨by decide, by decide⟩, ?_⟩
  | refine ⟨.inr ⟨by decide, by decide⟩, ?_⟩
  | refine ⟨.inl ⟨by decide, by decide⟩, ?_⟩
  | refine ⟨.inl ⟨by omega, by omega⟩, ?_⟩
  | refine ⟨.inr ⟨by omega, by omega⟩, ?_⟩
  | fail "rd")
def topS (i : Nat) : Stmt := PySem.Challenge.pw_larderlist_k11_whole_cooks_where_served.main.body.getD i (.Pass ⟨0, 0, 0, 0⟩)
abbrev s_mix : Stmt := topS 14
theorem sc_mix : FnScope ["_law_cell", "_law_k", "_law_x"] ["_law_cell", "_law_k"] (defScope s_mix) := ⟨rfl, rfl, rfl, by decide +kernel, rfl, by decide +kernel, by decide +kernel⟩
theorem bd_mix : ∀ (kV doc pm : Value) (an : Option Addr) (cdv ct : Value) (us : List Value), us.length = (["_law_cell", "_law_k"] : List Str).length → bindArgs (PySem.W.fnOf "_law_mix" "_law_mix" (defArgs s_mix) (defBody s_mix) (defScope s_mix) .none kV doc pm an cdv ct) ⟨us, []⟩ = pure ((["_law_cell", "_law_k"] : List Str).zip us) := fun _ _ _ _ _ _ us hl => match us, hl with | [_, _], _ => rfl
/-- a cell mixed: between 0 and a bound -/
def spMix : Sp := fun vs H Q _ => ∃ c k : Int, vs = [.int c, .int k] ∧ 0 ≤ k ∧ k ≤ 1000000 ∧ ∀ z : Int, 0 ≤ z → z < 998244353 → Q (.int z) H
theorem ok_mix {P : Program} {w : World} {K : PySem.W.Frag} {mg : Str → Option Value} {base : Heap} (D : DefAt K mg "_law_mix" s_mix) : Clb P w K mg base 1 "_law_mix" ["_law_cell", "_law_k"] spMix := by
  refine D.clb sc_mix (fun vs H Q E h => ?_) bd_mix (fun f cdv A outer s H vs Q E hr h => ?_)
  · obtain ⟨c, k, rfl, _⟩ := h
    rfl
  · obtain ⟨c, k, rfl, h0, h1, q⟩ := h
    refine ⟨_, (pss_cons (ps_set (i := 2) sc_mix.nd rfl (.inl rfl) (pe_op op_mod (pe_op op_add (pe_op op_add (pv 0) (pe_op op_mul pe_int (pv 1))) (pe_op op_mul (pe_op op_mul pe_int (pv 1)) (pv 1))) pe_int))
    (pss_one (ps_ret (pe_op op_mod (pe_op op_mul (pe_op op_mod (pe_op op_mul (pv 2) (pv 2)) pe_int) pe_int) pe_int)))), ?_⟩
    walk_at "rd"
    exact q _ (Int.emod_nonneg _ (by decide)) (Int.emod_lt_of_pos _ (by decide))
/-- the cells: a list of numbers from 0 up -/
def CellsAt (K : PySem.W.Frag) (H : Hp) (a : Addr) : Prop := ∃ cs : List Int, SqL K H a (cs.map V.int) ∧ cs.length ≤ 63 ∧ ∀ c ∈ cs, 0 ≤ c ∧ c < 1000000000000000003
theorem CellsAt.same {K : PySem.W.Frag} {H H' : Hp} {a : Addr} (h : CellsAt K H a) (e : Same H H') : CellsAt K H' a := by
  obtain ⟨cs, h1, h2⟩ := h
  exact ⟨cs, e.seq h1, h2⟩
abbrev s_cell_at : Stmt := topS 13
theorem sc_cell_at : FnScope ["_law_cells", "_law_k"] ["_law_cells", "_law_k"] (defScope s_cell_at) := ⟨rfl, rfl, rfl, by decide +kernel, rfl, by decide +kernel, by decide +kernel⟩
theorem bd_cell_at : ∀ (kV doc pm : Value) (an : Option Addr) (cdv ct : Value) (us : List Value), us.length = (["_law_cells", "_law_k"] : List Str).length → bindArgs (PySem.W.fnOf "_law_cell_at" "_law_cell_at" (defArgs s_cell_at) (defBody s_cell_at) (defScope s_cell_at) .none kV doc pm an cdv ct) ⟨us, []⟩ = pure ((["_law_cells", "_law_k"] : List Str).zip us) := fun _ _ _ _ _ _ us hl => match us, hl with | [_, _], _ => rfl
def spCellAt (K : PySem.W.Frag) : Sp := fun vs H Q _ => ∃ (a : Addr) (k : Int), vs = [.ref a, .int k] ∧ CellsAt K H a ∧ 0 ≤ k ∧ k ≤ 1000 ∧ ∀ z : Int, 0 ≤ z → z < 1000000000000000003 → Q (.int z) H
theorem ok_cell_at {P : Program} {w : World} {K : PySem.W.Frag} {mg : Str → Option Value} {base : Heap} (D : DefAt K mg "_law_cell_at" s_cell_at) (m_len : mg "len" = none) : Clb P w K mg base 1 "_law_cell_at" ["_law_cells", "_law_k"] (spCellAt K) := by
  refine D.clb sc_cell_at (fun vs H Q E h => ?_) bd_cell_at (fun f cdv A outer s H vs Q E hr h => ?_)
  · obtain ⟨a, k, rfl, _⟩ := h
    rfl
  · obtain ⟨a, k, rfl, ⟨cs, hc, hl, hb⟩, h0, h1, q⟩ := h
    refine ⟨_, (pss_cons (ps_if (pt_cmpR op_lt (pv 1) (pe_callB (kcall_len_seq K) (by rfl) m_len (by decide +kernel) (pa_cons (pv 0) pa_nil)) (nomark _))
      (pss_one (ps_ret (pe_ix (kix_list K) (pv 0) (pv 1) (fun _ _ => rfl))))
      pss_nil)
    (pss_one (ps_ret (pe_op op_mul (pe_op op_mul (pe_op op_add (pv 1) pe_int) (pe_op op_add (pv 1) pe_int)) pe_int)))), ?_⟩
    refine ⟨_, rfl, _, rfl, a, _, rfl, .inl hc, ?_⟩
    walk_at "rd"
    refine it_lt (fun hlt => ?_) (fun _ => ?_)
    · rw [List.length_map] at hlt
      have hk : k.toNat < cs.length := by omega
      refine ⟨_, rfl, _, rfl, a, _, _, .int cs[k.toNat], rfl, rfl, hc, at_of (j := k.toNat) (by omega) (ix_map (List.getElem?_eq_getElem hk)), ?_⟩
      exact q _ (hb _ (List.getElem_mem hk)).1 (hb _ (List.getElem_mem hk)).2
    · walk_at "rd"
      have h3 : 0 ≤ (k + 3) * (k + 7) := Int.mul_nonneg (by omega) (by omega)
      have h4 : (k + 3) * (k + 7) ≤ 1003 * (k + 7) := Int.mul_le_mul_of_nonneg_right (by omega) (by omega)
      exact q _ (by show 0 ≤ (k + 3) * (k + 7) * 7919; omega) (by show (k + 3) * (k + 7) * 7919 < _; omega)
abbrev s_mixed : Stmt := topS 12
theorem sc_mixed : FnScope ["_law_script", "_law_found", "_law_more", "_law_cell"] ["_law_script"] (defScope s_mixed) := ⟨rfl, rfl, rfl, by decide +kernel, rfl, by decide +kernel, by decide +kernel⟩
theorem bd_mixed : ∀ (kV doc pm : Value) (an : Option Addr) (cdv ct : Value) (us : List Value), us.length = (["_law_script"] : List Str).length → bindArgs (PySem.W.fnOf "_law_mixed" "_law_mixed" (defArgs s_mixed) (defBody s_mixed) (defScope s_mixed) .none kV doc pm an cdv ct) ⟨us, []⟩ = pure ((["_law_script"] : List Str).zip us) := fun _ _ _ _ _ _ us hl => match us, hl with | [_], _ => rfl
def spMixed (K : PySem.W.Frag) : Sp := fun vs H Q _ => ∃ (a : Addr) (ns : List Int), vs = [.ref a] ∧ SqL K H a (ns.map V.int) ∧ ns.length ≤ 63 ∧ ∀ p H', Same H H' → CellsAt K H' p → Q (.ref p) H'
theorem ok_mixed {P : Program} {w : World} {K : PySem.W.Frag} {mg : Str → Option Value} {base : Heap} (D : DefAt K mg "_law_mixed" s_mixed) : Clb P w K mg base 1 "_law_mixed" ["_law_script"] (spMixed K) := by
  refine D.clb sc_mixed (fun vs H Q E h => ?_) bd_mixed (fun f cdv A outer s H vs Q E hr h => ?_)
  · obtain ⟨a, ns, rfl, _⟩ := h
    rfl
  · obtain ⟨a, ns, rfl, hS, hl, q⟩ := h
    refine ⟨_, (pss_cons (ps_set (i := 1) sc_mixed.nd rfl (.inl rfl) (pe_lst pa_nil))
    (pss_cons (ps_set (i := 2) sc_mixed.nd rfl (.inl rfl) pe_int)
    (pss_cons (ps_for PassesOwn.never rfl (kpi_list K (pv 0)) (pg_name (i := 3) sc_mixed.nd rfl (.inl rfl))
      (pss_cons (ps_set (i := 2) sc_mixed.nd rfl (.inl rfl) (pe_op op_mod (pe_op op_add (pe_op op_add (pe_op op_mul (pv 2) pe_int) (pv 3)) pe_int) pe_int))
    (pss_one (ps_expr (kpe_bm K PySem.F.plainAttrs_list PySem.F.slot_list_append PySem.F.type_list_append mt_append (pv 1) (pa_cons (pv 2) pa_nil))))))
    (pss_one (ps_ret (pv 1)))))), ?_⟩
    refine ⟨Nat.zero_le _, fun p hp => ?_⟩
    refine ⟨_, rfl, a, rfl, ⟨_, (same_upd hp).seq hS⟩, for_list (xs := ns.map V.int) (fun i σ H' => ∃ (cs : List Int) (m : Int) (y : Option V), σ = [some (.ref a), some (.ref p), some (.int m), y] ∧ Same H H' ∧ H' p = some (.lst (cs.map V.int)) ∧ cs.length = i ∧
      (0 ≤ m ∧ m < 1000000000000000003) ∧ ∀ c ∈ cs, 0 ≤ c ∧ c < 1000000000000000003) ⟨[], 1, none, rfl, same_upd hp, upd_same, rfl, by decide, fun _ h => nomatch h⟩ (fun i σ H' _ h => ?_) (fun i x σ H' hx h => ?_) (fun σ H' h => ?_)⟩
    · obtain ⟨cs, m, y, _, sm, _⟩ := h
      exact sm.seq hS
    · obtain ⟨cs, m, y, rfl, sm, hcs, hi, hm, hb⟩ := h
      obtain ⟨n, hn, rfl⟩ := map_ix hx
      have hlt : i < ns.length := (List.getElem?_eq_some_iff.mp hn).1
      walk_at "rd"
      refine ⟨.inl ⟨rfl, _, sqL hcs⟩, ?_⟩
      refine ⟨_, rfl, p, _, _, rfl, rfl, hcs, small' (by rw [List.length_map]; omega), ?_⟩
      have h1 : 0 ≤ (m * 6364136223846793005 + n + 1442695040888963407) % 1000000000000000003 := Int.emod_nonneg _ (by decide)
      have h2 : (m * 6364136223846793005 + n + 1442695040888963407) % 1000000000000000003 < 1000000000000000003 := Int.emod_lt_of_pos _ (by decide)
      refine ⟨cs ++ [(m * 6364136223846793005 + n + 1442695040888963407) % 1000000000000000003], _, _, rfl, sm.mut hp, ?_, ?_, ⟨h1, h2⟩, fun c hc => ?_⟩
      · rw [upd_same, List.map_append]; rfl
      · rw [List.length_append, hi]; rfl
      · rcases List.mem_append.mp hc with z | z
        · exact hb c z
        · rw [List.mem_singleton.mp z]
          exact ⟨h1, h2⟩
    · obtain ⟨cs, m, y, rfl, sm, hcs, hi, hm, hb⟩ := h
      rw [List.length_map] at hi
      exact ⟨_, rfl, q p H' sm ⟨cs, sqL hcs, by omega, hb⟩⟩
abbrev s_amount : Stmt := topS 16
theorem sc_amount : FnScope ["_law_cell", "_law_most", "_law_way"] ["_law_cell", "_law_most"] (defScope s_amount) := ⟨rfl, rfl, rfl, by decide +kernel, rfl, by decide +kernel, by decide +kernel⟩
theorem bd_amount : ∀ (kV doc pm : Value) (an : Option Addr) (cdv ct : Value) (us : List Value), us.length = (["_law_cell", "_law_most"] : List Str).length → bindArgs (PySem.W.fnOf "_law_amount" "_law_amount" (defArgs s_amount) (defBody s_amount) (defScope s_amount) .none kV doc pm an cdv ct) ⟨us, []⟩ = pure ((["_law_cell", "_law_most"] : List Str).zip us) := fun _ _ _ _ _ _ us hl => match us, hl with | [_, _], _ => rfl
def spAmount : Sp := fun vs H Q _ => ∃ c : Int, vs = [.int c, .int 200] ∧ ∀ z : Int, 1 ≤ z → z ≤ 200 → Q (.int z) H
theorem ok_amount {P : Program} {w : World} {K : PySem.W.Frag} {mg : Str → Option Value} {base : Heap} (D : DefAt K mg "_law_amount" s_amount) : Clb P w K mg base 1 "_law_amount" ["_law_cell", "_law_most"] spAmount := by
  refine D.clb sc_amount (fun vs H Q E h => ?_) bd_amount (fun f cdv A outer s H vs Q E hr h => ?_)
  · obtain ⟨c, rfl, _⟩ := h
    rfl
  · obtain ⟨c, rfl, q⟩ := h
    refine ⟨_, (pss_cons (ps_set (i := 2) sc_amount.nd rfl (.inl rfl) (pe_op op_mod (pv 0) pe_int))
    (pss_cons (ps_if (pt_cmpR op_eq (pv 2) pe_int (nomark _))
      (pss_one (ps_ret (pe_op op_add pe_int (pe_op op_mod (pe_op op_fdiv (pv 0) pe_int) (pv 1)))))
      pss_nil)
    (pss_cons (ps_if (pt_cmpR op_eq (pv 2) pe_int (nomark _))
      (pss_one (ps_ret (pe_op op_add pe_int (pe_op op_mod (pe_op op_fdiv (pv 0) pe_int) pe_int))))
      pss_nil)
    (pss_one (ps_ret (pe_op op_add pe_int (pe_op op_mod (pe_op op_fdiv (pv 0) pe_int) pe_int))))))), ?_⟩
    have e1 := Int.emod_nonneg (c / 8) (show (200 : Int) ≠ 0 by decide)
    have e2 := Int.emod_lt_of_pos (c / 8) (show (0 : Int) < 200 by decide)
    have e3 := Int.emod_nonneg (c / 8) (show (60 : Int) ≠ 0 by decide)
    have e4 := Int.emod_lt_of_pos (c / 8) (show (0 : Int) < 60 by decide)
    have e5 := Int.emod_nonneg (c / 8) (show (12 : Int) ≠ 0 by decide)
    have e6 := Int.emod_lt_of_pos (c / 8) (show (0 : Int) < 12 by decide)
    walk_at "rd"
    refine it_eqI (fun _ => ?_) (fun _ => ?_)
    · walk_at "rd"
      exact q _ (by show 1 ≤ 1 + _; omega) (by show 1 + _ ≤ (200 : Int); omega)
    · walk_at "rd"
      refine it_eqI (fun _ => ?_) (fun _ => ?_)
      · walk_at "rd"
        exact q _ (by show 1 ≤ 1 + _; omega) (by show 1 + _ ≤ (200 : Int); omega)
      · walk_at "rd"
        exact q _ (by show 1 ≤ 1 + _; omega) (by show 1 + _ ≤ (200 : Int); omega)
abbrev s_last : Stmt := topS 17
theorem sc_last : FnScope ["_law_cell"] ["_law_cell"] (defScope s_last) := ⟨rfl, rfl, rfl, by decide +kernel, rfl, by decide +kernel, by decide +kernel⟩
theorem bd_last : ∀ (kV doc pm : Value) (an : Option Addr) (cdv ct : Value) (us : List Value), us.length = (["_law_cell"] : List Str).length → bindArgs (PySem.W.fnOf "_law_last" "_law_last" (defArgs s_last) (defBody s_last) (defScope s_last) .none kV doc pm an cdv ct) ⟨us, []⟩ = pure ((["_law_cell"] : List Str).zip us) := fun _ _ _ _ _ _ us hl => match us, hl with | [_], _ => rfl
def spLast : Sp := fun vs H Q _ => ∃ c : Int, vs = [.int c] ∧ ∀ z : Int, 1 ≤ z → z ≤ 99 → Q (.int z) H
theorem ok_last {P : Program} {w : World} {K : PySem.W.Frag} {mg : Str → Option Value} {base : Heap} (D : DefAt K mg "_law_last" s_last) : Clb P w K mg base 1 "_law_last" ["_law_cell"] spLast := by
  refine D.clb sc_last (fun vs H Q E h => ?_) bd_last (fun f cdv A outer s H vs Q E hr h => ?_)
  · obtain ⟨c, rfl, _⟩ := h
    rfl
  · obtain ⟨c, rfl, q⟩ := h
    refine ⟨_, (pss_cons (ps_if (pt_cmpR op_eq (pe_op op_mod (pv 0) pe_int) pe_int (nomark _))
      (pss_one (ps_ret (pe_op op_add pe_int (pe_op op_mod (pe_op op_fdiv (pv 0) pe_int) pe_int))))
      pss_nil)
    (pss_cons (ps_if (pt_cmpR op_lt (pe_op op_mod (pv 0) pe_int) pe_int (nomark _))
      (pss_one (ps_ret (pe_op op_add pe_int (pe_op op_mod (pe_op op_fdiv (pv 0) pe_int) pe_int))))
      pss_nil)
    (pss_one (ps_ret (pe_op op_add pe_int (pe_op op_mod (pe_op op_fdiv (pv 0) pe_int) pe_int)))))), ?_⟩
    have e1 := Int.emod_nonneg (c / 6) (show (99 : Int) ≠ 0 by decide)
    have e2 := Int.emod_lt_of_pos (c / 6) (show (0 : Int) < 99 by decide)
    have e3 := Int.emod_nonneg (c / 6) (show (2 : Int) ≠ 0 by decide)
    have e4 := Int.emod_lt_of_pos (c / 6) (show (0 : Int) < 2 by decide)
    have e5 := Int.emod_nonneg (c / 6) (show (9 : Int) ≠ 0 by decide)
    have e6 := Int.emod_lt_of_pos (c / 6) (show (0 : Int) < 9 by decide)
    walk_at "rd"
    refine it_eqI (fun _ => ?_) (fun _ => ?_)
    · walk_at "rd"
      exact q _ (by show 1 ≤ 1 + _; omega) (by show 1 + _ ≤ (99 : Int); omega)
    · walk_at "rd"
      refine it_lt (fun _ => ?_) (fun _ => ?_)
      · walk_at "rd"
        exact q _ (by show 1 ≤ 7 + _; omega) (by show 7 + _ ≤ (99 : Int); omega)
      · walk_at "rd"
        exact q _ (by show 1 ≤ 1 + _; omega) (by show 1 + _ ≤ (99 : Int); omega)
abbrev s_many : Stmt := topS 23
theorem sc_many : FnScope ["_law_cell", "_law_few", "_law_room"] ["_law_cell", "_law_few", "_law_room"] (defScope s_many) := ⟨rfl, rfl, rfl, by decide +kernel, rfl, by decide +kernel, by decide +kernel⟩
theorem bd_many : ∀ (kV doc pm : Value) (an : Option Addr) (cdv ct : Value) (us : List Value), us.length = (["_law_cell", "_law_few", "_law_room"] : List Str).length → bindArgs (PySem.W.fnOf "_law_many" "_law_many" (defArgs s_many) (defBody s_many) (defScope s_many) .none kV doc pm an cdv ct) ⟨us, []⟩ = pure ((["_law_cell", "_law_few", "_law_room"] : List Str).zip us) := fun _ _ _ _ _ _ us hl => match us, hl with | [_, _, _], _ => rfl
def spMany : Sp := fun vs H Q _ => ∃ c few room : Int, vs = [.int c, .int few, .int room] ∧ 0 ≤ few ∧ few ≤ room ∧ ∀ z : Int, 0 ≤ z → z ≤ room → Q (.int z) H
theorem ok_many {P : Program} {w : World} {K : PySem.W.Frag} {mg : Str → Option Value} {base : Heap} (D : DefAt K mg "_law_many" s_many) : Clb P w K mg base 1 "_law_many" ["_law_cell", "_law_few", "_law_room"] spMany := by
  refine D.clb sc_many (fun vs H Q E h => ?_) bd_many (fun f cdv A outer s H vs Q E hr h => ?_)
  · obtain ⟨c, few, room, rfl, _⟩ := h
    rfl
  · obtain ⟨c, few, room, rfl, h0, h1, q⟩ := h
    refine ⟨_, (pss_cons (ps_if (pt_cmpR op_eq (pe_op op_mod (pv 0) pe_int) pe_int (nomark _))
      (pss_one (ps_ret (pe_op op_mod (pe_op op_fdiv (pv 0) pe_int) (pe_op op_add (pv 2) pe_int))))
      pss_nil)
    (pss_one (ps_ret (pe_op op_mod (pe_op op_fdiv (pv 0) pe_int) (pe_op op_add (pv 1) pe_int))))), ?_⟩
    have e1 := Int.emod_nonneg (c / 24) (show room + 1 ≠ 0 by omega)
    have e2 := Int.emod_lt_of_pos (c / 24) (show 0 < room + 1 by omega)
    have e3 := Int.emod_nonneg (c / 24) (show few + 1 ≠ 0 by omega)
    have e4 := Int.emod_lt_of_pos (c / 24) (show 0 < few + 1 by omega)
    walk_at "rd"
    refine it_eqI (fun _ => ?_) (fun _ => ?_)
    · walk_at "rd"
      refine ⟨(by show 0 < room + 1; omega), q _ e1 (by show c / 24 % (room + 1) ≤ room; omega)⟩
    · walk_at "rd"
      refine ⟨(by show 0 < few + 1; omega), q _ e3 (by show c / 24 % (few + 1) ≤ room; omega)⟩
abbrev s_names : Stmt := topS 22
theorem sc_names : FnScope ["_law_cells", "_law_seed", "_law_many_here"] ["_law_cells"] (defScope s_names) := ⟨rfl, rfl, rfl, by decide +kernel, rfl, by decide +kernel, by decide +kernel⟩
theorem bd_names : ∀ (kV doc pm : Value) (an : Option Addr) (cdv ct : Value) (us : List Value), us.length = (["_law_cells"] : List Str).length → bindArgs (PySem.W.fnOf "_law_names" "_law_names" (defArgs s_names) (defBody s_names) (defScope s_names) .none kV doc pm an cdv ct) ⟨us, []⟩ = pure ((["_law_cells"] : List Str).zip us) := fun _ _ _ _ _ _ us hl => match us, hl with | [_], _ => rfl
/-- the seed of the names, how many there are -/
def NamesAt (K : PySem.W.Frag) (H : Hp) (a : Addr) (seed many : Int) : Prop := H a = some (.lst [.int seed, .int many]) ∧ 1 ≤ many ∧ many ≤ 12
theorem NamesAt.same {K : PySem.W.Frag} {H H' : Hp} {a : Addr} {s m : Int} (h : NamesAt K H a s m) (e : Same H H') : NamesAt K H' a s m := ⟨e _ _ h.1, h.2⟩
def spNames (K : PySem.W.Frag) : Sp := fun vs H Q _ => ∃ a : Addr, vs = [.ref a] ∧ CellsAt K H a ∧ ∀ p H' seed many, Same H H' → NamesAt K H' p seed many → Q (.ref p) H'
theorem ok_names {P : Program} {w : World} {K : PySem.W.Frag} {mg : Str → Option Value} {base : Heap} (D : DefAt K mg "_law_names" s_names) (C_cell_at : Clb P w K mg base 1 "_law_cell_at" ["_law_cells", "_law_k"] (spCellAt K)) :
    Clb P w K mg base 2 "_law_names" ["_law_cells"] (spNames K) := by
  refine D.clb sc_names (fun vs H Q E h => ?_) bd_names (fun f cdv A outer s H vs Q E hr h => ?_)
  · obtain ⟨a, rfl, _⟩ := h
    rfl
  · obtain ⟨a, rfl, hc, q⟩ := h
    refine ⟨_, (pss_cons (ps_set (i := 1) sc_names.nd rfl (.inl rfl) (pe_cal C_cell_at (hr.mono (by decide)) (pa_cons (pv 0) (pa_cons pe_int pa_nil))))
    (pss_cons (ps_set (i := 2) sc_names.nd rfl (.inl rfl) (pe_ix (kix_list K) (pe_lst (pa_cons pe_int (pa_cons pe_int (pa_cons pe_int (pa_cons pe_int pa_nil))))) (pe_op op_mod (pe_cal C_cell_at (hr.mono (by decide)) (pa_cons (pv 0) (pa_cons pe_int pa_nil))) pe_int) (fun _ _ => rfl)))
    (C8.pss_cut (ps_if (pt_cmpR op_eq (pe_op op_mod (pe_op op_fdiv (pe_cal C_cell_at (hr.mono (by decide)) (pa_cons (pv 0) (pa_cons pe_int pa_nil))) pe_int) pe_int) pe_int (nomark _))
      (pss_one (ps_set (i := 2) sc_names.nd rfl (.inl rfl) pe_int))
      pss_nil)
    (pss_one (ps_ret (pe_lst (pa_cons (pv 1) (pa_cons (pv 2) pa_nil)))))))), ?_⟩
    refine ⟨_, rfl, a, 0, rfl, hc, by decide, by decide, fun seed s0 s1 => ?_⟩
    refine ⟨small (by show 4 ≤ 100000; decide), fun p hp => ?_⟩
    have sp := same_upd (o := .lst [V.int 1, V.int 2, V.int 3, V.int 4]) hp
    refine ⟨_, rfl, a, 1, rfl, hc.same sp, by decide, by decide, fun c1 _ _ => ?_⟩
    have m1 := Int.emod_nonneg c1 (show (4 : Int) ≠ 0 by decide)
    have m2 := Int.emod_lt_of_pos c1 (show (0 : Int) < 4 by decide)
    have hm : ∃ m : Int, atI [V.int 1, V.int 2, V.int 3, V.int 4] (c1 % 4) = some (.int m) ∧ 1 ≤ m ∧ m ≤ 12 := by
      have : c1 % 4 = 0 ∨ c1 % 4 = 1 ∨ c1 % 4 = 2 ∨ c1 % 4 = 3 := by omega
      rcases this with e | e | e | e <;> rw [e]
      · exact ⟨1, rfl, by decide, by decide⟩
      · exact ⟨2, rfl, by decide, by decide⟩
      · exact ⟨3, rfl, by decide, by decide⟩
      · exact ⟨4, rfl, by decide, by decide⟩
    obtain ⟨m, em, h1, h2⟩ := hm
    walk_at "rd"
    refine ⟨p, _, _, _, rfl, rfl, sqL upd_same, em, ?_⟩
    walk_at "rd"
    refine ⟨fun σ' H' => ∃ m : Int, σ' = [some (.ref a), some (.int seed), some (.int m)] ∧ H' = upd H p (.lst [V.int 1, V.int 2, V.int 3, V.int 4]) ∧ 1 ≤ m ∧ m ≤ 12, ?_, fun σ' H' h => ?_⟩
    · refine ⟨_, rfl, a, 1, rfl, hc.same sp, by decide, by decide, fun c2 _ _ => ?_⟩
      walk_at "rd"
      refine it_eqI (fun _ => ?_) (fun _ => ?_)
      · exact ⟨12, rfl, rfl, by decide, by decide⟩
      · exact ⟨m, rfl, rfl, h1, h2⟩
    · obtain ⟨m, rfl, rfl, h1, h2⟩ := h
      refine ⟨_, rfl, _, rfl, small (by show 2 ≤ 100000; decide), fun r hr => ?_⟩
      exact q r _ seed m (sp.new hr) ⟨upd_same, h1, h2⟩
abbrev s_name_by : Stmt := topS 15
theorem sc_name_by : FnScope ["_law_seed", "_law_k", "_law_signs", "_law_words", "_law_more", "_law_name", "_law_at", "_law_turn", "_law_spot", "_law_two", "_law_sign"] ["_law_seed", "_law_k"] (defScope s_name_by) := ⟨rfl, rfl, rfl, by decide +kernel, rfl, by decide +kernel, by decide +kernel⟩
theorem bd_name_by : ∀ (kV doc pm : Value) (an : Option Addr) (cdv ct : Value) (us : List Value), us.length = (["_law_seed", "_law_k"] : List Str).length → bindArgs (PySem.W.fnOf "_law_name_by" "_law_name_by" (defArgs s_name_by) (defBody s_name_by) (defScope s_name_by) .none kV doc pm an cdv ct) ⟨us, []⟩ = pure ((["_law_seed", "_law_k"] : List Str).zip us) := fun _ _ _ _ _ _ us hl => match us, hl with | [_, _], _ => rfl
def spNameBy : Sp := fun vs H Q _ => ∃ seed k : Int, vs = [.int seed, .int k] ∧ 0 ≤ k ∧ k ≤ 100 ∧ ∀ H', Same H H' → Q (.str (nameBy seed k)) H'
theorem ok_name_by {P : Program} {w : World} {K : PySem.W.Frag} {mg : Str → Option Value} {base : Heap} (D : DefAt K mg "_law_name_by" s_name_by) (m_len : mg "len" = none) (m_min : mg "min" = none) (m_range : mg "range" = none) :
    Clb P w K mg base 1 "_law_name_by" ["_law_seed", "_law_k"] spNameBy := by
  refine D.clb sc_name_by (fun vs H Q E h => ?_) bd_name_by (fun f cdv A outer s H vs Q E hr h => ?_)
  · obtain ⟨seed, k, rfl, _⟩ := h
    rfl
  · obtain ⟨seed, k, rfl, h0, h1, q⟩ := h
    refine ⟨_, (pss_cons (ps_set (i := 2) sc_name_by.nd rfl (.inl rfl) pe_str)
    (pss_cons (ps_set (i := 3) sc_name_by.nd rfl (.inl rfl) (pe_lst (pa_cons pe_str (pa_cons pe_str (pa_cons pe_str (pa_cons pe_str (pa_cons pe_str (pa_cons pe_str (pa_cons pe_str (pa_cons pe_str (pa_cons pe_str (pa_cons pe_str (pa_cons pe_str pa_nil)))))))))))))
    (pss_cons (ps_set (i := 4) sc_name_by.nd rfl (.inl rfl) (pe_op op_fdiv (pv 0) pe_int))
    (C8.pss_cut (ps_if (PW.pt (pw_and (pt_cmpR op_eq (pe_op op_mod (pv 0) pe_int) pe_int (nomark _)) (pw_and1 (pt_cmpR op_lt (pv 1) pe_int (nomark _)))))
      (pss_one (ps_ret (pe_ix (kix_list K) (pv 3) (pe_op op_mod (pe_op op_add (pv 4) (pv 1)) pe_int) (fun _ _ => rfl))))
      pss_nil)
    (pss_cons (ps_set (i := 5) sc_name_by.nd rfl (.inl rfl) pe_str)
    (pss_cons (ps_set (i := 6) sc_name_by.nd rfl (.inl rfl) (pe_op op_fdiv (pv 4) pe_int))
    (pss_cons (ps_for PassesOwn.never rfl (pi_range1 (by rfl) m_range (pa_cons (pe_op op_add pe_int (pe_op op_mod (pv 4) pe_int)) pa_nil)) (pg_name (i := 7) sc_name_by.nd rfl (.inl rfl))
      (pss_cons (ps_set (i := 6) sc_name_by.nd rfl (.inl rfl) (pe_op op_add (pe_op op_add (pv 6) pe_int) (pe_op op_mod (pe_op op_fdiv (pv 4) pe_int) pe_int)))
    (pss_one (ps_set (i := 5) sc_name_by.nd rfl (.inl rfl) (pe_op op_add_str (pv 5) (pe_ix ix_str (pv 2) (pe_op op_mod (pv 6) pe_int) (fun _ _ => rfl)))))))
    (pss_cons (ps_set (i := 8) sc_name_by.nd rfl (.inl rfl) (pe_op op_mod (pe_op op_fdiv (pv 4) pe_int) (pe_callB call_len_str (by rfl) m_len (by decide +kernel) (pa_cons (pv 5) pa_nil))))
    (pss_cons (ps_if (pt_cmpR op_gt (pv 1) pe_int (nomark _))
      (pss_cons (ps_set (i := 9) sc_name_by.nd rfl (.inl rfl) (pe_op op_add_str (pe_ix ix_str (pv 2) (pe_op op_mod (pe_op op_add (pv 6) (pe_op op_fdiv (pv 1) pe_int)) pe_int) (fun _ _ => rfl)) (pe_ix ix_str (pv 2) (pe_op op_mod (pv 1) pe_int) (fun _ _ => rfl))))
    (pss_one (ps_ret (pe_op op_add_str (pe_op op_add_str (pe_slice sl_str (pv 5) po_none (po_some (pe_callB (call_min2 rfl) (by rfl) m_min (by decide +kernel) (pa_cons (pv 8) (pa_cons pe_int pa_nil))))) (pv 9)) (pe_slice sl_str (pv 5) (po_some (pe_callB (call_min2 rfl) (by rfl) m_min (by decide +kernel) (pa_cons (pv 8) (pa_cons pe_int pa_nil)))) (po_some pe_int))))))
      pss_nil)
    (pss_cons (ps_if (pt_cmpR op_gt (pe_op op_mod (pv 0) pe_int) pe_int (nomark _))
      (pss_one (ps_ret (pe_op op_add_str (pe_ix ix_str (pv 2) (pe_op op_mod (pe_op op_add (pe_op op_fdiv (pv 4) pe_int) (pv 1)) pe_int) (fun _ _ => rfl)) (pv 5))))
      pss_nil)
    (pss_cons (ps_if (pt_cmpR op_eq (pv 1) pe_int (nomark _))
      (pss_cons (ps_set (i := 10) sc_name_by.nd rfl (.inl rfl) (pe_ix ix_str (pv 2) (pe_op op_mod (pe_op op_add (pe_m1 PySem.F.slot_str_find PySem.F.type_str_find mt_find (pv 2) (pe_ix ix_str (pv 5) (pv 8) (fun _ _ => rfl))) pe_int) pe_int) (fun _ _ => rfl)))
    (pss_one (ps_ret (pe_op op_add_str (pe_op op_add_str (pe_slice sl_str (pv 5) po_none (po_some (pv 8))) (pv 10)) (pe_slice sl_str (pv 5) (po_some (pe_op op_add (pv 8) pe_int)) po_none)))))
      pss_nil)
    (pss_one (ps_ret (pe_op op_add_str (pv 5) (pe_ix (kix_list K) (pe_lst (pa_cons pe_str (pa_cons pe_str (pa_cons (pe_ix ix_str (pv 2) (pe_op op_mod (pv 6) pe_int) (fun _ _ => rfl)) (pa_cons (pe_ix ix_str (pv 2) (pe_op op_mod (pe_op op_add (pv 6) pe_int) pe_int) (fun _ _ => rfl)) pa_nil))))) (pv 1) (fun _ _ => rfl)))))))))))))))), ?_⟩
    refine ⟨small (by show 11 ≤ 100000; decide), fun p hp => ?_⟩
    have sp := same_upd (o := .lst (words.map V.str)) hp
    walk_at "rd"
    refine ⟨fun σ' H' => σ' = [some (.int seed), some (.int k), some (.str sgn), some (.ref p), some (.int (seed / 6)), none, none, none, none, none, none] ∧ H' = upd H p (.lst (words.map V.str)) ∧ ¬ (seed % 6 = 0 ∧ k < 4), ?_, fun σ' H' h => ?_⟩
    · walk_at "rd"
      refine it_eqI (fun e6 => ?_) (fun e6 => ?_)
      · walk_at "rd"
        refine it_lt (fun ek => ?_) (fun ek => ?_)
        · walk_at "rd"
          have m1 := Int.emod_nonneg (seed / 6 + k) (show (11 : Int) ≠ 0 by decide)
          have m2 := Int.emod_lt_of_pos (seed / 6 + k) (show (0 : Int) < 11 by decide)
          have hl : ((seed / 6 + k) % 11).toNat < words.length := by show _ < 11; omega
          refine ⟨p, words.map V.str, _, _, rfl, rfl, sqL upd_same, at_of (j := ((seed / 6 + k) % 11).toNat) (by omega) (ix_map (List.getElem?_eq_getElem hl)), ?_⟩
          have e : nameBy seed k = words[((seed / 6 + k) % 11).toNat] := by
            unfold nameBy
            rw [if_pos ⟨e6, ek⟩, List.getD_eq_getElem?_getD, List.getElem?_eq_getElem hl]; rfl
          rw [← e]
          exact q _ sp
        · exact ⟨rfl, rfl, fun z => ek z.2⟩
      · exact iteF ⟨rfl, rfl, fun z => e6 z.1⟩
    · obtain ⟨rfl, rfl, hno⟩ := h
      have m1 := Int.emod_nonneg (seed / 6) (show (7 : Int) ≠ 0 by decide)
      have m2 := Int.emod_lt_of_pos (seed / 6) (show (0 : Int) < 7 by decide)
      walk_at "rd"
      refine ⟨by omega, by omega, ?_⟩
      generalize hn : (1 + seed / 6 % 7).toNat = n
      have hn1 : 1 ≤ n := by omega
      have hn7 : n ≤ 7 := by omega
      refine for_range (lo := 0) (fun i σ H' => i ≤ n ∧ (∃ y : Option V, σ = [some (.int seed), some (.int k), some (.str sgn), some (.ref p), some (.int (seed / 6)), some (.str (nmNm (seed / 6) i)), some (.int (nmAt (seed / 6) i)), y, none, none, none]) ∧ H' = upd H p (.lst (words.map V.str)))
        ⟨Nat.zero_le _, ⟨none, rfl⟩, rfl⟩ (fun i σ H' hi h => ?_) (fun σ H' h => ?_)
      · obtain ⟨_, ⟨y, rfl⟩, rfl⟩ := h
        walk_at "rd"
        refine ⟨sgn, _, _, rfl, rfl, small (by rw [sgn_len']; decide), sg_at _, ?_⟩
        refine ⟨_, _, rfl, rfl, small (by rw [nmNm_len]; show i + 1 ≤ 100000; omega), ?_⟩
        exact ⟨hi, ⟨_, rfl⟩, rfl⟩
      · obtain ⟨_, ⟨y, rfl⟩, rfl⟩ := h
        generalize hnm : nmNm (seed / 6) n = nm
        generalize hat : nmAt (seed / 6) n = at'
        have ln : nm.length = n := by rw [← hnm]; exact nmNm_len _ _
        walk_at "rd"
        refine ⟨small (by omega), ?_⟩
        rw [ln]
        have s1 := Int.emod_nonneg (seed / 6 / 4550) (show (n : Int) ≠ 0 by omega)
        have s2 := Int.emod_lt_of_pos (seed / 6 / 4550) (show (0 : Int) < n by omega)
        refine ⟨_, _, rfl, rfl, by show (0 : Int) < n; omega, ?_⟩
        show gName 8 (V.int (seed / 6 / 4550 % (n : Int))) _ _ _
        generalize hsp : seed / 6 / 4550 % (n : Int) = spot at s1 s2
        have key : nameBy seed k = (if 3 < k then cutS nm none (some (min6 spot)) ++ (sg (at' + k / 26) ++ sg k) ++ cutS nm (some (min6 spot)) (some 6)
            else if 3 < seed % 6 then sg (seed / 6 / 7 + k) ++ nm
            else if k = 1 then cutS nm none (some spot) ++ sg (Txt.find sgn ⟨#[nm.cps.toList.getD spot.toNat 0]⟩ + 1) ++ cutS nm (some (spot + 1)) none
            else nm ++ [("" : Str), "", sg at', sg (at' + 1)].getD k.toNat "") := by
          unfold nameBy
          rw [if_neg hno]
          dsimp only
          rw [hn, hnm, hat, hsp]
        have c1 := fun lo hi => cutS_length nm lo hi
        walk_at "rd"
        refine it_lt (fun e3 => ?_) (fun e3 => ?_)
        · -- k > 3
          rw [if_pos e3] at key
          walk_at "rd"
          refine ⟨sgn, _, _, rfl, rfl, small (by rw [sgn_len']; decide), sg_at _, ?_⟩
          walk_at "rd"
          refine ⟨sgn, _, _, rfl, rfl, small (by rw [sgn_len']; decide), sg_at _, ?_⟩
          refine ⟨_, _, rfl, rfl, small (by show 1 + 1 ≤ 100000; decide), ?_⟩
          walk_at "rd"
          refine ⟨small (by omega), ?_⟩
          have q1 := c1 none (some (min6 spot))
          have q2 := c1 (some (min6 spot)) (some 6)
          walk_at "rd"
          refine ⟨small (by show (cutS nm none (some (min6 spot))).length + 2 ≤ 100000; omega), ?_⟩
          walk_at "rd"
          refine ⟨small (by omega), ?_⟩
          refine ⟨_, _, rfl, rfl, small (by
            show (cutS nm none (some (min6 spot)) ++ (sg (at' + k / 26) ++ sg k)).length + (cutS nm (some (min6 spot)) (some 6)).length ≤ 100000
            rw [app_len, app_len, sg_len, sg_len]; omega), ?_⟩
          have z := q _ sp
          rw [key] at z
          exact z
        · rw [if_neg e3] at key
          walk_at "rd"
          refine it_lt (fun e4 => ?_) (fun e4 => ?_)
          · rw [if_pos e4] at key
            walk_at "rd"
            refine ⟨sgn, _, _, rfl, rfl, small (by rw [sgn_len']; decide), sg_at _, ?_⟩
            walk_at "rd"
            refine ⟨small (by show 1 + nm.length ≤ 100000; omega), ?_⟩
            have z := q _ sp
            rw [key] at z
            exact z
          · rw [if_neg e4] at key
            walk_at "rd"
            refine it_eqI (fun e5 => ?_) (fun e5 => ?_)
            · rw [if_pos e5] at key
              have hsl : spot.toNat < nm.cps.toList.length := by
                rw [Array.length_toList]
                show spot.toNat < nm.length
                omega
              have ec : nm.cps.toList[spot.toNat]? = some (nm.cps.toList.getD spot.toNat 0) := by
                rw [List.getD_eq_getElem?_getD, List.getElem?_eq_getElem hsl]; rfl
              walk_at "rd"
              refine ⟨nm, _, _, rfl, rfl, small (by omega), (by have q0 := atI_nat ec; rw [Int.toNat_of_nonneg s1] at q0; exact q0), ?_⟩
              walk_at "rd"
              refine ⟨sgn, _, _, rfl, rfl, small (by rw [sgn_len']; decide), sg_at _, ?_⟩
              have q1 := c1 none (some spot)
              have q2 := c1 (some (spot + 1)) none
              walk_at "rd"
              refine ⟨small (by omega), ?_⟩
              walk_at "rd"
              refine ⟨small (by show (cutS nm none (some spot)).length + 1 ≤ 100000; omega), ?_⟩
              walk_at "rd"
              refine ⟨small (by omega), ?_⟩
              refine ⟨_, _, rfl, rfl, small (by
                show (cutS nm none (some spot) ++ sg (Txt.find sgn ⟨#[nm.cps.toList.getD spot.toNat 0]⟩ + 1)).length + (cutS nm (some (spot + 1)) none).length ≤ 100000
                rw [app_len, sg_len]; omega), ?_⟩
              have z := q _ sp
              rw [key] at z
              exact z
            · rw [if_neg e5] at key
              walk_at "rd"
              refine ⟨sgn, _, _, rfl, rfl, small (by rw [sgn_len']; decide), sg_at _, ?_⟩
              walk_at "rd"
              refine ⟨sgn, _, _, rfl, rfl, small (by rw [sgn_len']; decide), sg_at _, ?_⟩
              refine ⟨small (by show 4 ≤ 100000; decide), fun r hr2 => ?_⟩
              have hk : k = 0 ∨ k = 2 ∨ k = 3 := by omega
              have z := q _ (sp.new (o := .lst [V.str "", V.str "", V.str (sg at'), V.str (sg (at' + 1))]) hr2)
              rw [key] at z
              rcases hk with e | e | e <;> subst e
              · exact ⟨_, rfl, r, _, _, _, rfl, rfl, sqL upd_same, rfl, _, _, rfl, rfl, small (by show nm.length + 0 ≤ 100000; omega), z⟩
              · exact ⟨_, rfl, r, _, _, _, rfl, rfl, sqL upd_same, rfl, _, _, rfl, rfl, small (by show nm.length + 1 ≤ 100000; omega), z⟩
              · exact ⟨_, rfl, r, _, _, _, rfl, rfl, sqL upd_same, rfl, _, _, rfl, rfl, small (by show nm.length + 1 ≤ 100000; omega), z⟩
abbrev s_dishes : Stmt := topS 18
theorem sc_dishes : FnScope ["_law_cells", "_law_names_here", "_law_many_here", "_law_dishes_here", "_law_k", "_law_cell", "_law_needs", "_law_count", "_law_j", "_law_some", "_law_amount_here"] ["_law_cells", "_law_names_here", "_law_many_here"] (defScope s_dishes) := ⟨rfl, rfl, rfl, by decide +kernel, rfl, by decide +kernel, by decide +kernel⟩
theorem bd_dishes : ∀ (kV doc pm : Value) (an : Option Addr) (cdv ct : Value) (us : List Value), us.length = (["_law_cells", "_law_names_here", "_law_many_here"] : List Str).length → bindArgs (PySem.W.fnOf "_law_dishes" "_law_dishes" (defArgs s_dishes) (defBody s_dishes) (defScope s_dishes) .none kV doc pm an cdv ct) ⟨us, []⟩ = pure ((["_law_cells", "_law_names_here", "_law_many_here"] : List Str).zip us) := fun _ _ _ _ _ _ us hl => match us, hl with | [_, _, _], _ => rfl
def spDishes (K : PySem.W.Frag) : Sp := fun vs H Q _ => ∃ (a b : Addr) (m seed many : Int), vs = [.ref a, .ref b, .int m] ∧ CellsAt K H a ∧ NamesAt K H b seed many ∧ 0 ≤ m ∧ m ≤ 60 ∧
  ∀ (v : V) (ds : List Dish) (H' : Hp), Same H H' → DishesAt H' v ds → (ds.length : Int) ≤ m → (∀ d ∈ ds, GoodDish seed d) → Q v H'
theorem and_lt {σ : L2.St} {H : Hp} {Q : VK} {c0 : Bool} {n : Nat} {i j : Int} (hv : σ[n]? = some (some (V.int i))) (h : ∀ b, Q (.bl b) H) :
    if c0 = true then tOp (rI0 fun i j => V.bl (decide (i < j))) (tVar n) (tC (V.int j)) σ H Q else Q (.bl false) H := by
  cases c0 with
  | true => 
    refine iteT ?_
    exact ⟨_, hv, i, j, rfl, rfl, h _⟩
  | false => exact iteF (h _)
theorem ok_dishes {P : Program} {w : World} {K : PySem.W.Frag} {mg : Str → Option Value} {base : Heap} (D : DefAt K mg "_law_dishes" s_dishes) (m_range : mg "range" = none) (m_int : mg "int" = none) (m_tuple : mg "tuple" = none)
    (C_mix : Clb P w K mg base 1 "_law_mix" ["_law_cell", "_law_k"] spMix) (C_cell_at : Clb P w K mg base 1 "_law_cell_at" ["_law_cells", "_law_k"] (spCellAt K))
    (C_amount : Clb P w K mg base 1 "_law_amount" ["_law_cell", "_law_most"] spAmount) (C_name_by : Clb P w K mg base 1 "_law_name_by" ["_law_seed", "_law_k"] spNameBy) :
    Clb P w K mg base 2 "_law_dishes" ["_law_cells", "_law_names_here", "_law_many_here"] (spDishes K) := by
  refine D.clb sc_dishes (fun vs H Q E h => ?_) bd_dishes (fun f cdv A outer s H vs Q E hr h => ?_)
  · obtain ⟨a, b, m, seed, many, rfl, _⟩ := h
    rfl
  · obtain ⟨a, b, m, seed, many, rfl, hc, hn, h0, h1, q⟩ := h
    refine ⟨_, (pss_cons (ps_set (i := 3) sc_dishes.nd rfl (.inl rfl) (pe_lst pa_nil))
    (pss_cons (ps_for PassesOwn.never rfl (pi_range1 (by rfl) m_range (pa_cons (pv 2) pa_nil)) (pg_name (i := 4) sc_dishes.nd rfl (.inl rfl))
      (pss_cons (ps_set (i := 5) sc_dishes.nd rfl (.inl rfl) (pe_cal C_mix (hr.mono (by decide)) (pa_cons (pe_cal C_cell_at (hr.mono (by decide)) (pa_cons (pv 0) (pa_cons (pe_op op_add pe_int (pe_op op_mod (pv 4) pe_int)) pa_nil))) (pa_cons (pv 4) pa_nil))))
    (pss_cons (ps_set (i := 6) sc_dishes.nd rfl (.inl rfl) (pe_lst pa_nil))
    (pss_cons (ps_set (i := 7) sc_dishes.nd rfl (.inl rfl) (pe_ix (kix_list K) (pe_lst (pa_cons (pe_op op_mod (pe_op op_fdiv (pv 5) pe_int) pe_int) (pa_cons (pe_op op_mod (pe_op op_fdiv (pv 5) pe_int) pe_int) pa_nil))) (pe_callTy call_int1 (by rfl) m_int (by decide +kernel) (pa_cons (pe_and (pe_cmpR op_eq (pe_op op_mod (pe_op op_fdiv (pv 5) pe_int) pe_int) pe_int (nomark _)) (pe_one (pe_cmpR op_lt (pv 4) pe_int (nomark _)))) pa_nil)) (fun _ _ => rfl)))
    (pss_cons (ps_for PassesOwn.never rfl (pi_range1 (by rfl) m_range (pa_cons (pv 7) pa_nil)) (pg_name (i := 8) sc_dishes.nd rfl (.inl rfl))
      (pss_cons (ps_set (i := 9) sc_dishes.nd rfl (.inl rfl) (pe_cal C_mix (hr.mono (by decide)) (pa_cons (pe_op op_fdiv (pv 5) pe_int) (pa_cons (pe_op op_add (pv 8) pe_int) pa_nil))))
    (pss_cons (ps_set (i := 10) sc_dishes.nd rfl (.inl rfl) (pe_op op_add pe_int (pe_op op_mod (pe_op op_fdiv (pv 9) pe_int) pe_int)))
    (C8.pss_cut (ps_if (pt_cmpR op_eq (pe_op op_mod (pe_op op_fdiv (pv 9) pe_int) pe_int) pe_int (nomark _))
      (pss_one (ps_set (i := 10) sc_dishes.nd rfl (.inl rfl) (pe_cal C_amount (hr.mono (by decide)) (pa_cons (pe_op op_fdiv (pv 9) pe_int) (pa_cons pe_int pa_nil)))))
      pss_nil)
    (pss_one (ps_expr (kpe_bm K PySem.F.plainAttrs_list PySem.F.slot_list_append PySem.F.type_list_append mt_append (pv 6) (pa_cons (pe_tup (pa_cons (pe_cal C_name_by (hr.mono (by decide)) (pa_cons (pe_ix (kix_list K) (pv 1) pe_int (fun _ _ => rfl)) (pa_cons (pe_op op_mod (pe_op op_mod (pv 9) pe_int) (pe_ix (kix_list K) (pv 1) pe_int (fun _ _ => rfl))) pa_nil))) (pa_cons (pv 10) pa_nil))) pa_nil))))))))
    (pss_one (ps_expr (kpe_bm K PySem.F.plainAttrs_list PySem.F.slot_list_append PySem.F.type_list_append mt_append (pv 3) (pa_cons (pe_tup (pa_cons (pe_op op_add pe_int (pe_op op_mod (pv 5) pe_int)) (pa_cons (pe_callTy (kcall_tuple_of K) (by rfl) m_tuple (by decide +kernel) (pa_cons (pv 6) pa_nil)) pa_nil))) pa_nil)))))))))
    (pss_one (ps_ret (pe_callTy (kcall_tuple_of K) (by rfl) m_tuple (by decide +kernel) (pa_cons (pv 3) pa_nil)))))), ?_⟩
    refine ⟨Nat.zero_le _, fun p hp => ?_⟩
    walk_at "rd"
    refine ⟨by omega, by omega, ?_⟩
    refine for_range (lo := 0) (fun i σ H' => ∃ (y4 y5 y6 y7 y8 y9 y10 : Option V) (vs : List V) (ds : List Dish), σ = [some (.ref a), some (.ref b), some (.int m), some (.ref p), y4, y5, y6, y7, y8, y9, y10] ∧ Same H H' ∧ H' p = some (.lst vs) ∧
        Held DishAt H' vs ds ∧ ds.length = i ∧ ∀ d ∈ ds, GoodDish seed d)
      ⟨none, none, none, none, none, none, none, [], [], rfl, same_upd hp, upd_same, Held.nil, rfl, fun _ z => nomatch z⟩ (fun i σ H1 hi h => ?_) (fun σ H1 h => ?_)
    · obtain ⟨y4, y5, y6, y7, y8, y9, y10, vs, ds, rfl, sm, hpl, hd, hl, hg⟩ := h
      have hi' : (i : Int) < m := by omega
      walk_at "rd"
      refine ⟨hc.same sm, by omega, by omega, fun c c0 c1 => ?_⟩
      walk_at "rd"
      refine ⟨by omega, by omega, fun cell z0 z1 => ?_⟩
      refine ⟨Nat.zero_le _, fun r hr1 => ?_⟩
      walk_at "rd"
      refine ⟨small (by show 2 ≤ 100000; decide), fun r2 hr2 => ?_⟩
      walk_at "rd"
      refine and_lt (i := 0 + (i : Nat)) ?_ (fun bb => ?_)
      · rfl
      refine .inr ⟨_, rfl, ?_⟩
      have hcount : ∃ n : Int, atI [V.int (cell / 7 % 4), V.int (cell / 7 % 21)] (if bb = true then 1 else 0) = some (.int n) ∧ 0 ≤ n ∧ n ≤ 20 := by
        split
        · exact ⟨_, rfl, by omega, by omega⟩
        · exact ⟨_, rfl, by omega, by omega⟩
      obtain ⟨n, en, n0, n1⟩ := hcount
      refine ⟨r2, _, _, _, rfl, rfl, sqL upd_same, en, ?_⟩
      walk_at "rd"
      refine ⟨by omega, by omega, ?_⟩
      -- the heap ahead of the inner loop
      have s2 : Same (upd H1 r (.lst [])) (upd (upd H1 r (.lst [])) r2 (.lst [V.int (cell / 7 % 4), V.int (cell / 7 % 21)])) := same_upd hr2
      have rne : r ≠ r2 := fun z => by subst z; rw [upd_same] at hr2; cases hr2
      refine for_range (lo := 0) (fun j σ H' => ∃ (y8 y9 y10 : Option V) (us : List V) (ns : List Need), σ = [some (.ref a), some (.ref b), some (.int m), some (.ref p), some (.int (0 + (i : Int))), some (.int cell), some (.ref r), some (.int n), y8, y9, y10] ∧ Same H1 H' ∧ H' r = some (.lst us) ∧
          Held NeedAt H' us ns ∧ ns.length = j ∧ ∀ x ∈ ns, (1 ≤ x.2 ∧ x.2 ≤ 200) ∧ NameOf seed x.1)
        ⟨y8, y9, y10, [], [], rfl, (same_upd hr1).trans s2, (by rw [upd_ne rne]; exact upd_same), Held.nil, rfl, fun _ z => nomatch z⟩ (fun j σ H2 hj h => ?_) (fun σ H2 h => ?_)
      · obtain ⟨y8, y9, y10, us, ns, rfl, sm2, hrl, hh, hnl, hng⟩ := h
        have hj' : (j : Int) < n := by omega
        walk_at "rd"
        refine ⟨by omega, by omega, fun som z2 z3 => ?_⟩
        walk_at "rd"
        refine ⟨fun σ' H' => ∃ am : Int, σ' = [some (.ref a), some (.ref b), some (.int m), some (.ref p), some (.int (0 + (i : Int))), some (.int cell), some (.ref r), some (.int n), some (.int (0 + (j : Int))), some (.int som), some (.int am)] ∧ H2 = H' ∧ 1 ≤ am ∧ am ≤ 200, ?_, fun σ' H' h => ?_⟩
        · walk_at "rd"
          refine it_eqI (fun _ => ?_) (fun _ => ?_)
          · walk_at "rd"
            refine fun am a1 a2 => ?_
            exact ⟨am, rfl, rfl, a1, a2⟩
          · exact ⟨_, rfl, rfl, by omega, by omega⟩
        · obtain ⟨am, rfl, rfl, a1, a2⟩ := h
          have hn2 := (hn.same sm).same sm2
          walk_at "rd"
          refine ⟨.inl ⟨rfl, _, sqL hrl⟩, ?_⟩
          walk_at "rd"
          refine ⟨b, _, _, _, rfl, rfl, sqL hn2.1, rfl, ?_⟩
          walk_at "rd"
          refine ⟨b, _, _, _, rfl, rfl, sqL hn2.1, rfl, ?_⟩
          have hmany := hn2.2
          refine ⟨_, _, rfl, rfl, (by show 0 < many; omega), ?_⟩
          have k1 := Int.emod_nonneg (som % 60) (show many ≠ 0 by omega)
          have k2 := Int.emod_lt_of_pos (som % 60) (show 0 < many by omega)
          refine ⟨_, _, rfl, k1, (by show som % 60 % many ≤ 100; omega), fun H3 sm3 => ?_⟩
          walk_at "rd"
          refine ⟨small (by show 2 ≤ 100000; decide), fun t ht => ?_⟩
          have hrl3 : (upd H3 t (.tup [V.str (nameBy seed (som % 60 % many)), V.int am])) r = some (.lst us) := by
            have e := sm3 _ _ hrl
            rw [upd_ne (ne_of_none e ht)]
            exact e
          refine ⟨r, _, _, rfl, rfl, hrl3, small' (by rw [hh.len]; omega), ?_⟩
          have st : SameT H2 (upd (upd H3 t (.tup [V.str (nameBy seed (som % 60 % many)), V.int am])) r (.lst (us ++ [V.ref t]))) := ((SameT.of sm3).trans (SameT.new ht)).trans (SameT.lst hrl3)
          refine ⟨_, _, _, us ++ [V.ref t], ns ++ [(nameBy seed (som % 60 % many), am)], rfl, ((sm2.trans sm3).new ht).mut hr1, upd_same, (hh.mono NeedAt.mono st).snoc ⟨t, rfl, ?_⟩, by rw [List.length_append, hnl]; rfl, fun x hx => ?_⟩
          · rw [upd_ne (ne_of upd_same hrl3 (by intro z; cases z))]
            exact upd_same
          · rcases List.mem_append.mp hx with z | z
            · exact hng x z
            · rw [List.mem_singleton.mp z]
              exact ⟨⟨a1, a2⟩, (som % 60 % many).toNat, by omega, by show nameBy seed (som % 60 % many) = nameBy seed _; rw [Int.toNat_of_nonneg k1]⟩
      · obtain ⟨y8, y9, y10, us, ns, rfl, sm2, hrl, hh, hnl, hng⟩ := h
        walk_at "rd"
        refine ⟨.inl ⟨rfl, _, sqL (sm2 _ _ hpl)⟩, ?_⟩
        walk_at "rd"
        refine ⟨r, _, rfl, .inl ⟨sqL hrl, fun u hu => ?_⟩⟩
        refine ⟨small (by show 2 ≤ 100000; decide), fun t ht => ?_⟩
        have s3 : Same H2 (upd H2 u (.tup us)) := same_upd hu
        have s4 : Same (upd H2 u (.tup us)) (upd (upd H2 u (.tup us)) t (.tup [V.int (1 + cell % 7), V.ref u])) := same_upd ht
        have hpl4 := s4 _ _ (s3 _ _ (sm2 _ _ hpl))
        refine ⟨p, _, _, rfl, rfl, hpl4, small' (by rw [hd.len]; omega), ?_⟩
        have st := SameT.lst (o := .lst (vs ++ [V.ref t])) hpl4
        have stt : SameT H2 _ := ((SameT.of s3).trans (SameT.of s4)).trans st
        refine ⟨_, _, _, _, _, _, _, vs ++ [V.ref t], ds ++ [(1 + cell % 7, ns)], rfl, ((((sm.trans sm2).trans s3).trans s4)).mut hp, upd_same, (hd.mono DishAt.mono ((SameT.of sm2).trans stt)).snoc ⟨t, .ref u, rfl, st _ _ upd_same, u, us, rfl, st _ _ (s4 _ _ upd_same), hh.mono NeedAt.mono stt⟩,
          by rw [List.length_append, hl]; rfl, fun d hd' => ?_⟩
        rcases List.mem_append.mp hd' with z | z
        · exact hg d z
        · rw [List.mem_singleton.mp z]
          exact ⟨by show 1 ≤ 1 + cell % 7; omega, by show 1 + cell % 7 ≤ 7; omega, by show ns.length ≤ 20; omega, hng⟩
    · obtain ⟨y4, y5, y6, y7, y8, y9, y10, vs, ds, rfl, sm, hpl, hd, hl, hg⟩ := h
      walk_at "rd"
      refine ⟨p, _, rfl, .inl ⟨sqL hpl, fun u hu => ?_⟩⟩
      exact q _ ds _ (sm.new hu) ⟨u, vs, rfl, upd_same, hd.mono DishAt.mono (SameT.new hu)⟩ (by omega) hg
abbrev s_larder : Stmt := topS 19
theorem sc_larder : FnScope ["_law_cells", "_law_names_here", "_law_many_here", "_law_larder_here", "_law_k", "_law_cell", "_law_some"] ["_law_cells", "_law_names_here", "_law_many_here"] (defScope s_larder) := ⟨rfl, rfl, rfl, by decide +kernel, rfl, by decide +kernel, by decide +kernel⟩
theorem bd_larder : ∀ (kV doc pm : Value) (an : Option Addr) (cdv ct : Value) (us : List Value), us.length = (["_law_cells", "_law_names_here", "_law_many_here"] : List Str).length → bindArgs (PySem.W.fnOf "_law_larder" "_law_larder" (defArgs s_larder) (defBody s_larder) (defScope s_larder) .none kV doc pm an cdv ct) ⟨us, []⟩ = pure ((["_law_cells", "_law_names_here", "_law_many_here"] : List Str).zip us) := fun _ _ _ _ _ _ us hl => match us, hl with | [_, _, _], _ => rfl
def spLarder (K : PySem.W.Frag) : Sp := fun vs H Q _ => ∃ (a b : Addr) (m seed many : Int), vs = [.ref a, .ref b, .int m] ∧ CellsAt K H a ∧ NamesAt K H b seed many ∧ 0 ≤ m ∧ m ≤ 200 ∧
  ∀ (v : V) (lar : List Batch) (H' : Hp), Same H H' → LarderAt H' v lar → (lar.length : Int) ≤ m → (∀ b ∈ lar, GoodBatch seed b) → Q v H'
theorem ok_larder {P : Program} {w : World} {K : PySem.W.Frag} {mg : Str → Option Value} {base : Heap} (D : DefAt K mg "_law_larder" s_larder) (m_range : mg "range" = none) (m_tuple : mg "tuple" = none)
    (C_mix : Clb P w K mg base 1 "_law_mix" ["_law_cell", "_law_k"] spMix) (C_cell_at : Clb P w K mg base 1 "_law_cell_at" ["_law_cells", "_law_k"] (spCellAt K))
    (C_amount : Clb P w K mg base 1 "_law_amount" ["_law_cell", "_law_most"] spAmount) (C_last : Clb P w K mg base 1 "_law_last" ["_law_cell"] spLast) (C_name_by : Clb P w K mg base 1 "_law_name_by" ["_law_seed", "_law_k"] spNameBy) :
    Clb P w K mg base 2 "_law_larder" ["_law_cells", "_law_names_here", "_law_many_here"] (spLarder K) := by
  refine D.clb sc_larder (fun vs H Q E h => ?_) bd_larder (fun f cdv A outer s H vs Q E hr h => ?_)
  · obtain ⟨a, b, m, seed, many, rfl, _⟩ := h
    rfl
  · obtain ⟨a, b, m, seed, many, rfl, hc, hn, h0, h1, q⟩ := h
    refine ⟨_, (pss_cons (ps_set (i := 3) sc_larder.nd rfl (.inl rfl) (pe_lst pa_nil))
    (pss_cons (ps_for PassesOwn.never rfl (pi_range1 (by rfl) m_range (pa_cons (pv 2) pa_nil)) (pg_name (i := 4) sc_larder.nd rfl (.inl rfl))
      (pss_cons (ps_set (i := 5) sc_larder.nd rfl (.inl rfl) (pe_cal C_mix (hr.mono (by decide)) (pa_cons (pe_cal C_cell_at (hr.mono (by decide)) (pa_cons (pv 0) (pa_cons (pe_op op_add pe_int (pe_op op_mod (pv 4) pe_int)) pa_nil))) (pa_cons (pe_op op_add pe_int (pv 4)) pa_nil))))
    (pss_cons (ps_set (i := 6) sc_larder.nd rfl (.inl rfl) (pe_cal C_mix (hr.mono (by decide)) (pa_cons (pv 5) (pa_cons (pv 4) pa_nil))))
    (pss_one (ps_expr (kpe_bm K PySem.F.plainAttrs_list PySem.F.slot_list_append PySem.F.type_list_append mt_append (pv 3) (pa_cons (pe_tup (pa_cons (pe_cal C_name_by (hr.mono (by decide)) (pa_cons (pe_ix (kix_list K) (pv 1) pe_int (fun _ _ => rfl)) (pa_cons (pe_op op_mod (pe_op op_mod (pv 5) pe_int) (pe_ix (kix_list K) (pv 1) pe_int (fun _ _ => rfl))) pa_nil))) (pa_cons (pe_cal C_amount (hr.mono (by decide)) (pa_cons (pe_op op_fdiv (pv 5) pe_int) (pa_cons pe_int pa_nil))) (pa_cons (pe_cal C_last (hr.mono (by decide)) (pa_cons (pv 6) pa_nil)) pa_nil)))) pa_nil)))))))
    (pss_one (ps_ret (pe_callTy (kcall_tuple_of K) (by rfl) m_tuple (by decide +kernel) (pa_cons (pv 3) pa_nil)))))), ?_⟩
    refine ⟨Nat.zero_le _, fun p hp => ?_⟩
    walk_at "rd"
    refine ⟨by omega, by omega, ?_⟩
    refine for_range (lo := 0) (fun i σ H' => ∃ (y4 y5 y6 : Option V) (vs : List V) (lar : List Batch), σ = [some (.ref a), some (.ref b), some (.int m), some (.ref p), y4, y5, y6] ∧ Same H H' ∧ H' p = some (.lst vs) ∧
        Held BatchAt H' vs lar ∧ lar.length = i ∧ ∀ b ∈ lar, GoodBatch seed b)
      ⟨none, none, none, [], [], rfl, same_upd hp, upd_same, Held.nil, rfl, fun _ z => nomatch z⟩ (fun i σ H1 hi h => ?_) (fun σ H1 h => ?_)
    · obtain ⟨y4, y5, y6, vs, lar, rfl, sm, hpl, hd, hl, hg⟩ := h
      have hi' : (i : Int) < m := by omega
      walk_at "rd"
      refine ⟨hc.same sm, by omega, by omega, fun c c0 c1 => ?_⟩
      walk_at "rd"
      refine ⟨by omega, by omega, fun cell z0 z1 => ?_⟩
      walk_at "rd"
      refine ⟨by omega, by omega, fun som z2 z3 => ?_⟩
      have hn2 := hn.same sm
      have hmany := hn2.2
      walk_at "rd"
      refine ⟨.inl ⟨rfl, _, sqL hpl⟩, ?_⟩
      walk_at "rd"
      refine ⟨b, _, _, _, rfl, rfl, sqL hn2.1, rfl, ?_⟩
      walk_at "rd"
      refine ⟨b, _, _, _, rfl, rfl, sqL hn2.1, rfl, ?_⟩
      refine ⟨_, _, rfl, rfl, (by show 0 < many; omega), ?_⟩
      have k1 := Int.emod_nonneg (cell % 60) (show many ≠ 0 by omega)
      have k2 := Int.emod_lt_of_pos (cell % 60) (show 0 < many by omega)
      refine ⟨_, _, rfl, k1, (by show cell % 60 % many ≤ 100; omega), fun H3 sm3 => ?_⟩
      walk_at "rd"
      refine fun am a1 a2 => ?_
      walk_at "rd"
      refine fun la l1 l2 => ?_
      refine ⟨small (by show 3 ≤ 100000; decide), fun t ht => ?_⟩
      have hpl3 : (upd H3 t (.tup [V.str (nameBy seed (cell % 60 % many)), V.int am, V.int la])) p = some (.lst vs) := by
        have e := sm3 _ _ hpl
        rw [upd_ne (ne_of_none e ht)]
        exact e
      refine ⟨p, _, _, rfl, rfl, hpl3, small' (by rw [hd.len]; omega), ?_⟩
      have st : SameT H1 (upd (upd H3 t (.tup [V.str (nameBy seed (cell % 60 % many)), V.int am, V.int la])) p (.lst (vs ++ [V.ref t]))) := ((SameT.of sm3).trans (SameT.new ht)).trans (SameT.lst hpl3)
      refine ⟨_, _, _, vs ++ [V.ref t], lar ++ [⟨nameBy seed (cell % 60 % many), am, la⟩], rfl, ((sm.trans sm3).new ht).mut hp, upd_same, (hd.mono BatchAt.mono st).snoc ⟨t, rfl, ?_⟩, by rw [List.length_append, hl]; rfl, fun x hx => ?_⟩
      · rw [upd_ne (ne_of upd_same hpl3 (by intro z; cases z))]
        exact upd_same
      · rcases List.mem_append.mp hx with z | z
        · exact hg x z
        · rw [List.mem_singleton.mp z]
          exact ⟨a1, a2, l1, l2, (cell % 60 % many).toNat, by omega, by show nameBy seed (cell % 60 % many) = nameBy seed _; rw [Int.toNat_of_nonneg k1]⟩
    · obtain ⟨y4, y5, y6, vs, lar, rfl, sm, hpl, hd, hl, hg⟩ := h
      walk_at "rd"
      refine ⟨p, _, rfl, .inl ⟨sqL hpl, fun u hu => ?_⟩⟩
      exact q _ lar _ (sm.new hu) ⟨u, vs, rfl, upd_same, hd.mono BatchAt.mono (SameT.new hu)⟩ (by omega) hg
abbrev s_price : Stmt := topS 20
theorem sc_price : FnScope ["_law_cell"] ["_law_cell"] (defScope s_price) := ⟨rfl, rfl, rfl, by decide +kernel, rfl, by decide +kernel, by decide +kernel⟩
theorem bd_price : ∀ (kV doc pm : Value) (an : Option Addr) (cdv ct : Value) (us : List Value), us.length = (["_law_cell"] : List Str).length → bindArgs (PySem.W.fnOf "_law_price" "_law_price" (defArgs s_price) (defBody s_price) (defScope s_price) .none kV doc pm an cdv ct) ⟨us, []⟩ = pure ((["_law_cell"] : List Str).zip us) := fun _ _ _ _ _ _ us hl => match us, hl with | [_], _ => rfl
def spPrice : Sp := fun vs H Q _ => ∃ c : Int, vs = [.int c] ∧ ∀ z : Int, 0 ≤ z → z ≤ 1000000 → Q (.int z) H
theorem ok_price {P : Program} {w : World} {K : PySem.W.Frag} {mg : Str → Option Value} {base : Heap} (D : DefAt K mg "_law_price" s_price) : Clb P w K mg base 1 "_law_price" ["_law_cell"] spPrice := by
  refine D.clb sc_price (fun vs H Q E h => ?_) bd_price (fun f cdv A outer s H vs Q E hr h => ?_)
  · obtain ⟨c, rfl, _⟩ := h
    rfl
  · obtain ⟨c, rfl, q⟩ := h
    refine ⟨_, (pss_cons (ps_if (pt_cmpR op_eq (pe_op op_mod (pv 0) pe_int) pe_int (nomark _))
      (pss_one (ps_ret (pe_op op_mod (pe_op op_fdiv (pv 0) pe_int) pe_int)))
      pss_nil)
    (pss_cons (ps_if (pt_cmpR op_eq (pe_op op_mod (pv 0) pe_int) pe_int (nomark _))
      (pss_one (ps_ret pe_int))
      pss_nil)
    (pss_one (ps_ret (pe_op op_mod (pe_op op_fdiv (pv 0) pe_int) pe_int))))), ?_⟩
    have e1 := Int.emod_nonneg (c / 9) (show (1000001 : Int) ≠ 0 by decide)
    have e2 := Int.emod_lt_of_pos (c / 9) (show (0 : Int) < 1000001 by decide)
    have e3 := Int.emod_nonneg (c / 9) (show (30 : Int) ≠ 0 by decide)
    have e4 := Int.emod_lt_of_pos (c / 9) (show (0 : Int) < 30 by decide)
    walk_at "rd"
    refine it_eqI (fun _ => ?_) (fun _ => ?_)
    · walk_at "rd"
      exact q _ e1 (by omega)
    · walk_at "rd"
      refine it_eqI (fun _ => ?_) (fun _ => ?_)
      · exact q 0 (by decide) (by decide)
      · walk_at "rd"
        exact q _ e3 (by omega)
abbrev s_packs : Stmt := topS 21
theorem sc_packs : FnScope ["_law_cells", "_law_names_here", "_law_many_here", "_law_packs_here", "_law_k", "_law_cell", "_law_some", "_law_name"] ["_law_cells", "_law_names_here", "_law_many_here"] (defScope s_packs) := ⟨rfl, rfl, rfl, by decide +kernel, rfl, by decide +kernel, by decide +kernel⟩
theorem bd_packs : ∀ (kV doc pm : Value) (an : Option Addr) (cdv ct : Value) (us : List Value), us.length = (["_law_cells", "_law_names_here", "_law_many_here"] : List Str).length → bindArgs (PySem.W.fnOf "_law_packs" "_law_packs" (defArgs s_packs) (defBody s_packs) (defScope s_packs) .none kV doc pm an cdv ct) ⟨us, []⟩ = pure ((["_law_cells", "_law_names_here", "_law_many_here"] : List Str).zip us) := fun _ _ _ _ _ _ us hl => match us, hl with | [_, _, _], _ => rfl
def spPacks (K : PySem.W.Frag) : Sp := fun vs H Q _ => ∃ (a b : Addr) (m seed many : Int), vs = [.ref a, .ref b, .int m] ∧ CellsAt K H a ∧ NamesAt K H b seed many ∧ 0 ≤ m ∧ m ≤ 60 ∧
  ∀ (v : V) (ps : List Pack) (H' : Hp), Same H H' → PacksAt H' v ps → (ps.length : Int) ≤ m → (∀ p ∈ ps, GoodPack seed p) → Q v H'
theorem ok_packs {P : Program} {w : World} {K : PySem.W.Frag} {mg : Str → Option Value} {base : Heap} (D : DefAt K mg "_law_packs" s_packs) (m_range : mg "range" = none) (m_tuple : mg "tuple" = none)
    (C_mix : Clb P w K mg base 1 "_law_mix" ["_law_cell", "_law_k"] spMix) (C_cell_at : Clb P w K mg base 1 "_law_cell_at" ["_law_cells", "_law_k"] (spCellAt K)) (C_amount : Clb P w K mg base 1 "_law_amount" ["_law_cell", "_law_most"] spAmount) (C_last : Clb P w K mg base 1 "_law_last" ["_law_cell"] spLast) (C_price : Clb P w K mg base 1 "_law_price" ["_law_cell"] spPrice) (C_name_by : Clb P w K mg base 1 "_law_name_by" ["_law_seed", "_law_k"] spNameBy) :
    Clb P w K mg base 2 "_law_packs" ["_law_cells", "_law_names_here", "_law_many_here"] (spPacks K) := by
  refine D.clb sc_packs (fun vs H Q E h => ?_) bd_packs (fun f cdv A outer s H vs Q E hr h => ?_)
  · obtain ⟨a, b, m, seed, many, rfl, _⟩ := h
    rfl
  · obtain ⟨a, b, m, seed, many, rfl, hc, hn, h0, h1, q⟩ := h
    refine ⟨_, (pss_cons (ps_set (i := 3) sc_packs.nd rfl (.inl rfl) (pe_lst pa_nil))
    (pss_cons (ps_for PassesOwn.never rfl (pi_range1 (by rfl) m_range (pa_cons (pv 2) pa_nil)) (pg_name (i := 4) sc_packs.nd rfl (.inl rfl))
      (pss_cons (ps_set (i := 5) sc_packs.nd rfl (.inl rfl) (pe_cal C_mix (hr.mono (by decide)) (pa_cons (pe_cal C_cell_at (hr.mono (by decide)) (pa_cons (pv 0) (pa_cons (pe_op op_add pe_int (pe_op op_mod (pv 4) pe_int)) pa_nil))) (pa_cons (pe_op op_add pe_int (pv 4)) pa_nil))))
    (pss_cons (ps_set (i := 6) sc_packs.nd rfl (.inl rfl) (pe_cal C_mix (hr.mono (by decide)) (pa_cons (pv 5) (pa_cons (pe_op op_add (pv 4) pe_int) pa_nil))))
    (pss_cons (ps_set (i := 7) sc_packs.nd rfl (.inl rfl) (pe_cal C_name_by (hr.mono (by decide)) (pa_cons (pe_ix (kix_list K) (pv 1) pe_int (fun _ _ => rfl)) (pa_cons (pe_op op_mod (pe_op op_mod (pv 5) pe_int) (pe_ix (kix_list K) (pv 1) pe_int (fun _ _ => rfl))) pa_nil))))
    (pss_one (ps_expr (kpe_bm K PySem.F.plainAttrs_list PySem.F.slot_list_append PySem.F.type_list_append mt_append (pv 3) (pa_cons (pe_tup (pa_cons (pv 7) (pa_cons (pe_cal C_amount (hr.mono (by decide)) (pa_cons (pe_op op_fdiv (pv 5) pe_int) (pa_cons pe_int pa_nil))) (pa_cons (pe_cal C_price (hr.mono (by decide)) (pa_cons (pv 6) pa_nil)) (pa_cons (pe_cal C_last (hr.mono (by decide)) (pa_cons (pe_op op_fdiv (pv 6) pe_int) pa_nil)) pa_nil))))) pa_nil))))))))
    (pss_one (ps_ret (pe_callTy (kcall_tuple_of K) (by rfl) m_tuple (by decide +kernel) (pa_cons (pv 3) pa_nil)))))), ?_⟩
    refine ⟨Nat.zero_le _, fun p hp => ?_⟩
    walk_at "rd"
    refine ⟨by omega, by omega, ?_⟩
    refine for_range (lo := 0) (fun i σ H' => ∃ (y4 y5 y6 y7 : Option V) (vs : List V) (ps : List Pack), σ = [some (.ref a), some (.ref b), some (.int m), some (.ref p), y4, y5, y6, y7] ∧ Same H H' ∧ H' p = some (.lst vs) ∧
        Held PackAt H' vs ps ∧ ps.length = i ∧ ∀ b ∈ ps, GoodPack seed b)
      ⟨none, none, none, none, [], [], rfl, same_upd hp, upd_same, Held.nil, rfl, fun _ z => nomatch z⟩ (fun i σ H1 hi h => ?_) (fun σ H1 h => ?_)
    · obtain ⟨y4, y5, y6, y7, vs, ps, rfl, sm, hpl, hd, hl, hg⟩ := h
      have hi' : (i : Int) < m := by omega
      walk_at "rd"
      refine ⟨hc.same sm, by omega, by omega, fun c c0 c1 => ?_⟩
      walk_at "rd"
      refine ⟨by omega, by omega, fun cell z0 z1 => ?_⟩
      walk_at "rd"
      refine ⟨by omega, by omega, fun som z2 z3 => ?_⟩
      have hn2 := hn.same sm
      have hmany := hn2.2
      refine ⟨_, rfl, b, _, _, _, rfl, rfl, sqL hn2.1, rfl, ?_⟩
      walk_at "rd"
      refine ⟨b, _, _, _, rfl, rfl, sqL hn2.1, rfl, ?_⟩
      refine ⟨_, _, rfl, rfl, (by show 0 < many; omega), ?_⟩
      have k1 := Int.emod_nonneg (cell % 60) (show many ≠ 0 by omega)
      have k2 := Int.emod_lt_of_pos (cell % 60) (show 0 < many by omega)
      refine ⟨_, _, rfl, k1, (by show cell % 60 % many ≤ 100; omega), fun H3 sm3 => ?_⟩
      have hpl4 := sm3 _ _ hpl
      refine ⟨_, rfl, .inl ⟨rfl, _, sqL hpl4⟩, ?_⟩
      walk_at "rd"
      refine fun am a1 a2 => ?_
      walk_at "rd"
      refine fun pr p0 p1 => ?_
      walk_at "rd"
      refine fun la l1 l2 => ?_
      refine ⟨small (by show 4 ≤ 100000; decide), fun t ht => ?_⟩
      have hpl3 : (upd H3 t (.tup [V.str (nameBy seed (cell % 60 % many)), V.int am, V.int pr, V.int la])) p = some (.lst vs) := by
        rw [upd_ne (ne_of_none hpl4 ht)]
        exact hpl4
      refine ⟨p, _, _, rfl, rfl, hpl3, small' (by rw [hd.len]; omega), ?_⟩
      have st : SameT H1 (upd (upd H3 t (.tup [V.str (nameBy seed (cell % 60 % many)), V.int am, V.int pr, V.int la])) p (.lst (vs ++ [V.ref t]))) := ((SameT.of sm3).trans (SameT.new ht)).trans (SameT.lst hpl3)
      refine ⟨_, _, _, _, vs ++ [V.ref t], ps ++ [⟨nameBy seed (cell % 60 % many), am, pr, la⟩], rfl, ((sm.trans sm3).new ht).mut hp, upd_same, (hd.mono PackAt.mono st).snoc ⟨t, rfl, ?_⟩, by rw [List.length_append, hl]; rfl, fun x hx => ?_⟩
      · rw [upd_ne (ne_of upd_same hpl3 (by intro z; cases z))]
        exact upd_same
      · rcases List.mem_append.mp hx with z | z
        · exact hg x z
        · rw [List.mem_singleton.mp z]
          exact ⟨a1, a2, p0, p1, l1, l2, (cell % 60 % many).toNat, by omega, by show nameBy seed (cell % 60 % many) = nameBy seed _; rw [Int.toNat_of_nonneg k1]⟩
    · obtain ⟨y4, y5, y6, y7, vs, ps, rfl, sm, hpl, hd, hl, hg⟩ := h
      walk_at "rd"
      refine ⟨p, _, rfl, .inl ⟨sqL hpl, fun u hu => ?_⟩⟩
      exact q _ ps _ (sm.new hu) ⟨u, vs, rfl, upd_same, hd.mono PackAt.mono (SameT.new hu)⟩ (by omega) hg
abbrev s_things : Stmt := topS 26
theorem sc_things : FnScope ["_law_dishes_here", "_law_found", "_law_dish", "_law_need"] ["_law_dishes_here"] (defScope s_things) := ⟨rfl, rfl, rfl, by decide +kernel, rfl, by decide +kernel, by decide +kernel⟩
theorem bd_things : ∀ (kV doc pm : Value) (an : Option Addr) (cdv ct : Value) (us : List Value), us.length = (["_law_dishes_here"] : List Str).length → bindArgs (PySem.W.fnOf "_law_things" "_law_things" (defArgs s_things) (defBody s_things) (defScope s_things) .none kV doc pm an cdv ct) ⟨us, []⟩ = pure ((["_law_dishes_here"] : List Str).zip us) := fun _ _ _ _ _ _ us hl => match us, hl with | [_], _ => rfl
def spThings (K : PySem.W.Frag) : Sp := fun vs H Q _ => ∃ (v : V) (ds : List Dish), vs = [v] ∧ DishesAt H v ds ∧ ds.length ≤ 100 ∧ (∀ d ∈ ds, d.2.length ≤ 20) ∧ (namesOf ds).length < 64 ∧
  ∀ p (ys : List Str) H', Same H H' → ys.Perm (namesOf ds) → sortedS ys = true → H p = none → H' p = some (.lst (ys.map V.str)) → Q (.ref p) H'
theorem ok_things {P : Program} {w : World} {K : PySem.W.Frag} {mg : Str → Option Value} {base : Heap} (D : DefAt K mg "_law_things" s_things) (m_sorted : mg "sorted" = none) :
    Clb P w K mg base 1 "_law_things" ["_law_dishes_here"] (spThings K) := by
  refine D.clb sc_things (fun vs H Q E h => ?_) bd_things (fun f cdv A outer s H vs Q E hr h => ?_)
  · obtain ⟨v, ds, rfl, _⟩ := h
    rfl
  · obtain ⟨v, ds, rfl, ⟨a, us, rfl, ha, hh⟩, hl, hn, h64, q⟩ := h
    refine ⟨_, (pss_cons (ps_set (i := 1) sc_things.nd rfl (.inl rfl) pe_dnewK)
    (pss_cons (ps_for PassesOwn.never rfl (kpi_tup K (pv 0)) (pg_name (i := 2) sc_things.nd rfl (.inl rfl))
      (pss_one (ps_for PassesOwn.never rfl (kpi_tup K (pe_ix (kix_tup K) (pv 2) pe_int (fun _ _ => rfl))) (pg_name (i := 3) sc_things.nd rfl (.inl rfl))
      (pss_one (ps_dput (hu_of hr) (pv 1) (pe_ix (kix_tup K) (pv 3) pe_int (fun _ _ => rfl)) pe_bl rfl)))))
    (pss_one (ps_ret (pe_callB (call_sortedD rfl) (by rfl) m_sorted (by decide +kernel) (pa_cons (pv 1) pa_nil)))))), ?_⟩
    intro p hp
    refine ⟨_, rfl, a, rfl, ⟨_, (same_upd hp).seqT (sqT ha)⟩, ?_⟩
    refine for_tup (xs := us) (fun i σ H1 => ∃ (y2 y3 : Option V) (kvs : List (Key × V)), σ = [some (.ref a), some (.ref p), y2, y3] ∧ Same H H1 ∧ H1 p = some (.dK kvs) ∧ kvs.map (·.1) = (insAll [] (allS (ds.take i))).map Sum.inr)
      ⟨none, none, [], rfl, same_upd hp, upd_same, rfl⟩ (fun i σ H1 _ h => by obtain ⟨_, _, _, _, sm, _⟩ := h; exact sm.seqT (sqT ha)) (fun i v σ H1 hv h => ?_) (fun σ H1 h => ?_)
    · obtain ⟨y2, y3, kvs, rfl, sm, hpd, hk⟩ := h
      obtain ⟨d, hd, t, u, rfl, ht, z, ws, rfl, hz, hw⟩ := hh.get hv
      have e20 := hn d (List.mem_of_getElem? hd)
      have eall : allS (ds.take (i + 1)) = allS (ds.take i) ++ d.2.map (·.1) := by
        rw [take_succ' hd]
        unfold allS
        rw [List.flatMap_append]
        simp
      refine ⟨_, rfl, t, _, _, _, rfl, rfl, sqT (sm _ _ ht), rfl, z, rfl, ⟨_, sqT (sm _ _ hz)⟩, ?_⟩
      refine for_tup (xs := ws) (fun j σ H2 => ∃ (y3 : Option V) (kvs : List (Key × V)), σ = [some (.ref a), some (.ref p), some (.ref t), y3] ∧ Same H H2 ∧ H2 p = some (.dK kvs) ∧ kvs.map (·.1) = (insAll (insAll [] (allS (ds.take i))) ((d.2.take j).map (·.1))).map Sum.inr)
        ⟨y3, kvs, rfl, sm, hpd, hk⟩ (fun j σ H2 _ h => by obtain ⟨_, _, _, sm, _⟩ := h; exact sm.seqT (sqT hz)) (fun j v σ H2 hv2 h => ?_) (fun σ H2 h => ?_)
      · obtain ⟨y3, kvs, rfl, s2, hpd2, hk2⟩ := h
        obtain ⟨x, hx2, t2, rfl, ht2⟩ := hw.get hv2
        refine ⟨_, rfl, _, rfl, t2, _, _, _, rfl, rfl, sqT (s2 _ _ ht2), rfl, p, _, rfl, DPut.k (k := Sum.inr x.1) hpd2 (small' ?_), ?_⟩
        · have z0 := congrArg List.length hk2
          rw [List.length_map, List.length_map] at z0
          have z1 := insAll_len ((d.2.take j).map (·.1)) (insAll [] (allS (ds.take i)))
          have z2 := insAll_len (allS (ds.take i)) []
          have z3 := allS_len (n := 20) (ds.take i) fun d hd => hn d (List.mem_of_mem_take hd)
          rw [List.length_map, List.length_take] at z1
          rw [List.length_take] at z3
          rw [List.length_nil] at z2
          omega
        · refine ⟨_, _, rfl, s2.mut hp, upd_same, ?_⟩
          rw [putK_keys hk2, take_succ' hx2, List.map_append, List.map_singleton, insAll_snoc]
      · obtain ⟨y3, kvs, rfl, s2, hpd2, hk2⟩ := h
        refine ⟨_, _, kvs, rfl, s2, hpd2, ?_⟩
        rw [hk2, eall, insAll_app, hw.len, List.take_length]
    · obtain ⟨y2, y3, kvs, rfl, sm, hpd, hk⟩ := h
      rw [hh.len, List.take_length] at hk
      refine ⟨_, rfl, p, kvs, namesOf ds, rfl, .inl hpd, hk, h64, fun ys r pm so hr2 => ?_⟩
      exact q r ys _ (sm.new hr2) pm so (same_none sm hr2) upd_same
abbrev s_lacks : Stmt := topS 24
theorem sc_lacks : FnScope ["_law_dishes_here", "_law_larder_here", "_law_name", "_law_lacks_here", "_law_day", "_law_amount_here", "_law_dish", "_law_need", "_law_batch"] ["_law_dishes_here", "_law_larder_here", "_law_name"] (defScope s_lacks) := ⟨rfl, rfl, rfl, by decide +kernel, rfl, by decide +kernel, by decide +kernel⟩
theorem bd_lacks : ∀ (kV doc pm : Value) (an : Option Addr) (cdv ct : Value) (us : List Value), us.length = (["_law_dishes_here", "_law_larder_here", "_law_name"] : List Str).length → bindArgs (PySem.W.fnOf "_law_lacks" "_law_lacks" (defArgs s_lacks) (defBody s_lacks) (defScope s_lacks) .none kV doc pm an cdv ct) ⟨us, []⟩ = pure ((["_law_dishes_here", "_law_larder_here", "_law_name"] : List Str).zip us) := fun _ _ _ _ _ _ us hl => match us, hl with | [_, _, _], _ => rfl
def spLacks (K : PySem.W.Frag) : Sp := fun vs H Q _ => ∃ (v u : V) (ds : List Dish) (lar : List Batch) (nm : Str), vs = [v, u, .str nm] ∧ DishesAt H v ds ∧ (∀ d ∈ ds, d.2.length ≤ 20) ∧ LarderAt H u lar ∧
  ∀ p H', Same H H' → H p = none → H' p = some (.lst ((lackW ds lar nm).map V.int)) → Q (.ref p) H'
theorem ok_lacks {P : Program} {w : World} {K : PySem.W.Frag} {mg : Str → Option Value} {base : Heap} (D : DefAt K mg "_law_lacks" s_lacks) (m_range : mg "range" = none) (m_sum : mg "sum" = none) (m_max : mg "max" = none) :
    Clb P w K mg base 1 "_law_lacks" ["_law_dishes_here", "_law_larder_here", "_law_name"] (spLacks K) := by
  refine D.clb sc_lacks (fun vs H Q E h => ?_) bd_lacks (fun f cdv A outer s H vs Q E hr h => ?_)
  · obtain ⟨v, u, ds, lar, nm, rfl, _⟩ := h
    rfl
  · obtain ⟨v, u, ds, lar, nm, rfl, ⟨a, us, rfl, ha, hh⟩, hn, ⟨b, bs, rfl, hb, hbh⟩, q⟩ := h
    refine ⟨_, (pss_cons (ps_set (i := 3) sc_lacks.nd rfl (.inl rfl) (pe_lst pa_nil))
    (pss_cons (ps_for PassesOwn.never rfl (pi_range2 (by rfl) m_range (pa_cons pe_int (pa_cons pe_int pa_nil))) (pg_name (i := 4) sc_lacks.nd rfl (.inl rfl))
      (pss_cons (ps_set (i := 5) sc_lacks.nd rfl (.inl rfl) pe_int)
    (pss_cons (ps_for PassesOwn.never rfl (kpi_tup K (pv 0)) (pg_name (i := 6) sc_lacks.nd rfl (.inl rfl))
      (pss_one (ps_if (pt_cmpR op_ge (pe_ix (kix_tup K) (pv 6) pe_int (fun _ _ => rfl)) (pv 4) (nomark _))
      (pss_one (ps_set (i := 5) sc_lacks.nd rfl (.inl rfl) (pe_op op_add (pv 5) (pe_callB (kcr_sum K rfl) (by rfl) m_sum (by decide +kernel) (pa_cons (pe_lc (own := [("_law_need", 7)]) rfl sc_lacks.nd (kpi_tup K (pe_ix (kix_tup K) (pv 6) pe_int (fun _ _ => rfl))) (blkOk_by (own := [("_law_need", 7)]) (N := ["_law_dishes_here", "_law_larder_here", "_law_name", "_law_lacks_here", "_law_day", "_law_amount_here", "_law_dish", "_law_need", "_law_batch"]) (sc := defScope s_lacks) (by decide +kernel)) (fun _ _ _ _ _ => (pg_name (i := 7) sc_lacks.nd rfl (.inl rfl))) (fun _ _ _ _ _ => (pts_one (pt_cmpR op_eq (pe_ix (kix_tup K) (pv 7) pe_int (fun _ _ => rfl)) (pv 2) (nomark _)))) (fun _ _ _ _ _ => (pe_ix (kix_tup K) (pv 7) pe_int (fun _ _ => rfl)))) pa_nil)))))
      pss_nil)))
    (pss_cons (ps_for PassesOwn.never rfl (kpi_tup K (pv 1)) (pg_name (i := 8) sc_lacks.nd rfl (.inl rfl))
      (pss_one (ps_if (PW.pt (pw_and (pt_cmpR op_eq (pe_ix (kix_tup K) (pv 8) pe_int (fun _ _ => rfl)) (pv 2) (nomark _)) (pw_and1 (pt_cmpR op_ge (pe_ix (kix_tup K) (pv 8) pe_int (fun _ _ => rfl)) (pv 4) (nomark _)))))
      (pss_one (ps_set (i := 5) sc_lacks.nd rfl (.inl rfl) (pe_op op_sub (pv 5) (pe_ix (kix_tup K) (pv 8) pe_int (fun _ _ => rfl)))))
      pss_nil)))
    (pss_one (ps_expr (kpe_bm K PySem.F.plainAttrs_list PySem.F.slot_list_append PySem.F.type_list_append mt_append (pv 3) (pa_cons (pe_callB (call_max2 rfl) (by rfl) m_max (by decide +kernel) (pa_cons pe_int (pa_cons (pv 5) pa_nil))) pa_nil))))))))
    (pss_one (ps_ret (pv 3))))), ?_⟩
    refine ⟨Nat.zero_le _, fun p hp => ?_⟩
    refine ⟨_, _, rfl, by decide, ?_⟩
    refine for_range (lo := 1) (n := 7) (fun i σ H1 => ∃ y4 y5 y6 y7 y8 : Option V, σ = [some (.ref a), some (.ref b), some (.str nm), some (.ref p), y4, y5, y6, y7, y8] ∧ Same H H1 ∧ H1 p = some (.lst (((List.range i).map fun j => lackDay ds lar nm (1 + (j : Nat))).map V.int)) ∧ i ≤ 7)
      ⟨none, none, none, none, none, rfl, same_upd hp, upd_same, by decide⟩ (fun i σ H1 hi h => ?_) (fun σ H1 h => ?_)
    · obtain ⟨y4, y5, y6, y7, y8, rfl, sm, hpl, _⟩ := h
      generalize hday : (1 : Int) + (i : Nat) = day
      -- the dishes
      refine ⟨_, rfl, a, rfl, ⟨_, sqT (sm _ _ ha)⟩, ?_⟩
      refine for_tup (xs := us) (fun j σ H2 => ∃ y6 y7 y8 : Option V, σ = [some (.ref a), some (.ref b), some (.str nm), some (.ref p), some (.int day), some (.int (needFrom (ds.take j) nm day)), y6, y7, y8] ∧ Same H1 H2) ⟨y6, y7, y8, rfl, Same.refl _⟩
        (fun j σ H2 _ h => by obtain ⟨_, _, _, _, s2⟩ := h; exact (sm.trans s2).seqT (sqT ha)) (fun j v σ H2 hv h => ?_) (fun σ H2 h => ?_)
      · obtain ⟨y6, y7, y8, rfl, s2⟩ := h
        obtain ⟨d, hd, t, w', rfl, ht, z, ws, rfl, hz, hw⟩ := hh.get hv
        have s02 := sm.trans s2
        refine ⟨_, rfl, t, _, _, _, rfl, rfl, sqT (s02 _ _ ht), rfl, ?_⟩
        have et := take_succ' hd
        walk_at "rd"
        refine it_le (fun e => ?_) (fun e => ?_)
        · refine ⟨_, rfl, ?_⟩
          refine ⟨_, rfl, t, _, _, _, rfl, rfl, sqT (s02 _ _ ht), rfl, z, rfl, ⟨_, sqT (s02 _ _ hz)⟩, fun D hD => lc_rel (walk_tup (xs := ws)) (xs := d.2) hw.len.symm (f := fun x => if x.1 = nm then some x.2 else none) (R := fun _ v x => v = V.int x) mono_eq hD (fun H' s => (s02.trans s).seqT (sqT hz)) (by have h20 := hn d (List.mem_of_getElem? hd); have := hw.len; omega) (fun i v x H3 H4 Ky Kn hx s3 hy h1 h2 => ?_) (fun H3 ys s3 hD' hd' => ?_)⟩
          · obtain ⟨rfl, hv⟩ := hy
            obtain ⟨t2, rfl, ht2⟩ := hw.all i v x hv hx
            have ht3 := (s02.trans s3) _ _ ht2
            refine ⟨rfl, ?_⟩
            refine ⟨_, rfl, t2, _, _, _, rfl, rfl, sqT ht3, rfl, ?_⟩
            walk_at "rd"
            refine it_eqS (fun e => ?_) (fun e => ?_)
            · exact ⟨_, rfl, t2, _, _, _, rfl, rfl, sqT ht3, rfl, h1 _ _ _ (if_pos e) (Same.refl _) rfl⟩
            · exact h2 _ (if_neg e) (Same.refl _)
          · have e2 := held_eq (f := V.int) hd'
            refine ⟨D, _, rfl, sqL (by rw [hD', e2]), ?_⟩
            exact ⟨_, _, rfl, rfl, some (.ref t), y7, y8, by rw [et, needFrom_snoc, if_pos e]; rfl, s2.trans s3⟩
        · exact ⟨some (.ref t), y7, y8, by rw [et, needFrom_snoc, if_neg e, Int.add_zero]; rfl, s2⟩
      · obtain ⟨y6, y7, y8, rfl, s2⟩ := h
        rw [hh.len, List.take_length]
        have s02 := sm.trans s2
        -- the batches
        refine ⟨_, rfl, b, rfl, ⟨_, sqT (s02 _ _ hb)⟩, ?_⟩
        refine for_tup (xs := bs) (fun j σ H3 => ∃ y6 y7 y8 : Option V, σ = [some (.ref a), some (.ref b), some (.str nm), some (.ref p), some (.int day), some (.int (needFrom ds nm day - keptTo (lar.take j) nm day)), y6, y7, y8] ∧ H3 = H2)
          ⟨y6, y7, y8, by show _ = [_, _, _, _, _, some (V.int (needFrom ds nm day - 0)), _, _, _]; rw [Int.sub_zero], rfl⟩
          (fun j σ H3 _ h => by obtain ⟨_, _, _, _, rfl⟩ := h; exact s02.seqT (sqT hb)) (fun j v σ H3 hv h => ?_) (fun σ H3 h => ?_)
        · obtain ⟨y6, y7, y8, rfl, rfl⟩ := h
          obtain ⟨bt, hbt, t, rfl, ht⟩ := hbh.get hv
          have ht' := sqT (K := K) (s02 _ _ ht)
          have et := take_succ' hbt
          refine ⟨_, rfl, t, _, _, _, rfl, rfl, ht', rfl, ?_⟩
          walk_at "rd"
          refine it_eqS (fun e => ?_) (fun e => ?_)
          · refine ⟨_, rfl, t, _, _, _, rfl, rfl, ht', rfl, ?_⟩
            walk_at "rd"
            refine it_le (fun e2 => ?_) (fun e2 => ?_)
            · refine ⟨_, rfl, _, rfl, t, _, _, _, rfl, rfl, ht', rfl, ?_⟩
              exact ⟨_, _, rfl, rfl, y6, y7, some (.ref t), by rw [et, keptTo_snoc, if_pos ⟨e, e2⟩, ← Int.sub_sub]; rfl, rfl⟩
            · exact ⟨y6, y7, some (.ref t), by rw [et, keptTo_snoc, if_neg (fun z => e2 z.2), Int.add_zero]; rfl, rfl⟩
          · exact ⟨y6, y7, some (.ref t), by rw [et, keptTo_snoc, if_neg (fun z => e z.1), Int.add_zero]; rfl, rfl⟩
        · obtain ⟨y6, y7, y8, rfl, rfl⟩ := h
          rw [hbh.len, List.take_length]
          have hpl2 := s2 _ _ hpl
          refine ⟨_, rfl, .inl ⟨rfl, _, sqL hpl2⟩, ?_⟩
          walk_at "rd"
          refine ⟨p, _, _, rfl, rfl, hpl2, small' (by rw [List.length_map, List.length_map, List.length_range]; omega), ?_⟩
          refine ⟨_, _, _, _, _, rfl, s02.mut hp, ?_, by omega⟩
          rw [upd_same, List.range_succ, List.map_append, List.map_append]
          show _ = some (HO.lst (_ ++ [V.int (lackDay ds lar nm (1 + (i : Nat)))]))
          rw [hday]
          rfl
    · obtain ⟨y4, y5, y6, y7, y8, rfl, sm, hpl, _⟩ := h
      exact ⟨_, rfl, q p H1 sm hp hpl⟩
abbrev s_of_all : Stmt := topS 25
theorem sc_of_all : FnScope ["_law_dishes_here", "_law_name", "_law_amount_here", "_law_dish", "_law_need"] ["_law_dishes_here", "_law_name"] (defScope s_of_all) := ⟨rfl, rfl, rfl, by decide +kernel, rfl, by decide +kernel, by decide +kernel⟩
theorem bd_of_all : ∀ (kV doc pm : Value) (an : Option Addr) (cdv ct : Value) (us : List Value), us.length = (["_law_dishes_here", "_law_name"] : List Str).length → bindArgs (PySem.W.fnOf "_law_of_all" "_law_of_all" (defArgs s_of_all) (defBody s_of_all) (defScope s_of_all) .none kV doc pm an cdv ct) ⟨us, []⟩ = pure ((["_law_dishes_here", "_law_name"] : List Str).zip us) := fun _ _ _ _ _ _ us hl => match us, hl with | [_, _], _ => rfl
def ofAll (ds : List Dish) (nm : Str) : Int := (ds.map fun d => needOf d nm).sum
theorem ofAll_snoc (ds : List Dish) (d : Dish) (nm : Str) : ofAll (ds ++ [d]) nm = ofAll ds nm + needOf d nm := by
  unfold ofAll
  rw [List.map_append, List.sum_append]; simp
def spOfAll : Sp := fun vs H Q _ => ∃ (v : V) (ds : List Dish) (nm : Str), vs = [v, .str nm] ∧ DishesAt H v ds ∧ (∀ d ∈ ds, d.2.length ≤ 20) ∧ ∀ H', Same H H' → Q (.int (ofAll ds nm)) H'
theorem ok_of_all {P : Program} {w : World} {K : PySem.W.Frag} {mg : Str → Option Value} {base : Heap} (D : DefAt K mg "_law_of_all" s_of_all) (m_sum : mg "sum" = none) : Clb P w K mg base 1 "_law_of_all" ["_law_dishes_here", "_law_name"] spOfAll := by
  refine D.clb sc_of_all (fun vs H Q E h => ?_) bd_of_all (fun f cdv A outer s H vs Q E hr h => ?_)
  · obtain ⟨v, ds, nm, rfl, _⟩ := h
    rfl
  · obtain ⟨v, ds, nm, rfl, ⟨a, us, rfl, ha, hh⟩, hn, q⟩ := h
    refine ⟨_, (pss_cons (ps_set (i := 2) sc_of_all.nd rfl (.inl rfl) pe_int)
    (pss_cons (ps_for PassesOwn.never rfl (kpi_tup K (pv 0)) (pg_name (i := 3) sc_of_all.nd rfl (.inl rfl))
      (pss_one (ps_set (i := 2) sc_of_all.nd rfl (.inl rfl) (pe_op op_add (pv 2) (pe_callB (kcr_sum K rfl) (by rfl) m_sum (by decide +kernel) (pa_cons (pe_lc (own := [("_law_need", 4)]) rfl sc_of_all.nd (kpi_tup K (pe_ix (kix_tup K) (pv 3) pe_int (fun _ _ => rfl))) (blkOk_by (own := [("_law_need", 4)]) (N := ["_law_dishes_here", "_law_name", "_law_amount_here", "_law_dish", "_law_need"]) (sc := defScope s_of_all) (by decide +kernel)) (fun _ _ _ _ _ => (pg_name (i := 4) sc_of_all.nd rfl (.inl rfl))) (fun _ _ _ _ _ => (pts_one (pt_cmpR op_eq (pe_ix (kix_tup K) (pv 4) pe_int (fun _ _ => rfl)) (pv 1) (nomark _)))) (fun _ _ _ _ _ => (pe_ix (kix_tup K) (pv 4) pe_int (fun _ _ => rfl)))) pa_nil))))))
    (pss_one (ps_ret (pv 2))))), ?_⟩
    refine ⟨_, rfl, a, rfl, ⟨_, sqT ha⟩, ?_⟩
    refine for_tup (xs := us) (fun j σ H2 => ∃ y3 y4 : Option V, σ = [some (.ref a), some (.str nm), some (.int (ofAll (ds.take j) nm)), y3, y4] ∧ Same H H2) ⟨none, none, rfl, Same.refl _⟩
      (fun j σ H2 _ h => by obtain ⟨_, _, _, s2⟩ := h; exact s2.seqT (sqT ha)) (fun j v σ H2 hv h => ?_) (fun σ H2 h => ?_)
    · obtain ⟨y3, y4, rfl, s2⟩ := h
      obtain ⟨d, hd, t, w', rfl, ht, z, ws, rfl, hz, hw⟩ := hh.get hv
      refine ⟨_, rfl, ?_⟩
      refine ⟨_, rfl, t, _, _, _, rfl, rfl, sqT (s2 _ _ ht), rfl, z, rfl, ⟨_, sqT (s2 _ _ hz)⟩, fun D hD => lc_rel (walk_tup (xs := ws)) (xs := d.2) hw.len.symm (f := fun x => if x.1 = nm then some x.2 else none) (R := fun _ v x => v = V.int x) mono_eq hD (fun H' s => (s2.trans s).seqT (sqT hz)) (by have h20 := hn d (List.mem_of_getElem? hd); have := hw.len; omega) (fun i v x H3 H4 Ky Kn hx s3 hy h1 h2 => ?_) (fun H3 ys s3 hD' hd' => ?_)⟩
      · obtain ⟨rfl, hv⟩ := hy
        obtain ⟨t2, rfl, ht2⟩ := hw.all i v x hv hx
        have ht3 := (s2.trans s3) _ _ ht2
        refine ⟨rfl, ?_⟩
        refine ⟨_, rfl, t2, _, _, _, rfl, rfl, sqT ht3, rfl, ?_⟩
        walk_at "rd"
        refine it_eqS (fun e => ?_) (fun e => ?_)
        · exact ⟨_, rfl, t2, _, _, _, rfl, rfl, sqT ht3, rfl, h1 _ _ _ (if_pos e) (Same.refl _) rfl⟩
        · exact h2 _ (if_neg e) (Same.refl _)
      · have e2 := held_eq (f := V.int) hd'
        refine ⟨D, _, rfl, sqL (by rw [hD', e2]), ?_⟩
        exact ⟨_, _, rfl, rfl, some (.ref t), y4, by rw [take_succ' hd, ofAll_snoc]; rfl, s2.trans s3⟩
    · obtain ⟨y3, y4, rfl, s2⟩ := h
      rw [hh.len, List.take_length]
      exact ⟨_, rfl, q _ s2⟩
abbrev s_served : Stmt := topS 27
theorem sc_served : FnScope ["_law_offers", "_law_counts_here", "_law_lacks_here", "_law_day", "_law_held", "_law_k"] ["_law_offers", "_law_counts_here", "_law_lacks_here"] (defScope s_served) := ⟨rfl, rfl, rfl, by decide +kernel, rfl, by decide +kernel, by decide +kernel⟩
theorem bd_served : ∀ (kV doc pm : Value) (an : Option Addr) (cdv ct : Value) (us : List Value), us.length = (["_law_offers", "_law_counts_here", "_law_lacks_here"] : List Str).length → bindArgs (PySem.W.fnOf "_law_served" "_law_served" (defArgs s_served) (defBody s_served) (defScope s_served) .none kV doc pm an cdv ct) ⟨us, []⟩ = pure ((["_law_offers", "_law_counts_here", "_law_lacks_here"] : List Str).zip us) := fun _ _ _ _ _ _ us hl => match us, hl with | [_, _, _], _ => rfl
def spServed (K : PySem.W.Frag) : Sp := fun vs H Q _ => ∃ (v u y : V) (os : List Offer) (cs ls : List Int), vs = [v, u, y] ∧ OffersIn K H v os ∧ IntsIn K H u cs ∧ IntsIn K H y ls ∧ os.length = cs.length ∧ os.length ≤ 1000 ∧ ls.length = 7 ∧ (∀ o ∈ os, GoodOffer o) ∧ Q (.bl (servesB os cs ls)) H
theorem all_to {f : Nat → Bool} {n i : Nat} (hi : i < n) (h : f i = false) : (List.range n).all f = false := by
  rw [List.all_eq_false]
  exact ⟨i, List.mem_range.mpr hi, by rw [h]; decide⟩
theorem ok_served {P : Program} {w : World} {K : PySem.W.Frag} {mg : Str → Option Value} {base : Heap} (D : DefAt K mg "_law_served" s_served) (m_range : mg "range" = none) (m_len : mg "len" = none) : Clb P w K mg base 1 "_law_served" ["_law_offers", "_law_counts_here", "_law_lacks_here"] (spServed K) := by
  refine D.clb sc_served (fun vs H Q E h => ?_) bd_served (fun f cdv A outer s H vs Q E hr h => ?_)
  · obtain ⟨v, u, y, os, cs, ls, rfl, _⟩ := h
    rfl
  · obtain ⟨v, u, y, os, cs, ls, rfl, ⟨a, us, rfl, ha, hh⟩, ⟨b, rfl, hb⟩, ⟨c, rfl, hc⟩, hl, hz, h7, hg, q⟩ := h
    refine ⟨_, (pss_cons (ps_for PassesOwn.never rfl (pi_range2 (by rfl) m_range (pa_cons pe_int (pa_cons pe_int pa_nil))) (pg_name (i := 3) sc_served.nd rfl (.inl rfl))
      (pss_cons (ps_set (i := 4) sc_served.nd rfl (.inl rfl) pe_int)
    (pss_cons (ps_for PassesOwn.never rfl (pi_range1 (by rfl) m_range (pa_cons (pe_callB (kcall_len_seq K) (by rfl) m_len (by decide +kernel) (pa_cons (pv 0) pa_nil)) pa_nil)) (pg_name (i := 5) sc_served.nd rfl (.inl rfl))
      (pss_one (ps_if (pt_cmpR op_ge (pe_ix (kix_tup K) (pe_ix (kix_seq K) (pv 0) (pv 5) (fun _ _ => rfl)) pe_int (fun _ _ => rfl)) (pv 3) (nomark _))
      (pss_one (ps_set (i := 4) sc_served.nd rfl (.inl rfl) (pe_op op_add (pv 4) (pe_op op_mul (pe_ix (kix_tup K) (pe_ix (kix_seq K) (pv 0) (pv 5) (fun _ _ => rfl)) pe_int (fun _ _ => rfl)) (pe_ix (kix_seq K) (pv 1) (pv 5) (fun _ _ => rfl))))))
      pss_nil)))
    (pss_one (ps_if (pt_cmpR op_lt (pv 4) (pe_ix (kix_seq K) (pv 2) (pe_op op_sub (pv 3) pe_int) (fun _ _ => rfl)) (nomark _))
      (pss_one (ps_ret pe_bl))
      pss_nil)))))
    (pss_one (ps_ret pe_bl))), ?_⟩
    refine ⟨_, _, rfl, by decide, ?_⟩
    refine for_range (lo := 1) (n := 7) (fun i σ H' => ∃ y3 y4 y5 : Option V, σ = [some (.ref a), some (.ref b), some (.ref c), y3, y4, y5] ∧ H = H' ∧ ∀ j, j < i → ls.getD j 0 ≤ heldOn os cs (1 + (j : Nat)))
      ⟨none, none, none, rfl, rfl, fun j hj => absurd hj (Nat.not_lt_zero _)⟩ (fun i σ H' hi h => ?_) (fun σ H' h => ?_)
    · obtain ⟨y3, y4, y5, rfl, rfl, hs⟩ := h
      walk_at "rd"
      refine ⟨a, us, rfl, ha, ?_⟩
      refine ⟨_, rfl, by omega, by rw [hh.len]; omega, ?_⟩
      refine for_range (lo := 0) (fun k σ H' => ∃ y5 : Option V, σ = [some (.ref a), some (.ref b), some (.ref c), some (.int (1 + (i : Nat))), some (.int (heldZ ((os.zip cs).take k) (1 + (i : Nat)))), y5] ∧ H = H') ⟨y5, rfl, rfl⟩ (fun k σ H' hk h => ?_) (fun σ H' h => ?_)
      · obtain ⟨y5, rfl, rfl⟩ := h
        have hko : k < os.length := by rw [← hh.len]; omega
        have ho := List.getElem?_eq_getElem hko
        have hcs := List.getElem?_eq_getElem (show k < cs.length by omega)
        have hu := List.getElem?_eq_getElem (show k < us.length by rw [hh.len]; exact hko)
        obtain ⟨t, ht, hto⟩ := hh.all k _ _ hu ho
        rw [ht] at hu
        have ez := zip_ix ho hcs
        refine ⟨_, rfl, _, rfl, a, _, _, _, rfl, rfl, ha, at_of (j := k) (by omega) hu, ?_⟩
        refine ⟨t, _, _, _, rfl, rfl, sqT hto, rfl, ?_⟩
        walk_at "rd"
        refine it_le (fun e => ?_) (fun e => ?_)
        · refine ⟨_, rfl, _, rfl, _, rfl, a, _, _, _, rfl, rfl, ha, at_of (j := k) (by omega) hu, ?_⟩
          refine ⟨t, _, _, _, rfl, rfl, sqT hto, rfl, ?_⟩
          refine ⟨_, rfl, _, rfl, b, _, _, _, rfl, rfl, hb, at_of (j := k) (by omega) (ix_map hcs), ?_⟩
          have g := hg _ (List.getElem_mem hko)
          have g0 := g.size1
          have g1 := g.size2
          refine ⟨_, _, rfl, rfl, .inl ⟨by omega, by omega⟩, ?_⟩
          refine ⟨_, _, rfl, rfl, ?_⟩
          exact ⟨some (.int (0 + (k : Nat))), by rw [take_succ' ez, heldZ_snoc, if_pos e]; rfl, rfl⟩
        · exact ⟨some (.int (0 + (k : Nat))), by rw [take_succ' ez, heldZ_snoc, if_neg e, Int.add_zero]; rfl, rfl⟩
      · obtain ⟨y5, rfl, rfl⟩ := h
        have hf : (os.zip cs).take ((us.length : Int).toNat) = os.zip cs := List.take_of_length_le (by rw [zip_len hl, hh.len]; exact Nat.le_refl _)
        rw [hf]
        refine ⟨_, rfl, _, rfl, _, rfl, _, _, rfl, rfl, ?_⟩
        refine ⟨c, _, _, _, rfl, rfl, hc, at_of (j := i) (by omega) (ix_map (List.getElem?_eq_getElem (by omega))), ?_⟩
        have eg : ls.getD i 0 = ls[i]'(by omega) := by rw [List.getD_eq_getElem?_getD, List.getElem?_eq_getElem (by omega)]; rfl
        walk_at "rd"
        refine it_lt (fun e => ?_) (fun e => ?_)
        · have : servesB os cs ls = false := all_to hi (decide_eq_false (by rw [eg]; show ¬ _ ≤ heldZ _ _; omega))
          rw [← this]
          exact q
        · refine ⟨_, _, _, rfl, rfl, fun j hj => ?_⟩
          by_cases ej : j = i
          · subst ej
            rw [eg]
            show _ ≤ heldZ _ _
            omega
          · exact hs j (by omega)
    · obtain ⟨y3, y4, y5, rfl, rfl, hs⟩ := h
      have : servesB os cs ls = true := List.all_eq_true.mpr fun j hj => decide_eq_true (hs j (List.mem_range.mp hj))
      rw [← this]
      exact q
abbrev s_counts : Stmt := topS 28
theorem sc_counts : FnScope ["_law_offers", "_law_cell", "_law_counts_here", "_law_k", "_law_some"] ["_law_offers", "_law_cell"] (defScope s_counts) := ⟨rfl, rfl, rfl, by decide +kernel, rfl, by decide +kernel, by decide +kernel⟩
theorem bd_counts : ∀ (kV doc pm : Value) (an : Option Addr) (cdv ct : Value) (us : List Value), us.length = (["_law_offers", "_law_cell"] : List Str).length → bindArgs (PySem.W.fnOf "_law_counts" "_law_counts" (defArgs s_counts) (defBody s_counts) (defScope s_counts) .none kV doc pm an cdv ct) ⟨us, []⟩ = pure ((["_law_offers", "_law_cell"] : List Str).zip us) := fun _ _ _ _ _ _ us hl => match us, hl with | [_, _], _ => rfl
def spCounts (K : PySem.W.Frag) : Sp := fun vs H Q _ => ∃ (a : Addr) (us : List V) (c : Int), vs = [.ref a, .int c] ∧ SqA K H a us ∧ us.length ≤ 1000 ∧
  ∀ (p : Addr) (cs : List Int) (H' : Hp), Same H H' → H p = none → H' p = some (.lst (cs.map V.int)) → cs.length = us.length → (∀ x ∈ cs, 0 ≤ x ∧ x ≤ 6) → Q (.ref p) H'
theorem ok_counts {P : Program} {w : World} {K : PySem.W.Frag} {mg : Str → Option Value} {base : Heap} (D : DefAt K mg "_law_counts" s_counts) (m_range : mg "range" = none) (m_len : mg "len" = none) (C_mix : Clb P w K mg base 1 "_law_mix" ["_law_cell", "_law_k"] spMix) : Clb P w K mg base 2 "_law_counts" ["_law_offers", "_law_cell"] (spCounts K) := by
  refine D.clb sc_counts (fun vs H Q E h => ?_) bd_counts (fun f cdv A outer s H vs Q E hr h => ?_)
  · obtain ⟨a, us, c, rfl, _⟩ := h
    rfl
  · obtain ⟨a, us, c, rfl, ha, hz, q⟩ := h
    refine ⟨_, (pss_cons (ps_set (i := 2) sc_counts.nd rfl (.inl rfl) (pe_lst pa_nil))
    (pss_cons (ps_for PassesOwn.never rfl (pi_range1 (by rfl) m_range (pa_cons (pe_callB (kcall_len_seq K) (by rfl) m_len (by decide +kernel) (pa_cons (pv 0) pa_nil)) pa_nil)) (pg_name (i := 3) sc_counts.nd rfl (.inl rfl))
      (pss_cons (ps_set (i := 4) sc_counts.nd rfl (.inl rfl) (pe_cal C_mix (hr.mono (by decide)) (pa_cons (pv 1) (pa_cons (pe_op op_add (pv 3) pe_int) pa_nil))))
    (pss_one (ps_expr (kpe_bm K PySem.F.plainAttrs_list PySem.F.slot_list_append PySem.F.type_list_append mt_append (pv 2) (pa_cons (pe_ix (kix_list K) (pe_lst (pa_cons pe_int (pa_cons (pe_op op_mod (pe_op op_fdiv (pv 4) pe_int) pe_int) (pa_cons (pe_op op_mod (pe_op op_fdiv (pv 4) pe_int) pe_int) (pa_cons (pe_op op_mod (pe_op op_fdiv (pv 4) pe_int) pe_int) (pa_cons pe_int pa_nil)))))) (pe_op op_mod (pv 4) pe_int) (fun _ _ => rfl)) pa_nil))))))
    (pss_one (ps_ret (pv 2))))), ?_⟩
    refine ⟨Nat.zero_le _, fun p hp => ?_⟩
    have s1 := same_upd (o := .lst []) hp
    refine ⟨_, rfl, a, us, rfl, ha.same s1, ?_⟩
    refine ⟨_, rfl, by omega, by omega, ?_⟩
    refine for_range (lo := 0) (fun i σ H' => ∃ (y3 y4 : Option V) (cs : List Int), σ = [some (.ref a), some (.int c), some (.ref p), y3, y4] ∧ Same H H' ∧ H' p = some (.lst (cs.map V.int)) ∧ cs.length = i ∧ ∀ x ∈ cs, 0 ≤ x ∧ x ≤ 6)
      ⟨none, none, [], rfl, s1, upd_same, rfl, fun _ z => nomatch z⟩ (fun i σ H1 hi h => ?_) (fun σ H1 h => ?_)
    · obtain ⟨y3, y4, cs, rfl, sm, hpl, hl, hn⟩ := h
      walk_at "rd"
      refine ⟨by omega, by omega, fun z z0 z1 => ?_⟩
      refine ⟨_, rfl, .inl ⟨rfl, _, sqL hpl⟩, ?_⟩
      walk_at "rd"
      refine ⟨small (by show 5 ≤ 100000; decide), fun r hr1 => ?_⟩
      have e1 := Int.emod_nonneg (z / 5) (show (3 : Int) ≠ 0 by decide)
      have e2 := Int.emod_lt_of_pos (z / 5) (show (0 : Int) < 3 by decide)
      have e3 := Int.emod_nonneg (z / 5) (show (7 : Int) ≠ 0 by decide)
      have e4 := Int.emod_lt_of_pos (z / 5) (show (0 : Int) < 7 by decide)
      have e5 := Int.emod_nonneg z (show (5 : Int) ≠ 0 by decide)
      have e6 := Int.emod_lt_of_pos z (show (0 : Int) < 5 by decide)
      have hn' : ∃ n : Int, atI [V.int 0, V.int (z / 5 % 3), V.int (z / 5 % 3), V.int (z / 5 % 7), V.int 0] (z % 5) = some (.int n) ∧ 0 ≤ n ∧ n ≤ 6 := by
        have : z % 5 = 0 ∨ z % 5 = 1 ∨ z % 5 = 2 ∨ z % 5 = 3 ∨ z % 5 = 4 := by omega
        rcases this with e | e | e | e | e <;> rw [e]
        · exact ⟨0, rfl, by decide, by decide⟩
        · exact ⟨_, rfl, by omega, by omega⟩
        · exact ⟨_, rfl, by omega, by omega⟩
        · exact ⟨_, rfl, by omega, by omega⟩
        · exact ⟨0, rfl, by decide, by decide⟩
      obtain ⟨n, en, n0, n1⟩ := hn'
      walk_at "rd"
      refine ⟨r, _, _, _, rfl, rfl, sqL upd_same, en, ?_⟩
      have hpl2 : (upd H1 r (.lst [V.int 0, V.int (z / 5 % 3), V.int (z / 5 % 3), V.int (z / 5 % 7), V.int 0])) p = some (.lst (cs.map V.int)) := by
        rw [upd_ne (ne_of_none hpl hr1)]
        exact hpl
      refine ⟨p, _, _, rfl, rfl, hpl2, small' (by rw [List.length_map, hl]; omega), ?_⟩
      exact ⟨_, _, cs ++ [n], rfl, (sm.new hr1).mut hp, by rw [upd_same, List.map_append]; rfl, by rw [List.length_append, hl]; rfl, fun x hx => by
        rcases List.mem_append.mp hx with y | y
        · exact hn x y
        · rw [List.mem_singleton.mp y]; exact ⟨n0, n1⟩⟩
    · obtain ⟨y3, y4, cs, rfl, sm, hpl, hl, hn⟩ := h
      exact ⟨_, rfl, q p cs _ sm hp hpl (by rw [hl]; rfl) hn⟩
abbrev s_filled : Stmt := topS 29
theorem sc_filled : FnScope ["_law_offers", "_law_counts_here", "_law_lacks_here", "_law_cell", "_law_day", "_law_fit", "_law_k", "_law_held", "_law_more"] ["_law_offers", "_law_counts_here", "_law_lacks_here", "_law_cell"] (defScope s_filled) := ⟨rfl, rfl, rfl, by decide +kernel, rfl, by decide +kernel, by decide +kernel⟩
theorem bd_filled : ∀ (kV doc pm : Value) (an : Option Addr) (cdv ct : Value) (us : List Value), us.length = (["_law_offers", "_law_counts_here", "_law_lacks_here", "_law_cell"] : List Str).length → bindArgs (PySem.W.fnOf "_law_filled" "_law_filled" (defArgs s_filled) (defBody s_filled) (defScope s_filled) .none kV doc pm an cdv ct) ⟨us, []⟩ = pure ((["_law_offers", "_law_counts_here", "_law_lacks_here", "_law_cell"] : List Str).zip us) := fun _ _ _ _ _ _ us hl => match us, hl with | [_, _, _, _], _ => rfl
def spFilled (K : PySem.W.Frag) : Sp := fun vs H Q _ => ∃ (a c y : Addr) (us : List V) (os : List Offer) (cs ls : List Int) (z : Int), vs = [.ref a, .ref c, .ref y, .int z] ∧ a ≠ c ∧ y ≠ c ∧ SqA K H a us ∧ Held OfferAt H us os ∧ H c = some (.lst (cs.map V.int)) ∧ SqA K H y (ls.map V.int) ∧
  os.length = cs.length ∧ os.length ≤ 1000 ∧ (∀ o ∈ os, GoodOffer o) ∧ (∀ x ∈ cs, 0 ≤ x) ∧ ls.length = 7 ∧ (∀ x ∈ ls, 0 ≤ x) ∧
  ∀ H', SameBut c H H' → (∀ e : Nat, 1 ≤ e → e ≤ 7 → 0 < lackAt ls e → (∀ o ∈ os, ¬ (e : Int) ≤ o.last) → Q .non H') ∧
    (∀ cs', H' c = some (.lst (cs'.map V.int)) → Filled os ls (mostL ls) 7 cs cs' → Q (.ref c) H')
theorem lack_at' {ls : List Int} (h7 : ls.length = 7) (hn : ∀ x ∈ ls, 0 ≤ x) {d : Nat} (h1 : 1 ≤ d) (hd : d ≤ 7) : ls[d - 1]? = some (lackAt ls d : Int) := by
  have hl : d - 1 < ls.length := by omega
  have e := List.getElem?_eq_getElem hl
  rw [e]
  congr 1
  unfold lackAt
  rw [List.getD_eq_getElem?_getD, e]
  have := hn _ (List.getElem_mem hl)
  show _ = ((ls[d - 1].toNat : Nat) : Int)
  omega
theorem lack_le' (ls : List Int) (d : Nat) : lackAt ls d ≤ mostL ls := by
  unfold lackAt
  rw [List.getD_eq_getElem?_getD]
  cases e : ls[d - 1]? with
  | none => exact Nat.zero_le _
  | some x => exact mostL_ge ls x (List.mem_of_getElem? e)
theorem ok_filled {P : Program} {w : World} {K : PySem.W.Frag} {mg : Str → Option Value} {base : Heap} (D : DefAt K mg "_law_filled" s_filled) (m_range : mg "range" = none) (m_len : mg "len" = none) (m_sum : mg "sum" = none) (C_mix : Clb P w K mg base 1 "_law_mix" ["_law_cell", "_law_k"] spMix) : Clb P w K mg base 2 "_law_filled" ["_law_offers", "_law_counts_here", "_law_lacks_here", "_law_cell"] (spFilled K) := by
  refine D.clb sc_filled (fun vs H Q E h => ?_) bd_filled (fun f cdv A outer s H vs Q E hr h => ?_)
  · obtain ⟨a, c, y, us, os, cs, ls, z, rfl, _⟩ := h
    rfl
  · obtain ⟨a, c, y, us, os, cs, ls, z, rfl, nac, nyc, ha, hh, hc, hy, hl, hz, hg, hn, h7, hls, q⟩ := h
    refine ⟨_, (pss_cons (ps_for PassesOwn.never rfl (pi_range3 (by rfl) m_range (pa_cons pe_int (pa_cons pe_int (pa_cons (pe_un un_neg pe_int) pa_nil)))) (pg_name (i := 4) sc_filled.nd rfl (.inr rfl))
      (pss_cons (ps_setLc (i := 5) (own := [("_law_k", 6)])   rfl sc_filled.nd rfl rfl (sw_true rfl rfl rfl (by decide +kernel)) (pi_range1 (by rfl) m_range (pa_cons (pe_callB (kcall_len_seq K) (by rfl) m_len (by decide +kernel) (pa_cons (pv 0) pa_nil)) pa_nil)) (blkOk_by (own := [("_law_k", 6)]) (N := ["_law_offers", "_law_counts_here", "_law_lacks_here", "_law_cell", "_law_day", "_law_fit", "_law_k", "_law_held", "_law_more"]) (sc := defScope s_filled) (by decide +kernel)) (fun _ _ _ _ _ => (pg_name (i := 6) sc_filled.nd rfl (.inl rfl))) (fun _ _ _ _ _ => (pts_one (pt_cmpR op_ge (pe_ix (kix_tup K) (pe_ix (kix_seq K) (pv 0) (pv 6) (fun _ _ => rfl)) pe_int (fun _ _ => rfl)) (pv 4) (nomark _)))) (fun _ _ _ _ _ => (pv 6)))
    (pss_cons (ps_set (i := 7) sc_filled.nd rfl (.inl rfl) (pe_callB (kcr_sum K rfl) (by rfl) m_sum (by decide +kernel) (pa_cons (pe_lc (own := [("_law_k", 6)]) rfl sc_filled.nd (kpi_list K (pv 5)) (blkOk_by (own := [("_law_k", 6)]) (N := ["_law_offers", "_law_counts_here", "_law_lacks_here", "_law_cell", "_law_day", "_law_fit", "_law_k", "_law_held", "_law_more"]) (sc := defScope s_filled) (by decide +kernel)) (fun _ _ _ _ _ => (pg_name (i := 6) sc_filled.nd rfl (.inl rfl))) (fun _ _ _ _ _ => pts_nil) (fun _ _ _ _ _ => (pe_op op_mul (pe_ix (kix_tup K) (pe_ix (kix_seq K) (pv 0) (pv 6) (fun _ _ => rfl)) pe_int (fun _ _ => rfl)) (pe_ix (kix_list K) (pv 1) (pv 6) (fun _ _ => rfl))))) pa_nil)))
    (C8.pss_cut (ps_if (PW.pt (pw_and (pt_cmpR op_lt (pv 7) (pe_ix (kix_seq K) (pv 2) (pe_op op_sub (pv 4) pe_int) (fun _ _ => rfl)) (nomark _)) (pw_and1 (pt_cmpR (kop_eqD K hr.units) (pv 5) (pe_lst pa_nil) (nomark _)))))
      (pss_one (ps_ret pe_non))
      pss_nil)
    (pss_one (ps_if (pt_cmpR op_lt (pv 7) (pe_ix (kix_seq K) (pv 2) (pe_op op_sub (pv 4) pe_int) (fun _ _ => rfl)) (nomark _))
      (pss_cons (ps_set (i := 6) sc_filled.nd rfl (.inl rfl) (pe_ix (kix_list K) (pv 5) (pe_op op_mod (pe_cal C_mix (hr.mono (by decide)) (pa_cons (pv 3) (pa_cons (pv 4) pa_nil))) (pe_callB (kcall_len_seq K) (by rfl) m_len (by decide +kernel) (pa_cons (pv 5) pa_nil))) (fun _ _ => rfl)))
    (pss_cons (ps_set (i := 8) sc_filled.nd rfl (.inl rfl) (pe_op op_sub (pe_op op_add (pe_op op_sub (pe_ix (kix_seq K) (pv 2) (pe_op op_sub (pv 4) pe_int) (fun _ _ => rfl)) (pv 7)) (pe_ix (kix_tup K) (pe_ix (kix_seq K) (pv 0) (pv 6) (fun _ _ => rfl)) pe_int (fun _ _ => rfl))) pe_int))
    (pss_one (ps_asg (pe_op op_add (pe_ix (kix_list K) (pv 1) (pv 6) (fun _ _ => rfl)) (pe_op op_fdiv (pv 8) (pe_ix (kix_tup K) (pe_ix (kix_seq K) (pv 0) (pv 6) (fun _ _ => rfl)) pe_int (fun _ _ => rfl)))) (pg_sub (pv 1) (pv 6) set_list)))))
      pss_nil))))))
    (pss_one (ps_ret (pv 1)))), ?_⟩
    walk_at "rd"
    refine ⟨7, 0, -1, 7, rfl, RgC.neg (by decide) (by decide) (by decide) (by decide), ?_⟩
    refine for_rangeC (fun i σ H' => ∃ (y4 y5 y6 y7 y8 : Option V) (cs' : List Int), σ = [some (.ref a), some (.ref c), some (.ref y), some (.int z), y4, y5, y6, y7, y8] ∧ SameBut c H H' ∧ H' c = some (.lst (cs'.map V.int)) ∧ Filled os ls (mostL ls) i cs cs' ∧ i ≤ 7)
      ⟨none, none, none, none, none, cs, rfl, SameBut.refl _ _, hc, ⟨rfl, hn, by omega, fun e h1 h2 => by omega⟩, by decide⟩ (fun i σ H1 hi h => ?_) (fun σ H1 h => ?_)
    · obtain ⟨y4, y5, y6, y7, y8, cs', rfl, sb, hc1, F, _⟩ := h
      have hday : (7 : Int) + (i : Nat) * (-1) = ((7 - i : Nat) : Int) := by omega
      rw [hday]
      have dL := lack_at' h7 hls (d := 7 - i) (by omega) (by omega)
      have hM := lack_le' ls (7 - i)
      have hlc : os.length = cs'.length := by rw [F.len]; exact hl
      have hh1 := hh.mono OfferAt.mono (sb.tup hc)
      have ha1 := sb.sq nac ha
      have hy1 := sb.sq nyc hy
      -- what reads an offer's part
      have rd : ∀ (k : Nat), k < os.length → ∃ t, us[k]? = some (.ref t) ∧ H1 t = some (.tup [.int (os.getD k oz).size, .int (os.getD k oz).price, .int (os.getD k oz).last]) := fun k hk => by
        have ho := List.getElem?_eq_getElem hk
        have hu := List.getElem?_eq_getElem (show k < us.length by rw [hh.len]; exact hk)
        obtain ⟨t, e1, e2⟩ := hh1.all k _ _ hu ho
        have eo : os.getD k oz = os[k] := by rw [List.getD_eq_getElem?_getD, ho]; rfl
        rw [eo]
        exact ⟨t, by rw [hu, e1], e2⟩
      walk_at "rd"
      refine ⟨a, us, rfl, ha1, ?_⟩
      refine ⟨_, rfl, by omega, by rw [hh.len]; omega, fun D1 hD1 => lc_rel (walk_range (lo := 0) (n := us.length)) (xs := List.range os.length) (by rw [List.length_range, hh.len]) (f := fun k => if ((7 - i : Nat) : Int) ≤ (os.getD k oz).last then some k else none) (R := fun _ v (k : Nat) => v = V.int k) (mono_eq (f := fun k : Nat => V.int k)) hD1 (fun _ _ => trivial) (by rw [hh.len]; omega) (fun j v x H2 H3 Ky Kn hx s2 hy2 h1 h2 => ?_) (fun H2 ys s2 hD1' hd => ?_)⟩
      · obtain ⟨rfl, rfl⟩ := hy2
        obtain ⟨rfl, hx7⟩ := range_ix hx
        obtain ⟨t, hu, ht⟩ := rd x hx7
        refine ⟨rfl, ?_⟩
        refine ⟨_, rfl, _, rfl, a, _, _, _, rfl, rfl, ha1.same s2, at_of (j := x) (by omega) hu, ?_⟩
        refine ⟨t, _, _, _, rfl, rfl, sqT (s2 _ _ ht), rfl, ?_⟩
        walk_at "rd"
        refine it_le (fun e => ?_) (fun e => ?_)
        · refine ⟨_, rfl, ?_⟩
          exact h1 _ _ _ (if_pos e) (Same.refl _) (by show V.int (0 + (x : Nat)) = V.int (x : Nat); rw [Int.zero_add])
        · exact h2 _ (if_neg e) (Same.refl _)
      · have ef := held_eq (f := fun k : Nat => V.int k) hd
        have hD1f : H2 D1 = some (.lst ((fitK os ((7 - i : Nat) : Int)).map fun k : Nat => V.int k)) := by rw [hD1', ef]; rfl
        have sb2 := sb.trans (SameBut.of s2)
        refine ⟨_, rfl, D1, rfl, ⟨_, sqL hD1f⟩, fun D2 hD2 => lc_rel (walk_list (xs := (fitK os ((7 - i : Nat) : Int)).map fun k : Nat => V.int k)) (xs := fitK os ((7 - i : Nat) : Int)) (by rw [List.length_map]) (f := fun k => some ((os.getD k oz).size * cs'.getD k 0)) (R := fun _ v x => v = V.int x) mono_eq hD2 (fun _ s => sqL (s _ _ hD1f)) (by rw [List.length_map]; have := List.length_filterMap_le (fun k => if ((7 - i : Nat) : Int) ≤ (os.getD k oz).last then some k else none) (List.range os.length); rw [List.length_range] at this; show (fitK os _).length ≤ _; unfold fitK; omega) (fun j v x H3 H4 Ky Kn hx s3 hy3 h1 h2 => ?_) (fun H3 zs s3 hD2' hd2 => ?_)⟩
        · obtain ⟨rfl, hv⟩ := hy3
          rw [List.getElem?_map, hx] at hv
          have hv' : V.int (x : Nat) = v := Option.some.inj hv
          subst hv'
          have hkm := fit_mem (ix_mem hx)
          obtain ⟨t, hu, ht⟩ := rd x hkm.1
          refine ⟨rfl, ?_⟩
          refine ⟨_, rfl, _, rfl, a, _, _, _, rfl, rfl, (ha1.same s2).same s3, at_of (j := x) rfl hu, ?_⟩
          refine ⟨t, _, _, _, rfl, rfl, sqT (s3 _ _ (s2 _ _ ht)), rfl, ?_⟩
          have hkc : x < cs'.length := by rw [← hlc]; exact hkm.1
          have ec : cs'[x]? = some (cs'.getD x 0) := by rw [List.getD_eq_getElem?_getD, List.getElem?_eq_getElem hkc]; rfl
          refine ⟨_, rfl, _, rfl, c, _, _, _, rfl, rfl, sqL (s3 _ _ (s2 _ _ hc1)), at_of (j := x) rfl (ix_map ec), ?_⟩
          have g := hg (os.getD x oz) (by rw [List.getD_eq_getElem?_getD, List.getElem?_eq_getElem hkm.1]; exact List.getElem_mem hkm.1)
          have g0 := g.size1
          have g1 := g.size2
          refine ⟨_, _, rfl, rfl, .inl ⟨by omega, by omega⟩, ?_⟩
          exact h1 _ _ _ rfl (Same.refl _) rfl
        · have e2 := held_eq (f := V.int) hd2
          rw [fm_some] at e2
          have hsum := held_fit os cs' hlc ((7 - i : Nat) : Int)
          refine ⟨D2, _, rfl, sqL (by rw [hD2', e2]), ?_⟩
          rw [hsum]
          have sb3 := sb2.trans (SameBut.of s3)
          have s23 := s2.trans s3
          have hc3 := s23 _ _ hc1
          have hD1g := s3 _ _ hD1f
          generalize hfit : fitK os ((7 - i : Nat) : Int) = fit at hD1g
          generalize hheld : heldOn os cs' ((7 - i : Nat) : Int) = held
          refine ⟨fun σ' H' => ∃ y6', σ' = [some (.ref a), some (.ref c), some (.ref y), some (.int z), some (.int ((7 - i : Nat) : Int)), some (.ref D1), y6', some (.int held), y8] ∧ Same H3 H' ∧ (held < (lackAt ls (7 - i) : Int) → fit ≠ []), ?_, fun σ' H' h => ?_⟩
          · refine ⟨_, rfl, _, rfl, _, rfl, _, _, rfl, rfl, ?_⟩
            refine ⟨y, _, _, _, rfl, rfl, hy1.same s23, at_of (j := 7 - i - 1) (by omega) (ix_map dL), ?_⟩
            walk_at "rd"
            refine it_lt (fun e => ?_) (fun e => ?_)
            · refine ⟨_, rfl, Nat.zero_le _, fun r hr1 => ?_⟩
              have s4 := same_upd (o := .lst []) hr1
              have hDf : (upd H3 r (.lst [])) D1 = some (.lst ((fit.map fun k : Nat => (k : Int)).map V.int)) := by rw [List.map_map]; exact s4 _ _ hD1g
              refine ⟨_, _, .lst (sqL hDf) (dp_ints _), .lst (sqL upd_same) .nil, int_shaped _, rfl, ?_⟩
              rw [nil_eqv]
              cases hf : fit with
              | nil =>
                refine ⟨_, rfl, iteT ?_⟩
                rw [hf] at hfit
                exact (q _ (sb3.trans (SameBut.of s4))).1 (7 - i) (by omega) (by omega) (by
                  have : 0 ≤ held := by rw [← hheld, heldOn_w]; exact wsum_nonneg _ _ _ (fun o ho => onto_nonneg (hg o ho) _) F.nn
                  omega) (fit_nil hfit)
              | cons k r' =>
                refine ⟨_, rfl, iteF ?_⟩
                exact ⟨_, rfl, s4, fun _ z => by cases z⟩
            · exact ⟨_, rfl, Same.refl _, fun z => absurd z e⟩
          obtain ⟨y6', rfl, s4, hne⟩ := h
          have s24 := s23.trans s4
          have sb4 := sb3.trans (SameBut.of s4)
          have hc4 := s4 _ _ hc3
          have hD1h := s4 _ _ hD1g
          refine ⟨_, rfl, _, rfl, _, rfl, _, _, rfl, rfl, ?_⟩
          refine ⟨y, _, _, _, rfl, rfl, hy1.same s24, at_of (j := 7 - i - 1) (by omega) (ix_map dL), ?_⟩
          walk_at "rd"
          refine it_lt (fun e => ?_) (fun e => ?_)
          · have fne := hne e
            have fl : 0 < fit.length := List.length_pos_iff.mpr fne
            refine ⟨_, rfl, _, rfl, _, rfl, z, _, rfl, by omega, by omega, fun mz mz0 mz1 => ?_⟩
            refine ⟨_, rfl, D1, _, rfl, .inl (sqL hD1h), ?_⟩
            refine ⟨_, _, rfl, rfl, (by rw [List.length_map]; omega), ?_⟩
            rw [List.length_map]
            have j0 := Int.emod_nonneg mz (show (fit.length : Int) ≠ 0 by omega)
            have j1 := Int.emod_lt_of_pos mz (show (0 : Int) < fit.length by omega)
            generalize hj : mz % (fit.length : Int) = j at j0 j1
            have hjn : j.toNat < fit.length := by omega
            have hkf := List.getElem?_eq_getElem hjn
            generalize hk : fit[j.toNat] = k at hkf
            have hkm : k ∈ fitK os ((7 - i : Nat) : Int) := by rw [hfit]; exact ix_mem hkf
            have hko := fit_mem hkm
            obtain ⟨t, hu, ht⟩ := rd k hko.1
            refine ⟨D1, _, _, _, rfl, rfl, sqL hD1h, at_of (j := j.toNat) (by omega) (by rw [List.getElem?_map, hkf]; rfl), ?_⟩
            refine ⟨_, rfl, _, rfl, _, _, rfl, rfl, ?_⟩
            refine ⟨y, _, _, _, rfl, rfl, hy1.same s24, at_of (j := 7 - i - 1) (by omega) (ix_map dL), ?_⟩
            walk_at "rd"
            refine ⟨a, _, _, _, rfl, rfl, ha1.same s24, at_of (j := k) rfl hu, ?_⟩
            refine ⟨t, _, _, _, rfl, rfl, sqT (s24 _ _ ht), rfl, ?_⟩
            walk_at "rd"
            have hkc : k < cs'.length := by rw [← hlc]; exact hko.1
            have ec : cs'[k]? = some (cs'.getD k 0) := by rw [List.getD_eq_getElem?_getD, List.getElem?_eq_getElem hkc]; rfl
            have g := hg (os.getD k oz) (by rw [List.getD_eq_getElem?_getD, List.getElem?_eq_getElem hko.1]; exact List.getElem_mem hko.1)
            have g0 := g.size1
            have g1 := g.size2
            refine ⟨c, _, _, _, rfl, rfl, sqL hc4, at_of (j := k) rfl (ix_map ec), ?_⟩
            refine ⟨_, rfl, _, rfl, _, rfl, a, _, _, _, rfl, rfl, ha1.same s24, at_of (j := k) rfl hu, ?_⟩
            refine ⟨t, _, _, _, rfl, rfl, sqT (s24 _ _ ht), rfl, ?_⟩
            refine ⟨_, _, rfl, rfl, ⟨by omega, by omega⟩, ?_⟩
            walk_at "rd"
            refine ⟨c, _, _, k, rfl, rfl, hc4, ixN_of rfl (by rw [List.length_map]; exact hkc), ?_⟩
            rw [← hheld] at e
            have F' := F.more hl hg hi hM hkm e
            rw [hheld] at F'
            exact ⟨_, _, _, _, _, cs'.set k _, rfl, sb4.put, by rw [upd_same, List.map_set], F', by omega⟩
          · rw [← hheld] at e
            exact ⟨_, _, _, _, _, cs', rfl, sb4, hc4, F.none hi (by omega), by omega⟩
    · obtain ⟨y4, y5, y6, y7, y8, cs', rfl, sb, hc1, F, _⟩ := h
      exact ⟨_, rfl, (q _ sb).2 cs' hc1 F⟩
abbrev s_of : Stmt := topS 30
theorem sc_of : FnScope ["_law_packs_here", "_law_name", "_law_k"] ["_law_packs_here", "_law_name"] (defScope s_of) := ⟨rfl, rfl, rfl, by decide +kernel, rfl, by decide +kernel, by decide +kernel⟩
theorem bd_of : ∀ (kV doc pm : Value) (an : Option Addr) (cdv ct : Value) (us : List Value), us.length = (["_law_packs_here", "_law_name"] : List Str).length → bindArgs (PySem.W.fnOf "_law_of" "_law_of" (defArgs s_of) (defBody s_of) (defScope s_of) .none kV doc pm an cdv ct) ⟨us, []⟩ = pure ((["_law_packs_here", "_law_name"] : List Str).zip us) := fun _ _ _ _ _ _ us hl => match us, hl with | [_, _], _ => rfl
def spOf : Sp := fun vs H Q _ => ∃ (v : V) (ps : List Pack) (nm : Str), vs = [v, .str nm] ∧ PacksAt H v ps ∧ ps.length ≤ 1000 ∧ ∀ p H', Same H H' → H p = none → H' p = some (.lst ((ofK ps nm).map fun k : Nat => V.int k)) → Q (.ref p) H'
theorem ok_of {P : Program} {w : World} {K : PySem.W.Frag} {mg : Str → Option Value} {base : Heap} (D : DefAt K mg "_law_of" s_of) (m_range : mg "range" = none) (m_len : mg "len" = none) : Clb P w K mg base 1 "_law_of" ["_law_packs_here", "_law_name"] spOf := by
  refine D.clb sc_of (fun vs H Q E h => ?_) bd_of (fun f cdv A outer s H vs Q E hr h => ?_)
  · obtain ⟨v, ps, nm, rfl, _⟩ := h
    rfl
  · obtain ⟨v, ps, nm, rfl, ⟨a, us, rfl, ha, hh⟩, hz, q⟩ := h
    refine ⟨_, (pss_one (ps_ret (pe_lc (own := [("_law_k", 2)]) rfl sc_of.nd (pi_range1 (by rfl) m_range (pa_cons (pe_callB (kcall_len_seq K) (by rfl) m_len (by decide +kernel) (pa_cons (pv 0) pa_nil)) pa_nil)) (blkOk_by (own := [("_law_k", 2)]) (N := ["_law_packs_here", "_law_name", "_law_k"]) (sc := defScope s_of) (by decide +kernel)) (fun _ _ _ _ _ => (pg_name (i := 2) sc_of.nd rfl (.inl rfl))) (fun _ _ _ _ _ => (pts_one (pt_cmpR op_eq (pe_ix (kix_tup K) (pe_ix (kix_tup K) (pv 0) (pv 2) (fun _ _ => rfl)) pe_int (fun _ _ => rfl)) (pv 1) (nomark _)))) (fun _ _ _ _ _ => (pv 2))))), ?_⟩
    have ul : us.length = ps.length := hh.len
    refine ⟨_, rfl, a, us, rfl, .inr (sqT ha), ?_⟩
    refine ⟨_, rfl, by omega, by omega, fun D1 hD1 => lc_rel (walk_range (lo := 0) (n := us.length)) (xs := List.range ps.length) (by rw [List.length_range, ul]) (f := fun k => if (ps.getD k pz).name = nm then some k else none) (R := fun _ v (k : Nat) => v = V.int k) (mono_eq (f := fun k : Nat => V.int k)) hD1 (fun _ _ => trivial) (by omega) (fun j v x H2 H3 Ky Kn hx s2 hy2 h1 h2 => ?_) (fun H2 ys s2 hD1' hd => ?_)⟩
    · obtain ⟨rfl, rfl⟩ := hy2
      obtain ⟨rfl, hx7⟩ := range_ix hx
      have hu := List.getElem?_eq_getElem (show x < us.length by omega)
      obtain ⟨t, e1, ht⟩ := hh.all x _ _ hu (at_getD hx7 pz)
      rw [e1] at hu
      refine ⟨rfl, ?_⟩
      refine ⟨_, rfl, _, rfl, a, _, _, _, rfl, rfl, sqT (s2 _ _ ha), at_of (j := x) (by omega) hu, ?_⟩
      refine ⟨t, _, _, _, rfl, rfl, sqT (s2 _ _ ht), rfl, ?_⟩
      walk_at "rd"
      refine it_eqS (fun e => ?_) (fun e => ?_)
      · refine ⟨_, rfl, ?_⟩
        exact h1 _ _ _ (if_pos e) (Same.refl _) (by show V.int (0 + (x : Nat)) = V.int (x : Nat); rw [Int.zero_add])
      · exact h2 _ (if_neg e) (Same.refl _)
    · have ef := held_eq (f := fun k : Nat => V.int k) hd
      exact q D1 H2 s2 hD1 (by rw [hD1', ef]; rfl)
abbrev s_filled_all : Stmt := topS 31
theorem sc_filled_all : FnScope ["_law_dishes_here", "_law_larder_here", "_law_packs_here", "_law_cell", "_law_counts_here", "_law_name", "_law_places", "_law_offers", "_law_k", "_law_some"] ["_law_dishes_here", "_law_larder_here", "_law_packs_here", "_law_cell"] (defScope s_filled_all) := ⟨rfl, rfl, rfl, by decide +kernel, rfl, by decide +kernel, by decide +kernel⟩
theorem bd_filled_all : ∀ (kV doc pm : Value) (an : Option Addr) (cdv ct : Value) (us : List Value), us.length = (["_law_dishes_here", "_law_larder_here", "_law_packs_here", "_law_cell"] : List Str).length → bindArgs (PySem.W.fnOf "_law_filled_all" "_law_filled_all" (defArgs s_filled_all) (defBody s_filled_all) (defScope s_filled_all) .none kV doc pm an cdv ct) ⟨us, []⟩ = pure ((["_law_dishes_here", "_law_larder_here", "_law_packs_here", "_law_cell"] : List Str).zip us) := fun _ _ _ _ _ _ us hl => match us, hl with | [_, _, _, _], _ => rfl
/-- of each of these names what is counted serves what lacks -/
def ServeAll (ds : List Dish) (lar : List Batch) (ps : List Pack) (cs : List Int) (ys : List Str) : Prop := ∀ nm ∈ ys, ∀ e : Nat, 1 ≤ e → e ≤ 7 → (lackAt (lackW ds lar nm) e : Int) ≤ heldOn (offersOf ps nm) (countsOf cs (ofK ps nm)) e
def spFilledAll : Sp := fun vs H Q _ => ∃ (u v w : V) (c : Int) (ds : List Dish) (lar : List Batch) (ps : List Pack) (B : Nat), vs = [u, v, w, .int c] ∧ DishesAt H u ds ∧ LarderAt H v lar ∧ PacksAt H w ps ∧ ds.length ≤ 100 ∧ (∀ d ∈ ds, d.2.length ≤ 20) ∧ (namesOf ds).length < 64 ∧ ps.length ≤ 60 ∧ (∀ p ∈ ps, FinePack p) ∧ (∀ nm, mostL (lackW ds lar nm) ≤ B) ∧ 0 ≤ c ∧
  ∀ H', Same H H' → (∀ nm e, nm ∈ namesOf ds → 1 ≤ e → e ≤ 7 → 0 < lackAt (lackW ds lar nm) e → (∀ o ∈ offersOf ps nm, ¬ (e : Int) ≤ o.last) → Q .non H') ∧
    (∀ p cs (ys : List Str), ys.Perm (namesOf ds) → H p = none → H' p = some (.lst (cs.map V.int)) → cs.length = ps.length → (∀ x ∈ cs, 0 ≤ x) → ServeAll ds lar ps cs ys → sumC cs ≤ ys.length * (7 * B + 360) → Q (.ref p) H')
theorem ok_filled_all {P : Program} {w : World} {K : PySem.W.Frag} {mg : Str → Option Value} {base : Heap} (D : DefAt K mg "_law_filled_all" s_filled_all) (m_range : mg "range" = none) (m_len : mg "len" = none) (C_things : Clb P w K mg base 1 "_law_things" ["_law_dishes_here"] (spThings K)) (C_of : Clb P w K mg base 1 "_law_of" ["_law_packs_here", "_law_name"] spOf) (C_filled : Clb P w K mg base 2 "_law_filled" ["_law_offers", "_law_counts_here", "_law_lacks_here", "_law_cell"] (spFilled K)) (C_counts : Clb P w K mg base 2 "_law_counts" ["_law_offers", "_law_cell"] (spCounts K)) (C_lacks : Clb P w K mg base 1 "_law_lacks" ["_law_dishes_here", "_law_larder_here", "_law_name"] (spLacks K)) : Clb P w K mg base 3 "_law_filled_all" ["_law_dishes_here", "_law_larder_here", "_law_packs_here", "_law_cell"] spFilledAll := by
  refine D.clb sc_filled_all (fun vs H Q E h => ?_) bd_filled_all (fun f cdv A outer s H vs Q E hr h => ?_)
  · obtain ⟨u, v, w, c, ds, lar, ps, B, rfl, _⟩ := h
    rfl
  · obtain ⟨u, v, w, c, ds, lar, ps, B, rfl, hds, hlar, ⟨pa, pus, rfl, hpa, hph⟩, dl, dn, nf, hpl, hpf, hB, hc0, q⟩ := h
    refine ⟨_, (pss_cons (ps_set (i := 4) sc_filled_all.nd rfl (.inl rfl) (pe_op op_rep (pe_lst (pa_cons pe_int pa_nil)) (pe_callB (kcall_len_seq K) (by rfl) m_len (by decide +kernel) (pa_cons (pv 2) pa_nil))))
    (pss_cons (ps_for PassesOwn.never rfl (kpi_list K (pe_cal C_things (hr.mono (by decide)) (pa_cons (pv 0) pa_nil))) (pg_name (i := 5) sc_filled_all.nd rfl (.inl rfl))
      (pss_cons (ps_set (i := 6) sc_filled_all.nd rfl (.inl rfl) (pe_cal C_of (hr.mono (by decide)) (pa_cons (pv 2) (pa_cons (pv 5) pa_nil))))
    (pss_cons (ps_setLc (i := 7) (own := [("_law_k", 8)])   rfl sc_filled_all.nd rfl rfl (sw_true rfl rfl rfl (by decide +kernel)) (kpi_list K (pv 6)) (blkOk_by (own := [("_law_k", 8)]) (N := ["_law_dishes_here", "_law_larder_here", "_law_packs_here", "_law_cell", "_law_counts_here", "_law_name", "_law_places", "_law_offers", "_law_k", "_law_some"]) (sc := defScope s_filled_all) (by decide +kernel)) (fun _ _ _ _ _ => (pg_name (i := 8) sc_filled_all.nd rfl (.inl rfl))) (fun _ _ _ _ _ => pts_nil) (fun _ _ _ _ _ => (pe_slice (ksl_tupA K) (pe_ix (kix_tup K) (pv 2) (pv 8) (fun _ _ => rfl)) (po_some pe_int) po_none)))
    (pss_cons (ps_set (i := 9) sc_filled_all.nd rfl (.inl rfl) (pe_cal C_filled (hr.mono (by decide)) (pa_cons (pv 7) (pa_cons (pe_cal C_counts (hr.mono (by decide)) (pa_cons (pv 7) (pa_cons (pv 3) pa_nil))) (pa_cons (pe_cal C_lacks (hr.mono (by decide)) (pa_cons (pv 0) (pa_cons (pv 1) (pa_cons (pv 5) pa_nil)))) (pa_cons (pe_op op_fdiv (pv 3) pe_int) pa_nil))))))
    (pss_cons (ps_if (pt_cmpR op_isN (pv 9) pe_non (nomark _))
      (pss_one (ps_ret pe_non))
      pss_nil)
    (pss_one (ps_for PassesOwn.never rfl (pi_range1 (by rfl) m_range (pa_cons (pe_callB (kcall_len_seq K) (by rfl) m_len (by decide +kernel) (pa_cons (pv 6) pa_nil)) pa_nil)) (pg_name (i := 8) sc_filled_all.nd rfl (.inl rfl))
      (pss_one (ps_asg (pe_ix (kix_list K) (pv 9) (pv 8) (fun _ _ => rfl)) (pg_sub (pv 4) (pe_ix (kix_list K) (pv 6) (pv 8) (fun _ _ => rfl)) set_list))))))))))
    (pss_one (ps_ret (pv 4))))), ?_⟩
    have pul : pus.length = ps.length := hph.len
    refine ⟨small (by show 1 ≤ 100000; decide), fun r1 hr1 => ?_⟩
    have s0 := same_upd (o := .lst [V.int 0]) hr1
    refine ⟨_, rfl, pa, pus, rfl, .inr (sqT (s0 _ _ hpa)), ?_⟩
    refine ⟨r1, pus.length, _, rfl, rfl, upd_same, by omega, by omega, small (by show 1 * ((pus.length : Int)).toNat ≤ 100000; omega), fun pc hpc => ?_⟩
    rw [rep0, pul]
    have s1 := s0.new (o := .lst ((List.replicate ps.length (0 : Int)).map V.int)) hpc
    have hpcH := same_none s0 hpc
    refine ⟨_, rfl, u, ds, rfl, DishesAt.mono _ _ _ _ (SameT.of s1) hds, dl, dn, nf, fun tq ys H1 s2 hperm hsort htn htq => ?_⟩
    have nqp : tq ≠ pc := fun z => by rw [z, upd_same] at htn; cases htn
    have ipc := s2 _ _ (upd_same (o := .lst ((List.replicate ps.length (0 : Int)).map V.int)) (a := pc))
    refine ⟨tq, rfl, ⟨_, sqL htq⟩, ?_⟩
    have npca : pa ≠ pc := fun z => by rw [z] at hpa; rw [hpa] at hpcH; cases hpcH
    refine for_list (xs := ys.map V.str) (fun i σ H' => ∃ (y5 y6 y7 y8 y9 : Option V) (cs : List Int), σ = [some u, some v, some (.ref pa), some (.int c), some (.ref pc), y5, y6, y7, y8, y9] ∧ Same H H' ∧ H' tq = some (.lst (ys.map V.str)) ∧ H' pc = some (.lst (cs.map V.int)) ∧ cs.length = ps.length ∧ (∀ x ∈ cs, 0 ≤ x) ∧ ServeAll ds lar ps cs (ys.take i) ∧ sumC cs ≤ i * (7 * B + 360))
      ⟨none, none, none, none, none, _, rfl, s1.trans s2, htq, ipc, List.length_replicate, fun x hx => by rw [(List.mem_replicate.mp hx).2]; exact Int.le_refl _, fun nm hnm => by simp at hnm, by
        rw [Nat.zero_mul]
        have := sumC_few 0 (List.replicate ps.length (0 : Int)) fun x hx => by rw [(List.mem_replicate.mp hx).2]; exact Int.le_refl _
        omega⟩ (fun i σ H' _ h => by obtain ⟨_, _, _, _, _, _, _, _, h3, _⟩ := h; exact sqL h3) (fun i x σ H2 hx h => ?_) (fun σ H2 h => ?_)
    · obtain ⟨y5, y6, y7, y8, y9, cs, rfl, s3, hq3, hc3, cl, cn, sv, sB⟩ := h
      obtain ⟨nm, hnm, rfl⟩ := map_ix hx
      have hnmN : nm ∈ namesOf ds := hperm.mem_iff.mp (ix_mem hnm)
      have psq : ∀ {Hx : Hp}, Same H Hx → PacksAt Hx (.ref pa) ps := fun s => ⟨pa, pus, rfl, s _ _ hpa, hph.mono PackAt.mono (SameT.of s)⟩
      refine ⟨_, rfl, _, rfl, .ref pa, ps, nm, rfl, psq s3, by omega, fun kp H3 s4 hkn hkp => ?_⟩
      have kl : (ofK ps nm).length ≤ 60 := by
        have := List.length_filterMap_le (fun k => if (ps.getD k pz).name = nm then some k else none) (List.range ps.length)
        rw [List.length_range] at this
        unfold ofK
        omega
      have s34 := s3.trans s4
      refine ⟨_, rfl, kp, rfl, ⟨_, sqL hkp⟩, fun D hD => lc_rel (walk_list (xs := (ofK ps nm).map fun k : Nat => V.int k)) (xs := ofK ps nm) (by rw [List.length_map]) (f := fun k => some (offerOf (ps.getD k pz))) (R := OfferAt) OfferAt.mono hD (fun _ s => sqL (s _ _ hkp)) (by rw [List.length_map]; omega) (fun j x y H4 H5 Ky Kn hx s5 hy h1 h2 => ?_) (fun H4 zs s5 hD' hd => ?_)⟩
      · obtain ⟨rfl, hv⟩ := hy
        rw [List.getElem?_map, hx] at hv
        have hv' : V.int (y : Nat) = x := Option.some.inj hv
        subst hv'
        have hk := (of_mem (ix_mem hx)).1
        have hu := List.getElem?_eq_getElem (show y < pus.length by omega)
        obtain ⟨t, e1, ht⟩ := hph.all y _ _ hu (at_getD hk pz)
        rw [e1] at hu
        refine ⟨rfl, ?_⟩
        refine ⟨_, rfl, _, rfl, pa, _, _, _, rfl, rfl, sqT (s5 _ _ (s34 _ _ hpa)), at_of (j := y) rfl hu, ?_⟩
        simp only [tNoPart]
        refine ⟨1, rfl, ?_⟩
        refine slA_of (lo := some 1) (hi := none) (s5 _ _ (s34 _ _ ht)) (fun p1 G1 g1 hp1 => ?_)
        exact h1 _ _ _ rfl g1 ⟨p1, rfl, hp1⟩
      · rw [fm_some (fun k => offerOf (ps.getD k pz))] at hd
        have s35 := s34.trans s5
        have ol : (offersOf ps nm).length = (ofK ps nm).length := by unfold offersOf; rw [List.length_map]
        have zl : zs.length = (ofK ps nm).length := by have := hd.len; rw [List.length_map] at this; exact this
        refine ⟨_, rfl, _, rfl, _, rfl, ?_⟩
        refine ⟨D, zs, c, rfl, SqA.l hD', by omega, fun cp c0 H6 s6 hcn hcp hcl hcb => ?_⟩
        have s36 := s35.trans s6
        refine ⟨_, rfl, _, rfl, _, rfl, u, v, ds, lar, nm, rfl, DishesAt.mono _ _ _ _ (SameT.of s36) hds, dn, LarderAt.mono _ _ _ _ (SameT.of s36) hlar, fun lp H7 s7 hln hlp => ?_⟩
        walk_at "rd"
        have hD7 := s7 _ _ (s6 _ _ hD')
        have hcp7 := s7 _ _ hcp
        refine ⟨D, cp, lp, zs, offersOf ps nm, c0, lackW ds lar nm, _, rfl, (fun z => by rw [← z, hD'] at hcn; cases hcn), (fun z => by rw [z, hcp] at hln; cases hln), SqA.l hD7, hd.mono OfferAt.mono (SameT.of (s6.trans s7)), hcp7, SqA.l hlp, by rw [ol, hcl, zl], by omega, offers_good hpf nm, fun x hx => (hcb x hx).1, lackW_len _ _ _, lackW_nn _ _ _, fun H8 sb => ⟨fun e e1 e7 el en => ?_, fun cs' hc8 FF => ?_⟩⟩
        · have s8 := (s35.trans (SameBut.over (s6.trans s7) hcn sb))
          exact ⟨_, rfl, rfl, _, rfl, iteT ((q H8 s8).1 nm e hnmN e1 e7 el en)⟩
        · have s68 := SameBut.over (s6.trans s7) hcn sb
          have s8 := s35.trans s68
          have fl : cs'.length = (ofK ps nm).length := by rw [FF.len, hcl, zl]
          have hkp8 := s68 _ _ (s5 _ _ hkp)
          have hc8' := s68 _ _ (s5 _ _ (s4 _ _ hc3))
          have hq8 := s68 _ _ (s5 _ _ (s4 _ _ hq3))
          have zzl : ((ofK ps nm).zip cs').length = (ofK ps nm).length := zip_len fl.symm
          refine ⟨_, rfl, rfl, _, rfl, iteF ?_⟩
          refine ⟨_, rfl, kp, _, rfl, .inl (sqL hkp8), ?_⟩
          refine ⟨_, rfl, by omega, by rw [List.length_map]; omega, ?_⟩
          refine for_range (lo := 0) (fun j σ H' => ∃ y8 : Option V, σ = [some u, some v, some (.ref pa), some (.int c), some (.ref pc), some (.str nm), some (.ref kp), some (.ref D), y8, some (.ref cp)] ∧ Same H H' ∧ H' tq = some (.lst (ys.map V.str)) ∧ H' kp = some (.lst ((ofK ps nm).map fun k : Nat => V.int k)) ∧ H' cp = some (.lst (cs'.map V.int)) ∧ H' pc = some (.lst ((setK cs (((ofK ps nm).zip cs').take j)).map V.int)))
            ⟨y8, rfl, s8, hq8, hkp8, hc8, hc8'⟩ (fun j σ H9 hj h => ?_) (fun σ H9 h => ?_)
          · obtain ⟨y8, rfl, s9, hq9, hk9, hc9, hp9⟩ := h
            rw [List.length_map] at hj
            have hj' : j < (ofK ps nm).length := by omega
            have hkj := List.getElem?_eq_getElem hj'
            have hcj := List.getElem?_eq_getElem (show j < cs'.length by omega)
            have hkm := of_mem (ix_mem hkj)
            have ez := zip_ix hkj hcj
            refine ⟨_, rfl, _, rfl, cp, _, _, _, rfl, rfl, sqL hc9, at_of (j := j) (by omega) (ix_map hcj), ?_⟩
            refine ⟨_, rfl, _, rfl, _, rfl, kp, _, _, _, rfl, rfl, sqL hk9, at_of (j := j) (by omega) (by rw [List.getElem?_map, hkj]; rfl), ?_⟩
            refine ⟨pc, _, _, (ofK ps nm)[j], rfl, rfl, hp9, ixN_of rfl (by rw [List.length_map, setK_len, cl]; exact hkm.1), ?_⟩
            have n1 : tq ≠ pc := nqp
            have n2 : kp ≠ pc := fun z => by rw [z, hc3] at hkn; cases hkn
            have n3 : cp ≠ pc := fun z => by rw [z, s5 _ _ (s4 _ _ hc3)] at hcn; cases hcn
            refine ⟨_, rfl, s9.mut hpcH, by rw [upd_ne n1]; exact hq9, by rw [upd_ne n2]; exact hk9, by rw [upd_ne n3]; exact hc9, ?_⟩
            rw [upd_same, take_succ' ez, setK_snoc, List.map_set]
          · obtain ⟨y8, rfl, s9, hq9, hk9, hc9, hp9⟩ := h
            have hf : ((ofK ps nm).zip cs').take ((((ofK ps nm).map fun k : Nat => V.int k).length : Int).toNat) = (ofK ps nm).zip cs' := List.take_of_length_le (by rw [zzl, List.length_map]; omega)
            rw [hf] at hp9
            have tks := take_succ' hnm
            refine ⟨_, _, _, _, _, setK cs ((ofK ps nm).zip cs'), rfl, s9, hq9, hp9, by rw [setK_len]; exact cl, setK_nn _ _ cn fun p hp => FF.nn _ (List.of_mem_zip hp).2, fun nm' hm' e e1 e7 => ?_, ?_⟩
            · by_cases en : nm' = nm
              · subst en
                rw [setK_at _ _ _ (of_nodup ps nm') fl.symm fun k hk => by rw [cl]; exact (of_mem hk).1]
                exact FF.serve e (by omega) e7
              · rw [setK_other en]
                rw [tks] at hm'
                rcases List.mem_append.mp hm' with z | z
                · exact sv nm' z e e1 e7
                · exact absurd (List.mem_singleton.mp z) en
            · have a1 := setK_sum (ofK ps nm) cs' cs
              have a2 := FF.few
              have a3 := sumC_few 6 c0 fun x hx => (hcb x hx).2
              have a4 := hB nm
              have a5 := Nat.mul_le_mul_left 7 a4
              rw [Nat.succ_mul]
              omega
    · obtain ⟨y5, y6, y7, y8, y9, cs, rfl, s3, hq3, hc3, cl, cn, sv, sB⟩ := h
      rw [List.length_map] at sB sv
      rw [List.take_length] at sv
      exact ⟨_, rfl, (q H2 s3).2 pc cs ys hperm hpcH hc3 cl cn sv sB⟩
abbrev s_near : Stmt := topS 32
theorem sc_near : FnScope ["_law_dishes_here", "_law_name", "_law_cell", "_law_wanted", "_law_half", "_law_more", "_law_at"] ["_law_dishes_here", "_law_name", "_law_cell"] (defScope s_near) := ⟨rfl, rfl, rfl, by decide +kernel, rfl, by decide +kernel, by decide +kernel⟩
theorem bd_near : ∀ (kV doc pm : Value) (an : Option Addr) (cdv ct : Value) (us : List Value), us.length = (["_law_dishes_here", "_law_name", "_law_cell"] : List Str).length → bindArgs (PySem.W.fnOf "_law_near" "_law_near" (defArgs s_near) (defBody s_near) (defScope s_near) .none kV doc pm an cdv ct) ⟨us, []⟩ = pure ((["_law_dishes_here", "_law_name", "_law_cell"] : List Str).zip us) := fun _ _ _ _ _ _ us hl => match us, hl with | [_, _, _], _ => rfl
theorem ofAll_nn {ds : List Dish} {nm : Str} (h : ∀ d ∈ ds, ∀ x ∈ d.2, 0 ≤ x.2) : 0 ≤ ofAll ds nm := by
  unfold ofAll
  induction ds with
  | nil => exact Int.le_refl _
  | cons d r ih =>
    rw [List.map_cons, List.sum_cons]
    have a := ih fun y hy => h y (List.mem_cons_of_mem _ hy)
    have b := needOf_nn (nm := nm) (h d List.mem_cons_self)
    omega
def spNear : Sp := fun vs H Q _ => ∃ (v : V) (ds : List Dish) (nm : Str) (c seed : Int), vs = [v, .str nm, .int c] ∧ DishesAt H v ds ∧ ds.length ≤ 60 ∧ (∀ d ∈ ds, GoodDish seed d) ∧ NameOf seed nm ∧
  ∀ v' ds' H', Same H H' → DishesAt H' v' ds' → ds'.length ≤ ds.length + 2 → (∀ d ∈ ds', GoodDish seed d) → Q v' H'
theorem ok_near {P : Program} {w : World} {K : PySem.W.Frag} {mg : Str → Option Value} {base : Heap} (D : DefAt K mg "_law_near" s_near) (m_len : mg "len" = none) (C_of_all : Clb P w K mg base 1 "_law_of_all" ["_law_dishes_here", "_law_name"] spOfAll) : Clb P w K mg base 2 "_law_near" ["_law_dishes_here", "_law_name", "_law_cell"] spNear := by
  refine D.clb sc_near (fun vs H Q E h => ?_) bd_near (fun f cdv A outer s H vs Q E hr h => ?_)
  · obtain ⟨v, ds, nm, c, seed, rfl, _⟩ := h
    rfl
  · obtain ⟨v, ds, nm, c, seed, rfl, hds, hl, hg, hnm, q⟩ := h
    refine ⟨_, (pss_cons (ps_set (i := 3) sc_near.nd rfl (.inl rfl) (pe_op op_sub (pe_op op_add pe_int (pe_op op_mod (pv 2) pe_int)) (pe_cal C_of_all (hr.mono (by decide)) (pa_cons (pv 0) (pa_cons (pv 1) pa_nil)))))
    (pss_cons (ps_if (pt_cmpR op_lt (pv 3) pe_int (nomark _))
      (pss_one (ps_ret (pv 0)))
      pss_nil)
    (pss_cons (ps_set (i := 4) sc_near.nd rfl (.inl rfl) (pe_op op_add pe_int (pe_op op_mod (pe_op op_fdiv (pv 2) pe_int) (pe_op op_sub (pv 3) pe_int))))
    (pss_cons (ps_set (i := 5) sc_near.nd rfl (.inl rfl) (pe_tup (pa_cons (pe_tup (pa_cons (pe_op op_add pe_int (pe_op op_mod (pe_op op_fdiv (pv 2) pe_int) pe_int)) (pa_cons (pe_tup (pa_cons (pe_tup (pa_cons (pv 1) (pa_cons (pv 4) pa_nil))) pa_nil)) pa_nil))) (pa_cons (pe_tup (pa_cons (pe_op op_add pe_int (pe_op op_mod (pe_op op_fdiv (pv 2) pe_int) pe_int)) (pa_cons (pe_tup (pa_cons (pe_tup (pa_cons (pv 1) (pa_cons (pe_op op_sub (pv 3) (pv 4)) pa_nil))) pa_nil)) pa_nil))) pa_nil))))
    (pss_cons (ps_set (i := 6) sc_near.nd rfl (.inl rfl) (pe_op op_mod (pe_op op_fdiv (pv 2) pe_int) (pe_op op_add (pe_callB (kcall_len_seq K) (by rfl) m_len (by decide +kernel) (pa_cons (pv 0) pa_nil)) pe_int)))
    (pss_one (ps_ret (pe_op (kop_catA K) (pe_op (kop_catA K) (pe_slice (ksl_tupA K) (pv 0) po_none (po_some (pv 6))) (pv 5)) (pe_slice (ksl_tupA K) (pv 0) (po_some (pv 6)) po_none))))))))), ?_⟩
    walk_at "rd"
    refine ⟨v, ds, nm, rfl, hds, fun d hd => (hg d hd).many, fun H1 s1 => ?_⟩
    have o0 := ofAll_nn (nm := nm) fun d hd x hx => by have := ((hg d hd).need x hx).1.1; omega
    have c1 := Int.emod_nonneg c (show (3 : Int) ≠ 0 by decide)
    have c2 := Int.emod_lt_of_pos c (show (0 : Int) < 3 by decide)
    walk_at "rd"
    obtain ⟨w, hw⟩ : ∃ w, 199 + c % 3 - ofAll ds nm = w := ⟨_, rfl⟩
    simp only [hw]
    refine it_lt (fun e => ?_) (fun e => ?_)
    · exact ⟨_, rfl, q v ds H1 s1 (DishesAt.mono _ _ _ _ (SameT.of s1) hds) (by omega) hg⟩
    · walk_at "rd"
      refine ⟨by omega, ?_⟩
      have h1 := Int.emod_nonneg (c / 3) (show w - 1 ≠ 0 by omega)
      have h2 := Int.emod_lt_of_pos (c / 3) (show 0 < w - 1 by omega)
      obtain ⟨hf, hhf⟩ : ∃ hf, 1 + c / 3 % (w - 1) = hf := ⟨_, rfl⟩
      walk_at "rd"
      simp only [hhf]
      have d1 := Int.emod_nonneg (c / 600) (show (7 : Int) ≠ 0 by decide)
      have d2 := Int.emod_lt_of_pos (c / 600) (show (0 : Int) < 7 by decide)
      have d3 := Int.emod_nonneg (c / 4200) (show (7 : Int) ≠ 0 by decide)
      have d4 := Int.emod_lt_of_pos (c / 4200) (show (0 : Int) < 7 by decide)
      refine ⟨small (by show 2 ≤ 100000; decide), fun t1 ht1 => ?_⟩
      have u1 := same_upd (o := .tup [V.str nm, V.int hf]) ht1
      refine ⟨small (by show 1 ≤ 100000; decide), fun t2 ht2 => ?_⟩
      have u2 := same_upd (o := .tup [V.ref t1]) ht2
      refine ⟨small (by show 2 ≤ 100000; decide), fun t3 ht3 => ?_⟩
      have u3 := same_upd (o := .tup [V.int (1 + c / 600 % 7), V.ref t2]) ht3
      walk_at "rd"
      refine ⟨small (by show 2 ≤ 100000; decide), fun t4 ht4 => ?_⟩
      have u4 := same_upd (o := .tup [V.str nm, V.int (w - hf)]) ht4
      refine ⟨small (by show 1 ≤ 100000; decide), fun t5 ht5 => ?_⟩
      have u5 := same_upd (o := .tup [V.ref t4]) ht5
      refine ⟨small (by show 2 ≤ 100000; decide), fun t6 ht6 => ?_⟩
      have u6 := same_upd (o := .tup [V.int (1 + c / 4200 % 7), V.ref t5]) ht6
      refine ⟨small (by show 2 ≤ 100000; decide), fun t7 ht7 => ?_⟩
      have u7 := same_upd (o := .tup [V.ref t3, V.ref t6]) ht7
      have u27 := ((((u2.trans u3).trans u4).trans u5).trans u6).trans u7
      have u37 := (((u3.trans u4).trans u5).trans u6).trans u7
      have u47 := ((u4.trans u5).trans u6).trans u7
      have u57 := (u5.trans u6).trans u7
      have u67 := u6.trans u7
      have k1 := u27 _ _ (upd_same (o := .tup [V.str nm, V.int hf]) (a := t1) (H := H1))
      have k2 := u37 _ _ (upd_same (o := .tup [V.ref t1]) (a := t2))
      have k3 := u47 _ _ (upd_same (o := .tup [V.int (1 + c / 600 % 7), V.ref t2]) (a := t3))
      have k4 := u57 _ _ (upd_same (o := .tup [V.str nm, V.int (w - hf)]) (a := t4))
      have k5 := u67 _ _ (upd_same (o := .tup [V.ref t4]) (a := t5))
      have k6 := u7 _ _ (upd_same (o := .tup [V.int (1 + c / 4200 % 7), V.ref t5]) (a := t6))
      have s17 := (s1.trans u1).trans u27
      obtain ⟨da, dus, rfl, hda, hdh⟩ := hds
      have dl : dus.length = ds.length := hdh.len
      have mo : Held DishAt _ [V.ref t3, V.ref t6] [((1 + c / 600 % 7, [(nm, hf)]) : Dish), ((1 + c / 4200 % 7, [(nm, w - hf)]) : Dish)] := (Held.nil.snoc (R := DishAt) ⟨t3, .ref t2, rfl, k3, t2, [.ref t1], rfl, k2, Held.nil.snoc (R := NeedAt) ⟨t1, rfl, k1⟩⟩).snoc ⟨t6, .ref t5, rfl, k6, t5, [.ref t4], rfl, k5, Held.nil.snoc (R := NeedAt) ⟨t4, rfl, k4⟩⟩
      have gmo : ∀ d ∈ [((1 + c / 600 % 7, [(nm, hf)]) : Dish), ((1 + c / 4200 % 7, [(nm, w - hf)]) : Dish)], GoodDish seed d := fun d hd => by
        rcases List.mem_cons.mp hd with z | z
        · subst z
          exact ⟨by show 1 ≤ 1 + c / 600 % 7; omega, by show 1 + c / 600 % 7 ≤ 7; omega, by show 1 ≤ 20; decide, fun x hx => by rw [List.mem_singleton.mp hx]; exact ⟨⟨by show 1 ≤ hf; omega, by show hf ≤ 200; omega⟩, hnm⟩⟩
        · rw [List.mem_singleton.mp z]
          exact ⟨by show 1 ≤ 1 + c / 4200 % 7; omega, by show 1 + c / 4200 % 7 ≤ 7; omega, by show 1 ≤ 20; decide, fun x hx => by rw [List.mem_singleton.mp hx]; exact ⟨⟨by show 1 ≤ w - hf; omega, by show w - hf ≤ 200; omega⟩, hnm⟩⟩
      walk_at "rd"
      refine ⟨da, dus, rfl, .inr (sqT (s17 _ _ hda)), ?_⟩
      walk_at "rd"
      refine ⟨by omega, ?_⟩
      have a1 := Int.emod_nonneg (c / 30000) (show (dus.length : Int) + 1 ≠ 0 by omega)
      obtain ⟨at_, hat⟩ : ∃ at_ : Nat, c / 30000 % ((dus.length : Int) + 1) = (at_ : Int) := ⟨(c / 30000 % ((dus.length : Int) + 1)).toNat, by omega⟩
      simp only [hat]
      have hdh7 := hdh.mono DishAt.mono (SameT.of s17)
      refine ⟨_, rfl, _, rfl, _, rfl, ?_⟩
      refine slA_of (s17 _ _ hda) (fun p1 G1 g1 hp1 => ?_)
      rw [cutV_to] at hp1
      refine ⟨_, rfl, ?_⟩
      refine cat_any hp1 (g1 _ _ upd_same) (small (by rw [List.length_take]; show _ + 2 ≤ 100000; omega)) (fun p2 G2 g2 hp2 => ?_)
      refine ⟨_, rfl, _, rfl, _, rfl, ?_⟩
      simp only [tNoPart]
      refine slA_of ((g1.trans g2) _ _ (s17 _ _ hda)) (fun p3 G3 g3 hp3 => ?_)
      rw [cutV_from] at hp3
      refine cat_any (g3 _ _ hp2) hp3 (small (by rw [List.length_append, List.length_take, List.length_drop]; show _ + 2 + _ ≤ 100000; omega)) (fun p4 G4 g4 hp4 => ?_)
      have gA := ((g1.trans g2).trans g3).trans g4
      refine q (.ref p4) (ds.take at_ ++ [((1 + c / 600 % 7, [(nm, hf)]) : Dish), ((1 + c / 4200 % 7, [(nm, w - hf)]) : Dish)] ++ ds.drop at_) G4 (s17.trans gA) ⟨p4, _, rfl, hp4, (((hdh7.take at_).mono DishAt.mono (SameT.of gA)).append (mo.mono DishAt.mono (SameT.of gA))).append ((hdh7.drop at_).mono DishAt.mono (SameT.of gA))⟩ ?_ fun d hd => ?_
      · rw [List.length_append, List.length_append, List.length_take, List.length_drop]
        show _ + 2 + _ ≤ _
        omega
      · rcases List.mem_append.mp hd with z | z
        · rcases List.mem_append.mp z with y | y
          · exact hg d (List.mem_of_mem_take y)
          · exact gmo d y
        · exact hg d (List.mem_of_mem_drop z)
abbrev s_world : Stmt := topS 33
theorem sc_world : FnScope ["_law_cells", "_law_names_here", "_law_cell", "_law_dishes_here", "_law_larder_here", "_law_packs_here", "_law_pack", "_law_some", "_law_k", "_law_name"] ["_law_cells"] (defScope s_world) := ⟨rfl, rfl, rfl, by decide +kernel, rfl, by decide +kernel, by decide +kernel⟩
theorem bd_world : ∀ (kV doc pm : Value) (an : Option Addr) (cdv ct : Value) (us : List Value), us.length = (["_law_cells"] : List Str).length → bindArgs (PySem.W.fnOf "_law_world" "_law_world" (defArgs s_world) (defBody s_world) (defScope s_world) .none kV doc pm an cdv ct) ⟨us, []⟩ = pure ((["_law_cells"] : List Str).zip us) := fun _ _ _ _ _ _ us hl => match us, hl with | [_], _ => rfl
def spWorld (K : PySem.W.Frag) : Sp := fun vs H Q _ => ∃ (a : Addr), vs = [.ref a] ∧ CellsAt K H a ∧ ∀ (p : Addr) (dv lv pv : V) (ds : List Dish) (lar : List Batch) (ps : List Pack) (seed : Int) (H' : Hp), Same H H' → H' p = some (.lst [dv, lv, pv]) → DishesAt H' dv ds → LarderAt H' lv lar → PacksAt H' pv ps →
  ds.length ≤ 26 → lar.length ≤ 120 → ps.length ≤ 9 → (∀ d ∈ ds, GoodDish seed d) → (∀ b ∈ lar, GoodBatch seed b) → (∀ p ∈ ps, GoodPack seed p) → Q (.ref p) H'
def atLeast4 (p : Pack) : Pack := ⟨p.name, if p.size > 4 then p.size else 4, p.price, p.last⟩
theorem atLeast4_good {seed : Int} {p : Pack} (g : GoodPack seed p) : GoodPack seed (atLeast4 p) := by
  have a := g.size1
  have b := g.size2
  refine ⟨?_, ?_, g.price0, g.price2, g.last1, g.last2, g.name⟩
  · show 1 ≤ (if p.size > 4 then p.size else 4); split <;> omega
  · show (if p.size > 4 then p.size else 4) ≤ 200; split <;> omega
theorem ok_world {P : Program} {w : World} {K : PySem.W.Frag} {mg : Str → Option Value} {base : Heap} (D : DefAt K mg "_law_world" s_world) (m_max : mg "max" = none) (m_range : mg "range" = none) (m_tuple : mg "tuple" = none)
    (C_names : Clb P w K mg base 2 "_law_names" ["_law_cells"] (spNames K)) (C_cell_at : Clb P w K mg base 1 "_law_cell_at" ["_law_cells", "_law_k"] (spCellAt K)) (C_dishes : Clb P w K mg base 2 "_law_dishes" ["_law_cells", "_law_names_here", "_law_many_here"] (spDishes K)) (C_many : Clb P w K mg base 1 "_law_many" ["_law_cell", "_law_few", "_law_room"] spMany) (C_larder : Clb P w K mg base 2 "_law_larder" ["_law_cells", "_law_names_here", "_law_many_here"] (spLarder K)) (C_packs : Clb P w K mg base 2 "_law_packs" ["_law_cells", "_law_names_here", "_law_many_here"] (spPacks K)) (C_name_by : Clb P w K mg base 1 "_law_name_by" ["_law_seed", "_law_k"] spNameBy) (C_near : Clb P w K mg base 2 "_law_near" ["_law_dishes_here", "_law_name", "_law_cell"] spNear) :
    Clb P w K mg base 3 "_law_world" ["_law_cells"] (spWorld K) := by
  refine D.clb sc_world (fun vs H Q E h => ?_) bd_world (fun f cdv A outer s H vs Q E hr h => ?_)
  · obtain ⟨a, rfl, _⟩ := h
    rfl
  · obtain ⟨a, rfl, hc, q⟩ := h
    refine ⟨_, (pss_cons (ps_set (i := 1) sc_world.nd rfl (.inl rfl) (pe_cal C_names (hr.mono (by decide)) (pa_cons (pv 0) pa_nil)))
    (pss_cons (ps_set (i := 2) sc_world.nd rfl (.inl rfl) (pe_cal C_cell_at (hr.mono (by decide)) (pa_cons (pv 0) (pa_cons pe_int pa_nil))))
    (pss_cons (ps_set (i := 3) sc_world.nd rfl (.inl rfl) (pe_cal C_dishes (hr.mono (by decide)) (pa_cons (pv 0) (pa_cons (pv 1) (pa_cons (pe_cal C_many (hr.mono (by decide)) (pa_cons (pv 2) (pa_cons pe_int (pa_cons pe_int pa_nil)))) pa_nil)))))
    (pss_cons (ps_set (i := 4) sc_world.nd rfl (.inl rfl) (pe_cal C_larder (hr.mono (by decide)) (pa_cons (pv 0) (pa_cons (pv 1) (pa_cons (pe_cal C_many (hr.mono (by decide)) (pa_cons (pe_op op_fdiv (pv 2) pe_int) (pa_cons pe_int (pa_cons pe_int pa_nil)))) pa_nil)))))
    (pss_cons (ps_set (i := 5) sc_world.nd rfl (.inl rfl) (pe_cal C_packs (hr.mono (by decide)) (pa_cons (pv 0) (pa_cons (pv 1) (pa_cons (pe_op op_mod (pe_op op_fdiv (pv 2) pe_int) pe_int) pa_nil)))))
    (pss_cons (ps_set (i := 5) sc_world.nd rfl (.inl rfl) (pe_callTy (kcall_tuple_of K) (by rfl) m_tuple (by decide +kernel) (pa_cons (pe_lc (own := [("_law_pack", 6)]) rfl sc_world.nd (kpi_tup K (pv 5)) (blkOk_by (own := [("_law_pack", 6)]) (N := ["_law_cells", "_law_names_here", "_law_cell", "_law_dishes_here", "_law_larder_here", "_law_packs_here", "_law_pack", "_law_some", "_law_k", "_law_name"]) (sc := defScope s_world) (by decide +kernel)) (fun _ _ _ _ _ => (pg_name (i := 6) sc_world.nd rfl (.inl rfl))) (fun _ _ _ _ _ => pts_nil) (fun _ _ _ _ _ => (pe_op (kop_catA K) (pe_tup (pa_cons (pe_ix (kix_tup K) (pv 6) pe_int (fun _ _ => rfl)) (pa_cons (pe_callB (call_max2 rfl) (by rfl) m_max (by decide +kernel) (pa_cons pe_int (pa_cons (pe_ix (kix_tup K) (pv 6) pe_int (fun _ _ => rfl)) pa_nil))) pa_nil))) (pe_slice (ksl_tupA K) (pv 6) (po_some pe_int) po_none)))) pa_nil)))
    (pss_cons (ps_set (i := 7) sc_world.nd rfl (.inl rfl) (pe_op op_fdiv (pv 2) pe_int))
    (C8.pss_cut (ps_if (PW.pt (pw_and (pt_cmpR op_gt (pe_op op_mod (pv 7) pe_int) pe_int (nomark _)) (pw_and1 (pt_cmpR op_lt (pe_ix (kix_list K) (pv 1) pe_int (fun _ _ => rfl)) pe_int (nomark _)))))
      (pss_one (ps_for PassesOwn.never rfl (pi_range1 (by rfl) m_range (pa_cons (pe_ix (kix_list K) (pv 1) pe_int (fun _ _ => rfl)) pa_nil)) (pg_name (i := 8) sc_world.nd rfl (.inl rfl))
      (pss_cons (ps_set (i := 9) sc_world.nd rfl (.inl rfl) (pe_cal C_name_by (hr.mono (by decide)) (pa_cons (pe_ix (kix_list K) (pv 1) pe_int (fun _ _ => rfl)) (pa_cons (pv 8) pa_nil))))
    (pss_one (ps_set (i := 5) sc_world.nd rfl (.inl rfl) (pe_op (kop_catA K) (pv 5) (pe_tup (pa_cons (pe_tup (pa_cons (pv 9) (pa_cons (pe_op op_add pe_int (pe_op op_mod (pe_op op_add (pe_op op_fdiv (pv 7) pe_int) (pv 8)) pe_int)) (pa_cons (pe_op op_add (pe_op op_mod (pe_op op_fdiv (pv 7) pe_int) pe_int) (pv 8)) (pa_cons (pe_op op_add pe_int (pe_op op_mod (pv 8) pe_int)) pa_nil))))) pa_nil))))))))
      pss_nil)
    (C8.pss_cut (ps_if (pt_cmpR op_eq (pe_op op_mod (pe_op op_fdiv (pv 7) pe_int) pe_int) pe_int (nomark _))
      (pss_one (ps_set (i := 3) sc_world.nd rfl (.inl rfl) (pe_cal C_near (hr.mono (by decide)) (pa_cons (pv 3) (pa_cons (pe_cal C_name_by (hr.mono (by decide)) (pa_cons (pe_ix (kix_list K) (pv 1) pe_int (fun _ _ => rfl)) (pa_cons (pe_op op_mod (pe_op op_fdiv (pv 7) pe_int) (pe_ix (kix_list K) (pv 1) pe_int (fun _ _ => rfl))) pa_nil))) (pa_cons (pe_op op_fdiv (pv 7) pe_int) pa_nil))))))
      pss_nil)
    (pss_one (ps_ret (pe_lst (pa_cons (pv 3) (pa_cons (pv 4) (pa_cons (pv 5) pa_nil))))))))))))))), ?_⟩
    refine ⟨_, rfl, a, rfl, hc, fun na H2 seed many s2 hn => ?_⟩
    refine ⟨_, rfl, a, 2, rfl, hc.same s2, by decide, by decide, fun cell z0 z1 => ?_⟩
    refine ⟨_, rfl, _, rfl, _, rfl, cell, 5, 24, rfl, by decide, by decide, fun m m0 m1 => ?_⟩
    refine ⟨a, na, m, seed, many, rfl, hc.same s2, hn, m0, by omega, fun v ds H3 s3 hds dl dg => ?_⟩
    refine ⟨_, rfl, _, rfl, ?_⟩
    walk_at "rd"
    refine ⟨cell / 1500, 5, 120, rfl, by decide, by decide, fun m2 m3 m4 => ?_⟩
    refine ⟨a, na, m2, seed, many, rfl, (hc.same s2).same s3, hn.same s3, m3, by omega, fun lv lar H4 s4 hlar ll lg => ?_⟩
    refine ⟨_, rfl, _, rfl, ?_⟩
    walk_at "rd"
    have q1 := Int.emod_nonneg (cell / 60000) (show (6 : Int) ≠ 0 by decide)
    have q2 := Int.emod_lt_of_pos (cell / 60000) (show (0 : Int) < 6 by decide)
    refine ⟨a, na, _, seed, many, rfl, ((hc.same s2).same s3).same s4, (hn.same s3).same s4, q1, by omega, fun pv0 ps0 H5 s5 hps0 pl0 pg0 => ?_⟩
    have hn5 := ((hn.same s3).same s4).same s5
    have hmany := hn5.2
    obtain ⟨pa, pus, rfl, hpa, hph⟩ := hps0
    -- sizes from four on
    refine ⟨_, rfl, pa, rfl, ⟨_, sqT hpa⟩, fun D hD => lc_rel (walk_tup (xs := pus)) (xs := ps0) hph.len.symm (f := fun p => some (atLeast4 p)) (R := PackAt) PackAt.mono hD (fun _ s => sqT (s _ _ hpa)) (by have := hph.len; omega) (fun i x y H6 H7 Ky Kn hx s6 hy h1 h2 => ?_) (fun H6 ys s6 hD' hd => ?_)⟩
    · obtain ⟨rfl, hv⟩ := hy
      obtain ⟨t, rfl, ht⟩ := hph.all i x y hv hx
      have ht6 := s6 _ _ ht
      refine ⟨rfl, ?_⟩
      refine ⟨_, rfl, t, _, _, _, rfl, rfl, sqT ht6, rfl, ?_⟩
      refine ⟨_, rfl, t, _, _, _, rfl, rfl, sqT ht6, rfl, ?_⟩
      refine ⟨_, _, rfl, ?_⟩
      refine ⟨small (by show 2 ≤ 100000; decide), fun r hr1 => ?_⟩
      have u1 := same_upd (o := .tup [V.str y.name, V.int (if y.size > 4 then y.size else 4)]) hr1
      refine ⟨_, rfl, ?_⟩
      simp only [tNoPart]
      refine ⟨2, rfl, ?_⟩
      refine slA_of (lo := some 2) (hi := none) (u1 _ _ ht6) (fun p1 G1 g1 hp1 => ?_)
      refine cat_any (g1 _ _ upd_same) hp1 (small (by show 2 + 2 ≤ 100000; decide)) (fun p2 G2 g2 hp2 => ?_)
      exact h1 _ _ _ rfl ((u1.trans g1).trans g2) ⟨p2, rfl, hp2⟩
    · rw [fm_some atLeast4] at hd
      refine ⟨D, _, rfl, .inl ⟨sqL hD', fun lb hlb => ?_⟩⟩
      have u7 := same_upd (o := .tup ys) hlb
      have s67 := s6.trans u7
      have pgood : ∀ p ∈ ps0.map atLeast4, GoodPack seed p := fun p hp => by
        obtain ⟨x, hx, rfl⟩ := List.mem_map.mp hp
        exact atLeast4_good (pg0 x hx)
      have hps7 : PacksAt (upd H6 lb (.tup ys)) (.ref lb) (ps0.map atLeast4) := ⟨lb, ys, rfl, upd_same, hd.mono PackAt.mono (SameT.of u7)⟩
      have pl7 : (ps0.map atLeast4).length ≤ 5 := by rw [List.length_map]; omega
      generalize ps0.map atLeast4 = ps at *
      generalize (upd H6 lb (.tup ys)) = H7 at *
      have hn7 := hn5.same s67
      have s47 := s5.trans s67
      have hds7 := DishesAt.mono _ _ _ _ (SameT.of (s4.trans s47)) hds
      have hlar7 := LarderAt.mono _ _ _ _ (SameT.of s47) hlar
      walk_at "rd"
      refine ⟨fun σ' H' => ∃ (pv : V) (ps : List Pack) (y6 y8 y9 : Option V), σ' = [some (.ref a), some (.ref na), some (.int cell), some v, some lv, some pv, y6, some (.int (cell / 700000)), y8, y9] ∧ Same H7 H' ∧ PacksAt H' pv ps ∧ ps.length ≤ 9 ∧ ∀ p ∈ ps, GoodPack seed p, ?_, fun σ' H' h => ?_⟩
      · have keep : ∃ (pv : V) (ps' : List Pack) (y6 y8 y9 : Option V), ([some (.ref a), some (.ref na), some (.int cell), some v, some lv, some (.ref lb), none, some (.int (cell / 700000)), none, none] : List (Option V)) = [some (.ref a), some (.ref na), some (.int cell), some v, some lv, some pv, y6, some (.int (cell / 700000)), y8, y9] ∧ Same H7 H7 ∧ PacksAt H7 pv ps' ∧ ps'.length ≤ 9 ∧ ∀ p ∈ ps', GoodPack seed p := ⟨.ref lb, ps, none, none, none, rfl, Same.refl _, hps7, by omega, pgood⟩
        walk_at "rd"
        refine it_lt (fun _ => ?_) (fun _ => keep)
        refine ⟨_, rfl, na, _, _, _, rfl, rfl, sqL hn7.1, rfl, ?_⟩
        walk_at "rd"
        refine it_lt (fun em => ?_) (fun _ => keep)
        refine ⟨_, rfl, na, _, _, _, rfl, rfl, sqL hn7.1, rfl, ?_⟩
        refine ⟨_, rfl, by omega, by omega, ?_⟩
        refine for_range (lo := 0) (fun i σ H' => ∃ (pv : V) (ps' : List Pack) (y6 y8 y9 : Option V), σ = [some (.ref a), some (.ref na), some (.int cell), some v, some lv, some pv, y6, some (.int (cell / 700000)), y8, y9] ∧ Same H7 H' ∧ PacksAt H' pv ps' ∧ ps'.length ≤ 5 + i ∧ ∀ p ∈ ps', GoodPack seed p)
          ⟨.ref lb, ps, none, none, none, rfl, Same.refl _, hps7, by omega, pgood⟩ (fun i σ H8 hi h => ?_) (fun σ H8 h => ?_)
        · obtain ⟨pv, ps', y6, y8, y9, rfl, s8, ⟨xa, xvs, rfl, hxa, hxh⟩, pl8, pg8⟩ := h
          have xl : xvs.length = ps'.length := hxh.len
          have hi4 : i < 4 := by omega
          have hn8 := hn7.same s8
          refine ⟨_, rfl, na, _, _, _, rfl, rfl, sqL hn8.1, rfl, ?_⟩
          refine ⟨_, rfl, seed, _, rfl, by omega, by omega, fun H9 s9 => ?_⟩
          walk_at "rd"
          have b1 := Int.emod_nonneg (cell / 700000 / 3 + (0 + (i : Nat))) (show (17 : Int) ≠ 0 by decide)
          have b2 := Int.emod_lt_of_pos (cell / 700000 / 3 + (0 + (i : Nat))) (show (0 : Int) < 17 by decide)
          have b3 := Int.emod_nonneg (cell / 700000 / 60) (show (50 : Int) ≠ 0 by decide)
          have b4 := Int.emod_lt_of_pos (cell / 700000 / 60) (show (0 : Int) < 50 by decide)
          have b5 := Int.emod_nonneg (0 + (i : Int)) (show (3 : Int) ≠ 0 by decide)
          have b6 := Int.emod_lt_of_pos (0 + (i : Int)) (show (0 : Int) < 3 by decide)
          refine ⟨small (by show 4 ≤ 100000; decide), fun t1 ht1 => ?_⟩
          have u1 := same_upd (o := .tup [V.str (nameBy seed (0 + (i : Nat))), V.int (4 + (cell / 700000 / 3 + (0 + (i : Nat))) % 17), V.int (cell / 700000 / 60 % 50 + (0 + (i : Nat))), V.int (7 + (0 + (i : Nat)) % 3)]) ht1
          refine ⟨small (by show 1 ≤ 100000; decide), fun t2 ht2 => ?_⟩
          have u2 := same_upd (o := .tup [V.ref t1]) ht2
          have s912 := s9.trans (u1.trans u2)
          refine cat_tup (sqT (s912 _ _ hxa)) upd_same (small (by show xvs.length + 1 ≤ 100000; omega)) (by intro z; cases z) (fun p3 H13 s13 hp3 => ?_)
          have s913 := s912.trans s13
          refine ⟨.ref p3, ps' ++ [⟨nameBy seed (0 + (i : Nat)), 4 + (cell / 700000 / 3 + (0 + (i : Nat))) % 17, cell / 700000 / 60 % 50 + (0 + (i : Nat)), 7 + (0 + (i : Nat)) % 3⟩], y6, _, _, rfl, s8.trans s913, ⟨p3, _, rfl, hp3, (hxh.mono PackAt.mono (SameT.of s913)).snoc ⟨t1, rfl, s13 _ _ (u2 _ _ upd_same)⟩⟩, by rw [List.length_append]; show ps'.length + 1 ≤ _; omega, fun p hp => ?_⟩
          rcases List.mem_append.mp hp with z | z
          · exact pg8 p z
          · rw [List.mem_singleton.mp z]
            refine ⟨?_, ?_, ?_, ?_, ?_, ?_, i, by omega, ?_⟩
            · show 1 ≤ 4 + _ % 17; omega
            · show 4 + _ % 17 ≤ (200 : Int); omega
            · show 0 ≤ _ % 50 + (0 + (i : Int)); omega
            · show _ % 50 + (0 + (i : Int)) ≤ 1000000; omega
            · show 1 ≤ 7 + _ % 3; omega
            · show 7 + _ % 3 ≤ (99 : Int); omega
            · show nameBy seed (0 + (i : Nat)) = nameBy seed (i : Nat); rw [Int.zero_add]
        · obtain ⟨pv, ps', y6, y8, y9, rfl, s8, hps8, pl8, pg8⟩ := h
          exact ⟨pv, ps', y6, y8, y9, rfl, s8, hps8, by omega, pg8⟩
      obtain ⟨pv, ps, y6, y8, y9, rfl, s8, hps8, pl8, pg8⟩ := h
      have hn8 := hn7.same s8
      refine ⟨fun σ' H' => ∃ (dv : V) (ds : List Dish), σ' = [some (.ref a), some (.ref na), some (.int cell), some dv, some lv, some pv, y6, some (.int (cell / 700000)), y8, y9] ∧ Same H7 H' ∧ DishesAt H' dv ds ∧ PacksAt H' pv ps ∧ ds.length ≤ 26 ∧ ∀ d ∈ ds, GoodDish seed d, ?_, fun σ' H' h => ?_⟩
      · have hds8 := DishesAt.mono _ _ _ _ (SameT.of s8) hds7
        walk_at "rd"
        refine it_eqI (fun _ => ?_) (fun _ => ?_)
        · refine ⟨_, rfl, _, rfl, na, _, _, _, rfl, rfl, sqL hn8.1, rfl, ?_⟩
          walk_at "rd"
          refine ⟨na, _, _, _, rfl, rfl, sqL hn8.1, rfl, ?_⟩
          refine ⟨_, _, rfl, rfl, (by show 0 < many; omega), ?_⟩
          have k1 := Int.emod_nonneg (cell / 700000 / 81000) (show many ≠ 0 by omega)
          have k2 := Int.emod_lt_of_pos (cell / 700000 / 81000) (show 0 < many by omega)
          refine ⟨seed, _, rfl, k1, by omega, fun H9 s9 => ?_⟩
          walk_at "rd"
          refine ⟨v, ds, _, _, seed, rfl, DishesAt.mono _ _ _ _ (SameT.of s9) hds8, by omega, dg, ⟨(cell / 700000 / 81000 % many).toNat, by omega, by rw [Int.toNat_of_nonneg k1]⟩, fun v' ds' H10 s10 hv' dl' dg' => ?_⟩
          exact ⟨v', ds', rfl, (s8.trans s9).trans s10, hv', PacksAt.mono _ _ _ _ (SameT.of (s9.trans s10)) hps8, by omega, dg'⟩
        · exact ⟨v, ds, rfl, s8, hds8, hps8, by omega, dg⟩
      obtain ⟨dv, ds', rfl, s9, hds9, hps9, dl9, dg9⟩ := h
      refine ⟨_, rfl, _, rfl, _, rfl, small (by show 3 ≤ 100000; decide), fun r hr1 => ?_⟩
      have u := same_upd (o := .lst [dv, lv, pv]) hr1
      have sall := ((((s2.trans s3).trans s4).trans s47).trans s9).trans u
      exact q r dv lv pv ds' lar ps seed _ sall upd_same (DishesAt.mono _ _ _ _ (SameT.of u) hds9) (LarderAt.mono _ _ _ _ (SameT.of (s9.trans u)) hlar7) (PacksAt.mono _ _ _ _ (SameT.of u) hps9) dl9 (by omega) pl8 dg9 lg pg8
abbrev s_unserved : Stmt := topS 35
theorem sc_unserved : FnScope ["_law_dishes_here", "_law_larder_here", "_law_packs_here", "_law_counts_here", "_law_found", "_law_name", "_law_places", "_law_offers", "_law_k"] ["_law_dishes_here", "_law_larder_here", "_law_packs_here", "_law_counts_here"] (defScope s_unserved) := ⟨rfl, rfl, rfl, by decide +kernel, rfl, by decide +kernel, by decide +kernel⟩
theorem bd_unserved : ∀ (kV doc pm : Value) (an : Option Addr) (cdv ct : Value) (us : List Value), us.length = (["_law_dishes_here", "_law_larder_here", "_law_packs_here", "_law_counts_here"] : List Str).length → bindArgs (PySem.W.fnOf "_law_unserved" "_law_unserved" (defArgs s_unserved) (defBody s_unserved) (defScope s_unserved) .none kV doc pm an cdv ct) ⟨us, []⟩ = pure ((["_law_dishes_here", "_law_larder_here", "_law_packs_here", "_law_counts_here"] : List Str).zip us) := fun _ _ _ _ _ _ us hl => match us, hl with | [_, _, _, _], _ => rfl
def unsB (ds : List Dish) (lar : List Batch) (ps : List Pack) (cs : List Int) (nm : Str) : Bool := !servesB (offersOf ps nm) (countsOf cs (ofK ps nm)) (lackW ds lar nm)
def spUnserved (K : PySem.W.Frag) : Sp := fun vs H Q _ => ∃ (u v w c : V) (ds : List Dish) (lar : List Batch) (ps : List Pack) (cs : List Int), vs = [u, v, w, c] ∧ DishesAt H u ds ∧ LarderAt H v lar ∧ PacksAt H w ps ∧ IntsIn K H c cs ∧ ds.length ≤ 100 ∧ (∀ d ∈ ds, d.2.length ≤ 20) ∧ (namesOf ds).length < 64 ∧ ps.length = cs.length ∧ ps.length ≤ 1000 ∧ (∀ p ∈ ps, FinePack p) ∧
  ∀ p (ys : List Str) H', Same H H' → ys.Perm (namesOf ds) → H' p = some (.lst ((ys.filter (unsB ds lar ps cs)).map V.str)) → Q (.ref p) H'
theorem filter_take {α : Type} {f : α → Bool} {xs : List α} {i : Nat} {x : α} (h : xs[i]? = some x) : (xs.take (i + 1)).filter f = (xs.take i).filter f ++ if f x = true then [x] else [] := by
  rw [take_succ' h, List.filter_append]
  congr 1
  cases e : f x <;> simp [e]
theorem ok_unserved {P : Program} {w : World} {K : PySem.W.Frag} {mg : Str → Option Value} {base : Heap} (D : DefAt K mg "_law_unserved" s_unserved) (C_things : Clb P w K mg base 1 "_law_things" ["_law_dishes_here"] (spThings K)) (C_of : Clb P w K mg base 1 "_law_of" ["_law_packs_here", "_law_name"] spOf) (C_served : Clb P w K mg base 1 "_law_served" ["_law_offers", "_law_counts_here", "_law_lacks_here"] (spServed K)) (C_lacks : Clb P w K mg base 1 "_law_lacks" ["_law_dishes_here", "_law_larder_here", "_law_name"] (spLacks K)) : Clb P w K mg base 2 "_law_unserved" ["_law_dishes_here", "_law_larder_here", "_law_packs_here", "_law_counts_here"] (spUnserved K) := by
  refine D.clb sc_unserved (fun vs H Q E h => ?_) bd_unserved (fun f cdv A outer s H vs Q E hr h => ?_)
  · obtain ⟨u, v, w, c, ds, lar, ps, cs, rfl, _⟩ := h
    rfl
  · obtain ⟨u, v, w, c, ds, lar, ps, cs, rfl, hds, hlar, ⟨pa, pus, rfl, hpa, hph⟩, ⟨ca, rfl, hca⟩, dl, dn, nf, hpc, hpl, hpf, q⟩ := h
    refine ⟨_, (pss_cons (ps_set (i := 4) sc_unserved.nd rfl (.inl rfl) (pe_lst pa_nil))
    (pss_cons (ps_for PassesOwn.never rfl (kpi_list K (pe_cal C_things (hr.mono (by decide)) (pa_cons (pv 0) pa_nil))) (pg_name (i := 5) sc_unserved.nd rfl (.inl rfl))
      (pss_cons (ps_set (i := 6) sc_unserved.nd rfl (.inl rfl) (pe_cal C_of (hr.mono (by decide)) (pa_cons (pv 2) (pa_cons (pv 5) pa_nil))))
    (pss_cons (ps_setLc (i := 7) (own := [("_law_k", 8)])   rfl sc_unserved.nd rfl rfl (sw_true rfl rfl rfl (by decide +kernel)) (kpi_list K (pv 6)) (blkOk_by (own := [("_law_k", 8)]) (N := ["_law_dishes_here", "_law_larder_here", "_law_packs_here", "_law_counts_here", "_law_found", "_law_name", "_law_places", "_law_offers", "_law_k"]) (sc := defScope s_unserved) (by decide +kernel)) (fun _ _ _ _ _ => (pg_name (i := 8) sc_unserved.nd rfl (.inl rfl))) (fun _ _ _ _ _ => pts_nil) (fun _ _ _ _ _ => (pe_slice (ksl_tupA K) (pe_ix (kix_tup K) (pv 2) (pv 8) (fun _ _ => rfl)) (po_some pe_int) po_none)))
    (pss_one (ps_if (pt_not (pt_val (pe_cal C_served (hr.mono (by decide)) (pa_cons (pv 7) (pa_cons (pe_lc (own := [("_law_k", 8)]) rfl sc_unserved.nd (kpi_list K (pv 6)) (blkOk_by (own := [("_law_k", 8)]) (N := ["_law_dishes_here", "_law_larder_here", "_law_packs_here", "_law_counts_here", "_law_found", "_law_name", "_law_places", "_law_offers", "_law_k"]) (sc := defScope s_unserved) (by decide +kernel)) (fun _ _ _ _ _ => (pg_name (i := 8) sc_unserved.nd rfl (.inl rfl))) (fun _ _ _ _ _ => pts_nil) (fun _ _ _ _ _ => (pe_ix (kix_seq K) (pv 3) (pv 8) (fun _ _ => rfl)))) (pa_cons (pe_cal C_lacks (hr.mono (by decide)) (pa_cons (pv 0) (pa_cons (pv 1) (pa_cons (pv 5) pa_nil)))) pa_nil))))))
      (pss_one (ps_expr (kpe_bm K PySem.F.plainAttrs_list PySem.F.slot_list_append PySem.F.type_list_append mt_append (pv 4) (pa_cons (pv 5) pa_nil))))
      pss_nil)))))
    (pss_one (ps_ret (pv 4))))), ?_⟩
    have pul : pus.length = ps.length := hph.len
    refine ⟨Nat.zero_le _, fun p hp => ?_⟩
    have s0 : Same H (upd H p (.lst [])) := same_upd hp
    refine ⟨_, rfl, u, ds, rfl, DishesAt.mono _ _ _ _ (SameT.of s0) hds, dl, dn, nf, fun tq ys H1 s1 hperm hsort htn htq => ?_⟩
    have nqp : tq ≠ p := fun z => by rw [z, upd_same] at htn; cases htn
    have ipp : H1 p = some (.lst []) := s1 _ _ upd_same
    have s01 := s0.trans s1
    refine ⟨tq, rfl, ⟨_, sqL htq⟩, ?_⟩
    refine for_list (xs := ys.map V.str) (fun i σ H' => ∃ y5 y6 y7 y8 : Option V, σ = [some u, some v, some (.ref pa), some (.ref ca), some (.ref p), y5, y6, y7, y8] ∧ Same H H' ∧ H' tq = some (.lst (ys.map V.str)) ∧ H' p = some (.lst (((ys.take i).filter (unsB ds lar ps cs)).map V.str)))
      ⟨none, none, none, none, rfl, s01, htq, ipp⟩ (fun i σ H' _ h => by obtain ⟨_, _, _, _, _, _, h3, _⟩ := h; exact sqL h3) (fun i x σ H2 hx h => ?_) (fun σ H2 h => ?_)
    · obtain ⟨y5, y6, y7, y8, rfl, s2, hq2, hp2⟩ := h
      obtain ⟨nm, hnm, rfl⟩ := map_ix hx
      have psq : ∀ {Hx : Hp}, Same H Hx → PacksAt Hx (.ref pa) ps := fun s => ⟨pa, pus, rfl, s _ _ hpa, hph.mono PackAt.mono (SameT.of s)⟩
      refine ⟨_, rfl, _, rfl, .ref pa, ps, nm, rfl, psq s2, hpl, fun kp H3 s3 _ hkp => ?_⟩
      have s23 := s2.trans s3
      have kl : (ofK ps nm).length ≤ 1000 := by
        have := List.length_filterMap_le (fun k => if (ps.getD k pz).name = nm then some k else none) (List.range ps.length)
        rw [List.length_range] at this
        unfold ofK
        omega
      -- the offers
      refine ⟨_, rfl, kp, rfl, ⟨_, sqL hkp⟩, fun D hD => lc_rel (walk_list (xs := (ofK ps nm).map fun k : Nat => V.int k)) (xs := ofK ps nm) (by rw [List.length_map]) (f := fun k => some (offerOf (ps.getD k pz))) (R := OfferAt) OfferAt.mono hD (fun _ s => sqL (s _ _ hkp)) (by rw [List.length_map]; omega) (fun j x y H4 H5 Ky Kn hx s4 hy h1 h2 => ?_) (fun H4 zs s4 hD' hd => ?_)⟩
      · obtain ⟨rfl, hv⟩ := hy
        rw [List.getElem?_map, hx] at hv
        have hv' : V.int (y : Nat) = x := Option.some.inj hv
        subst hv'
        have hk := (of_mem (ix_mem hx)).1
        have hu := List.getElem?_eq_getElem (show y < pus.length by omega)
        obtain ⟨t, e1, ht⟩ := hph.all y _ _ hu (at_getD hk pz)
        rw [e1] at hu
        refine ⟨rfl, ?_⟩
        refine ⟨_, rfl, _, rfl, pa, _, _, _, rfl, rfl, sqT (s4 _ _ (s23 _ _ hpa)), at_of (j := y) rfl hu, ?_⟩
        simp only [tNoPart]
        refine ⟨1, rfl, ?_⟩
        refine slA_of (lo := some 1) (hi := none) (s4 _ _ (s23 _ _ ht)) (fun p1 G1 g1 hp1 => ?_)
        exact h1 _ _ _ rfl g1 ⟨p1, rfl, hp1⟩
      · rw [fm_some (fun k => offerOf (ps.getD k pz))] at hd
        have hof : OffersIn K H4 (.ref D) (offersOf ps nm) := ⟨D, zs, rfl, SqA.l hD', hd⟩
        have s24 := s23.trans s4
        -- their counts
        refine ⟨_, rfl, _, rfl, kp, rfl, ⟨_, sqL (s4 _ _ hkp)⟩, fun D2 hD2 => lc_rel (walk_list (xs := (ofK ps nm).map fun k : Nat => V.int k)) (xs := ofK ps nm) (by rw [List.length_map]) (f := fun k => some (cs.getD k 0)) (R := fun _ v x => v = V.int x) mono_eq hD2 (fun _ s => sqL (s _ _ (s4 _ _ hkp))) (by rw [List.length_map]; omega) (fun j x y H6 H7 Ky Kn hx s6 hy h1 h2 => ?_) (fun H6 ws s6 hD2' hd2 => ?_)⟩
        · obtain ⟨rfl, hv⟩ := hy
          rw [List.getElem?_map, hx] at hv
          have hv' : V.int (y : Nat) = x := Option.some.inj hv
          subst hv'
          have hk := (of_mem (ix_mem hx)).1
          refine ⟨rfl, ?_⟩
          refine ⟨_, rfl, _, rfl, ca, _, _, _, rfl, rfl, hca.same (s24.trans s6), at_of (j := y) rfl (ix_map (at_getD (by omega) 0)), ?_⟩
          exact h1 _ _ _ rfl (Same.refl _) rfl
        · have e2 := held_eq (f := V.int) hd2
          rw [fm_some] at e2
          have s26 := s24.trans s6
          refine ⟨_, rfl, _, rfl, _, rfl, u, v, ds, lar, nm, rfl, DishesAt.mono _ _ _ _ (SameT.of s26) hds, dn, LarderAt.mono _ _ _ _ (SameT.of s26) hlar, fun lp H8 s8 _ hlp => ?_⟩
          have s28 := s26.trans s8
          have ol : (offersOf ps nm).length = (ofK ps nm).length := by unfold offersOf; rw [List.length_map]
          have cl : (countsOf cs (ofK ps nm)).length = (ofK ps nm).length := by unfold countsOf; rw [List.length_map]
          refine ⟨.ref D, .ref D2, .ref lp, offersOf ps nm, countsOf cs (ofK ps nm), lackW ds lar nm, rfl, hof.same (s6.trans s8), ⟨D2, rfl, SqA.l (s8 _ _ (by rw [hD2', e2]; rfl))⟩, ⟨lp, rfl, SqA.l hlp⟩, by rw [ol, cl], by omega, lackW_len _ _ _, offers_good hpf nm, ?_⟩
          have hq8 := s8 _ _ (s6 _ _ (s4 _ _ (s3 _ _ hq2)))
          have hp8 := s8 _ _ (s6 _ _ (s4 _ _ (s3 _ _ hp2)))
          have ft := filter_take (f := unsB ds lar ps cs) hnm
          refine ⟨_, rfl, ?_⟩
          cases hb : servesB (offersOf ps nm) (countsOf cs (ofK ps nm)) (lackW ds lar nm) with
          | true =>
            refine iteF ?_
            refine ⟨_, _, _, _, rfl, s28, hq8, ?_⟩
            rw [ft, if_neg (by unfold unsB; rw [hb]; decide), List.append_nil]
            exact hp8
          | false =>
            refine iteT ?_
            refine ⟨_, rfl, .inl ⟨rfl, _, sqL hp8⟩, ?_⟩
            refine ⟨_, rfl, p, _, _, rfl, rfl, hp8, small' ?_, ?_⟩
            · have a1 := List.length_filter_le (unsB ds lar ps cs) (ys.take i)
              rw [List.length_take] at a1
              have a2 := hperm.length_eq
              rw [List.length_map]
              omega
            · refine ⟨_, _, _, _, rfl, s28.mut hp, by rw [upd_ne nqp]; exact hq8, ?_⟩
              rw [upd_same, ft, if_pos (by unfold unsB; rw [hb]; rfl), List.map_append]
              rfl
    · obtain ⟨y5, y6, y7, y8, rfl, s2, hq2, hp2⟩ := h
      rw [List.length_map, List.take_length] at hp2
      exact ⟨_, rfl, q p ys H2 s2 hperm hp2⟩
abbrev s_init : Stmt := inClass (topS 1) 0
theorem sc_init : FnScope ["self", "word"] ["self", "word"] (defScope s_init) := ⟨rfl, rfl, rfl, by decide +kernel, rfl, by decide +kernel, by decide +kernel⟩
theorem bd_init : ∀ (kV doc pm : Value) (an : Option Addr) (cdv ct : Value) (us : List Value), us.length = (["self", "word"] : List Str).length → bindArgs (PySem.W.fnOf "__init__" "LarderError.__init__" (defArgs s_init) (defBody s_init) (defScope s_init) .none kV doc pm an cdv ct) ⟨us, []⟩ = pure ((["self", "word"] : List Str).zip us) := fun _ _ _ _ _ _ us hl => match us, hl with | [_, _], _ => rfl
theorem ok_init {P : Program} {w : World} {K : PySem.W.Frag} {mg : Str → Option Value} {base : Heap} {fI : Addr} {fd : FuncData} (F : Fun K "__init__" "LarderError.__init__" s_init fI fd) (m_ValueError : mg "ValueError" = none) (vV : PySem.W.findCls K (.type "ValueError") (.type "type") "__init__" = some (.val (.builtin "ValueError.__init__"))) : FnOk P w K mg base CX0 1 fI fd ["self", "word"] (spInit K) := by
  refine F.ok sc_init (fun vs H Q E h => ?_) (fun cdv A outer s H vs Q E hr h => ?_)
  · obtain ⟨a, C, nm, rfl, _⟩ := h
    rfl
  · obtain ⟨a, C, nm, rfl, ha, T, nw, q⟩ := h
    refine ⟨_, (pss_cons (ps_expr (pe_veinit (by rfl) m_ValueError vV (pa_cons (pv 0) (pa_cons (pv 1) pa_nil)))) (pss_one (ps_ost (pv 0) (pv 1)))), ?_⟩
    refine ⟨_, rfl, _, rfl, a, C, [.str nm], rfl, (show 1 ≤ 1000 by decide), T, ha, ?_⟩
    refine ⟨_, rfl, _, rfl, a, C, rfl, T, nw, .inl ⟨ha, fun dx h1 h2 => ?_⟩⟩
    exact q dx h1 h2
abbrev s_taken : Stmt := topS 8
theorem sc_taken : FnScope ["line", "day", "name", "amount", "pairs", "last", "batch", "left", "part"] ["line", "day", "name", "amount"] (defScope s_taken) := ⟨rfl, rfl, rfl, by decide +kernel, rfl, by decide +kernel, by decide +kernel⟩
theorem bd_taken : ∀ (kV doc pm : Value) (an : Option Addr) (cdv ct : Value) (us : List Value), us.length = (["line", "day", "name", "amount"] : List Str).length → bindArgs (PySem.W.fnOf "taken" "taken" (defArgs s_taken) (defBody s_taken) (defScope s_taken) .none kV doc pm an cdv ct) ⟨us, []⟩ = pure ((["line", "day", "name", "amount"] : List Str).zip us) := fun _ _ _ _ _ _ us hl => match us, hl with | [_, _, _, _], _ => rfl
theorem ok_taken {P : Program} {w : World} {K : PySem.W.Frag} {mg : Str → Option Value} {base : Heap} {S : Addr} (D : DefAt K mg "taken" s_taken) (m_min : mg "min" = none) (M_Short : MkAt P w K mg base 1 "Short" S) : ClbX P w K mg base 3 "taken" ["line", "day", "name", "amount"] (spTaken S) := by
  refine D.clbX sc_taken (fun vs H Q E h => ?_) bd_taken (fun f cdv A outer s H vs Q E hr h => ?_)
  · obtain ⟨l, ws, lar, left, nm, day, amt, ks, rfl, _⟩ := h
    rfl
  · obtain ⟨l, ws, lar, left, nm, day, amt, ks, rfl, hl, hh, hst, hlen, hbig, hamt, q⟩ := h
    refine ⟨_, (pss_cons (ps_set (i := 4) sc_taken.nd rfl (.inl rfl) (pe_lst pa_nil))
    (pss_cons (ps_while (passes_of rfl) (pt_cmpR op_gt (pv 3) pe_int (nomark _))
      (pss_cons (ps_if (pt_not (pt_truth (pv 0) (by intro _; rfl)))
      (pss_one (ps_raiseN M_Short rfl (hr.mono (by decide)) (takes_of rfl rfl rfl rfl) (pv 2)))
      pss_nil)
    (pss_cons (ps_asg (kpe_bm0 K PySem.F.plainAttrs_list PySem.F.slot_list_pop PySem.F.type_list_pop mt_pop (pv 0)) (kpg_tup K (n := 3) rfl (pgs_cons (pg_name (i := 5) sc_taken.nd rfl (.inl rfl)) (pgs_cons (pg_name (i := 6) sc_taken.nd rfl (.inl rfl)) (pgs_cons (pg_name (i := 7) sc_taken.nd rfl (.inl rfl)) pgs_nil)))))
    (pss_one (ps_if (pt_cmpR op_ge (pv 5) (pv 1) (nomark _))
      (pss_cons (ps_set (i := 8) sc_taken.nd rfl (.inl rfl) (pe_callB (call_min2 rfl) (by rfl) m_min (by decide +kernel) (pa_cons (pv 3) (pa_cons (pv 7) pa_nil))))
    (pss_cons (ps_expr (kpe_bm K PySem.F.plainAttrs_list PySem.F.slot_list_append PySem.F.type_list_append mt_append (pv 4) (pa_cons (pe_tup (pa_cons (pv 6) (pa_cons (pv 8) pa_nil))) pa_nil)))
    (pss_cons (ps_aug (i := 3) sc_taken.nd rfl (.inl rfl) (pv 8) ip_sub)
    (pss_one (ps_if (pt_cmpR op_lt (pv 8) (pv 7) (nomark _))
      (pss_one (ps_expr (kpe_bm K PySem.F.plainAttrs_list PySem.F.slot_list_append PySem.F.type_list_append mt_append (pv 0) (pa_cons (pe_tup (pa_cons (pv 5) (pa_cons (pv 6) (pa_cons (pe_op op_sub (pv 7) (pv 8)) pa_nil)))) pa_nil))))
      pss_nil)))))
      pss_nil)))))
    (pss_one (ps_ret (pv 4))))), ?_⟩
    refine ⟨Nat.zero_le _, fun p hp => ?_⟩
    have hbg : 16000000 < sizeLine := by decide
    have hpl : p ≠ l := fun z => by rw [z, hl] at hp; cases hp
    have s0 : SameBut l H (upd H p (.lst [])) := SameBut.of (same_upd hp)
    refine ⟨fun m σ H' => ∃ (a : Int) (qs : List Use) (lf : List Int) (ks : List Nat) (y5 y6 y7 y8 : Option V), σ = [some (.ref l), some (.int day), some (.str nm), some (.int a), some (.ref p), y5, y6, y7, y8] ∧ TakeInv lar left nm day amt l p H m H' a qs lf ks,
      ⟨_, amt, [], left, ks, none, none, none, none, rfl, s0, ⟨[], upd_same, Held.nil⟩, ⟨ws, by rw [upd_ne (Ne.symm hpl)]; exact hl, hh.mono EntAt.mono (SameT.new hp)⟩, hst, hlen, ⟨amt.toNat, rfl, Nat.le_refl _⟩, hamt, by simp; omega, rfl⟩, fun m σ H1 h => ?_⟩
    obtain ⟨a, qs, lf, ks1, y5, y6, y7, y8, rfl, T⟩ := h
    obtain ⟨pus, hpp, hpu⟩ := T.pairs
    obtain ⟨ws1, hl1, hw1⟩ := T.line
    obtain ⟨n, hn1, hn2⟩ := T.fold
    have hms := T.meas
    walk_at "rd"
    refine it_lt (fun ha => ?_) (fun ha => ?_)
    · refine ⟨fun σ' H' => ∃ m', m' < m ∧ ∃ (a : Int) (qs : List Use) (lf : List Int) (ks : List Nat) (y5 y6 y7 y8 : Option V), σ' = [some (.ref l), some (.int day), some (.str nm), some (.int a), some (.ref p), y5, y6, y7, y8] ∧ TakeInv lar left nm day amt l p H m' H' a qs lf ks, fun _ _ h => h, ?_⟩
      refine ⟨_, rfl, !ws1.isEmpty, .inl ⟨ws1, sqL hl1, rfl⟩, ?_⟩
      cases ks1 with
      | nil =>
        have e0 : ws1 = [] := List.length_eq_zero_iff.mp hw1.len
        subst e0
        refine iteT ?_
        refine ⟨_, rfl, mk_word M_Short.oe M_Short.nw fun dd hdd => ?_⟩
        refine (q _ (T.same.trans (SameBut.of (same_upd hdd)))).1 dd ?_ ?_ upd_same
        · rw [hn1]
          exact met_empty T.stack ha hn2
        · cases e : H dd with
          | none => rfl
          | some x =>
            by_cases z : dd = l
            · rw [z, hl1] at hdd; cases hdd
            · rw [T.same dd x z e] at hdd; cases hdd
      | cons k r =>
        rw [List.reverse_cons, List.map_append] at hw1
        obtain ⟨vs, v, e0, hvs, t, rfl, ht⟩ := held_last hw1
        subst e0
        replace ht : H1 t = some (.tup [V.int (lastK lar k), V.int (k : Nat), V.int (lf.getD k 0)]) := ht
        have hk1 := T.stack.ok k List.mem_cons_self
        have hkl := T.len
        have e1 : (!(!(vs ++ [V.ref t]).isEmpty)) = false := by simp
        rw [e1]
        refine iteF ?_
        refine ⟨_, rfl, .inl ⟨rfl, _, sqL hl1⟩, ?_⟩
        refine ⟨l, _, .ref t, rfl, rfl, hl1, by simp, ?_⟩
        rw [List.dropLast_concat]
        have hlH : SameBut l H1 (upd H1 l (.lst vs)) := (SameBut.refl l H1).put
        have st1 : SameT H1 (upd H1 l (.lst vs)) := SameT.lst hl1
        refine ⟨t, _, rfl, sqT (st1 _ _ ht), rfl, _, _, rfl, _, _, rfl, _, _, rfl, rfl, ?_⟩
        walk_at "rd"
        have hp1 := hlH p _ hpl hpp
        refine it_le (fun hd => ?_) (fun hd => ?_)
        · walk_at "rd"
          have hmn : (if lf.getD k 0 < a then lf.getD k 0 else a) = mnI a (lf.getD k 0) := rfl
          rw [hmn]
          have hne : 1 ≤ n := by omega
          obtain ⟨n', rfl⟩ : ∃ n', n = n' + 1 := ⟨n - 1, by omega⟩
          have hmh := met_head (ps := qs) T.stack hd ha hn2
          have hm0 : 0 < mnI a (lf.getD k 0) ∧ mnI a (lf.getD k 0) ≤ a ∧ mnI a (lf.getD k 0) ≤ lf.getD k 0 := by
            have := hk1.2.2
            unfold mnI
            split <;> omega
          refine ⟨.inl ⟨rfl, _, sqL hp1⟩, ?_⟩
          refine ⟨_, rfl, _, rfl, small (by show 2 ≤ 100000; decide), fun u hu => ?_⟩
          have s2 := same_upd (o := .tup [V.int (k : Nat), V.int (mnI a (lf.getD k 0))]) hu
          have hp2 := s2 _ _ hp1
          have hpul := hpu.len
          have hfew := T.few
          refine ⟨p, _, _, rfl, rfl, hp2, small' (by omega), ?_⟩
          have hup : u ≠ p := fun z => by rw [z, hp1] at hu; cases hu
          have hul : u ≠ l := fun z => by rw [z, upd_same] at hu; cases hu
          have st2 : SameT (upd H1 l (.lst vs)) (upd (upd (upd H1 l (.lst vs)) u (.tup [V.int (k : Nat), V.int (mnI a (lf.getD k 0))])) p (.lst (pus ++ [V.ref u]))) := (SameT.of s2).trans (SameT.lst hp2)
          have sb : SameBut l H (upd (upd (upd H1 l (.lst vs)) u (.tup [V.int (k : Nat), V.int (mnI a (lf.getD k 0))])) p (.lst (pus ++ [V.ref u]))) := fun b x hb e => by
            have hbp : b ≠ p := fun z => by rw [z, hp] at e; cases e
            rw [upd_ne hbp]
            exact s2 _ _ (hlH b x hb (T.same b x hb e))
          have hpend : Held UseAt (upd (upd (upd H1 l (.lst vs)) u (.tup [V.int (k : Nat), V.int (mnI a (lf.getD k 0))])) p (.lst (pus ++ [V.ref u]))) (pus ++ [V.ref u]) (qs ++ [(k, mnI a (lf.getD k 0))]) :=
            (hpu.mono UseAt.mono (st1.trans st2)).snoc ⟨u, rfl, by rw [upd_ne hup, upd_same]⟩
          have hl3 : (upd (upd (upd H1 l (.lst vs)) u (.tup [V.int (k : Nat), V.int (mnI a (lf.getD k 0))])) p (.lst (pus ++ [V.ref u]))) l = some (.lst vs) := by
            rw [upd_ne (Ne.symm hpl), upd_ne (Ne.symm hul), upd_same]
          have hvs3 := hvs.mono EntAt.mono (st1.trans st2)
          have hrev : ∀ z, r.reverse.map (entOf lar (lf.set k z)) = r.reverse.map (entOf lar lf) := fun z => ent_set (fun hz => T.stack.notin (List.mem_reverse.mp hz))
          generalize hH3 : upd (upd (upd H1 l (.lst vs)) u (.tup [V.int (k : Nat), V.int (mnI a (lf.getD k 0))])) p (.lst (pus ++ [V.ref u])) = H3 at sb hpend hl3 hvs3
          refine ⟨_, rfl, _, rfl, _, _, rfl, rfl, ?_⟩
          walk_at "rd"
          refine it_lt (fun hlt => ?_) (fun hlt => ?_)
          · replace hlt : mnI a (lf.getD k 0) < lf.getD k 0 := hlt
            have ema : mnI a (lf.getD k 0) = a := by unfold mnI at hlt ⊢; split at hlt <;> split <;> omega
            refine ⟨_, rfl, .inl ⟨rfl, _, sqL hl3⟩, ?_⟩
            refine ⟨_, rfl, _, rfl, _, rfl, _, rfl, _, _, rfl, rfl, ?_⟩
            refine ⟨small (by show 3 ≤ 100000; decide), fun u2 hu2 => ?_⟩
            have s4 := same_upd (o := .tup [V.int (lastK lar k), V.int (k : Nat), V.int (lf.getD k 0 - mnI a (lf.getD k 0))]) hu2
            have hl4 := s4 _ _ hl3
            have hvl := hvs.len
            have hrl := T.stack.len
            rw [List.length_map, List.length_reverse] at hvl
            rw [List.length_cons] at hrl
            refine ⟨l, _, _, rfl, rfl, hl4, by omega, ?_⟩
            have st4 := (SameT.of s4).trans (SameT.lst (o := .lst (vs ++ [V.ref u2])) hl4)
            have hul2 : u2 ≠ l := fun z => by rw [z, hl3] at hu2; cases hu2
            refine ⟨_, ?_, a - mnI a (lf.getD k 0), qs ++ [(k, mnI a (lf.getD k 0))], lf.set k (lf.getD k 0 - mnI a (lf.getD k 0)), k :: r, _, _, _, _, rfl, (sb.trans (SameBut.of s4)).put, ⟨_, ?_, hpend.mono UseAt.mono st4⟩, ⟨_, upd_same, ?_⟩, T.stack.some hkl (by omega), by rw [List.length_set]; exact hkl, ⟨n', ?_, by omega⟩, by have := T.most; omega, ?_, rfl⟩
            · rw [hms]; simp only [List.length_cons]; omega
            · rw [upd_ne hpl]
              exact s4 _ _ (by rw [← hH3, upd_same])
            · rw [List.reverse_cons, List.map_append]
              have h4 := hvs3.mono EntAt.mono st4
              rw [← hrev (lf.getD k 0 - mnI a (lf.getD k 0))] at h4
              refine h4.snoc ⟨u2, rfl, ?_⟩
              rw [upd_ne hul2, upd_same]
              show _ = some (HO.tup [V.int (lastK lar k), V.int (k : Nat), V.int ((lf.set k (lf.getD k 0 - mnI a (lf.getD k 0))).getD k 0)])
              rw [getD_set_self (by omega)]
            · rw [hn1, hmh]
            · rw [List.length_append]; simp only [List.length_cons, List.length_nil]; omega
          · replace hlt : ¬ mnI a (lf.getD k 0) < lf.getD k 0 := hlt
            have eml : mnI a (lf.getD k 0) = lf.getD k 0 := by omega
            have hst' := T.stack.whole hkl
            refine ⟨_, ?_, a - mnI a (lf.getD k 0), qs ++ [(k, mnI a (lf.getD k 0))], lf.set k 0, r, _, _, _, _, rfl, sb, ⟨_, by rw [← hH3, upd_same], hpend⟩, ⟨vs, hl3, by rw [hrev 0]; exact hvs3⟩, hst', by rw [List.length_set]; exact hkl, ⟨n', ?_, by omega⟩, by have := T.most; omega, ?_, rfl⟩
            · rw [hms]; simp only [List.length_cons]; omega
            · rw [hn1, hmh, eml, Int.sub_self]
            · rw [List.length_append]; simp only [List.length_cons, List.length_nil]; omega
        · refine ⟨_, ?_, a, qs, lf, r, _, _, _, _, rfl, T.same.trans hlH, ⟨pus, hp1, hpu.mono UseAt.mono st1⟩, ⟨vs, upd_same, hvs.mono EntAt.mono st1⟩, T.stack.drop (Int.not_le.mp hd), hkl, ⟨n, hn1, hn2⟩, T.most, T.few, rfl⟩
          rw [hms]; simp only [List.length_cons]; omega
    · refine ⟨_, rfl, ?_⟩
      refine (q H1 T.same).2 qs lf p pus ws1 ks1 ?_ hp hpp hpu hl1 hw1 T.stack
      rw [hn1]
      exact met_done ha
abbrev s_used_by : Stmt := topS 7
theorem sc_used_by : FnScope ["dish", "lines", "day", "needs", "pairs", "name", "amount"] ["dish", "lines"] (defScope s_used_by) := ⟨rfl, rfl, rfl, by decide +kernel, rfl, by decide +kernel, by decide +kernel⟩
theorem bd_used_by : ∀ (kV doc pm : Value) (an : Option Addr) (cdv ct : Value) (us : List Value), us.length = (["dish", "lines"] : List Str).length → bindArgs (PySem.W.fnOf "used_by" "used_by" (defArgs s_used_by) (defBody s_used_by) (defScope s_used_by) .none kV doc pm an cdv ct) ⟨us, []⟩ = pure ((["dish", "lines"] : List Str).zip us) := fun _ _ _ _ _ _ us hl => match us, hl with | [_, _], _ => rfl
theorem ok_used_by {P : Program} {w : World} {K : PySem.W.Frag} {mg : Str → Option Value} {base : Heap} {S : Addr} (D : DefAt K mg "used_by" s_used_by) (m_tuple : mg "tuple" = none) (C_taken : ClbX P w K mg base 3 "taken" ["line", "day", "name", "amount"] (spTaken S)) : ClbX P w K mg base 4 "used_by" ["dish", "lines"] (spUsedBy S) := by
  refine D.clbX sc_used_by (fun vs H Q E h => ?_) bd_used_by (fun f cdv A outer s H vs Q E hr h => ?_)
  · obtain ⟨v, d, kvs, dish, lar, left, Ks, rfl, _⟩ := h
    rfl
  · obtain ⟨v, d, kvs, dish, lar, left, Ks, rfl, ⟨dt, nv, rfl, hdt, na, nvs, rfl, hna, hnh⟩, hS, hlen, hbig, hfew, ham, q⟩ := h
    refine ⟨_, (pss_cons (ps_asg (pv 0) (kpg_tup K (n := 2) rfl (pgs_cons (pg_name (i := 2) sc_used_by.nd rfl (.inl rfl)) (pgs_cons (pg_name (i := 3) sc_used_by.nd rfl (.inl rfl)) pgs_nil))))
    (pss_cons (ps_set (i := 4) sc_used_by.nd rfl (.inl rfl) (pe_lst pa_nil))
    (pss_cons (ps_for (passes_of rfl) rfl (kpi_tup K (pv 3)) (kpg_tup K (n := 2) rfl (pgs_cons (pg_name (i := 5) sc_used_by.nd rfl (.inl rfl)) (pgs_cons (pg_name (i := 6) sc_used_by.nd rfl (.inl rfl)) pgs_nil)))
      (pss_one (ps_expr (kpe_bm K PySem.F.plainAttrs_list PySem.F.slot_list_extend PySem.F.type_list_extend mt_extend (pv 4) (pa_cons (pe_calS C_taken (hr.mono (by decide)) (takes_of rfl rfl rfl rfl) (pa_cons (pe_dget2 (hu_of hr) (pv 1) (pv 5) (pe_lst pa_nil) ⟨rfl, rfl, rfl, rfl⟩) (pa_cons (pv 2) (pa_cons (pv 5) (pa_cons (pv 6) pa_nil))))) pa_nil)))))
    (pss_one (ps_ret (pe_callTy (kcall_tuple_of K) (by rfl) m_tuple (by decide +kernel) (pa_cons (pv 4) pa_nil))))))), ?_⟩
    have hbg : 100000 < sizeLine := by decide
    have hnl := hnh.len
    refine ⟨_, rfl, dt, _, rfl, sqT hdt, rfl, _, _, rfl, _, _, rfl, rfl, ?_⟩
    refine ⟨Nat.zero_le _, fun p hp => ?_⟩
    have s0 := same_upd (o := .lst []) hp
    have npl : ¬ LineOf kvs p := fun z => by obtain ⟨vs, e⟩ := hS.lines.line z; rw [hp] at e; cases e
    refine ⟨_, rfl, na, rfl, ⟨_, sqT (s0 _ _ hna)⟩, ?_⟩
    refine for_tup (xs := nvs) (fun i σ H' => ∃ (y5 y6 : Option V) (ps : List Use) (pus : List V) (lf : List Int) (Ks : Str → List Nat), σ = [some (.ref dt), some (.ref d), some (.int dish.1), some (.ref na), some (.ref p), y5, y6] ∧ SameOff kvs H H' ∧ H' p = some (.lst pus) ∧ Held UseAt H' pus ps ∧ Stacks H' d kvs lar lf dish.1 Ks ∧ lf.length = lar.length ∧
        foldE (needF lar dish.1) (dish.2.take i) ([], left) = Except.ok (ps, lf) ∧ ps.length ≤ i * 200)
      ⟨none, none, [], [], left, Ks, rfl, SameOff.of s0, upd_same, Held.nil, hS.keep s0, hlen, rfl, Nat.zero_le _⟩ (fun i σ H' _ h => by obtain ⟨_, _, _, _, _, _, _, so, _⟩ := h; exact sqT ((hS.lines.tup so) _ _ hna)) (fun i w σ H1 hw h => ?_) (fun σ H1 h => ?_)
    · obtain ⟨y5, y6, ps, pus, lf, Ks1, rfl, so, hpp, hpu, hS1, hlf, hfold, hpl⟩ := h
      obtain ⟨x, hx, t, rfl, ht⟩ := hnh.get hw
      obtain ⟨nm, amt⟩ := x
      have hxm := ham _ (List.mem_of_getElem? hx)
      have hi20 : i < dish.2.length := (List.getElem?_eq_some_iff.mp hx).1
      have hpul := hpu.len
      have ht1 := (hS.lines.tup so) _ _ ht
      refine ⟨t, _, rfl, sqT ht1, rfl, _, _, rfl, _, _, rfl, rfl, ?_⟩
      refine ⟨_, rfl, .inl ⟨rfl, _, sqL hpp⟩, ?_⟩
      have hd1 := hS1.lines.dict
      refine ⟨_, rfl, d, rfl, .inl ⟨kvs, .inl hd1⟩, _, rfl, Nat.zero_le _, fun l0 hl0 => ?_⟩
      have s1 := same_upd (o := .lst []) hl0
      have hS2 := hS1.keep s1
      refine ⟨_, DGet.k (k := kS nm) (s1 _ _ hd1), ?_⟩
      have hpp1 := s1 _ _ hpp
      have herr : ∀ {l : Addr} {ws : List V} {ks : List Nat} (H4 : Hp), (l = l0 ∨ valV kvs (kS nm) = some (.ref l)) → SameBut l (upd H1 l0 (.lst [])) H4 → ∀ dd, metF lar nm dish.1 amt.toNat lf amt [] = none → (upd H1 l0 (.lst [])) dd = none → H4 dd = some (.xd [("word", .str nm)]) → E (.ref S) (some dd) H4 := fun {l ws ks} H4 hl sb dd hm hdd hx4 => by
        have hfe : needF lar dish.1 (nm, amt) (ps, lf) = Except.error nm := by unfold needF; rw [hm]
        have so4 : SameOff kvs H H4 := by
          intro b z nb hb
          have e1 := s1 _ _ (so b z nb hb)
          refine sb b z (fun zz => ?_) e1
          rcases hl with hl | hl
          · rw [zz, hl] at hb
            have h2 := so l0 z (fun y => by obtain ⟨vs, e⟩ := hS1.lines.line y; rw [hl0] at e; cases e) hb
            rw [hl0] at h2; cases h2
          · exact nb ⟨nm, by rw [zz]; exact hl⟩
        refine (q H4 so4).1 nm dd (foldE_err hfold hx hfe) ?_ hx4
        cases e : H dd with
        | none => rfl
        | some z =>
          by_cases nl : LineOf kvs dd
          · obtain ⟨vs, e2⟩ := hS1.lines.line nl
            rw [s1 _ _ e2] at hdd; cases hdd
          · rw [s1 _ _ (so dd z nl e)] at hdd; cases hdd
      cases hv : valV kvs (kS nm) with
      | none =>
        -- no line: refused
        have hst := hS2.stack nm
        have hk0 : Ks1 nm = [] := by
          have := hS2.lines.nol nm hv
          have h2 : ((Ks1 nm).reverse.map (entOf lar lf)).length = 0 := by rw [this]; rfl
          rw [List.length_map, List.length_reverse] at h2
          exact List.length_eq_zero_iff.mp h2
        rw [hk0] at hst
        refine ⟨_, rfl, _, rfl, _, rfl, ?_⟩
        refine ⟨l0, [], lar, lf, nm, dish.1, amt, [], rfl, upd_same, Held.nil, hst, hlf, hbig, hxm.2, fun H4 sb => ⟨fun dd hm hdd hx4 => herr (ws := []) (ks := []) H4 (.inl rfl) sb dd hm hdd hx4, fun qs left' p2 pus2 ws2 ks2 hm _ _ _ _ _ _ => ?_⟩⟩
        rw [met_empty hst (by omega) (Nat.le_refl _)] at hm
        cases hm
      | some lv =>
        obtain ⟨l, ws, rfl, hl, hw⟩ := hS2.lines.lin nm lv hv
        have npl' : p ≠ l := fun z => npl ⟨nm, by rw [z]; exact hv⟩
        refine ⟨_, rfl, _, rfl, _, rfl, ?_⟩
        refine ⟨l, ws, lar, lf, nm, dish.1, amt, Ks1 nm, rfl, hl, hw, hS2.stack nm, hlf, hbig, hxm.2, fun H4 sb => ⟨fun dd hm hdd hx4 => herr (ws := []) (ks := []) H4 (.inr hv) sb dd hm hdd hx4, fun qs left' p2 pus2 ws2 ks2 hm hp2 hp2' hq2 hl2 hw2 hst2 => ?_⟩⟩
        have hml := met_len _ _ _ _ _ _ hm
        have hq2l := hq2.len
        have hpp4 := sb p _ npl' hpp1
        have hfo : needF lar dish.1 (nm, amt) (ps, lf) = Except.ok (ps ++ qs, left') := by unfold needF; rw [hm]
        have hqs : qs.length ≤ 200 := by have := hml.2.1; simp only [List.length_nil] at this; omega
        have hi20' : i < 20 := by omega
        have hpl' : ps.length ≤ 4000 := by omega
        refine ⟨p, p2, _, _, rfl, rfl, hpp4, hp2', by omega, ?_⟩
        have st4 : SameT H1 H4 := fun b xs hb => by
          have e1 := s1 _ _ hb
          exact sb b _ (fun z => by rw [z, hl] at e1; cases e1) e1
        have st5 := SameT.lst (o := .lst (pus ++ pus2)) hpp4
        have hd4 := sb d _ (fun z => by have := s1 _ _ hd1; rw [z, hl] at this; cases this) (s1 _ _ hd1)
        -- the lines, with one changed
        have hL4 : Lines H4 d kvs (fun nm' => ((if nm' = nm then ks2 else Ks1 nm').reverse.map (entOf lar left'))) := by
          refine hS2.lines.put hv hl sb hl2 ?_ (fun nm' ne => ?_)
          · rw [if_pos rfl]; exact hw2
          · rw [if_neg ne]
            refine ent_other fun k hk => ?_
            have hkn := ((hS1.stack nm').ok k (List.mem_reverse.mp hk)).2.1
            exact hml.2.2 k (by rw [hkn]; exact ne)
        have hS4 : Stacks (upd H4 p (.lst (pus ++ pus2))) d kvs lar left' dish.1 (fun nm' => if nm' = nm then ks2 else Ks1 nm') := by
          refine ⟨⟨?_, hL4.nol, fun nm' v h => ?_, hL4.inj⟩, fun nm' => ?_⟩
          · rw [upd_ne (fun z => by rw [← z, hd4] at hpp4; cases hpp4)]
            exact hd4
          · obtain ⟨l', vs', e1, e2, e3⟩ := hL4.lin nm' v h
            subst e1
            refine ⟨l', vs', rfl, ?_, e3.mono EntAt.mono st5⟩
            rw [upd_ne (fun z => npl ⟨nm', by rw [← z]; exact h⟩)]
            exact e2
          · by_cases e : nm' = nm
            · rw [if_pos e, e]; exact hst2
            · rw [if_neg e]
              exact (hS1.stack nm').other fun k hk => hml.2.2 k (by rw [hk]; exact e)
        refine ⟨_, _, ps ++ qs, pus ++ pus2, left', _, rfl, ?_, upd_same, ?_, hS4, by rw [hml.1]; exact hlf, foldE_take hfold hx hfo, by rw [List.length_append, Nat.succ_mul]; omega⟩
        · intro b z nb hb
          have hbp : b ≠ p := fun zz => by rw [zz, hp] at hb; cases hb
          rw [upd_ne hbp]
          have e1 := s1 _ _ (so b z nb hb)
          exact sb b z (fun zz => nb ⟨nm, by rw [zz]; exact hv⟩) e1
        · exact ((hpu.mono UseAt.mono st4).append hq2).mono UseAt.mono st5
    · obtain ⟨y5, y6, ps, pus, lf, Ks1, rfl, so, hpp, hpu, hS1, hlf, hfold, hpl⟩ := h
      rw [hnl, List.take_length] at hfold
      refine ⟨_, rfl, p, _, rfl, .inl ⟨sqL hpp, fun u hu => ?_⟩⟩
      have s9 := same_upd (o := .tup pus) hu
      exact (q _ (so.trans (SameOff.of s9))).2 ps lf _ Ks1 hfold ⟨u, pus, rfl, upd_same, hpu.mono UseAt.mono (SameT.of s9)⟩ (hS1.keep s9) (by omega)
abbrev s_lines_of : Stmt := topS 6
theorem sc_lines_of : FnScope ["larder", "lines", "batches", "batch", "name", "left", "last"] ["larder"] (defScope s_lines_of) := ⟨rfl, rfl, rfl, by decide +kernel, rfl, by decide +kernel, by decide +kernel⟩
theorem bd_lines_of : ∀ (kV doc pm : Value) (an : Option Addr) (cdv ct : Value) (us : List Value), us.length = (["larder"] : List Str).length → bindArgs (PySem.W.fnOf "lines_of" "lines_of" (defArgs s_lines_of) (defBody s_lines_of) (defScope s_lines_of) .none kV doc pm an cdv ct) ⟨us, []⟩ = pure ((["larder"] : List Str).zip us) := fun _ _ _ _ _ _ us hl => match us, hl with | [_], _ => rfl
theorem ok_lines_of {P : Program} {w : World} {K : PySem.W.Frag} {mg : Str → Option Value} {base : Heap} (D : DefAt K mg "lines_of" s_lines_of) (m_enumerate : mg "enumerate" = none) (m_sorted : mg "sorted" = none) : Clb P w K mg base 1 "lines_of" ["larder"] spLinesOf := by
  refine D.clb sc_lines_of (fun vs H Q E h => ?_) bd_lines_of (fun f cdv A outer s H vs Q E hr h => ?_)
  · obtain ⟨v, lar, rfl, _⟩ := h
    rfl
  · obtain ⟨v, lar, rfl, ⟨a, lvs, rfl, ha, hh⟩, hbig, q⟩ := h
    have encA := bat_alike lar
    have encS := bat_tup lar
    have encD := bat_deep lar
    have encT := bat_dp (K := K) lar
    refine ⟨_, (pss_cons (ps_set (i := 1) sc_lines_of.nd rfl (.inl rfl) pe_dnewK)
    (pss_cons (ps_setLc (i := 2) (own := [("batch", 3), ("name", 4), ("left", 5), ("last", 6)])   rfl sc_lines_of.nd rfl rfl (sw_true rfl rfl rfl (by decide +kernel)) (kpi_enumT K (by rfl) m_enumerate (pa_cons (pv 0) pa_nil)) (blkOk_by (own := [("batch", 3), ("name", 4), ("left", 5), ("last", 6)]) (N := ["larder", "lines", "batches", "batch", "name", "left", "last"]) (sc := defScope s_lines_of) (by decide +kernel)) (fun _ _ _ _ _ => (kpg_tup K (n := 2) rfl (pgs_cons (pg_name (i := 3) sc_lines_of.nd rfl (.inl rfl)) (pgs_cons (kpg_tup K (n := 3) rfl (pgs_cons (pg_name (i := 4) sc_lines_of.nd rfl (.inl rfl)) (pgs_cons (pg_name (i := 5) sc_lines_of.nd rfl (.inl rfl)) (pgs_cons (pg_name (i := 6) sc_lines_of.nd rfl (.inl rfl)) pgs_nil)))) pgs_nil)))) (fun _ _ _ _ _ => pts_nil) (fun _ _ _ _ _ => (pe_tup (pa_cons (pv 6) (pa_cons (pv 3) (pa_cons (pv 4) (pa_cons (pv 5) pa_nil)))))))
    (pss_cons (ps_for PassesOwn.never rfl (kpi_list K (pe_callBK (kcr_sortRevD K hr.units encA encS encD encT) (by rfl) m_sorted (by decide +kernel) (pa_cons (pv 2) pa_nil) (pk_cons pe_bl pk_nil))) (kpg_tup K (n := 4) rfl (pgs_cons (pg_name (i := 6) sc_lines_of.nd rfl (.inl rfl)) (pgs_cons (pg_name (i := 3) sc_lines_of.nd rfl (.inl rfl)) (pgs_cons (pg_name (i := 4) sc_lines_of.nd rfl (.inl rfl)) (pgs_cons (pg_name (i := 5) sc_lines_of.nd rfl (.inl rfl)) pgs_nil)))))
      (pss_one (ps_if (pt_cmpR op_gt (pv 5) pe_int (nomark _))
      (pss_one (ps_expr (kpe_bm K PySem.F.plainAttrs_list PySem.F.slot_list_append PySem.F.type_list_append mt_append (pe_dsetd (pv 1) (pv 4) (pe_lst pa_nil) ⟨rfl, rfl, rfl, rfl⟩) (pa_cons (pe_tup (pa_cons (pv 6) (pa_cons (pv 3) (pa_cons (pv 5) pa_nil)))) pa_nil))))
      pss_nil)))
    (pss_one (ps_ret (pv 1)))))), ?_⟩
    have hbg : 16000000 < sizeLine := by decide
    have hll := hh.len
    intro d hd
    have s0 := same_upd (o := .dK []) hd
    refine ⟨_, rfl, a, _, rfl, sqT (s0 _ _ ha), ?_⟩
    refine fun D hD => lc_relB walk_enumT (xs := List.range lar.length) (by rw [List.length_range]; omega) (f := fun k => some k) (R := Bat4At lar) (Bat4At.mono lar) hD
      (fun H' s => (s0.trans s).seqT (sqT ha)) (by omega) (fun i v x H1 H2 Ky Kn hx sm hy h1 h2 => ?_) (fun H1 ys s1 hD' hys => ?_)
    · obtain ⟨rfl, hi⟩ := range_ix hx
      obtain ⟨T, y, z, rfl, hT, rfl, ey, ez⟩ := hy
      cases ey
      have hb := List.getElem?_eq_getElem hi
      have eb : lar.getD x bz = lar[x] := by rw [List.getD_eq_getElem?_getD, hb]; rfl
      obtain ⟨t, rfl, ht⟩ := hh.all x _ _ ez hb
      have st := same_upd (o := .tup [V.int (0 + (x : Nat)), V.ref t]) hT
      refine ⟨T, _, rfl, sqT upd_same, rfl, _, _, rfl, _, _, rfl, t, _, rfl, sqT (st _ _ (sm _ _ (s0 _ _ ht))), rfl, _, _, rfl, _, _, rfl, _, _, rfl, rfl, rfl, rfl, ?_⟩
      walk_at "rd"
      refine ⟨small (by show 4 ≤ 100000; decide), fun u hu => ?_⟩
      refine h1 _ _ _ rfl (st.new hu) ⟨u, rfl, ?_⟩
      rw [upd_same]
      have e0 : (0 : Int) + (x : Nat) = (x : Nat) := by omega
      show _ = some (HO.tup [V.int (lar.getD x bz).last, V.int (x : Nat), V.str (lar.getD x bz).name, V.int (lar.getD x bz).amount])
      rw [e0, eb]
    rw [fm_some, List.map_id'] at hys
    have s01 := s0.trans s1
    refine ⟨_, rfl, rfl, D, ys, List.range lar.length, rfl, sqL hD', hys, by rw [List.length_range]; omega, fun po us hpo hus => ?_⟩
    replace hus : Held (Bat4At lar) H1 us (descL lar) := hus
    have s2 := same_upd (o := .lst us) hpo
    have hul := hus.len
    rw [desc_len] at hul
    refine ⟨po, rfl, ⟨_, sqL upd_same⟩, ?_⟩
    have hdpo : d ≠ po := fun z => by
      have h1 := s1 d _ upd_same
      rw [z, hpo] at h1; cases h1
    -- what stood at first, but the dict
    refine for_list (xs := us) (fun i σ H' => ∃ (y3 y4 y5 y6 : Option V) (kvs : List (L2.Key × V)), σ = [some (.ref a), some (.ref d), some (.ref D), y3, y4, y5, y6] ∧ SameBut d H H' ∧ SameT H1 H' ∧ H' po = some (.lst us) ∧ (∀ l, LineOf kvs l → H l = none ∧ l ≠ po) ∧ kvs.length ≤ i ∧ Lines H' d kvs (fun nm => (lineOf lar nm ((descL lar).take i)).map (entOf lar (lar.map (·.amount)))))
      ⟨none, none, none, none, [], rfl, SameBut.of (s01.trans s2), SameT.of s2, upd_same, (fun l z => by obtain ⟨nm, e⟩ := z; cases e), Nat.zero_le _, ⟨(s1.trans s2) _ _ upd_same, fun nm _ => rfl, (fun nm v e => by cases e), (fun nm nm' l e => by cases e)⟩⟩
      (fun i σ H' _ h => by obtain ⟨_, _, _, _, _, _, _, _, h, _⟩ := h; exact sqL h) (fun i w σ H2 hw h => ?_) (fun σ H2 h => ?_)
    · obtain ⟨y3, y4, y5, y6, kvs, rfl, sb, st, hpo2, hfr, hkl, L⟩ := h
      obtain ⟨k, hk, t, rfl, ht⟩ := hus.get hw
      have hkn := (desc_mem lar k).mp (List.mem_of_getElem? hk)
      have hin : i < lar.length := by rw [← desc_len]; exact (List.getElem?_eq_some_iff.mp hk).1
      refine ⟨t, _, rfl, sqT (st _ _ ht), rfl, _, _, rfl, _, _, rfl, _, _, rfl, _, _, rfl, rfl, ?_⟩
      walk_at "rd"
      have hoth : ∀ nm, ¬ (nameK lar k = nm ∧ 0 < (lar.getD k bz).amount) → lineOf lar nm ((descL lar).take (i + 1)) = lineOf lar nm ((descL lar).take i) := fun nm hn => by
        unfold lineOf
        rw [take_succ' hk, List.filter_append]
        have : List.filter (fun k => decide (nameK lar k = nm ∧ 0 < (lar.getD k bz).amount)) [k] = [] := by rw [List.filter_cons, if_neg (by simpa using hn)]; rfl
        rw [this, List.append_nil]
      refine it_lt (fun hpos => ?_) (fun hpos => ?_)
      · have hthis : lineOf lar (nameK lar k) ((descL lar).take (i + 1)) = lineOf lar (nameK lar k) ((descL lar).take i) ++ [k] := by
          unfold lineOf
          rw [take_succ' hk, List.filter_append]
          have : List.filter (fun j => decide (nameK lar j = nameK lar k ∧ 0 < (lar.getD j bz).amount)) [k] = [k] := by rw [List.filter_cons, if_pos (by simpa using hpos)]; rfl
          rw [this]
        refine ⟨_, rfl, d, rfl, .inl ⟨kvs, .inl L.dict⟩, _, rfl, Nat.zero_le _, fun l0 hl0 => ?_⟩
        have s3 := same_upd (o := .lst []) hl0
        have L3 := L.keep s3
        have hl0d : l0 ≠ d := fun z => by rw [z, L.dict] at hl0; cases hl0
        have hl0po : l0 ≠ po := fun z => by rw [z, hpo2] at hl0; cases hl0
        have hl0H : H l0 = none := by
          cases e : H l0 with
          | none => rfl
          | some x => rw [sb l0 x hl0d e] at hl0; cases hl0
        -- the tuple, put behind the line at l
        have fin : ∀ (H4 : Hp) (kvs4 : List (L2.Key × V)) (l : Addr) (ws : List V), SameBut d H H4 → SameT H1 H4 → H4 po = some (.lst us) → (∀ l, LineOf kvs4 l → H l = none ∧ l ≠ po) → kvs4.length ≤ i + 1 → valV kvs4 (kS (nameK lar k)) = some (.ref l) →
            Lines H4 d kvs4 (fun nm => (lineOf lar nm ((descL lar).take i)).map (entOf lar (lar.map (·.amount)))) →
            (tyV K "list" (.ref l) H4 ∧ tCons (tVar 6) (tCons (tVar 3) (tCons (tVar 5) tNil)) [some (.ref a), some (.ref d), some (.ref D), some (.int (k : Nat)), some (.str (nameK lar k)), some (.int (lar.getD k bz).amount), some (.int (lastK lar k))] H4 fun vs H5 => vs.length ≤ sizeLine ∧ ∀ u, H5 u = none → rAppend (.ref l) [.ref u] (upd H5 u (.tup vs)) fun _ H6 => ∃ (y3 y4 y5 y6 : Option V) (kvs : List (L2.Key × V)), [some (V.ref a), some (V.ref d), some (V.ref D), some (V.int (k : Nat)), some (V.str (nameK lar k)), some (V.int (lar.getD k bz).amount), some (V.int (lastK lar k))] = [some (.ref a), some (.ref d), some (.ref D), y3, y4, y5, y6] ∧ SameBut d H H6 ∧ SameT H1 H6 ∧ H6 po = some (.lst us) ∧ (∀ l, LineOf kvs l → H l = none ∧ l ≠ po) ∧ kvs.length ≤ i + 1 ∧ Lines H6 d kvs (fun nm => (lineOf lar nm ((descL lar).take (i + 1))).map (entOf lar (lar.map (·.amount))))) := fun H4 kvs4 l ws sb4 st4 hpo4 hfr4 hkl4 hv4 L4 => by
          obtain ⟨l', ws4, e, hl4, hw4⟩ := L4.lin _ _ hv4
          cases e
          refine ⟨.inl ⟨rfl, _, sqL hl4⟩, ?_⟩
          refine ⟨_, rfl, _, rfl, _, rfl, small (by show 3 ≤ 100000; decide), fun u hu => ?_⟩
          have s5 := same_upd (o := .tup [V.int (lastK lar k), V.int (k : Nat), V.int (lar.getD k bz).amount]) hu
          have hl5 := s5 _ _ hl4
          have hwl := hw4.len
          have hlo : (lineOf lar (nameK lar k) ((descL lar).take i)).length ≤ i := by
            have := List.length_filter_le (fun j => decide (nameK lar j = nameK lar k ∧ 0 < (lar.getD j bz).amount)) ((descL lar).take i)
            rw [List.length_take] at this
            unfold lineOf
            omega
          rw [List.length_map] at hwl
          refine ⟨l, _, _, rfl, rfl, hl5, by omega, ?_⟩
          have hul : u ≠ l := fun z => by rw [z, hl4] at hu; cases hu
          have stl := SameT.lst (o := .lst (ws4 ++ [V.ref u])) hl5
          have hld : l ≠ d := fun z => by rw [z, L4.dict] at hl4; cases hl4
          refine ⟨_, _, _, _, kvs4, rfl, ?_, (st4.trans (SameT.of s5)).trans stl, ?_, hfr4, hkl4, ?_⟩
          · intro b x hb e
            have hbl : b ≠ l := fun z => by rw [z, (hfr4 l ⟨_, hv4⟩).1] at e; cases e
            rw [upd_ne hbl]
            exact s5 _ _ (sb4 b x hb e)
          · rw [upd_ne (Ne.symm (hfr4 l ⟨_, hv4⟩).2)]
            exact s5 _ _ hpo4
          · refine (L4.keep s5).put hv4 hl5 ((SameBut.refl l _).put) upd_same ?_ (fun nm' ne => ?_)
            · rw [hthis, List.map_append]
              refine ((hw4.mono EntAt.mono ((SameT.of s5).trans stl))).snoc ⟨u, rfl, ?_⟩
              rw [upd_ne hul, upd_same]
              show _ = some (HO.tup [V.int (lastK lar k), V.int (k : Nat), V.int ((lar.map (·.amount)).getD k 0)])
              rw [amt_at lar hkn]
            · rw [hoth nm' (fun z => ne z.1.symm)]
        refine ⟨kvs, kS (nameK lar k), s3 _ _ L.dict, rfl, by omega, fun v hv => ?_, fun hv => ?_⟩
        · obtain ⟨l, ws, rfl, _, _⟩ := L3.lin _ v hv
          exact fin _ kvs l ws (fun b x hb e => s3 _ _ (sb b x hb e)) (st.trans (SameT.of s3)) (s3 _ _ hpo2) hfr (by omega) hv L3
        · have hn4 : ∀ nm' l', valV kvs (kS nm') = some (.ref l') → l' ≠ l0 := fun nm' l' e z => by
            obtain ⟨vs, e2⟩ := L.line ⟨nm', e⟩
            rw [z, hl0] at e2; cases e2
          have L4 := L3.new hv hn4 hl0d upd_same (by rw [L.nol _ hv]; exact Held.nil)
          refine fin _ (putK kvs (kS (nameK lar k)) (.ref l0)) l0 [] ?_ ((st.trans (SameT.of s3)).trans (SameT.dict L3.dict)) ?_ ?_ ?_ ?_ L4
          · intro b x hb e
            rw [upd_ne hb]
            exact s3 _ _ (sb b x hb e)
          · rw [upd_ne (Ne.symm hdpo)]
            exact s3 _ _ hpo2
          · intro l z
            obtain ⟨nm', e⟩ := z
            rw [valV_put] at e
            split at e
            · cases e; exact ⟨hl0H, hl0po⟩
            · exact hfr l ⟨nm', e⟩
          · exact Nat.le_trans (DSub.putK_len _ _ _) (by omega)
          · rw [valV_put, if_pos rfl]
      · refine ⟨_, _, _, _, kvs, rfl, sb, st, hpo2, hfr, by omega, L.ofEq fun nm => ?_⟩
        rw [hoth nm (fun z => hpos z.2)]
    · obtain ⟨y3, y4, y5, y6, kvs, rfl, sb, st, hpo2, hfr, hkl, L⟩ := h
      rw [hul, ← desc_len, List.take_length] at L
      refine ⟨_, rfl, q d kvs H2 (fun nm => (lineOf lar nm (descL lar)).reverse) (fun b x e => sb b x (ne_of_none e hd) e) hd (fun l z => (hfr l z).1) ⟨L.ofEq fun nm => by rw [List.reverse_reverse], fun nm => stack0 lar nm 1⟩⟩
abbrev s_cooked : Stmt := topS 5
theorem sc_cooked : FnScope ["dishes", "larder", "lines", "uses", "order", "at", "day", "needs", "_"] ["dishes", "larder"] (defScope s_cooked) := ⟨rfl, rfl, rfl, by decide +kernel, rfl, by decide +kernel, by decide +kernel⟩
theorem bd_cooked : ∀ (kV doc pm : Value) (an : Option Addr) (cdv ct : Value) (us : List Value), us.length = (["dishes", "larder"] : List Str).length → bindArgs (PySem.W.fnOf "cooked" "cooked" (defArgs s_cooked) (defBody s_cooked) (defScope s_cooked) .none kV doc pm an cdv ct) ⟨us, []⟩ = pure ((["dishes", "larder"] : List Str).zip us) := fun _ _ _ _ _ _ us hl => match us, hl with | [_, _], _ => rfl
def DayAt (ds : List Dish) (H : Hp) (v : V) (k : Nat) : Prop := ∃ t, v = .ref t ∧ H t = some (.tup [.int (dayK ds k), .int (k : Nat)])
theorem DayAt.mono (ds : List Dish) : MonoT (DayAt ds) := fun _ _ _ _ e ⟨t, h1, h2⟩ => ⟨t, h1, e _ _ h2⟩
theorem day_alike (ds : List Dish) (x y : Nat) : PySem.W.alike (dayD ds x) (dayD ds y) = true := by
  unfold dayD
  simp [PySem.W.alike, PySem.W.alikeAll]
theorem day_tup (ds : List Dish) (x : Nat) : ∃ z r, dayD ds x = .tuple (z :: r) := ⟨_, _, rfl⟩
theorem day_deep (ds : List Dish) (x : Nat) : (dayD ds x).depth ≤ 4 := by
  unfold dayD
  simp [PyData.depth, PyData.depthAll]
theorem day_dp {K : PySem.W.Frag} (ds : List Dish) (H : Hp) (v : V) (x : Nat) (h : DayAt ds H v x) : Dp K H v (dayD ds x) := by
  obtain ⟨t, rfl, ht⟩ := h
  exact .tup (sqT ht) (.cons (.int _) (.cons (.int _) .nil))
theorem ok_cooked {P : Program} {w : World} {K : PySem.W.Frag} {mg : Str → Option Value} {base : Heap} {S : Addr} (D : DefAt K mg "cooked" s_cooked) (m_enumerate : mg "enumerate" = none) (m_len : mg "len" = none) (m_sorted : mg "sorted" = none) (m_tuple : mg "tuple" = none) (C_lines_of : Clb P w K mg base 1 "lines_of" ["larder"] spLinesOf) (C_used_by : ClbX P w K mg base 4 "used_by" ["dish", "lines"] (spUsedBy S)) : ClbX P w K mg base 5 "cooked" ["dishes", "larder"] (spCooked S) := by
  refine D.clbX sc_cooked (fun vs H Q E h => ?_) bd_cooked (fun f cdv A outer s H vs Q E hr h => ?_)
  · obtain ⟨u, v, ds, lar, rfl, _⟩ := h
    rfl
  · obtain ⟨u, v, ds, lar, rfl, ⟨da, dus, rfl, hda, hdh⟩, hlar, hdl, hd, hbig, hbat, q⟩ := h
    have encA := day_alike ds
    have encS := day_tup ds
    have encD := day_deep ds
    have encT := day_dp (K := K) ds
    refine ⟨_, (pss_cons (ps_set (i := 2) sc_cooked.nd rfl (.inl rfl) (pe_cal C_lines_of (hr.mono (by decide)) (pa_cons (pv 1) pa_nil)))
    (pss_cons (ps_set (i := 3) sc_cooked.nd rfl (.inl rfl) (pe_op op_rep (pe_lst (pa_cons (pe_tup pa_nil) pa_nil)) (pe_callB (kcall_len_seq K) (by rfl) m_len (by decide +kernel) (pa_cons (pv 0) pa_nil))))
    (pss_cons (ps_set (i := 4) sc_cooked.nd rfl (.inl rfl) (pe_callB (kcr_sortD K hr.units encA encS encD encT) (by rfl) m_sorted (by decide +kernel) (pa_cons (pe_lc (own := [("at", 5), ("day", 6), ("needs", 7)]) rfl sc_cooked.nd (kpi_enumT K (by rfl) m_enumerate (pa_cons (pv 0) pa_nil)) (blkOk_by (own := [("at", 5), ("day", 6), ("needs", 7)]) (N := ["dishes", "larder", "lines", "uses", "order", "at", "day", "needs", "_"]) (sc := defScope s_cooked) (by decide +kernel)) (fun _ _ _ _ _ => (kpg_tup K (n := 2) rfl (pgs_cons (pg_name (i := 5) sc_cooked.nd rfl (.inl rfl)) (pgs_cons (kpg_tup K (n := 2) rfl (pgs_cons (pg_name (i := 6) sc_cooked.nd rfl (.inl rfl)) (pgs_cons (pg_name (i := 7) sc_cooked.nd rfl (.inl rfl)) pgs_nil))) pgs_nil)))) (fun _ _ _ _ _ => pts_nil) (fun _ _ _ _ _ => (pe_tup (pa_cons (pv 6) (pa_cons (pv 5) pa_nil))))) pa_nil)))
    (pss_cons (ps_for (passes_of rfl) rfl (kpi_list K (pv 4)) (kpg_tup K (n := 2) rfl (pgs_cons (pg_name (i := 8) sc_cooked.nd rfl (.inl rfl)) (pgs_cons (pg_name (i := 5) sc_cooked.nd rfl (.inl rfl)) pgs_nil)))
      (pss_one (ps_asg (pe_calS C_used_by (hr.mono (by decide)) (takes_of rfl rfl rfl rfl) (pa_cons (pe_ix (kix_tup K) (pv 0) (pv 5) (fun _ _ => rfl)) (pa_cons (pv 2) pa_nil))) (pg_sub (pv 3) (pv 5) set_list))))
    (pss_one (ps_ret (pe_callTy (kcall_tuple_of K) (by rfl) m_tuple (by decide +kernel) (pa_cons (pv 3) pa_nil)))))))), ?_⟩
    have hbg : 16000000 < sizeLine := by decide
    have hdul := hdh.len
    have hd7 : ∀ d ∈ ds, 1 ≤ d.1 ∧ d.1 ≤ 7 := fun d h => ⟨(hd d h).2.1, (hd d h).2.2.1⟩
    have dsAt : ∀ k, k < ds.length → ds.getD k dz ∈ ds ∧ ds[k]? = some (ds.getD k dz) := fun k hk => by
      have e := List.getElem?_eq_getElem hk
      have e1 : ds.getD k dz = ds[k] := by rw [List.getD_eq_getElem?_getD, e]; rfl
      exact ⟨by rw [e1]; exact List.getElem_mem hk, by rw [e1]; exact e⟩
    refine ⟨_, rfl, v, lar, rfl, hlar, hbig, fun d kvs H1 Ks s1 hdn hfr hS => ?_⟩
    refine ⟨Nat.zero_le _, fun e he => ?_⟩
    have s2 := same_upd (o := .tup []) he
    refine ⟨small (by show 1 ≤ 100000; decide), fun r1 hr1 => ?_⟩
    have s3 := s2.new (o := .lst [V.ref e]) hr1
    refine ⟨_, rfl, da, dus, rfl, .inr (sqT ((s1.trans s3) _ _ hda)), ?_⟩
    refine ⟨r1, dus.length, _, rfl, rfl, upd_same, by omega, by omega, small (by show 1 * ((dus.length : Int)).toNat ≤ 100000; omega), fun pu hpu => ?_⟩
    have er : (List.replicate ((dus.length : Int)).toNat [V.ref e]).flatten = List.replicate ds.length (V.ref e) := by
      rw [show ((dus.length : Int)).toNat = ds.length by omega]
      generalize ds.length = n
      induction n with
      | zero => rfl
      | succ n ih => rw [List.replicate_succ, List.flatten_cons, ih, List.replicate_succ]; rfl
    rw [er]
    have s4 := s3.new (o := .lst (List.replicate ds.length (V.ref e))) hpu
    have hpu1 := same_none s3 hpu
    have he4 : (upd (upd (upd H1 e (.tup [])) r1 (.lst [V.ref e])) pu (.lst (List.replicate ds.length (V.ref e)))) e = some (.tup []) := by
      have h1 := same_upd (o := .lst [V.ref e]) hr1 e _ upd_same
      exact same_upd (o := .lst (List.replicate ds.length (V.ref e))) hpu e _ h1
    have hS4 := hS.keep s4
    have hpu4 : (upd (upd (upd H1 e (.tup [])) r1 (.lst [V.ref e])) pu (.lst (List.replicate ds.length (V.ref e)))) pu = some (.lst (List.replicate ds.length (V.ref e))) := upd_same
    have s14 := s1.trans s4
    have npu : ¬ LineOf kvs pu := fun z => by obtain ⟨vs, e⟩ := hS.lines.line z; rw [hpu1] at e; cases e
    generalize hH4 : upd (upd (upd H1 e (.tup [])) r1 (.lst [V.ref e])) pu (.lst (List.replicate ds.length (V.ref e))) = H4 at *
    refine ⟨_, rfl, da, _, rfl, sqT (s14 _ _ hda), ?_⟩
    refine fun Dl hDl => lc_rel walk_enumT (xs := List.range ds.length) (by rw [List.length_range]; omega) (f := fun k => some k) (R := DayAt ds) (DayAt.mono ds) hDl
      (fun H' s => (s14.trans s).seqT (sqT hda)) (by omega) (fun i w x H5 H6 Ky Kn hx sm hy h1 h2 => ?_) (fun H5 ys s5 hD' hys => ?_)
    · obtain ⟨rfl, hi⟩ := range_ix hx
      obtain ⟨T, y, z, rfl, hT, rfl, ey, ez⟩ := hy
      cases ey
      obtain ⟨_, hdx⟩ := dsAt x hi
      obtain ⟨t, nu, rfl, ht, _⟩ := hdh.all x _ _ ez hdx
      have st := same_upd (o := .tup [V.int (0 + (x : Nat)), V.ref t]) hT
      refine ⟨T, _, rfl, sqT upd_same, rfl, _, _, rfl, _, _, rfl, t, _, rfl, sqT (st _ _ (sm _ _ (s14 _ _ ht))), rfl, _, _, rfl, _, _, rfl, rfl, rfl, rfl, ?_⟩
      walk_at "rd"
      refine ⟨small (by show 2 ≤ 100000; decide), fun u2 hu2 => ?_⟩
      refine h1 _ _ _ rfl (st.new hu2) ⟨u2, rfl, ?_⟩
      rw [upd_same]
      have e0 : (0 : Int) + (x : Nat) = (x : Nat) := by omega
      rw [e0]
    rw [fm_some, List.map_id'] at hys
    refine ⟨Dl, ys, List.range ds.length, rfl, sqL hD', hys, by rw [List.length_range]; omega, fun po us hpo hus => ?_⟩
    replace hus : Held (DayAt ds) H5 us (orderL ds) := hus
    have hul := hus.len
    have s6 := s5.trans (same_upd (o := .lst us) hpo)
    have hS6 := hS4.keep s6
    have s16 := s14.trans s6
    have npo : ¬ LineOf kvs po := fun z => by obtain ⟨vs, e⟩ := (hS4.keep s5).lines.line z; rw [hpo] at e; cases e
    have nepo : pu ≠ po := fun z => by have := s5 _ _ hpu4; rw [z, hpo] at this; cases this
    have hpo6 : (upd H5 po (.lst us)) po = some (.lst us) := upd_same
    have hus6 : Held (DayAt ds) (upd H5 po (.lst us)) us (orderL ds) := hus.mono (DayAt.mono ds) (SameT.new hpo)
    generalize hH6 : upd H5 po (.lst us) = H6 at *
    have hpuH : H pu = none := same_none s1 hpu1
    have hnod : (orderL ds).Nodup := (List.mergeSort_perm _ _ : (orderL ds).Perm (List.range ds.length)).nodup_iff.mpr List.nodup_range
    refine ⟨_, rfl, po, rfl, ⟨_, sqL hpo6⟩, ?_⟩
    refine for_list (xs := us) (fun i σ H' => ∃ (y5 y6 y7 y8 : Option V) (s : CkS) (uvs : List V) (Ks : Str → List Nat) (day : Int), σ = [some (.ref da), some v, some (.ref d), some (.ref pu), some (.ref po), y5, y6, y7, y8] ∧ SameOff kvs (upd H6 pu (.lst [])) (upd H' pu (.lst [])) ∧ H' pu = some (.lst uvs) ∧ Held PairsAt H' uvs s.1 ∧ s.1.length = ds.length ∧
        Stacks H' d kvs lar s.2 day Ks ∧ s.2.length = lar.length ∧ foldE (useF lar ds) ((orderL ds).take i) (List.replicate ds.length [], lar.map (·.amount)) = Except.ok s ∧ (∀ k, k ∉ (orderL ds).take i → s.1.getD k [] = []) ∧ (∀ (j : Nat) (k : Nat), i ≤ j → (orderL ds)[j]? = some k → day ≤ dayK ds k) ∧ ∀ ps ∈ s.1, ps.length ≤ 4000)
      ⟨none, none, none, none, (List.replicate ds.length [], lar.map (·.amount)), List.replicate ds.length (V.ref e), Ks, 1, rfl, SameOff.refl _ _, s6 _ _ hpu4, ⟨by rw [List.length_replicate, List.length_replicate], fun j w x hw hx => ?_⟩, List.length_replicate, hS6, by rw [List.length_map], rfl, fun k _ => ?_, fun j k _ hk => ?_, fun ps hps => ?_⟩
      (fun i σ H' _ h => ?_) (fun i w σ H7 hw h => ?_) (fun σ H7 h => ?_)
    · rw [List.getElem?_replicate] at hw hx
      split at hw
      · rename_i hj
        rw [if_pos hj] at hx
        cases hw
        cases hx
        exact ⟨e, [], rfl, s6 _ _ he4, Held.nil⟩
      · cases hw
    · rw [List.getD_eq_getElem?_getD, List.getElem?_replicate]; split <;> rfl
    · have hk' := (order_mem ds k).mp (List.mem_of_getElem? hk)
      exact (hd7 _ (dsAt k hk').1).1
    · rw [(List.mem_replicate.mp hps).2]; exact Nat.zero_le _
    · obtain ⟨_, _, _, _, _, _, _, _, _, so, _⟩ := h
      have := so po _ npo (by rw [upd_ne (Ne.symm nepo)]; exact hpo6)
      rw [upd_ne (Ne.symm nepo)] at this
      exact sqL this
    · obtain ⟨y5, y6, y7, y8, s, uvs, Ks7, day, rfl, so, hpu7, huv, hsl, hS7, hl7, hfold, hemp, hday, hfew⟩ := h
      obtain ⟨k, hk, t, rfl, ht⟩ := hus6.get hw
      have hkn := (order_mem ds k).mp (List.mem_of_getElem? hk)
      obtain ⟨hkm, hkx⟩ := dsAt k hkn
      have hdk := hd _ hkm
      have huvl := huv.len
      -- tuples stand
      have stl : SameT H6 H7 := fun b xs hb => by
        have hbp : b ≠ pu := fun z => by have := s6 _ _ hpu4; rw [z, this] at hb; cases hb
        have h1 : ¬ LineOf kvs b := fun z => by obtain ⟨vs, e⟩ := hS6.lines.line z; rw [hb] at e; cases e
        have := so b _ h1 (by rw [upd_ne hbp]; exact hb)
        rwa [upd_ne hbp] at this
      refine ⟨t, _, rfl, sqT (stl _ _ ht), rfl, _, _, rfl, _, _, rfl, rfl, ?_⟩
      have hdt := List.getElem?_eq_getElem (show k < dus.length by omega)
      obtain ⟨dt, nv, hde, hdt1, hnv⟩ := hdh.all k _ _ hdt hkx
      rw [hde] at hdt
      refine ⟨_, rfl, _, rfl, da, _, _, _, rfl, rfl, sqT (stl _ _ (s16 _ _ hda)), at_of (j := k) rfl hdt, ?_⟩
      refine ⟨_, rfl, ?_⟩
      have hdd : day ≤ dayK ds k := hday i k (Nat.le_refl _) hk
      have hnk : k ∉ (orderL ds).take i := fun z => by
        obtain ⟨j, hj, e2⟩ := List.getElem_of_mem z
        rw [List.length_take] at hj
        rw [List.getElem_take] at e2
        obtain ⟨hi2, e3⟩ := List.getElem?_eq_some_iff.mp hk
        have := nodup_at hnod j i (by omega) hi2 (e2.trans e3.symm)
        omega
      have hek := hemp k hnk
      have hdish : DishAt H7 (.ref dt) (ds.getD k dz) := ⟨dt, nv, rfl, stl _ _ (s16 _ _ hdt1), TupAll.mono NeedAt.mono _ _ _ _ ((SameT.of s16).trans stl) hnv⟩
      refine ⟨.ref dt, d, kvs, ds.getD k dz, lar, s.2, Ks7, rfl, hdish, hS7.later hdd, hl7, hbig, hdk.1, hdk.2.2.2, fun H8 so8 => ⟨fun nm dd hfe hdd8 hx8 => ?_, fun ps left' v' Ks8 hfe hv8 hS8 hps => ?_⟩⟩
      · -- refused
        have hue : useF lar ds k s = Except.error nm := by
          unfold useF
          rw [hek, hfe]; rfl
        have hck : cookedM ds lar = Except.error nm := by
          unfold cookedM
          rw [cook_order hd7, foldE_err hfold hk hue]; rfl
        have sH8 : Same H H8 := fun b x hb => by
          have hbp : b ≠ pu := fun z => by rw [z, hpuH] at hb; cases hb
          have hbl : ¬ LineOf kvs b := fun z => by rw [hfr b z] at hb; cases hb
          have h1 := so b _ hbl (by rw [upd_ne hbp]; exact s16 _ _ hb)
          rw [upd_ne hbp] at h1
          exact so8 b x hbl h1
        refine (q H8 sH8).1 nm dd hck ?_ hx8
        cases e2 : H dd with
        | none => rfl
        | some x =>
          have hbp : dd ≠ pu := fun z => by rw [z, hpuH] at e2; cases e2
          have hbl : ¬ LineOf kvs dd := fun z => by rw [hfr dd z] at e2; cases e2
          have h1 := so dd _ hbl (by rw [upd_ne hbp]; exact s16 _ _ e2)
          rw [upd_ne hbp, hdd8] at h1
          cases h1
      · have hpu8 := so8 pu _ npu hpu7
        have st8 : SameT H7 H8 := hS7.lines.tup so8
        walk_at "rd"
        refine ⟨pu, _, _, k, rfl, rfl, hpu8, ixN_of rfl (by rw [huvl, hsl]; exact hkn), ?_⟩
        have stu := SameT.lst (o := .lst (uvs.set k v')) hpu8
        have hue : useF lar ds k s = Except.ok (s.1.set k ps, left') := by
          unfold useF
          rw [hek, hfe]; rfl
        have npd : d ≠ pu := fun z => by have := hS7.lines.dict; rw [z, hpu7] at this; cases this
        have hS9 : Stacks (upd H8 pu (.lst (uvs.set k v'))) d kvs lar left' (dayK ds k) Ks8 := by
          refine ⟨⟨by rw [upd_ne npd]; exact hS8.lines.dict, hS8.lines.nol, fun nm x h => ?_, hS8.lines.inj⟩, hS8.stack⟩
          obtain ⟨l', vs', e1, e2, e3⟩ := hS8.lines.lin nm x h
          subst e1
          refine ⟨l', vs', rfl, ?_, e3.mono EntAt.mono stu⟩
          rw [upd_ne (fun z => npu ⟨nm, by rw [← z]; exact h⟩)]
          exact e2
        have hl' : left'.length = lar.length := by
          have e2 := hS8
          exact (foldN_len _ _ _ hfe).trans hl7
        refine ⟨_, _, _, _, (s.1.set k ps, left'), uvs.set k v', Ks8, dayK ds k, rfl, ?_, upd_same, ?_, by rw [List.length_set]; exact hsl, hS9, hl', foldE_take hfold hk hue, fun j hj => ?_, fun j k2 hij hk2 => ?_, fun qs hqs => ?_⟩
        · intro b x nb hb
          by_cases z : b = pu
          · subst z
            rw [upd_same] at hb ⊢
            exact hb
          · rw [upd_ne z] at hb ⊢
            rw [upd_ne z]
            have h1 := so b x nb (by rw [upd_ne z]; exact hb)
            rw [upd_ne z] at h1
            exact so8 b x nb h1
        · exact ((huv.mono PairsAt.mono (st8.trans stu))).set (PairsAt.mono _ _ _ _ stu hv8)
        · rw [take_succ' hk] at hj
          have hj1 : j ∉ (orderL ds).take i := fun z => hj (List.mem_append_left _ z)
          have hj2 : j ≠ k := fun z => hj (List.mem_append_right _ (by rw [z]; exact List.mem_singleton.mpr rfl))
          show (s.1.set k ps).getD j [] = []
          rw [List.getD_eq_getElem?_getD, List.getElem?_set_ne (Ne.symm hj2), ← List.getD_eq_getElem?_getD]
          exact hemp j hj1
        · have hp2 := order_pair ds
          obtain ⟨i1, e1⟩ := List.getElem?_eq_some_iff.mp hk
          obtain ⟨j1, e3⟩ := List.getElem?_eq_some_iff.mp hk2
          have := List.pairwise_iff_getElem.mp hp2 i j i1 j1 (by omega)
          rw [e1, e3] at this
          unfold Ahead at this
          omega
        · replace hqs : qs ∈ s.1.set k ps := hqs
          rcases List.mem_or_eq_of_mem_set hqs with z | z
          · exact hfew qs z
          · rw [z]; exact hps
    · obtain ⟨y5, y6, y7, y8, s, uvs, Ks7, day, rfl, so, hpu7, huv, hsl, hS7, hl7, hfold, hemp, hday, hfew⟩ := h
      rw [hul, List.take_length] at hfold
      have hck : cookedM ds lar = Except.ok s.1 := by
        unfold cookedM
        rw [cook_order hd7, hfold]; rfl
      refine ⟨_, rfl, pu, _, rfl, .inl ⟨sqL hpu7, fun u2 hu2 => ?_⟩⟩
      have s9 := same_upd (o := .tup uvs) hu2
      have sH9 : Same H (upd H7 u2 (.tup uvs)) := fun b x hb => by
        have hbp : b ≠ pu := fun z => by rw [z, hpuH] at hb; cases hb
        have hbl : ¬ LineOf kvs b := fun z => by rw [hfr b z] at hb; cases hb
        have h1 := so b _ hbl (by rw [upd_ne hbp]; exact s16 _ _ hb)
        rw [upd_ne hbp] at h1
        exact s9 _ _ h1
      exact (q _ sH9).2 s.1 _ hck ⟨u2, uvs, rfl, upd_same, huv.mono PairsAt.mono (SameT.of s9)⟩ hsl (fun ps hps => by have := hfew ps hps; omega)
abbrev s_cooks : Stmt := topS 34
theorem sc_cooks : FnScope ["_law_dishes_here", "_law_larder_here", "e"] ["_law_dishes_here", "_law_larder_here"] (defScope s_cooks) := ⟨rfl, rfl, rfl, by decide +kernel, rfl, by decide +kernel, by decide +kernel⟩
theorem bd_cooks : ∀ (kV doc pm : Value) (an : Option Addr) (cdv ct : Value) (us : List Value), us.length = (["_law_dishes_here", "_law_larder_here"] : List Str).length → bindArgs (PySem.W.fnOf "_law_cooks" "_law_cooks" (defArgs s_cooks) (defBody s_cooks) (defScope s_cooks) .none kV doc pm an cdv ct) ⟨us, []⟩ = pure ((["_law_dishes_here", "_law_larder_here"] : List Str).zip us) := fun _ _ _ _ _ _ us hl => match us, hl with | [_, _], _ => rfl
/-- dishes and a larder as the program may be handed them -/
def FineW (ds : List Dish) (lar : List Batch) : Prop := ds.length ≤ 1000 ∧ (∀ d ∈ ds, d.2.length ≤ 20 ∧ 1 ≤ d.1 ∧ d.1 ≤ 7 ∧ ∀ x ∈ d.2, 1 ≤ x.2 ∧ x.2 ≤ 200) ∧ lar.length ≤ 16000000 ∧ (∀ b ∈ lar, 1 ≤ b.amount ∧ b.amount ≤ 200 ∧ 1 ≤ b.last)
def spCooks : Sp := fun vs H Q _ => ∃ (u v : V) (ds : List Dish) (lar : List Batch), vs = [u, v] ∧ DishesAt H u ds ∧ LarderAt H v lar ∧ FineW ds lar ∧
  ∀ H', Same H H' → (∀ nm p, cookedM ds lar = Except.error nm → H' p = some (.lst [.str nm]) → Q (.ref p) H') ∧
    (∀ us v', cookedM ds lar = Except.ok us → UsesAt H' v' us → us.length = ds.length → (∀ ps ∈ us, ps.length ≤ 100000) → Q v' H')
theorem ok_cooks {P : Program} {w : World} {K : PySem.W.Frag} {mg : Str → Option Value} {base : Heap} {L S T : Addr} (D : DefAt K mg "_law_cooks" s_cooks) (ER : ErrAt K mg L S T) (m_isinstance : mg "isinstance" = none) (m_ValueError : mg "ValueError" = none) (C_cooked : ClbX P w K mg base 5 "cooked" ["dishes", "larder"] (spCooked S)) : Clb P w K mg base 6 "_law_cooks" ["_law_dishes_here", "_law_larder_here"] spCooks := by
  refine D.clb sc_cooks (fun vs H Q E h => ?_) bd_cooks (fun f cdv A outer s H vs Q E hr h => ?_)
  · obtain ⟨u, v, ds, lar, rfl, _⟩ := h
    rfl
  · obtain ⟨u, v, ds, lar, rfl, hds, hlar, ⟨f1, f2, f3, f4⟩, q⟩ := h
    refine ⟨_, (pss_one (ps_try_as (i := 2) (Wout := fun _ _ _ _ => False) rfl rfl sc_cooks.nd rfl rfl ⟨rfl, by decide, .inl ER.gL⟩ takes0
      (fun W pn xe tk _ => (pss_one (ps_ret (pe_calS C_cooked (hr.mono (by decide)) tk (pa_cons (pv 0) (pa_cons (pv 1) pa_nil))))))
      (fun a oe cls d pn hz hf => (pss_cons (ps_if (PW.pt (pw_or (pt_val (pe_callB (call_isED ER.eS hz hf) (by rfl) m_isinstance (by decide +kernel) (pa_cons (pv 2) (pa_cons (pe_glob (v := .ref T) (by rfl) ER.gT rfl) pa_nil)))) (pw_or (pt_not (pt_val (pe_callB (call_isED ER.eS hz hf) (by rfl) m_isinstance (by decide +kernel) (pa_cons (pv 2) (pa_cons (pe_glob (v := .ref S) (by rfl) ER.gS rfl) pa_nil))))) (pw_or1 (pt_not (pt_val (pe_callB (call_isED ER.eS hz hf) (by rfl) m_isinstance (by decide +kernel) (pa_cons (pv 2) (pa_cons (pe_bltn (v := .ty "ValueError") (u := .type "ValueError") (by rfl) m_ValueError (by decide +kernel) rfl) pa_nil)))))))))
          (pss_one (ps_ret pe_non)) pss_nil)
        (pss_one (ps_ret (pe_lst (pa_cons (pe_xf ER.xS ER.nS hz hf (pv 2)) pa_nil)))))))), ?_⟩
    refine ⟨_, rfl, _, rfl, u, v, ds, lar, rfl, hds, hlar, f1, f2, f3, f4, fun H' s1 => ⟨fun nm d hck hd hd' => ?_, fun us v' hck hus hl hfew => (q H' s1).2 us v' hck hus hl hfew⟩⟩
    refine ⟨true, ER.mS, fun _ a ha => ?_, fun z => nomatch z⟩
    have hx := hd'
    refine ⟨_, rfl, _, .ref T, false, d, [("word", .str nm)], rfl, rfl, fun u hu => hu, ER.sT, rfl, hx, ?_⟩
    refine ⟨_, rfl, iteF ?_⟩
    refine ⟨_, rfl, _, .ref S, true, d, [("word", .str nm)], rfl, rfl, fun u hu => hu, ER.sS, rfl, hx, ?_⟩
    refine ⟨_, rfl, iteF ?_⟩
    refine ⟨_, rfl, _, .type "ValueError", true, d, [("word", .str nm)], rfl, rfl, fun u hu => hu, ER.sV, rfl, hx, ?_⟩
    refine ⟨_, rfl, iteF ?_⟩
    refine ⟨_, rfl, rfl, rfl, d, [("word", .str nm)], .str nm, rfl, hx, rfl, ?_⟩
    refine ⟨small (by show 1 ≤ 100000; decide), fun p hp => ?_⟩
    exact (q _ (s1.new hp)).1 nm p hck upd_same
abbrev s_stocked : Stmt := topS 10
theorem sc_stocked : FnScope ["larder", "packs", "counts", "batches", "name", "amount", "last", "size", "price", "count"] ["larder", "packs", "counts"] (defScope s_stocked) := ⟨rfl, rfl, rfl, by decide +kernel, rfl, by decide +kernel, by decide +kernel⟩
theorem bd_stocked : ∀ (kV doc pm : Value) (an : Option Addr) (cdv ct : Value) (us : List Value), us.length = (["larder", "packs", "counts"] : List Str).length → bindArgs (PySem.W.fnOf "stocked" "stocked" (defArgs s_stocked) (defBody s_stocked) (defScope s_stocked) .none kV doc pm an cdv ct) ⟨us, []⟩ = pure ((["larder", "packs", "counts"] : List Str).zip us) := fun _ _ _ _ _ _ us hl => match us, hl with | [_, _, _], _ => rfl
theorem ok_stocked {P : Program} {w : World} {K : PySem.W.Frag} {mg : Str → Option Value} {base : Heap} (D : DefAt K mg "stocked" s_stocked) (m_zip : mg "zip" = none) (m_tuple : mg "tuple" = none) : Clb P w K mg base 1 "stocked" ["larder", "packs", "counts"] spStocked := by
  refine D.clb sc_stocked (fun vs H Q E h => ?_) bd_stocked (fun f cdv A outer s H vs Q E hr h => ?_)
  · obtain ⟨u, v, b, lar, ps, cs, rfl, _⟩ := h
    rfl
  · obtain ⟨u, v, b, lar, ps, cs, rfl, ⟨la, lus, rfl, hla, hlh⟩, ⟨pa, pus, rfl, hpa, hph⟩, hb, hl, hz, hg, hc, hbig, q⟩ := h
    refine ⟨_, (pss_cons (ps_setLc (i := 3) (own := [("name", 4), ("amount", 5), ("last", 6)])   rfl sc_stocked.nd rfl rfl (sw_true rfl rfl rfl (by decide +kernel)) (kpi_tup K (pv 0)) (blkOk_by (own := [("name", 4), ("amount", 5), ("last", 6)]) (N := ["larder", "packs", "counts", "batches", "name", "amount", "last", "size", "price", "count"]) (sc := defScope s_stocked) (by decide +kernel)) (fun _ _ _ _ _ => (kpg_tup K (n := 3) rfl (pgs_cons (pg_name (i := 4) sc_stocked.nd rfl (.inl rfl)) (pgs_cons (pg_name (i := 5) sc_stocked.nd rfl (.inl rfl)) (pgs_cons (pg_name (i := 6) sc_stocked.nd rfl (.inl rfl)) pgs_nil))))) (fun _ _ _ _ _ => pts_nil) (fun _ _ _ _ _ => (pe_tup (pa_cons (pv 4) (pa_cons (pv 5) (pa_cons (pv 6) pa_nil))))))
    (pss_cons (ps_for PassesOwn.never rfl (kpi_zipA K (by rfl) m_zip (pa_cons (pv 1) (pa_cons (pv 2) pa_nil))) (kpg_tup K (n := 2) rfl (pgs_cons (kpg_tup K (n := 4) rfl (pgs_cons (pg_name (i := 4) sc_stocked.nd rfl (.inl rfl)) (pgs_cons (pg_name (i := 7) sc_stocked.nd rfl (.inl rfl)) (pgs_cons (pg_name (i := 8) sc_stocked.nd rfl (.inl rfl)) (pgs_cons (pg_name (i := 6) sc_stocked.nd rfl (.inl rfl)) pgs_nil))))) (pgs_cons (pg_name (i := 9) sc_stocked.nd rfl (.inl rfl)) pgs_nil)))
      (pss_one (ps_expr (kpe_bm K PySem.F.plainAttrs_list PySem.F.slot_list_extend PySem.F.type_list_extend mt_extend (pv 3) (pa_cons (pe_op op_rep (pe_lst (pa_cons (pe_tup (pa_cons (pv 4) (pa_cons (pv 7) (pa_cons (pv 6) pa_nil)))) pa_nil)) (pv 9)) pa_nil)))))
    (pss_one (ps_ret (pe_callTy (kcall_tuple_of K) (by rfl) m_tuple (by decide +kernel) (pa_cons (pv 3) pa_nil)))))), ?_⟩
    have hll := hlh.len
    have hpl := hph.len
    have hbg : 16000000 ≤ sizeLine := by decide
    refine ⟨_, rfl, la, rfl, ⟨_, sqT hla⟩, ?_⟩
    refine fun D hD => lc_relB (walk_tup (xs := lus)) (xs := lar) hll.symm (f := fun b => some b) (R := BatchAt) BatchAt.mono hD (fun H' s => s.seqT (sqT hla)) (by omega) (fun i v x H1 H2 Ky Kn hx sm hy h1 h2 => ?_) (fun H1 ys s1 hD' hd => ?_)
    · obtain ⟨rfl, hv⟩ := hy
      obtain ⟨t, rfl, ht⟩ := hlh.all i v x hv hx
      refine ⟨t, _, rfl, sqT (sm _ _ ht), rfl, _, _, rfl, _, _, rfl, _, _, rfl, rfl, rfl, ?_⟩
      walk_at "rd"
      refine ⟨small (by show 3 ≤ 100000; decide), fun u hu => ?_⟩
      exact h1 _ _ _ rfl (same_upd hu) ⟨u, rfl, upd_same⟩
    rw [fm_some, List.map_id'] at hd
    have hzl : (ps.zip cs).length = pus.length := by rw [zip_len hl]; omega
    have hcl : pus.length = (cs.map V.int).length := by rw [List.length_map]; omega
    refine ⟨_, rfl, _, rfl, pa, b, pus, cs.map V.int, rfl, .inr ⟨sqT (s1 _ _ hpa), sqT (s1 _ _ hb), ?_⟩⟩
    refine RZ.for_zipT hcl (fun i σ H' => ∃ (y4 y5 y6 y7 y8 y9 : Option V) (ys : List V), σ = [some (.ref la), some (.ref pa), some (.ref b), some (.ref D), y4, y5, y6, y7, y8, y9] ∧ Same H H' ∧ H' D = some (.lst ys) ∧ Held BatchAt H' ys (lar ++ stockZ ((ps.zip cs).take i)))
      ⟨_, _, _, _, _, _, ys, rfl, s1, hD', by simpa [stockZ] using hd⟩ (fun i σ H' h => by obtain ⟨_, _, _, _, _, _, _, _, sm, _⟩ := h; exact ⟨sm.seqT (sqT hpa), sm.seqT (sqT hb)⟩) (fun i x y T σ H2 hx hy h hT => ?_) (fun σ H2 h => ?_)
    · obtain ⟨y4, y5, y6, y7, y8, y9, ys, rfl, sm, hD2, hd2⟩ := h
      have hip : i < ps.length := by rw [← hpl]; exact (List.getElem?_eq_some_iff.mp hx).1
      have hpx := List.getElem?_eq_getElem hip
      have hcx := List.getElem?_eq_getElem (show i < cs.length by omega)
      obtain ⟨t, rfl, ht⟩ := hph.all i _ _ hx hpx
      have e2 := Option.some.inj ((ix_map (f := V.int) hcx).symm.trans hy)
      subst e2
      have st := same_upd (o := .tup [V.ref t, V.int cs[i]]) hT
      have c0 := hc _ (List.getElem_mem (show i < cs.length by omega))
      have ez := zip_ix hpx hcx
      have hstk : stockZ ((ps.zip cs).take (i + 1)) = stockZ ((ps.zip cs).take i) ++ List.replicate cs[i].toNat (batchOf ps[i]) := by rw [take_succ' ez, stockZ_snoc]
      have hsz : lar.length + (stockZ ((ps.zip cs).take (i + 1))).length ≤ 16000000 := by
        have : (stockZ ((ps.zip cs).take (i + 1))).length ≤ sumC cs := stockZ_le ps cs (i + 1)
        omega
      rw [hstk, List.length_append, List.length_replicate] at hsz
      have hdl := hd2.len
      rw [List.length_append] at hdl
      refine ⟨T, _, rfl, sqT upd_same, rfl, _, _, rfl, t, _, rfl, sqT (st _ _ (sm _ _ ht)), rfl, _, _, rfl, _, _, rfl, _, _, rfl, _, _, rfl, rfl, _, _, rfl, rfl, ?_⟩
      have hD3 := st _ _ hD2
      refine ⟨_, rfl, .inl ⟨rfl, _, sqL hD3⟩, ?_⟩
      refine ⟨_, rfl, _, rfl, _, rfl, small (by show 3 ≤ 100000; decide), fun u hu => ?_⟩
      have s4 := st.new (o := .tup [V.str ps[i].name, V.int ps[i].size, V.int ps[i].last]) hu
      refine ⟨small (by show 1 ≤ 100000; decide), fun l1 hl1 => ?_⟩
      have s5 := s4.new (o := .lst [V.ref u]) hl1
      refine ⟨_, rfl, l1, cs[i], _, rfl, rfl, upd_same, by omega, by omega, by show 1 * cs[i].toNat ≤ sizeLine; omega, fun l2 hl2 => ?_⟩
      have s6 := s5.new (o := .lst (List.replicate cs[i].toNat [V.ref u]).flatten) hl2
      have er : (List.replicate cs[i].toNat [V.ref u]).flatten = List.replicate cs[i].toNat (V.ref u) := by
        generalize cs[i].toNat = n
        induction n with
        | zero => rfl
        | succ n ih => rw [List.replicate_succ, List.flatten_cons, ih, List.replicate_succ]; rfl
      rw [er] at s6 ⊢
      have hu6 : (upd (upd (upd (upd H2 T (.tup [V.ref t, V.int cs[i]])) u (.tup [V.str ps[i].name, V.int ps[i].size, V.int ps[i].last])) l1 (.lst [V.ref u])) l2 (.lst (List.replicate cs[i].toNat (V.ref u)))) u = some (.tup [V.str ps[i].name, V.int ps[i].size, V.int ps[i].last]) := by
        have h1 := same_upd (o := .lst [V.ref u]) hl1 u _ upd_same
        exact same_upd (o := .lst (List.replicate cs[i].toNat (V.ref u))) hl2 u _ h1
      have hD6 := s6 _ _ hD2
      refine ⟨D, l2, _, _, rfl, rfl, hD6, upd_same, by rw [List.length_replicate]; omega, ?_⟩
      refine ⟨_, _, _, _, _, _, _, rfl, (sm.trans s6).mut hD, upd_same, ?_⟩
      rw [hstk, ← List.append_assoc]
      have stl := SameT.lst (o := .lst (ys ++ List.replicate cs[i].toNat (V.ref u))) hD6
      refine held_app ((hd2.mono BatchAt.mono (SameT.of s6)).mono BatchAt.mono stl) ⟨by rw [List.length_replicate, List.length_replicate], fun j w x hw hx => ?_⟩
      rw [List.getElem?_replicate] at hw hx
      split at hw
      · rename_i hj
        rw [if_pos hj] at hx
        cases hw
        cases hx
        exact ⟨u, rfl, stl _ _ hu6⟩
      · cases hw
    · obtain ⟨y4, y5, y6, y7, y8, y9, ys, rfl, sm, hD2, hd2⟩ := h
      rw [← hzl, List.take_length] at hd2
      refine ⟨_, rfl, D, _, rfl, .inl ⟨sqL hD2, fun p hp => ?_⟩⟩
      exact q _ _ (sm.new hp) ⟨p, ys, rfl, upd_same, hd2.mono BatchAt.mono (SameT.new hp)⟩
abbrev s_law : Stmt := topS 36
theorem sc_law : FnScope ["_law_script", "_law_cells", "_law_world_here", "_law_cell", "_law_counts_here", "_law_pack", "_law_filled_here", "_law_k", "_law_larder_here", "_law_found", "_law_due"] ["_law_script"] (defScope s_law) := ⟨rfl, rfl, rfl, by decide +kernel, rfl, by decide +kernel, by decide +kernel⟩
theorem bd_law : ∀ (kV doc pm : Value) (an : Option Addr) (cdv ct : Value) (us : List Value), us.length = (["_law_script"] : List Str).length → bindArgs (PySem.W.fnOf "law" "law" (defArgs s_law) (defBody s_law) (defScope s_law) .none kV doc pm an cdv ct) ⟨us, []⟩ = pure ((["_law_script"] : List Str).zip us) := fun _ _ _ _ _ _ us hl => match us, hl with | [_], _ => rfl
def spLaw (K : PySem.W.Frag) : Sp := fun vs H Q _ => ∃ (a : Addr) (ns : List Int), vs = [.ref a] ∧ SqL K H a (ns.map V.int) ∧ ns.length ≤ 63 ∧ ∀ H', Q (.bl true) H'
theorem ok_law {P : Program} {w : World} {K : PySem.W.Frag} {mg : Str → Option Value} {base : Heap} {f : Addr} {fd : FuncData} (F : Fun K "law" "law" s_law f fd) (m_isinstance : mg "isinstance" = none) (m_len : mg "len" = none) (m_list : mg "list" = none) (m_max : mg "max" = none) (m_tuple : mg "tuple" = none)
    (C_mixed : Clb P w K mg base 1 "_law_mixed" ["_law_script"] (spMixed K)) (C_world : Clb P w K mg base 3 "_law_world" ["_law_cells"] (spWorld K)) (C_mix : Clb P w K mg base 1 "_law_mix" ["_law_cell", "_law_k"] spMix) (C_cell_at : Clb P w K mg base 1 "_law_cell_at" ["_law_cells", "_law_k"] (spCellAt K)) (C_counts : Clb P w K mg base 2 "_law_counts" ["_law_offers", "_law_cell"] (spCounts K)) (C_filled_all : Clb P w K mg base 3 "_law_filled_all" ["_law_dishes_here", "_law_larder_here", "_law_packs_here", "_law_cell"] spFilledAll)
    (C_stocked : Clb P w K mg base 1 "stocked" ["larder", "packs", "counts"] spStocked) (C_cooks : Clb P w K mg base 6 "_law_cooks" ["_law_dishes_here", "_law_larder_here"] spCooks) (C_unserved : Clb P w K mg base 2 "_law_unserved" ["_law_dishes_here", "_law_larder_here", "_law_packs_here", "_law_counts_here"] (spUnserved K)) :
    FnOk P w K mg base CX0 7 f fd ["_law_script"] (spLaw K) := by
  refine F.ok sc_law (fun vs H Q E h => ?_) (fun cdv A outer s H vs Q E hr h => ?_)
  · obtain ⟨a, ns, rfl, _⟩ := h
    rfl
  · obtain ⟨a, ns, rfl, hS, hl, q⟩ := h
    refine ⟨_, (pss_cons (ps_set (i := 1) sc_law.nd rfl (.inl rfl) (pe_cal C_mixed (hr.mono (by decide)) (pa_cons (pv 0) pa_nil)))
    (pss_cons (ps_set (i := 2) sc_law.nd rfl (.inl rfl) (pe_cal C_world (hr.mono (by decide)) (pa_cons (pv 1) pa_nil)))
    (pss_cons (ps_set (i := 3) sc_law.nd rfl (.inl rfl) (pe_cal C_mix (hr.mono (by decide)) (pa_cons (pe_cal C_cell_at (hr.mono (by decide)) (pa_cons (pv 1) (pa_cons pe_int pa_nil))) (pa_cons pe_int pa_nil))))
    (pss_cons (ps_set (i := 4) sc_law.nd rfl (.inl rfl) (pe_cal C_counts (hr.mono (by decide)) (pa_cons (pe_lc (own := [("_law_pack", 5)]) rfl sc_law.nd (kpi_tup K (pe_ix (kix_list K) (pv 2) pe_int (fun _ _ => rfl))) (blkOk_by (own := [("_law_pack", 5)]) (N := ["_law_script", "_law_cells", "_law_world_here", "_law_cell", "_law_counts_here", "_law_pack", "_law_filled_here", "_law_k", "_law_larder_here", "_law_found", "_law_due"]) (sc := defScope s_law) (by decide +kernel)) (fun _ _ _ _ _ => (pg_name (i := 5) sc_law.nd rfl (.inl rfl))) (fun _ _ _ _ _ => pts_nil) (fun _ _ _ _ _ => (pe_slice (ksl_tupA K) (pv 5) (po_some pe_int) po_none))) (pa_cons (pe_op op_fdiv (pv 3) pe_int) pa_nil))))
    (C8.pss_cut (ps_if (pt_cmpR op_eq (pe_op op_mod (pv 3) pe_int) pe_int (nomark _))
      (pss_cons (ps_set (i := 6) sc_law.nd rfl (.inl rfl) (pe_cal C_filled_all (hr.mono (by decide)) (pa_cons (pe_ix (kix_list K) (pv 2) pe_int (fun _ _ => rfl)) (pa_cons (pe_ix (kix_list K) (pv 2) pe_int (fun _ _ => rfl)) (pa_cons (pe_ix (kix_list K) (pv 2) pe_int (fun _ _ => rfl)) (pa_cons (pe_op op_fdiv (pv 3) pe_int) pa_nil))))))
    (C8.pss_cut (ps_if (pt_cmpR op_notN (pv 6) pe_non (nomark _))
      (pss_one (ps_set (i := 4) sc_law.nd rfl (.inl rfl) (pv 6)))
      pss_nil)
    (pss_one (ps_if (PW.pt (pw_and (pt_cmpR op_gt (pe_callB (kcall_len_seq K) (by rfl) m_len (by decide +kernel) (pa_cons (pv 4) pa_nil)) pe_int (nomark _)) (pw_and1 (pt_cmpR op_eq (pe_op op_mod (pe_op op_fdiv (pv 3) pe_int) pe_int) pe_int (nomark _)))))
      (pss_cons (ps_set (i := 7) sc_law.nd rfl (.inl rfl) (pe_op op_mod (pe_op op_fdiv (pv 3) pe_int) (pe_callB (kcall_len_seq K) (by rfl) m_len (by decide +kernel) (pa_cons (pv 4) pa_nil))))
    (pss_one (ps_asg (pe_callB (call_max2 rfl) (by rfl) m_max (by decide +kernel) (pa_cons pe_int (pa_cons (pe_op op_sub (pe_ix (kix_list K) (pv 4) (pv 7) (fun _ _ => rfl)) pe_int) pa_nil))) (pg_sub (pv 4) (pv 7) set_list))))
      pss_nil))))
      pss_nil)
    (pss_cons (ps_set (i := 8) sc_law.nd rfl (.inl rfl) (pe_cal C_stocked (hr.mono (by decide)) (pa_cons (pe_ix (kix_list K) (pv 2) pe_int (fun _ _ => rfl)) (pa_cons (pe_ix (kix_list K) (pv 2) pe_int (fun _ _ => rfl)) (pa_cons (pe_callTy (kcall_tuple_of K) (by rfl) m_tuple (by decide +kernel) (pa_cons (pv 4) pa_nil)) pa_nil)))))
    (pss_cons (ps_set (i := 9) sc_law.nd rfl (.inl rfl) (pe_cal C_cooks (hr.mono (by decide)) (pa_cons (pe_ix (kix_list K) (pv 2) pe_int (fun _ _ => rfl)) (pa_cons (pv 8) pa_nil))))
    (pss_cons (ps_set (i := 10) sc_law.nd rfl (.inl rfl) (pe_cal C_unserved (hr.mono (by decide)) (pa_cons (pe_ix (kix_list K) (pv 2) pe_int (fun _ _ => rfl)) (pa_cons (pe_ix (kix_list K) (pv 2) pe_int (fun _ _ => rfl)) (pa_cons (pe_ix (kix_list K) (pv 2) pe_int (fun _ _ => rfl)) (pa_cons (pv 4) pa_nil))))))
    (pss_cons (ps_if (pt_val (pe_callB (kcall_isi K) (by rfl) m_isinstance (by decide +kernel) (pa_cons (pv 9) (pa_cons (pe_bltn (v := .ty "list") (u := .type "list") (by rfl) m_list (by decide +kernel) rfl) pa_nil))))
      (pss_one (ps_ret (pe_and (pe_cmpR op_eq (pe_callB (kcall_len_seq K) (by rfl) m_len (by decide +kernel) (pa_cons (pv 9) pa_nil)) pe_int (nomark _)) (pe_one (pe_cmpR (kop_in K) (pe_ix (kix_seq K) (pv 9) pe_int (fun _ _ => rfl)) (pv 10) (by rfl))))))
      pss_nil)
    (pss_one (ps_ret (pe_and (pe_callB (kcall_isi K) (by rfl) m_isinstance (by decide +kernel) (pa_cons (pv 9) (pa_cons (pe_bltn (v := .ty "tuple") (u := .type "tuple") (by rfl) m_tuple (by decide +kernel) rfl) pa_nil))) (pe_one (pe_cmpR (kop_eqD K hr.units) (pv 10) (pe_lst pa_nil) (nomark _))))))))))))))), ?_⟩
    refine ⟨_, rfl, a, ns, rfl, hS, hl, fun ca H1 s1 hc => ?_⟩
    refine ⟨_, rfl, ca, rfl, hc, fun wp dv lv pv ds lar ps seed H2 s2 hwp hds hlar hps dl ll pl dg lg pg => ?_⟩
    have hc2 := hc.same s2
    refine ⟨_, rfl, ca, 1, rfl, hc2, by decide, by decide, fun c0 _ _ => ?_⟩
    refine ⟨c0, 5, rfl, by decide, by decide, fun cell z0 z1 => ?_⟩
    obtain ⟨pa, pus, rfl, hpa, hph⟩ := hps
    have pul := hph.len
    have pf : ∀ p ∈ ps, FinePack p := fun p hp => (pg p hp).fine
    have few : (namesOf ds).length ≤ 12 := names_few seed (allS ds) (allS_good dg)
    have hpsAt : ∀ {Hx}, Same H2 Hx → PacksAt Hx (.ref pa) ps := fun s => ⟨pa, pus, rfl, s _ _ hpa, hph.mono PackAt.mono (SameT.of s)⟩
    have dsA : ∀ {Hx}, Same H2 Hx → DishesAt Hx dv ds := fun s => DishesAt.mono _ _ _ _ (SameT.of s) hds
    have laA : ∀ {Hx}, Same H2 Hx → LarderAt Hx lv lar := fun s => LarderAt.mono _ _ _ _ (SameT.of s) hlar
    have dn : ∀ d ∈ ds, d.2.length ≤ 20 := fun d hd => (dg d hd).many
    have dnn : ∀ d ∈ ds, ∀ y ∈ d.2, 0 ≤ y.2 ∧ y.2 ≤ 200 := fun d hd y hy => by have := ((dg d hd).need y hy).1; omega
    have d17 : ∀ d ∈ ds, 1 ≤ d.1 ∧ d.1 ≤ 7 := fun d hd => ⟨(dg d hd).day1, (dg d hd).day7⟩
    have lnn : ∀ b ∈ lar, 0 ≤ b.amount ∧ 1 ≤ b.last := fun b hb => ⟨by have := (lg b hb).am1; omega, (lg b hb).la1⟩
    have hB : ∀ nm, mostL (lackW ds lar nm) ≤ 104000 := fun nm => lack_most nm dl dn dnn (fun b hb => (lnn b hb).1)
    refine ⟨_, rfl, wp, _, _, _, rfl, rfl, sqL hwp, rfl, ?_⟩
    refine ⟨pa, rfl, ⟨_, sqT hpa⟩, fun D hD => lc_rel (walk_tup (xs := pus)) (xs := ps) hph.len.symm (f := fun p => some p) (R := fun _ _ _ => True) (fun _ _ _ _ _ _ => trivial) hD (fun _ s => sqT (s _ _ hpa)) (by omega) (fun j x y H4 H5 Ky Kn hx s5 hy h1 h2 => ?_) (fun H3 zs s3 hD' hd => ?_)⟩
    · obtain ⟨rfl, hv⟩ := hy
      obtain ⟨t, rfl, ht⟩ := hph.all j x y hv hx
      refine ⟨rfl, ?_⟩
      refine ⟨_, rfl, ?_⟩
      simp only [tNoPart]
      refine ⟨1, rfl, ?_⟩
      refine slA_of (lo := some 1) (hi := none) (s5 _ _ ht) (fun p1 G1 g1 hp1 => ?_)
      exact h1 _ _ _ rfl g1 trivial
    rw [fm_some, List.map_id'] at hd
    have zl := hd.len
    walk_at "rd"
    refine ⟨D, zs, _, rfl, .inl (sqL hD'), by omega, fun cp cs H4 s4 hcn hcp hcl hcb => ?_⟩
    have s24 := s3.trans s4
    have hcp2 : H2 cp = none := same_none s3 hcn
    have hsum0 : sumC cs ≤ 8800000 := by
      have := sumC_few 6 cs fun c hc => (hcb c hc).2
      omega
    refine ⟨fun σ' H' => ∃ (cp : Addr) (cs : List Int) (y5 y6 y7 : Option V), σ' = [some (.ref a), some (.ref ca), some (.ref wp), some (.int cell), some (.ref cp), y5, y6, y7, none, none, none] ∧ Same H2 H' ∧ H' cp = some (.lst (cs.map V.int)) ∧ cs.length = ps.length ∧ (∀ c ∈ cs, 0 ≤ c) ∧ sumC cs ≤ 8800000, ?_, fun σ' H' h => ?_⟩
    · walk_at "rd"
      refine it_eqI (fun _ => ?_) (fun _ => ?_)
      rotate_left
      · exact ⟨cp, cs, _, _, _, rfl, s24, hcp, by omega, fun c hc => (hcb c hc).1, hsum0⟩
      refine ⟨_, rfl, wp, _, _, _, rfl, rfl, sqL (s24 _ _ hwp), rfl, ?_⟩
      refine ⟨_, rfl, wp, _, _, _, rfl, rfl, sqL (s24 _ _ hwp), rfl, ?_⟩
      refine ⟨_, rfl, wp, _, _, _, rfl, rfl, sqL (s24 _ _ hwp), rfl, ?_⟩
      walk_at "rd"
      refine ⟨dv, lv, .ref pa, _, ds, lar, ps, 104000, rfl, dsA s24, laA s24, hpsAt s24, by omega, dn, by omega, by omega, pf, hB, by omega, fun H5 s5 => ⟨fun nm e _ _ _ _ _ => ?_, fun fp fs ys hperm hfn hfp hfl hfnn _ hfs => ?_⟩⟩
      · -- none can serve: the counts stay
        refine ⟨fun σ' H' => H5 = H' ∧ σ' = [some (.ref a), some (.ref ca), some (.ref wp), some (.int cell), some (.ref cp), none, some .non, none, none, none, none], ?_, fun σ' H' h => ?_⟩
        · refine ⟨_, rfl, rfl, _, rfl, iteF ?_⟩
          exact ⟨rfl, rfl⟩
        obtain ⟨rfl, rfl⟩ := h
        have hcp5 := s5 _ _ hcp
        refine ⟨_, rfl, cp, _, rfl, .inl (sqL hcp5), ?_⟩
        walk_at "rd"
        refine it_lt (fun hpos => ?_) (fun _ => ?_)
        · walk_at "rd"
          refine it_eqI (fun _ => ?_) (fun _ => ?_)
          · rw [List.length_map] at hpos
            walk_at "rd"
            refine ⟨cp, _, rfl, .inl (sqL hcp5), ?_⟩
            have hk0 := Int.emod_nonneg (cell / 6) (show ((cs.length : Nat) : Int) ≠ 0 by omega)
            have hk1 := Int.emod_lt_of_pos (cell / 6) (show (0 : Int) < ((cs.length : Nat) : Int) by omega)
            rw [List.length_map]
            generalize hkk : cell / 6 % ((cs.length : Nat) : Int) = kk at hk0 hk1
            refine ⟨_, _, rfl, rfl, by omega, ?_⟩
            have ek : (fun i j : Int => V.int (i % j)) (cell / 6) ((cs.length : Nat) : Int) = V.int kk := congrArg V.int hkk
            rw [ek]
            have hkl : kk.toNat < cs.length := by omega
            have hck := List.getElem?_eq_getElem hkl
            walk_at "rd"
            refine ⟨cp, _, _, _, rfl, rfl, sqL hcp5, at_of (j := kk.toNat) (by omega) (ix_map hck), ?_⟩
            walk_at "rd"
            refine ⟨cp, _, _, kk.toNat, rfl, rfl, hcp5, ixN_of (by omega) (by rw [List.length_map]; exact hkl), ?_⟩
            refine ⟨cp, cs.set kk.toNat (if cs[kk.toNat] - 1 > 0 then cs[kk.toNat] - 1 else 0), _, _, _, rfl, (s24.trans s5).mut hcp2, by rw [upd_same, List.map_set], by rw [List.length_set]; omega, nn_set (fun c hc => (hcb c hc).1) (by split <;> omega), ?_⟩
            have := sumC_set_le cs kk.toNat (if cs[kk.toNat] - 1 > 0 then cs[kk.toNat] - 1 else 0)
            have h6 := (hcb _ (List.getElem_mem hkl)).2
            have hs6 := sumC_few 6 cs fun c hc => (hcb c hc).2
            have : (if cs[kk.toNat] - 1 > 0 then cs[kk.toNat] - 1 else 0).toNat ≤ 6 := by split <;> omega
            omega
          · exact ⟨cp, cs, _, _, _, rfl, s24.trans s5, hcp5, by omega, fun c hc => (hcb c hc).1, hsum0⟩
        · exact ⟨cp, cs, _, _, _, rfl, s24.trans s5, hcp5, by omega, fun c hc => (hcb c hc).1, hsum0⟩
      · have hfp2 : H2 fp = none := same_none s24 hfn
        have hyl : ys.length ≤ 12 := by rw [hperm.length_eq]; exact few
        have hfs8 : sumC fs ≤ 8741000 := by
          have : ys.length * (7 * 104000 + 360) ≤ 12 * (7 * 104000 + 360) := Nat.mul_le_mul_right _ hyl
          omega
        refine ⟨fun σ' H' => H5 = H' ∧ σ' = [some (.ref a), some (.ref ca), some (.ref wp), some (.int cell), some (.ref fp), none, some (.ref fp), none, none, none, none], ?_, fun σ' H' h => ?_⟩
        · refine ⟨_, rfl, rfl, _, rfl, iteT ?_⟩
          exact ⟨_, rfl, rfl, rfl⟩
        obtain ⟨rfl, rfl⟩ := h
        refine ⟨_, rfl, fp, _, rfl, .inl (sqL hfp), ?_⟩
        walk_at "rd"
        refine it_lt (fun hpos => ?_) (fun _ => ?_)
        · walk_at "rd"
          refine it_eqI (fun _ => ?_) (fun _ => ?_)
          · rw [List.length_map] at hpos
            walk_at "rd"
            refine ⟨fp, _, rfl, .inl (sqL hfp), ?_⟩
            have hk0 := Int.emod_nonneg (cell / 6) (show ((fs.length : Nat) : Int) ≠ 0 by omega)
            have hk1 := Int.emod_lt_of_pos (cell / 6) (show (0 : Int) < ((fs.length : Nat) : Int) by omega)
            rw [List.length_map]
            generalize hkk : cell / 6 % ((fs.length : Nat) : Int) = kk at hk0 hk1
            refine ⟨_, _, rfl, rfl, by omega, ?_⟩
            have ek : (fun i j : Int => V.int (i % j)) (cell / 6) ((fs.length : Nat) : Int) = V.int kk := congrArg V.int hkk
            rw [ek]
            have hkl : kk.toNat < fs.length := by omega
            have hck := List.getElem?_eq_getElem hkl
            walk_at "rd"
            refine ⟨fp, _, _, _, rfl, rfl, sqL hfp, at_of (j := kk.toNat) (by omega) (ix_map hck), ?_⟩
            walk_at "rd"
            refine ⟨fp, _, _, kk.toNat, rfl, rfl, hfp, ixN_of (by omega) (by rw [List.length_map]; exact hkl), ?_⟩
            refine ⟨fp, fs.set kk.toNat (if fs[kk.toNat] - 1 > 0 then fs[kk.toNat] - 1 else 0), _, _, _, rfl, (s24.trans s5).mut hfp2, by rw [upd_same, List.map_set], by rw [List.length_set]; exact hfl, nn_set hfnn (by split <;> omega), ?_⟩
            have h0 := hfnn _ (List.getElem_mem hkl)
            have hle := sumC_set_down fs kk.toNat fs[kk.toNat] (if fs[kk.toNat] - 1 > 0 then fs[kk.toNat] - 1 else 0) hck (by split <;> omega)
            omega
          · exact ⟨fp, fs, _, _, _, rfl, s24.trans s5, hfp, hfl, hfnn, by omega⟩
        · exact ⟨fp, fs, _, _, _, rfl, s24.trans s5, hfp, hfl, hfnn, by omega⟩
    obtain ⟨cp', cs', y5, y6, y7, rfl, s25, hcp', hcl', hcn', hsum'⟩ := h
    refine ⟨_, rfl, wp, _, _, _, rfl, rfl, sqL (s25 _ _ hwp), rfl, ?_⟩
    refine ⟨_, rfl, wp, _, _, _, rfl, rfl, sqL (s25 _ _ hwp), rfl, ?_⟩
    refine ⟨_, rfl, cp', _, rfl, .inl ⟨sqL hcp', fun tp htp => ?_⟩⟩
    have s6 := s25.new (o := .tup (cs'.map V.int)) htp
    refine ⟨lv, .ref pa, tp, lar, ps, cs', rfl, laA s6, hpsAt s6, upd_same, hcl'.symm, by omega, pf, hcn', by omega, fun v' H7 s7 hst => ?_⟩
    have s27 := s6.trans s7
    have hcp7 : H7 cp' = some (.lst (cs'.map V.int)) := s7 _ _ (by rw [upd_ne (ne_of_none hcp' htp)]; exact hcp')
    refine ⟨_, rfl, wp, _, _, _, rfl, rfl, sqL (s27 _ _ hwp), rfl, ?_⟩
    have hstl : (stockL lar ps cs').length ≤ 16000000 := by
      unfold stockL
      rw [List.length_append]
      have := stockZ_le ps cs' ps.length
      have e : (ps.zip cs').take ps.length = ps.zip cs' := List.take_of_length_le (by rw [List.length_zip]; omega)
      rw [e] at this
      omega
    have hfw : FineW ds (stockL lar ps cs') := ⟨by omega, fun d hd => ⟨dn d hd, (dg d hd).day1, (dg d hd).day7, fun x hx => ((dg d hd).need x hx).1⟩, hstl, fun b hb => by
      rcases List.mem_append.mp hb with z | z
      · exact ⟨(lg b z).am1, (lg b z).am2, (lg b z).la1⟩
      · obtain ⟨p, hpm, hr⟩ := List.mem_flatMap.mp z
        rw [(List.mem_replicate.mp hr).2]
        have f := pf _ (List.of_mem_zip hpm).1
        exact ⟨f.size1, f.size2, f.last1⟩⟩
    refine ⟨_, rfl, dv, v', ds, stockL lar ps cs', rfl, dsA s27, hst, hfw, fun H8 s8 => ⟨fun nm np hck hnp => ?_, fun us uv hck hus _ _ => ?_⟩⟩
    · -- refused
      have s28 := s27.trans s8
      refine ⟨_, rfl, wp, _, _, _, rfl, rfl, sqL (s28 _ _ hwp), rfl, ?_⟩
      refine ⟨_, rfl, wp, _, _, _, rfl, rfl, sqL (s28 _ _ hwp), rfl, ?_⟩
      refine ⟨_, rfl, wp, _, _, _, rfl, rfl, sqL (s28 _ _ hwp), rfl, ?_⟩
      refine ⟨_, rfl, dv, lv, .ref pa, .ref cp', ds, lar, ps, cs', rfl, dsA s28, laA s28, hpsAt s28, ⟨cp', rfl, SqA.l (s8 _ _ hcp7)⟩, by omega, dn, by omega, hcl'.symm, by omega, pf, fun up ys H9 s9 hperm hup => ?_⟩
      have hnp9 := s9 _ _ hnp
      refine ⟨_, rfl, ?_⟩
      refine ⟨_, _, _, _, true, rfl, .ty _, .base (.lst hnp9), kit_ty (by decide +kernel), ?_⟩
      refine ⟨_, rfl, iteT ?_⟩
      refine ⟨_, rfl, np, _, rfl, .inl (sqL hnp9), ?_⟩
      refine ⟨rfl, ?_⟩
      refine ⟨_, rfl, ?_⟩
      rw [show (decide (V.int ((([V.str nm] : List V).length : Nat) : Int) = V.int 1)) = true from rfl]
      refine iteT ?_
      refine ⟨_, rfl, np, _, _, _, rfl, rfl, .inl (sqL hnp9), rfl, ?_⟩
      have hun : servesB (offersOf ps nm) (countsOf cs' (ofK ps nm)) (lackW ds lar nm) = false := whole_err hcl'.symm pf hcn' d17 (fun d hd y hy => (dnn d hd y hy).1) lnn hck
      have hmem : nm ∈ ys.filter (unsB ds lar ps cs') := by
        refine List.mem_filter.mpr ⟨hperm.mem_iff.mpr ?_, by unfold unsB; rw [hun]; rfl⟩
        obtain ⟨d, hd, x, hx, e⟩ := cooked_name hck
        rw [← e]
        exact names_mem hd hx
      refine ⟨_, rfl, up, _, rfl, .inl (sqL hup), rfl, strs_flat _, ?_⟩
      have : inV (.str nm) ((ys.filter (unsB ds lar ps cs')).map V.str) = true := by
        unfold inV
        rw [List.any_eq_true]
        exact ⟨.str nm, List.mem_map.mpr ⟨nm, hmem, rfl⟩, by simp [eqV]⟩
      show Q (.bl (if false = true then !inV (.str nm) ((ys.filter (unsB ds lar ps cs')).map V.str) else inV (.str nm) ((ys.filter (unsB ds lar ps cs')).map V.str))) H9
      rw [this]
      exact q _
    · have s28 := s27.trans s8
      refine ⟨_, rfl, wp, _, _, _, rfl, rfl, sqL (s28 _ _ hwp), rfl, ?_⟩
      refine ⟨_, rfl, wp, _, _, _, rfl, rfl, sqL (s28 _ _ hwp), rfl, ?_⟩
      refine ⟨_, rfl, wp, _, _, _, rfl, rfl, sqL (s28 _ _ hwp), rfl, ?_⟩
      refine ⟨_, rfl, dv, lv, .ref pa, .ref cp', ds, lar, ps, cs', rfl, dsA s28, laA s28, hpsAt s28, ⟨cp', rfl, SqA.l (s8 _ _ hcp7)⟩, by omega, dn, by omega, hcl'.symm, by omega, pf, fun up ys H9 s9 hperm hup => ?_⟩
      obtain ⟨ut, uus, rfl, hut, huh⟩ := hus
      have hut9 := s9 _ _ hut
      refine ⟨_, rfl, ?_⟩
      refine ⟨_, _, _, _, false, rfl, .ty _, .base (.tup hut9), kit_ty (by decide +kernel), ?_⟩
      refine ⟨_, rfl, iteF ?_⟩
      refine ⟨_, rfl, ?_⟩
      refine ⟨_, _, _, _, true, rfl, .ty _, .base (.tup hut9), kit_ty (by decide +kernel), ?_⟩
      refine ⟨_, rfl, iteT ?_⟩
      have hnil : ys.filter (unsB ds lar ps cs') = [] := List.filter_eq_nil_iff.mpr fun nm _ => by
        unfold unsB
        rw [whole_ok hcl'.symm pf hcn' d17 (fun d hd y hy => (dnn d hd y hy).1) (fun b hb => (lnn b hb).1) hck nm]
        decide
      rw [hnil] at hup
      refine ⟨_, rfl, Nat.zero_le _, fun r hr1 => ?_⟩
      have s10 := same_upd (o := .lst []) hr1
      refine ⟨.list [], .list [], .lst (sqL (s10 _ _ hup)) .nil, .lst (sqL upd_same) .nil, rfl, rfl, ?_⟩
      have : PyData.eqv (.list []) (.list []) = true := by simp [PyData.eqv, PyData.eqvAll]
      rw [this]
      exact q _
/-! ### what the top has written -/
theorem all_mk {l : PySem.W.OpenLaw} {w : World} {K : PySem.W.Frag} {h : Heap} {mg : Str → Option Value} {fa : Addr} (X : K.In h) (G : h.Ns mainGlobals mg) (hfa : mg "law" = some (.ref fa))
    {f0 : Addr} {od0 an0 : Option Addr} {sl0 : Array (Option Value)} {oc0 kV0 dc0 pm0 cd0 ct0 : Value} (a0 : PySem.W.nsIn K mainGlobals "_law_cell_at" = some (some (.ref f0))) (l0 : K.lookup f0 = some ⟨oc0, od0, .func (PySem.W.fnOf "_law_cell_at" "_law_cell_at" (defArgs s_cell_at) (defBody s_cell_at) (defScope s_cell_at) .none kV0 dc0 pm0 an0 cd0 ct0), sl0⟩) (c0 : PySem.W.codeIn K cd0 "_law_cell_at" = true) (k0 : PySem.W.keepIn K (.ref f0) = true)
    {f1 : Addr} {od1 an1 : Option Addr} {sl1 : Array (Option Value)} {oc1 kV1 dc1 pm1 cd1 ct1 : Value} (a1 : PySem.W.nsIn K mainGlobals "lines_of" = some (some (.ref f1))) (l1 : K.lookup f1 = some ⟨oc1, od1, .func (PySem.W.fnOf "lines_of" "lines_of" (defArgs s_lines_of) (defBody s_lines_of) (defScope s_lines_of) .none kV1 dc1 pm1 an1 cd1 ct1), sl1⟩) (c1 : PySem.W.codeIn K cd1 "lines_of" = true) (k1 : PySem.W.keepIn K (.ref f1) = true)
    {f2 : Addr} {od2 an2 : Option Addr} {sl2 : Array (Option Value)} {oc2 kV2 dc2 pm2 cd2 ct2 : Value} (a2 : PySem.W.nsIn K mainGlobals "taken" = some (some (.ref f2))) (l2 : K.lookup f2 = some ⟨oc2, od2, .func (PySem.W.fnOf "taken" "taken" (defArgs s_taken) (defBody s_taken) (defScope s_taken) .none kV2 dc2 pm2 an2 cd2 ct2), sl2⟩) (c2 : PySem.W.codeIn K cd2 "taken" = true) (k2 : PySem.W.keepIn K (.ref f2) = true)
    {f3 : Addr} {od3 an3 : Option Addr} {sl3 : Array (Option Value)} {oc3 kV3 dc3 pm3 cd3 ct3 : Value} (a3 : PySem.W.nsIn K mainGlobals "used_by" = some (some (.ref f3))) (l3 : K.lookup f3 = some ⟨oc3, od3, .func (PySem.W.fnOf "used_by" "used_by" (defArgs s_used_by) (defBody s_used_by) (defScope s_used_by) .none kV3 dc3 pm3 an3 cd3 ct3), sl3⟩) (c3 : PySem.W.codeIn K cd3 "used_by" = true) (k3 : PySem.W.keepIn K (.ref f3) = true)
    {f4 : Addr} {od4 an4 : Option Addr} {sl4 : Array (Option Value)} {oc4 kV4 dc4 pm4 cd4 ct4 : Value} (a4 : PySem.W.nsIn K mainGlobals "cooked" = some (some (.ref f4))) (l4 : K.lookup f4 = some ⟨oc4, od4, .func (PySem.W.fnOf "cooked" "cooked" (defArgs s_cooked) (defBody s_cooked) (defScope s_cooked) .none kV4 dc4 pm4 an4 cd4 ct4), sl4⟩) (c4 : PySem.W.codeIn K cd4 "cooked" = true) (k4 : PySem.W.keepIn K (.ref f4) = true)
    {f5 : Addr} {od5 an5 : Option Addr} {sl5 : Array (Option Value)} {oc5 kV5 dc5 pm5 cd5 ct5 : Value} (a5 : PySem.W.nsIn K mainGlobals "_law_cooks" = some (some (.ref f5))) (l5 : K.lookup f5 = some ⟨oc5, od5, .func (PySem.W.fnOf "_law_cooks" "_law_cooks" (defArgs s_cooks) (defBody s_cooks) (defScope s_cooks) .none kV5 dc5 pm5 an5 cd5 ct5), sl5⟩) (c5 : PySem.W.codeIn K cd5 "_law_cooks" = true) (k5 : PySem.W.keepIn K (.ref f5) = true)
    {f6 : Addr} {od6 an6 : Option Addr} {sl6 : Array (Option Value)} {oc6 kV6 dc6 pm6 cd6 ct6 : Value} (a6 : PySem.W.nsIn K mainGlobals "_law_mix" = some (some (.ref f6))) (l6 : K.lookup f6 = some ⟨oc6, od6, .func (PySem.W.fnOf "_law_mix" "_law_mix" (defArgs s_mix) (defBody s_mix) (defScope s_mix) .none kV6 dc6 pm6 an6 cd6 ct6), sl6⟩) (c6 : PySem.W.codeIn K cd6 "_law_mix" = true) (k6 : PySem.W.keepIn K (.ref f6) = true)
    {f7 : Addr} {od7 an7 : Option Addr} {sl7 : Array (Option Value)} {oc7 kV7 dc7 pm7 cd7 ct7 : Value} (a7 : PySem.W.nsIn K mainGlobals "_law_counts" = some (some (.ref f7))) (l7 : K.lookup f7 = some ⟨oc7, od7, .func (PySem.W.fnOf "_law_counts" "_law_counts" (defArgs s_counts) (defBody s_counts) (defScope s_counts) .none kV7 dc7 pm7 an7 cd7 ct7), sl7⟩) (c7 : PySem.W.codeIn K cd7 "_law_counts" = true) (k7 : PySem.W.keepIn K (.ref f7) = true)
    {f8 : Addr} {od8 an8 : Option Addr} {sl8 : Array (Option Value)} {oc8 kV8 dc8 pm8 cd8 ct8 : Value} (a8 : PySem.W.nsIn K mainGlobals "_law_filled" = some (some (.ref f8))) (l8 : K.lookup f8 = some ⟨oc8, od8, .func (PySem.W.fnOf "_law_filled" "_law_filled" (defArgs s_filled) (defBody s_filled) (defScope s_filled) .none kV8 dc8 pm8 an8 cd8 ct8), sl8⟩) (c8 : PySem.W.codeIn K cd8 "_law_filled" = true) (k8 : PySem.W.keepIn K (.ref f8) = true)
    {f9 : Addr} {od9 an9 : Option Addr} {sl9 : Array (Option Value)} {oc9 kV9 dc9 pm9 cd9 ct9 : Value} (a9 : PySem.W.nsIn K mainGlobals "_law_lacks" = some (some (.ref f9))) (l9 : K.lookup f9 = some ⟨oc9, od9, .func (PySem.W.fnOf "_law_lacks" "_law_lacks" (defArgs s_lacks) (defBody s_lacks) (defScope s_lacks) .none kV9 dc9 pm9 an9 cd9 ct9), sl9⟩) (c9 : PySem.W.codeIn K cd9 "_law_lacks" = true) (k9 : PySem.W.keepIn K (.ref f9) = true)
    {f10 : Addr} {od10 an10 : Option Addr} {sl10 : Array (Option Value)} {oc10 kV10 dc10 pm10 cd10 ct10 : Value} (a10 : PySem.W.nsIn K mainGlobals "_law_of" = some (some (.ref f10))) (l10 : K.lookup f10 = some ⟨oc10, od10, .func (PySem.W.fnOf "_law_of" "_law_of" (defArgs s_of) (defBody s_of) (defScope s_of) .none kV10 dc10 pm10 an10 cd10 ct10), sl10⟩) (c10 : PySem.W.codeIn K cd10 "_law_of" = true) (k10 : PySem.W.keepIn K (.ref f10) = true)
    {f11 : Addr} {od11 an11 : Option Addr} {sl11 : Array (Option Value)} {oc11 kV11 dc11 pm11 cd11 ct11 : Value} (a11 : PySem.W.nsIn K mainGlobals "_law_things" = some (some (.ref f11))) (l11 : K.lookup f11 = some ⟨oc11, od11, .func (PySem.W.fnOf "_law_things" "_law_things" (defArgs s_things) (defBody s_things) (defScope s_things) .none kV11 dc11 pm11 an11 cd11 ct11), sl11⟩) (c11 : PySem.W.codeIn K cd11 "_law_things" = true) (k11 : PySem.W.keepIn K (.ref f11) = true)
    {f12 : Addr} {od12 an12 : Option Addr} {sl12 : Array (Option Value)} {oc12 kV12 dc12 pm12 cd12 ct12 : Value} (a12 : PySem.W.nsIn K mainGlobals "_law_filled_all" = some (some (.ref f12))) (l12 : K.lookup f12 = some ⟨oc12, od12, .func (PySem.W.fnOf "_law_filled_all" "_law_filled_all" (defArgs s_filled_all) (defBody s_filled_all) (defScope s_filled_all) .none kV12 dc12 pm12 an12 cd12 ct12), sl12⟩) (c12 : PySem.W.codeIn K cd12 "_law_filled_all" = true) (k12 : PySem.W.keepIn K (.ref f12) = true)
    {f13 : Addr} {od13 an13 : Option Addr} {sl13 : Array (Option Value)} {oc13 kV13 dc13 pm13 cd13 ct13 : Value} (a13 : PySem.W.nsIn K mainGlobals "_law_mixed" = some (some (.ref f13))) (l13 : K.lookup f13 = some ⟨oc13, od13, .func (PySem.W.fnOf "_law_mixed" "_law_mixed" (defArgs s_mixed) (defBody s_mixed) (defScope s_mixed) .none kV13 dc13 pm13 an13 cd13 ct13), sl13⟩) (c13 : PySem.W.codeIn K cd13 "_law_mixed" = true) (k13 : PySem.W.keepIn K (.ref f13) = true)
    {f14 : Addr} {od14 an14 : Option Addr} {sl14 : Array (Option Value)} {oc14 kV14 dc14 pm14 cd14 ct14 : Value} (a14 : PySem.W.nsIn K mainGlobals "_law_served" = some (some (.ref f14))) (l14 : K.lookup f14 = some ⟨oc14, od14, .func (PySem.W.fnOf "_law_served" "_law_served" (defArgs s_served) (defBody s_served) (defScope s_served) .none kV14 dc14 pm14 an14 cd14 ct14), sl14⟩) (c14 : PySem.W.codeIn K cd14 "_law_served" = true) (k14 : PySem.W.keepIn K (.ref f14) = true)
    {f15 : Addr} {od15 an15 : Option Addr} {sl15 : Array (Option Value)} {oc15 kV15 dc15 pm15 cd15 ct15 : Value} (a15 : PySem.W.nsIn K mainGlobals "_law_unserved" = some (some (.ref f15))) (l15 : K.lookup f15 = some ⟨oc15, od15, .func (PySem.W.fnOf "_law_unserved" "_law_unserved" (defArgs s_unserved) (defBody s_unserved) (defScope s_unserved) .none kV15 dc15 pm15 an15 cd15 ct15), sl15⟩) (c15 : PySem.W.codeIn K cd15 "_law_unserved" = true) (k15 : PySem.W.keepIn K (.ref f15) = true)
    {f16 : Addr} {od16 an16 : Option Addr} {sl16 : Array (Option Value)} {oc16 kV16 dc16 pm16 cd16 ct16 : Value} (a16 : PySem.W.nsIn K mainGlobals "_law_amount" = some (some (.ref f16))) (l16 : K.lookup f16 = some ⟨oc16, od16, .func (PySem.W.fnOf "_law_amount" "_law_amount" (defArgs s_amount) (defBody s_amount) (defScope s_amount) .none kV16 dc16 pm16 an16 cd16 ct16), sl16⟩) (c16 : PySem.W.codeIn K cd16 "_law_amount" = true) (k16 : PySem.W.keepIn K (.ref f16) = true)
    {f17 : Addr} {od17 an17 : Option Addr} {sl17 : Array (Option Value)} {oc17 kV17 dc17 pm17 cd17 ct17 : Value} (a17 : PySem.W.nsIn K mainGlobals "_law_name_by" = some (some (.ref f17))) (l17 : K.lookup f17 = some ⟨oc17, od17, .func (PySem.W.fnOf "_law_name_by" "_law_name_by" (defArgs s_name_by) (defBody s_name_by) (defScope s_name_by) .none kV17 dc17 pm17 an17 cd17 ct17), sl17⟩) (c17 : PySem.W.codeIn K cd17 "_law_name_by" = true) (k17 : PySem.W.keepIn K (.ref f17) = true)
    {f18 : Addr} {od18 an18 : Option Addr} {sl18 : Array (Option Value)} {oc18 kV18 dc18 pm18 cd18 ct18 : Value} (a18 : PySem.W.nsIn K mainGlobals "_law_dishes" = some (some (.ref f18))) (l18 : K.lookup f18 = some ⟨oc18, od18, .func (PySem.W.fnOf "_law_dishes" "_law_dishes" (defArgs s_dishes) (defBody s_dishes) (defScope s_dishes) .none kV18 dc18 pm18 an18 cd18 ct18), sl18⟩) (c18 : PySem.W.codeIn K cd18 "_law_dishes" = true) (k18 : PySem.W.keepIn K (.ref f18) = true)
    {f19 : Addr} {od19 an19 : Option Addr} {sl19 : Array (Option Value)} {oc19 kV19 dc19 pm19 cd19 ct19 : Value} (a19 : PySem.W.nsIn K mainGlobals "_law_last" = some (some (.ref f19))) (l19 : K.lookup f19 = some ⟨oc19, od19, .func (PySem.W.fnOf "_law_last" "_law_last" (defArgs s_last) (defBody s_last) (defScope s_last) .none kV19 dc19 pm19 an19 cd19 ct19), sl19⟩) (c19 : PySem.W.codeIn K cd19 "_law_last" = true) (k19 : PySem.W.keepIn K (.ref f19) = true)
    {f20 : Addr} {od20 an20 : Option Addr} {sl20 : Array (Option Value)} {oc20 kV20 dc20 pm20 cd20 ct20 : Value} (a20 : PySem.W.nsIn K mainGlobals "_law_larder" = some (some (.ref f20))) (l20 : K.lookup f20 = some ⟨oc20, od20, .func (PySem.W.fnOf "_law_larder" "_law_larder" (defArgs s_larder) (defBody s_larder) (defScope s_larder) .none kV20 dc20 pm20 an20 cd20 ct20), sl20⟩) (c20 : PySem.W.codeIn K cd20 "_law_larder" = true) (k20 : PySem.W.keepIn K (.ref f20) = true)
    {f21 : Addr} {od21 an21 : Option Addr} {sl21 : Array (Option Value)} {oc21 kV21 dc21 pm21 cd21 ct21 : Value} (a21 : PySem.W.nsIn K mainGlobals "_law_many" = some (some (.ref f21))) (l21 : K.lookup f21 = some ⟨oc21, od21, .func (PySem.W.fnOf "_law_many" "_law_many" (defArgs s_many) (defBody s_many) (defScope s_many) .none kV21 dc21 pm21 an21 cd21 ct21), sl21⟩) (c21 : PySem.W.codeIn K cd21 "_law_many" = true) (k21 : PySem.W.keepIn K (.ref f21) = true)
    {f22 : Addr} {od22 an22 : Option Addr} {sl22 : Array (Option Value)} {oc22 kV22 dc22 pm22 cd22 ct22 : Value} (a22 : PySem.W.nsIn K mainGlobals "_law_names" = some (some (.ref f22))) (l22 : K.lookup f22 = some ⟨oc22, od22, .func (PySem.W.fnOf "_law_names" "_law_names" (defArgs s_names) (defBody s_names) (defScope s_names) .none kV22 dc22 pm22 an22 cd22 ct22), sl22⟩) (c22 : PySem.W.codeIn K cd22 "_law_names" = true) (k22 : PySem.W.keepIn K (.ref f22) = true)
    {f23 : Addr} {od23 an23 : Option Addr} {sl23 : Array (Option Value)} {oc23 kV23 dc23 pm23 cd23 ct23 : Value} (a23 : PySem.W.nsIn K mainGlobals "_law_of_all" = some (some (.ref f23))) (l23 : K.lookup f23 = some ⟨oc23, od23, .func (PySem.W.fnOf "_law_of_all" "_law_of_all" (defArgs s_of_all) (defBody s_of_all) (defScope s_of_all) .none kV23 dc23 pm23 an23 cd23 ct23), sl23⟩) (c23 : PySem.W.codeIn K cd23 "_law_of_all" = true) (k23 : PySem.W.keepIn K (.ref f23) = true)
    {f24 : Addr} {od24 an24 : Option Addr} {sl24 : Array (Option Value)} {oc24 kV24 dc24 pm24 cd24 ct24 : Value} (a24 : PySem.W.nsIn K mainGlobals "_law_near" = some (some (.ref f24))) (l24 : K.lookup f24 = some ⟨oc24, od24, .func (PySem.W.fnOf "_law_near" "_law_near" (defArgs s_near) (defBody s_near) (defScope s_near) .none kV24 dc24 pm24 an24 cd24 ct24), sl24⟩) (c24 : PySem.W.codeIn K cd24 "_law_near" = true) (k24 : PySem.W.keepIn K (.ref f24) = true)
    {f25 : Addr} {od25 an25 : Option Addr} {sl25 : Array (Option Value)} {oc25 kV25 dc25 pm25 cd25 ct25 : Value} (a25 : PySem.W.nsIn K mainGlobals "_law_price" = some (some (.ref f25))) (l25 : K.lookup f25 = some ⟨oc25, od25, .func (PySem.W.fnOf "_law_price" "_law_price" (defArgs s_price) (defBody s_price) (defScope s_price) .none kV25 dc25 pm25 an25 cd25 ct25), sl25⟩) (c25 : PySem.W.codeIn K cd25 "_law_price" = true) (k25 : PySem.W.keepIn K (.ref f25) = true)
    {f26 : Addr} {od26 an26 : Option Addr} {sl26 : Array (Option Value)} {oc26 kV26 dc26 pm26 cd26 ct26 : Value} (a26 : PySem.W.nsIn K mainGlobals "_law_packs" = some (some (.ref f26))) (l26 : K.lookup f26 = some ⟨oc26, od26, .func (PySem.W.fnOf "_law_packs" "_law_packs" (defArgs s_packs) (defBody s_packs) (defScope s_packs) .none kV26 dc26 pm26 an26 cd26 ct26), sl26⟩) (c26 : PySem.W.codeIn K cd26 "_law_packs" = true) (k26 : PySem.W.keepIn K (.ref f26) = true)
    {f27 : Addr} {od27 an27 : Option Addr} {sl27 : Array (Option Value)} {oc27 kV27 dc27 pm27 cd27 ct27 : Value} (a27 : PySem.W.nsIn K mainGlobals "_law_world" = some (some (.ref f27))) (l27 : K.lookup f27 = some ⟨oc27, od27, .func (PySem.W.fnOf "_law_world" "_law_world" (defArgs s_world) (defBody s_world) (defScope s_world) .none kV27 dc27 pm27 an27 cd27 ct27), sl27⟩) (c27 : PySem.W.codeIn K cd27 "_law_world" = true) (k27 : PySem.W.keepIn K (.ref f27) = true)
    {f28 : Addr} {od28 an28 : Option Addr} {sl28 : Array (Option Value)} {oc28 kV28 dc28 pm28 cd28 ct28 : Value} (a28 : PySem.W.nsIn K mainGlobals "stocked" = some (some (.ref f28))) (l28 : K.lookup f28 = some ⟨oc28, od28, .func (PySem.W.fnOf "stocked" "stocked" (defArgs s_stocked) (defBody s_stocked) (defScope s_stocked) .none kV28 dc28 pm28 an28 cd28 ct28), sl28⟩) (c28 : PySem.W.codeIn K cd28 "stocked" = true) (k28 : PySem.W.keepIn K (.ref f28) = true)
    {f29 : Addr} {od29 an29 : Option Addr} {sl29 : Array (Option Value)} {oc29 kV29 dc29 pm29 cd29 ct29 : Value} (a29 : PySem.W.nsIn K mainGlobals "law" = some (some (.ref f29))) (l29 : K.lookup f29 = some ⟨oc29, od29, .func (PySem.W.fnOf "law" "law" (defArgs s_law) (defBody s_law) (defScope s_law) .none kV29 dc29 pm29 an29 cd29 ct29), sl29⟩) (c29 : PySem.W.codeIn K cd29 "law" = true) (k29 : PySem.W.keepIn K (.ref f29) = true)
    (z0 : PySem.W.nsIn K mainGlobals "ValueError" = some none)
    (z1 : PySem.W.nsIn K mainGlobals "enumerate" = some none)
    (z2 : PySem.W.nsIn K mainGlobals "int" = some none)
    (z3 : PySem.W.nsIn K mainGlobals "isinstance" = some none)
    (z4 : PySem.W.nsIn K mainGlobals "len" = some none)
    (z5 : PySem.W.nsIn K mainGlobals "list" = some none)
    (z6 : PySem.W.nsIn K mainGlobals "max" = some none)
    (z7 : PySem.W.nsIn K mainGlobals "min" = some none)
    (z8 : PySem.W.nsIn K mainGlobals "range" = some none)
    (z9 : PySem.W.nsIn K mainGlobals "sorted" = some none)
    (z10 : PySem.W.nsIn K mainGlobals "sum" = some none)
    (z11 : PySem.W.nsIn K mainGlobals "tuple" = some none)
    (z12 : PySem.W.nsIn K mainGlobals "zip" = some none)
    {eL eS eT fI : Addr} {nmS qS : Str} {NS : Addr} {bsS : List Value} {snS : List Str} {subS : List Value} {abS : Bool} {colS : Option Bool} {ddS : Option Addr} {m0S m1S m2S m3S m5S : Option Value} {nmT qT : Str} {NT : Addr} {bsT : List Value} {snT : List Str} {subT : List Value} {abT : Bool} {colT : Option Bool} {ddT : Option Addr} {m0T m1T m2T m3T m5T : Option Value} {odI anI : Option Addr} {slI : Array (Option Value)} {ocI kVI dcI pmI cdI ctI : Value}
    (gL : PySem.W.nsIn K mainGlobals "LarderError" = some (some (.ref eL)))
    (gS : PySem.W.nsIn K mainGlobals "Short" = some (some (.ref eS)))
    (xS : K.lookup eS = some (excClassObj nmS qS eS NS bsS [.ref eL, .type "ValueError", .type "Exception", .type "BaseException", .type "object"] true snS subS abS colS ddS m0S m1S m2S m3S m5S "ValueError.__new__"))
    (saS : PySem.W.findIn K (.ref eS) "__setattr__" = some (some (.builtin "object.__setattr__")))
    (gaS : PySem.W.findIn K (.ref eS) "__getattribute__" = some (some (.builtin "BaseException.__getattribute__")))
    (ggS : PySem.W.findIn K (.ref eS) "__getattr__" = some none)
    (nwS : PySem.W.findIn K (.ref eS) "word" = some none)
    (inS : PySem.W.findIn K (.ref eS) "__init__" = some (some (.ref fI)))
    (kCS : PySem.W.keepIn K (.ref eS) = true)
    (eCS : PySem.W.subIn K (.ref eS) (.type "BaseException") = some true)
    (tCS : PySem.W.typeIn K (.ref eS) = some (.type "type"))
    (hCS : PySem.W.hasDictIn K eS = true)
    (caS : PySem.W.findIn K (.ref eS) "__class__" = some (some (.builtin "object.__class__")))
    (moS : PySem.W.mroIn K eS (.type "object") = some true)
    (mLS : PySem.W.exmOne K (.ref eS) (.ref eL) = some true)
    (gT : PySem.W.nsIn K mainGlobals "TooMuch" = some (some (.ref eT)))
    (xT : K.lookup eT = some (excClassObj nmT qT eT NT bsT [.ref eL, .type "ValueError", .type "Exception", .type "BaseException", .type "object"] true snT subT abT colT ddT m0T m1T m2T m3T m5T "ValueError.__new__"))
    (saT : PySem.W.findIn K (.ref eT) "__setattr__" = some (some (.builtin "object.__setattr__")))
    (gaT : PySem.W.findIn K (.ref eT) "__getattribute__" = some (some (.builtin "BaseException.__getattribute__")))
    (ggT : PySem.W.findIn K (.ref eT) "__getattr__" = some none)
    (nwT : PySem.W.findIn K (.ref eT) "word" = some none)
    (inT : PySem.W.findIn K (.ref eT) "__init__" = some (some (.ref fI)))
    (kCT : PySem.W.keepIn K (.ref eT) = true)
    (eCT : PySem.W.subIn K (.ref eT) (.type "BaseException") = some true)
    (tCT : PySem.W.typeIn K (.ref eT) = some (.type "type"))
    (hCT : PySem.W.hasDictIn K eT = true)
    (caT : PySem.W.findIn K (.ref eT) "__class__" = some (some (.builtin "object.__class__")))
    (moT : PySem.W.mroIn K eT (.type "object") = some true)
    (mLT : PySem.W.exmOne K (.ref eT) (.ref eL) = some true)
    (hn : PySem.W.specialIn K (.builtin "object.__class__") "__get__" = some (some (.builtin "getset_descriptor.__get__")))
    (ht : PySem.W.takesIn K (.builtin "object.__class__") = some true)
    (tI : PySem.W.typeIn K (.ref fI) = some (.type "function"))
    (lI : K.lookup fI = some ⟨ocI, odI, .func (PySem.W.fnOf "__init__" "LarderError.__init__" (defArgs s_init) (defBody s_init) (defScope s_init) .none kVI dcI pmI anI cdI ctI), slI⟩)
    (cI : PySem.W.codeIn K cdI "LarderError.__init__" = true)
    (kI : PySem.W.keepIn K (.ref fI) = true)
    (vV : PySem.W.findCls K (.type "ValueError") (.type "type") "__init__" = some (.val (.builtin "ValueError.__init__")))
    (sT : PySem.W.kitOne K (.ref eS) (.ref eT) = some false)
    (sS : PySem.W.kitOne K (.ref eS) (.ref eS) = some true)
    (sV : PySem.W.kitOne K (.ref eS) (.type "ValueError") = some true)
    (tT : PySem.W.kitOne K (.ref eT) (.ref eT) = some true)
    (tS : PySem.W.kitOne K (.ref eT) (.ref eS) = some false)
    (tV : PySem.W.kitOne K (.ref eT) (.type "ValueError") = some true) :
    ∃ fd : FuncData, (∀ (s : Shared) (v : Value), BindsTo s fd ⟨[v], []⟩ [("_law_script", v)]) ∧ ∀ base : Heap, K.In base → base.Ns mainGlobals mg → FnOk l.prog w K mg base CX0 7 fa fd ["_law_script"] (spLaw K) := by
  have e := hfa.symm.trans (PySem.W.mg_of X G a29)
  cases e
  have F_cell_at := fun_mk (st := s_cell_at) l0 c0 k0
  have D_cell_at : DefAt K mg "_law_cell_at" s_cell_at := ⟨f0, _, F_cell_at, PySem.W.mg_of X G a0⟩
  have F_lines_of := fun_mk (st := s_lines_of) l1 c1 k1
  have D_lines_of : DefAt K mg "lines_of" s_lines_of := ⟨f1, _, F_lines_of, PySem.W.mg_of X G a1⟩
  have F_taken := fun_mk (st := s_taken) l2 c2 k2
  have D_taken : DefAt K mg "taken" s_taken := ⟨f2, _, F_taken, PySem.W.mg_of X G a2⟩
  have F_used_by := fun_mk (st := s_used_by) l3 c3 k3
  have D_used_by : DefAt K mg "used_by" s_used_by := ⟨f3, _, F_used_by, PySem.W.mg_of X G a3⟩
  have F_cooked := fun_mk (st := s_cooked) l4 c4 k4
  have D_cooked : DefAt K mg "cooked" s_cooked := ⟨f4, _, F_cooked, PySem.W.mg_of X G a4⟩
  have F_cooks := fun_mk (st := s_cooks) l5 c5 k5
  have D_cooks : DefAt K mg "_law_cooks" s_cooks := ⟨f5, _, F_cooks, PySem.W.mg_of X G a5⟩
  have F_mix := fun_mk (st := s_mix) l6 c6 k6
  have D_mix : DefAt K mg "_law_mix" s_mix := ⟨f6, _, F_mix, PySem.W.mg_of X G a6⟩
  have F_counts := fun_mk (st := s_counts) l7 c7 k7
  have D_counts : DefAt K mg "_law_counts" s_counts := ⟨f7, _, F_counts, PySem.W.mg_of X G a7⟩
  have F_filled := fun_mk (st := s_filled) l8 c8 k8
  have D_filled : DefAt K mg "_law_filled" s_filled := ⟨f8, _, F_filled, PySem.W.mg_of X G a8⟩
  have F_lacks := fun_mk (st := s_lacks) l9 c9 k9
  have D_lacks : DefAt K mg "_law_lacks" s_lacks := ⟨f9, _, F_lacks, PySem.W.mg_of X G a9⟩
  have F_of := fun_mk (st := s_of) l10 c10 k10
  have D_of : DefAt K mg "_law_of" s_of := ⟨f10, _, F_of, PySem.W.mg_of X G a10⟩
  have F_things := fun_mk (st := s_things) l11 c11 k11
  have D_things : DefAt K mg "_law_things" s_things := ⟨f11, _, F_things, PySem.W.mg_of X G a11⟩
  have F_filled_all := fun_mk (st := s_filled_all) l12 c12 k12
  have D_filled_all : DefAt K mg "_law_filled_all" s_filled_all := ⟨f12, _, F_filled_all, PySem.W.mg_of X G a12⟩
  have F_mixed := fun_mk (st := s_mixed) l13 c13 k13
  have D_mixed : DefAt K mg "_law_mixed" s_mixed := ⟨f13, _, F_mixed, PySem.W.mg_of X G a13⟩
  have F_served := fun_mk (st := s_served) l14 c14 k14
  have D_served : DefAt K mg "_law_served" s_served := ⟨f14, _, F_served, PySem.W.mg_of X G a14⟩
  have F_unserved := fun_mk (st := s_unserved) l15 c15 k15
  have D_unserved : DefAt K mg "_law_unserved" s_unserved := ⟨f15, _, F_unserved, PySem.W.mg_of X G a15⟩
  have F_amount := fun_mk (st := s_amount) l16 c16 k16
  have D_amount : DefAt K mg "_law_amount" s_amount := ⟨f16, _, F_amount, PySem.W.mg_of X G a16⟩
  have F_name_by := fun_mk (st := s_name_by) l17 c17 k17
  have D_name_by : DefAt K mg "_law_name_by" s_name_by := ⟨f17, _, F_name_by, PySem.W.mg_of X G a17⟩
  have F_dishes := fun_mk (st := s_dishes) l18 c18 k18
  have D_dishes : DefAt K mg "_law_dishes" s_dishes := ⟨f18, _, F_dishes, PySem.W.mg_of X G a18⟩
  have F_last := fun_mk (st := s_last) l19 c19 k19
  have D_last : DefAt K mg "_law_last" s_last := ⟨f19, _, F_last, PySem.W.mg_of X G a19⟩
  have F_larder := fun_mk (st := s_larder) l20 c20 k20
  have D_larder : DefAt K mg "_law_larder" s_larder := ⟨f20, _, F_larder, PySem.W.mg_of X G a20⟩
  have F_many := fun_mk (st := s_many) l21 c21 k21
  have D_many : DefAt K mg "_law_many" s_many := ⟨f21, _, F_many, PySem.W.mg_of X G a21⟩
  have F_names := fun_mk (st := s_names) l22 c22 k22
  have D_names : DefAt K mg "_law_names" s_names := ⟨f22, _, F_names, PySem.W.mg_of X G a22⟩
  have F_of_all := fun_mk (st := s_of_all) l23 c23 k23
  have D_of_all : DefAt K mg "_law_of_all" s_of_all := ⟨f23, _, F_of_all, PySem.W.mg_of X G a23⟩
  have F_near := fun_mk (st := s_near) l24 c24 k24
  have D_near : DefAt K mg "_law_near" s_near := ⟨f24, _, F_near, PySem.W.mg_of X G a24⟩
  have F_price := fun_mk (st := s_price) l25 c25 k25
  have D_price : DefAt K mg "_law_price" s_price := ⟨f25, _, F_price, PySem.W.mg_of X G a25⟩
  have F_packs := fun_mk (st := s_packs) l26 c26 k26
  have D_packs : DefAt K mg "_law_packs" s_packs := ⟨f26, _, F_packs, PySem.W.mg_of X G a26⟩
  have F_world := fun_mk (st := s_world) l27 c27 k27
  have D_world : DefAt K mg "_law_world" s_world := ⟨f27, _, F_world, PySem.W.mg_of X G a27⟩
  have F_stocked := fun_mk (st := s_stocked) l28 c28 k28
  have D_stocked : DefAt K mg "stocked" s_stocked := ⟨f28, _, F_stocked, PySem.W.mg_of X G a28⟩
  have F_law := fun_mk (st := s_law) l29 c29 k29
  have m_ValueError := PySem.W.mg_none_of X G z0
  have m_enumerate := PySem.W.mg_none_of X G z1
  have m_int := PySem.W.mg_none_of X G z2
  have m_isinstance := PySem.W.mg_none_of X G z3
  have m_len := PySem.W.mg_none_of X G z4
  have m_list := PySem.W.mg_none_of X G z5
  have m_max := PySem.W.mg_none_of X G z6
  have m_min := PySem.W.mg_none_of X G z7
  have m_range := PySem.W.mg_none_of X G z8
  have m_sorted := PySem.W.mg_none_of X G z9
  have m_sum := PySem.W.mg_none_of X G z10
  have m_tuple := PySem.W.mg_none_of X G z11
  have m_zip := PySem.W.mg_none_of X G z12
  refine ⟨PySem.W.fnOf "law" "law" (defArgs s_law) (defBody s_law) (defScope s_law) .none kV29 dc29 pm29 an29 cd29 ct29, fun s v => .of_eq rfl, fun base _ _ => ?_⟩
  have F_init := fun_mk (x := "__init__") (qual := "LarderError.__init__") (st := s_init) lI cI kI
  have oeS : OexC K eS := ⟨⟨_, _, _, _, _, _, _, _, _, _, _, _, _, _, _, xS, rfl⟩, saS, eCS, tCS, kCS⟩
  have oeT : OexC K eT := ⟨⟨_, _, _, _, _, _, _, _, _, _, _, _, _, _, _, xT, rfl⟩, saT, eCT, tCT, kCT⟩
  have FI := ok_init (P := l.prog) (w := w) (base := base) F_init m_ValueError vV
  have bI := F_init.binds (ps := ["self", "word"]) bd_init
  have M_Short : MkAt l.prog w K mg base 1 "Short" eS := ⟨PySem.W.mg_of X G gS, oeS, nwS, _, _, inS, tI, FI, bI⟩
  have M_TooMuch : MkAt l.prog w K mg base 1 "TooMuch" eT := ⟨PySem.W.mg_of X G gT, oeT, nwT, _, _, inT, tI, FI, bI⟩
  have ER : ErrAt K mg eL eS eT := ⟨PySem.W.mg_of X G gL, PySem.W.mg_of X G gS, PySem.W.mg_of X G gT, ⟨gaS, ggS, eCS, hCS, caS, hn, ht, moS⟩, ⟨gaT, ggT, eCT, hCT, caT, hn, ht, moT⟩, ⟨gaS, ggS, eCS, hCS⟩, ⟨gaT, ggT, eCT, hCT⟩, nwS, nwT, mLS, mLT, sT, sS, sV, tT, tS, tV⟩
  have C_cell_at := ok_cell_at (P := l.prog) (w := w) (base := base) D_cell_at m_len
  have C_lines_of := ok_lines_of (P := l.prog) (w := w) (base := base) D_lines_of m_enumerate m_sorted
  have C_taken := ok_taken (P := l.prog) (w := w) (base := base) D_taken m_min M_Short
  have C_used_by := ok_used_by (P := l.prog) (w := w) (base := base) D_used_by m_tuple C_taken
  have C_cooked := ok_cooked (P := l.prog) (w := w) (base := base) D_cooked m_enumerate m_len m_sorted m_tuple C_lines_of C_used_by
  have C_cooks := ok_cooks (P := l.prog) (w := w) (base := base) D_cooks ER m_isinstance m_ValueError C_cooked
  have C_mix := ok_mix (P := l.prog) (w := w) (base := base) D_mix
  have C_counts := ok_counts (P := l.prog) (w := w) (base := base) D_counts m_range m_len C_mix
  have C_filled := ok_filled (P := l.prog) (w := w) (base := base) D_filled m_range m_len m_sum C_mix
  have C_lacks := ok_lacks (P := l.prog) (w := w) (base := base) D_lacks m_range m_sum m_max
  have C_of := ok_of (P := l.prog) (w := w) (base := base) D_of m_range m_len
  have C_things := ok_things (P := l.prog) (w := w) (base := base) D_things m_sorted
  have C_filled_all := ok_filled_all (P := l.prog) (w := w) (base := base) D_filled_all m_range m_len C_things C_of C_filled C_counts C_lacks
  have C_mixed := ok_mixed (P := l.prog) (w := w) (base := base) D_mixed
  have C_served := ok_served (P := l.prog) (w := w) (base := base) D_served m_range m_len
  have C_unserved := ok_unserved (P := l.prog) (w := w) (base := base) D_unserved C_things C_of C_served C_lacks
  have C_amount := ok_amount (P := l.prog) (w := w) (base := base) D_amount
  have C_name_by := ok_name_by (P := l.prog) (w := w) (base := base) D_name_by m_len m_min m_range
  have C_dishes := ok_dishes (P := l.prog) (w := w) (base := base) D_dishes m_range m_int m_tuple C_mix C_cell_at C_amount C_name_by
  have C_last := ok_last (P := l.prog) (w := w) (base := base) D_last
  have C_larder := ok_larder (P := l.prog) (w := w) (base := base) D_larder m_range m_tuple C_mix C_cell_at C_amount C_last C_name_by
  have C_many := ok_many (P := l.prog) (w := w) (base := base) D_many
  have C_names := ok_names (P := l.prog) (w := w) (base := base) D_names C_cell_at
  have C_of_all := ok_of_all (P := l.prog) (w := w) (base := base) D_of_all m_sum
  have C_near := ok_near (P := l.prog) (w := w) (base := base) D_near m_len C_of_all
  have C_price := ok_price (P := l.prog) (w := w) (base := base) D_price
  have C_packs := ok_packs (P := l.prog) (w := w) (base := base) D_packs m_range m_tuple C_mix C_cell_at C_amount C_last C_price C_name_by
  have C_world := ok_world (P := l.prog) (w := w) (base := base) D_world m_max m_range m_tuple C_names C_cell_at C_dishes C_many C_larder C_packs C_name_by C_near
  have C_stocked := ok_stocked (P := l.prog) (w := w) (base := base) D_stocked m_zip m_tuple
  exact ok_law F_law m_isinstance m_len m_list m_max m_tuple C_mixed C_world C_mix C_cell_at C_counts C_filled_all C_stocked C_cooks C_unserved
end Lar
open PySem PySem.W PyProof.Rows
set_option maxHeartbeats 0 in
theorem PySem.Challenge.cw_larderlist_k11_whole_cooks_where_served_holds : PySem.Challenge.rw_larderlist_k11_whole_cooks_where_served.Holds := by
  w_on; o_law; k_head; (case hw => w_witness2)
  k_fill
  refine L2.walk_of (l := PySem.Challenge.rw_larderlist_k11_whole_cooks_where_served) (n := 63) (k := 7) (x := "_law_script") (CX := fun _ => L2.CX0) (sp := fun w => Lar.spLaw _) rfl (by decide) rfl ⟨rfl, by decide, by decide⟩ (fun w h Y => PySem.W.kIn_of Y) ?F (fun _ _ a ns hl _ hS => ⟨a, ns, rfl, hS, hl, fun _ => rfl⟩) (fun _ _ _ _ _ h => h)
  case F =>
    intro w mg fa h KX G hmg
    refine' Lar.all_mk KX G hmg ?a0 ?l0 ?c0 ?k0 ?a1 ?l1 ?c1 ?k1 ?a2 ?l2 ?c2 ?k2 ?a3 ?l3 ?c3 ?k3 ?a4 ?l4 ?c4 ?k4 ?a5 ?l5 ?c5 ?k5 ?a6 ?l6 ?c6 ?k6 ?a7 ?l7 ?c7 ?k7 ?a8 ?l8 ?c8 ?k8 ?a9 ?l9 ?c9 ?k9 ?a10 ?l10 ?c10 ?k10 ?a11 ?l11 ?c11 ?k11 ?a12 ?l12 ?c12 ?k12 ?a13 ?l13 ?c13 ?k13 ?a14 ?l14 ?c14 ?k14 ?a15 ?l15 ?c15 ?k15 ?a16 ?l16 ?c16 ?k16 ?a17 ?l17 ?c17 ?k17 ?a18 ?l18 ?c18 ?k18 ?a19 ?l19 ?c19 ?k19 ?a20 ?l20 ?c20 ?k20 ?a21 ?l21 ?c21 ?k21 ?a22 ?l22 ?c22 ?k22 ?a23 ?l23 ?c23 ?k23 ?a24 ?l24 ?c24 ?k24 ?a25 ?l25 ?c25 ?k25 ?a26 ?l26 ?c26 ?k26 ?a27 ?l27 ?c27 ?k27 ?a28 ?l28 ?c28 ?k28 ?a29 ?l29 ?c29 ?k29 ?z0 ?z1 ?z2 ?z3 ?z4 ?z5 ?z6 ?z7 ?z8 ?z9 ?z10 ?z11 ?z12 ?gL ?gS ?xS ?saS ?gaS ?ggS ?nwS ?inS ?kCS ?eCS ?tCS ?hCS ?caS ?moS ?mLS ?gT ?xT ?saT ?gaT ?ggT ?nwT ?inT ?kCT ?eCT ?tCT ?hCT ?caT ?moT ?mLT ?hn ?ht ?tI ?lI ?cI ?kI ?vV ?sT ?sS ?sV ?tT ?tS ?tV
    (case a0 => k_is); (case l0 => k_is); (case c0 => k_is); (case k0 => k_is); (case a1 => k_is); (case l1 => k_is); (case c1 => k_is); (case k1 => k_is); (case a2 => k_is); (case l2 => k_is); (case c2 => k_is); (case k2 => k_is); (case a3 => k_is); (case l3 => k_is); (case c3 => k_is); (case k3 => k_is); (case a4 => k_is); (case l4 => k_is); (case c4 => k_is); (case k4 => k_is); (case a5 => k_is); (case l5 => k_is); (case c5 => k_is); (case k5 => k_is); (case a6 => k_is); (case l6 => k_is); (case c6 => k_is); (case k6 => k_is); (case a7 => k_is); (case l7 => k_is); (case c7 => k_is); (case k7 => k_is); (case a8 => k_is); (case l8 => k_is); (case c8 => k_is); (case k8 => k_is); (case a9 => k_is); (case l9 => k_is); (case c9 => k_is); (case k9 => k_is); (case a10 => k_is); (case l10 => k_is); (case c10 => k_is); (case k10 => k_is); (case a11 => k_is); (case l11 => k_is); (case c11 => k_is); (case k11 => k_is); (case a12 => k_is); (case l12 => k_is); (case c12 => k_is); (case k12 => k_is); (case a13 => k_is); (case l13 => k_is); (case c13 => k_is); (case k13 => k_is); (case a14 => k_is); (case l14 => k_is); (case c14 => k_is); (case k14 => k_is); (case a15 => k_is); (case l15 => k_is); (case c15 => k_is); (case k15 => k_is); (case a16 => k_is); (case l16 => k_is); (case c16 => k_is); (case k16 => k_is); (case a17 => k_is); (case l17 => k_is); (case c17 => k_is); (case k17 => k_is); (case a18 => k_is); (case l18 => k_is); (case c18 => k_is); (case k18 => k_is); (case a19 => k_is); (case l19 => k_is); (case c19 => k_is); (case k19 => k_is); (case a20 => k_is); (case l20 => k_is); (case c20 => k_is); (case k20 => k_is); (case a21 => k_is); (case l21 => k_is); (case c21 => k_is); (case k21 => k_is); (case a22 => k_is); (case l22 => k_is); (case c22 => k_is); (case k22 => k_is); (case a23 => k_is); (case l23 => k_is); (case c23 => k_is); (case k23 => k_is); (case a24 => k_is); (case l24 => k_is); (case c24 => k_is); (case k24 => k_is); (case a25 => k_is); (case l25 => k_is); (case c25 => k_is); (case k25 => k_is); (case a26 => k_is); (case l26 => k_is); (case c26 => k_is); (case k26 => k_is); (case a27 => k_is); (case l27 => k_is); (case c27 => k_is); (case k27 => k_is); (case a28 => k_is); (case l28 => k_is); (case c28 => k_is); (case k28 => k_is); (case a29 => k_is); (case l29 => k_is); (case c29 => k_is); (case k29 => k_is); (case z0 => k_is); (case z1 => k_is); (case z2 => k_is); (case z3 => k_is); (case z4 => k_is); (case z5 => k_is); (case z6 => k_is); (case z7 => k_is); (case z8 => k_is); (case z9 => k_is); (case z10 => k_is); (case z11 => k_is); (case z12 => k_is)
    (case gL => first | k_is | rfl | decide +kernel)
    (case gS => first | k_is | rfl | decide +kernel)
    (case xS => first | k_is | rfl | decide +kernel)
    (case saS => first | k_is | rfl | decide +kernel)
    (case gaS => first | k_is | rfl | decide +kernel)
    (case ggS => first | k_is | rfl | decide +kernel)
    (case nwS => first | k_is | rfl | decide +kernel)
    (case inS => first | k_is | rfl | decide +kernel)
    (case kCS => first | k_is | rfl | decide +kernel)
    (case eCS => first | k_is | rfl | decide +kernel)
    (case tCS => first | k_is | rfl | decide +kernel)
    (case hCS => first | k_is | rfl | decide +kernel)
    (case caS => first | k_is | rfl | decide +kernel)
    (case moS => first | k_is | rfl | decide +kernel)
    (case mLS => first | k_is | rfl | decide +kernel)
    (case gT => first | k_is | rfl | decide +kernel)
    (case xT => first | k_is | rfl | decide +kernel)
    (case saT => first | k_is | rfl | decide +kernel)
    (case gaT => first | k_is | rfl | decide +kernel)
    (case ggT => first | k_is | rfl | decide +kernel)
    (case nwT => first | k_is | rfl | decide +kernel)
    (case inT => first | k_is | rfl | decide +kernel)
    (case kCT => first | k_is | rfl | decide +kernel)
    (case eCT => first | k_is | rfl | decide +kernel)
    (case tCT => first | k_is | rfl | decide +kernel)
    (case hCT => first | k_is | rfl | decide +kernel)
    (case caT => first | k_is | rfl | decide +kernel)
    (case moT => first | k_is | rfl | decide +kernel)
    (case mLT => first | k_is | rfl | decide +kernel)
    (case hn => first | k_is | rfl | decide +kernel)
    (case ht => first | k_is | rfl | decide +kernel)
    (case tI => first | k_is | rfl | decide +kernel)
    (case lI => first | k_is | rfl | decide +kernel)
    (case cI => first | k_is | rfl | decide +kernel)
    (case kI => first | k_is | rfl | decide +kernel)
    (case vV => first | k_is | rfl | decide +kernel)
    (case sT => first | k_is | rfl | decide +kernel)
    (case sS => first | k_is | rfl | decide +kernel)
    (case sV => first | k_is | rfl | decide +kernel)
    (case tT => first | k_is | rfl | decide +kernel)
    (case tS => first | k_is | rfl | decide +kernel)
    (case tV => first | k_is | rfl | decide +kernel)
