import PyProof.Rows.All
import Wide.All
import OpenK.AllK
import Wide.FinOn
import HandS.ForMost
import HandS.IsInst
import HandS.Property
import HandS.Wide
import HandS.Gcd
import HandS.More
import HandS.OwnEq
import HandS.Style
import KE.KMathGC
import HandS.Defaults
import HandS.MakeKwOnly
import HandS.SortInts
import HandS.Strs
import HandS.Conv
import HandS.DictTup
import HandS.SortRule
import KE.KMathG
import HandS.SetFor
import HandS.Conv
import HandS.Defaults
import HandS.ExcField
import HandS.ExcInit
import HandS.ExcIs
import HandS.ForExc
import HandS.MakeKwOnly
import HandS.OwnEq
import HandS.Strs
import HandS.Style
import KE.KExcIs
import KE.KMathGC
import KE.SortData
import PySem.Challenge.RW_rungrepeats_k29_errors_of_lanes_and_ring
set_option Elab.async false
set_option maxRecDepth 100000
set_option maxHeartbeats 4000000
set_option linter.unusedVariables false
/-! own words, shared by the proofs of this program's laws -/
namespace Rg
open PySem L2 TL

/-- the built-ins that are read are not shadowed -/
structure Bi (mg : Str → Option Value) : Prop where
  len_ : mg "len" = none
  int_ : mg "int" = none
  range_ : mg "range" = none
  list_ : mg "list" = none
  tuple_ : mg "tuple" = none
  isinstance_ : mg "isinstance" = none
  all_ : mg "all" = none
  any_ : mg "any" = none
  bool_ : mg "bool" = none
  str_ : mg "str" = none
  min_ : mg "min" = none
  max_ : mg "max" = none
  abs_ : mg "abs" = none
  sum_ : mg "sum" = none
  sorted_ : mg "sorted" = none
  set_ : mg "set" = none
  ValueError_ : mg "ValueError" = none

/-- a def of the module that keeps a promise -/
structure Df (P : Program) (w : World) (K : PySem.W.Frag) (mg : Str → Option Value) (base : Heap) (x : Str) (k : Nat) (ps : List Str) (sp : Sp) : Prop where
  ex : ∃ f fd, mg x = some (.ref f) ∧ FnOk P w K mg base CX0 k f fd ps sp ∧ PySem.W.keepIn K (.ref f) = true ∧ Binds K fd ps []
section
variable {X : Cx} {x : Str} {k : Nat} {ps : List Str} {sp : Sp} {e : Expr} {es : List Expr} {t : TA} {p pos : Pos}
theorem pe_df (D : Df X.prog X.w X.K X.mg X.base x k ps sp) (hr : Room k X.A) (hg : Gl X x) (ha : PA X (e :: es) t) (hdb : (x == ("__debug__" : Str)) = false := by decide)
    (he : starEach (e :: es) X.env = (false, eval e X.env) :: starEach es X.env := by rfl) (hpl : (backTo pos (starEach es X.env)).any (·.1) = false := by rfl) :
    PE X (.Call (.Name x p) (e :: es) [] pos) (tCall sp [] E0 t) := by
  obtain ⟨f, fd, hm, F, hk, hb⟩ := D.ex
  exact pe_call F hr hg hm hk hb .nil pass0 ha hdb he hpl
end
theorem Df.mk' {P : Program} {w : World} {K : PySem.W.Frag} {mg : Str → Option Value} {base : Heap} {x q : Str} {st : Stmt} {k : Nat} {ps : List Str} {sp : Sp} {f : Addr} {fd : FuncData} (F : Fun K x q st f fd) (G : FnOk P w K mg base CX0 k f fd ps sp)
    (hm : mg x = some (.ref f)) (hb : Binds K fd ps []) : Df P w K mg base x k ps sp := ⟨f, fd, hm, G, F.kp, hb⟩

/-- an own class: made by an __init__ that keeps sp -/
structure Mkr (P : Program) (w : World) (K : PySem.W.Frag) (mg : Str → Option Value) (base : Heap) (x : Str) (C : Addr) (k : Nat) (ps : List Str) (sp : Sp) : Prop where
  ex : ∃ f fd, mg x = some (.ref C) ∧ Mk K C f ∧ FnOk P w K mg base CX0 k f fd ps sp ∧ Binds K fd ps []
/-- a property of the class at C -/
structure Pr (P : Program) (w : World) (K : PySem.W.Frag) (mg : Str → Option Value) (base : Heap) (C : Addr) (x : Str) (k : Nat) (sp : Sp) : Prop where
  ex : ∃ p g fd, Cls K C ∧ PropOf K C x p g ∧ FnOk P w K mg base CX0 k g fd ["self"] sp ∧ Binds K fd ["self"] []
/-- a method of the class at C -/
structure Me (P : Program) (w : World) (K : PySem.W.Frag) (mg : Str → Option Value) (base : Heap) (C : Addr) (x : Str) (k : Nat) (ps : List Str) (sp : Sp) : Prop where
  ex : ∃ f fd, Cls K C ∧ Meth K C x f ∧ FnOk P w K mg base CX0 k f fd ps sp ∧ Binds K fd ps []
section
variable {X : Cx} {x m : Str} {k : Nat} {C : Addr} {ps : List Str} {sp : Sp} {o e : Expr} {es : List Expr} {ta : TE} {t : TA} {p pos apos : Pos}
theorem pe_mk (M : Mkr X.prog X.w X.K X.mg X.base x C k ps sp) (hr : Room (k + 1) X.A) (hg : Gl X x) (ha : PA X (e :: es) t) (hdb : (x == ("__debug__" : Str)) = false := by decide)
    (he : starEach (e :: es) X.env = (false, eval e X.env) :: starEach es X.env := by rfl) (hpl : (backTo pos (starEach es X.env)).any (·.1) = false := by rfl) :
    PE X (.Call (.Name x p) (e :: es) [] pos) (tMake C sp [] E0 t) := by
  obtain ⟨f, fd, hm, M, F, hb⟩ := M.ex
  exact pe_make M F hr hg hm hb .nil pass0 ha hdb he hpl
theorem pe_pr (he : PE X o ta) (D : Pr X.prog X.w X.K X.mg X.base C x k sp) (hr : Room (k + 1) X.A) (hab : attributeBase o x X.env (eval o X.env) = eval o X.env) : PE X (.Attribute o x pos) (tProp C sp [] E0 ta) := by
  obtain ⟨p, g, fd, c, hp, F, hb⟩ := D.ex
  exact pe_prop he c hp F hr hb .nil pass0 hab
theorem pe_me {pl : Sem Bool} (he : PE X o ta) (D : Me X.prog X.w X.K X.mg X.base C m k ps sp) (hr : Room k X.A) (ha : PA X (e :: es) t)
    (hst : starEach (e :: es) X.env = (false, eval e X.env) :: starEach es X.env := by rfl) (hpl : (backTo pos (starEach es X.env)).any (·.1) = false := by rfl)
    (ht : eval (.Call (.Attribute o m apos) (e :: es) [] pos) X.env = (do
      let ov ← eval o X.env
      standAt apos.atName
      let (f, first) ← holding [ov] (getMethod ov m pl)
      callWith pos f first (backTo pos (starEach (e :: es) X.env)) (backToKw pos (keywordEach [] X.env))) := by rfl) :
    PE X (.Call (.Attribute o m apos) (e :: es) [] pos) (tMeth C m sp [] E0 ta t) := by
  obtain ⟨f, fd, c, hm, F, hb⟩ := D.ex
  exact pe_meth he c hm F hr hb .nil pass0 ha hst hpl ht
theorem pe_me0 {pl : Sem Bool} (he : PE X o ta) (D : Me X.prog X.w X.K X.mg X.base C m k ps sp) (hr : Room k X.A)
    (ht : eval (.Call (.Attribute o m apos) [] [] pos) X.env = (do
      let ov ← eval o X.env
      standAt apos.atName
      let (f, first) ← holding [ov] (getMethod ov m pl)
      callWith pos f first (backTo pos (starEach [] X.env)) (backToKw pos (keywordEach [] X.env))) := by rfl) :
    PE X (.Call (.Attribute o m apos) [] [] pos) (tMeth C m sp [] E0 ta tNil) := by
  obtain ⟨f, fd, c, hm, F, hb⟩ := D.ex
  exact pe_meth0 he c hm F hr hb .nil pass0 ht
end

/-! ### a text many times -/
theorem foldl_nat (items : Array Nat) : ∀ (k : Nat) (acc : Array Nat), List.foldl (fun x1 x2 => x1 ++ x2) acc (List.replicate k items) = (acc.toList ++ (List.replicate k items.toList).flatten).toArray
  | 0, acc => by simp
  | k + 1, acc => by simp [List.replicate_succ, foldl_nat items k, List.append_assoc]
theorem mul_tl (z : Str) (n : Int) (h : 1 ≤ n) : Txt.mul z n = ⟨((List.replicate n.toNat (tl z)).flatten).toArray⟩ := by
  unfold Txt.mul
  rw [if_neg (by omega)]
  by_cases h1 : (n == 1 || z.length == 0) = true
  · rw [if_pos h1]
    refine ext_tl ?_
    show tl z = (List.replicate n.toNat (tl z)).flatten
    rw [Bool.or_eq_true, beq_iff_eq, beq_iff_eq] at h1
    rcases h1 with e | e
    · subst e
      simp
    · have e2 : tl z = [] := by
        rw [len_tl] at e
        exact List.length_eq_zero_iff.mp e
      rw [e2]
      simp
  · rw [if_neg h1]
    congr 1
    show List.foldl (fun x1 x2 => x1 ++ x2) #[] (List.replicate n.toNat z.cps) = _
    rw [foldl_nat]
    simp [tl]
def rRepS : R2 := fun x y H Q => ∃ z n, x = .str z ∧ y = .int n ∧ 1 ≤ n ∧ n < 2 ^ 63 ∧ z.length * n.toNat ≤ sizeLine ∧ Q (.str ⟨((List.replicate n.toNat (tl z)).flatten).toArray⟩) H
theorem op_rep_str {X : Cx} : OpR X (binaryOp .Mult) rRepS := by
  intro pins s σ H x y v u Q I rx ry h
  obtain ⟨z, n, rfl, rfl, h1, h63, hz, q⟩ := h
  obtain ⟨t, rfl⟩ := rx
  obtain ⟨t', rfl⟩ := ry
  have hp : ((z.length : Int)) * n ≤ 2 ^ 24 := by
    have e : ((z.length * n.toNat : Nat) : Int) ≤ ((2 ^ 24 : Nat) : Int) := Int.ofNat_le.mpr hz
    rw [Int.natCast_mul, Int.toNat_of_nonneg (by omega)] at e
    exact e
  refine SB.mul ⟨?_, fun _ _ => ?_, fun _ _ => ?_⟩ fun t2 k => ?_
  · rw [decide_eq_false (by omega), decide_eq_false (by omega)]
    rfl
  · have := (Int.le_ediv_iff_mul_le (a := (z.length : Int)) (b := 2 ^ 63 - 1) (c := n) (by omega)).mpr (by omega)
    omega
  · exact decide_eq_false (by omega)
  · rw [mul_tl z n h1]
    exact ⟨.str _, H, I.tok _, ⟨_, rfl⟩, q⟩

abbrev rLenSeq (K : PySem.W.Frag) : List V → Hp → VK → Prop := fun xs H Q => ∃ p ys, xs = [.ref p] ∧ (SqL K H p ys ∨ SqT K H p ys) ∧ Q (.int ys.length) H
abbrev rJoin (K : PySem.W.Frag) : V → List V → Hp → VK → Prop := fun x xs H Q => ∃ a p, ∃ ys : List Str, x = .str a ∧ xs = [.ref p] ∧ (SqL K H p (ys.map V.str) ∨ SqT K H p (ys.map V.str)) ∧
    (ys.map (·.length)).sum + ys.length * a.length ≤ 16777216 ∧ Q (.str (Txt.join a ys)) H
/-! ### sides -/
theorem cp60 : CPow 10 60 := ⟨by decide, by decide, by decide⟩
theorem cp18 : CPow 10 18 := ⟨by decide, by decide, by decide⟩
theorem cp61 : CPow 10 61 := ⟨by decide, by decide, by decide⟩
theorem cp20 : CPow 10 20 := ⟨by decide, by decide, by decide⟩
theorem cp30 : CPow 10 30 := ⟨by decide, by decide, by decide⟩
theorem cm60 : CMulW ((10 : Int) ^ (60 : Int).toNat) ((10 : Int) ^ (60 : Int).toNat) := by
  show _ < _
  decide +kernel
theorem ps60 : (0 : Int) < (10 : Int) ^ (60 : Int).toNat * (10 : Int) ^ (60 : Int).toNat := by decide +kernel
/-- what is drawn: as many as the limits, each from 0 on below its limit -/
def Drawn (ds ls : List Int) : Prop := ds.length = ls.length ∧ ∀ (i : Nat) (d l : Int), ds[i]? = some d → ls[i]? = some l → 0 ≤ d ∧ d < l
theorem Drawn.at {ds ls : List Int} (h : Drawn ds ls) {i : Nat} {l : Int} (e : ls[i]? = some l) : ∃ d, (ds.map V.int)[i]? = some (V.int d) ∧ ds[i]? = some d ∧ 0 ≤ d ∧ d < l := by
  have hi := (List.getElem?_eq_some_iff.mp e).1
  rw [← h.1] at hi
  refine ⟨ds[i], ?_, List.getElem?_eq_getElem hi, h.2 i _ l (List.getElem?_eq_getElem hi) e⟩
  rw [List.getElem?_map, List.getElem?_eq_getElem hi]
  rfl
theorem getV {ns : List Int} {i : Nat} (h : i < ns.length) : (ns.map V.int)[i]? = some (V.int ns[i]) := by
  rw [List.getElem?_map, List.getElem?_eq_getElem h]
  rfl
theorem getS {ns : List Str} {i : Nat} (h : i < ns.length) : (ns.map V.str)[i]? = some (V.str ns[i]) := by
  rw [List.getElem?_map, List.getElem?_eq_getElem h]
  rfl
/-- an index that is a number -/
theorem atI_k {xs : List V} {i : Int} {v : V} (k : Nat) (e : i = (k : Int)) (h : xs[k]? = some v) : atI xs i = some v := by
  subst e
  exact atI_nat h
theorem atI_k' {α : Type} {xs : List α} {i : Int} {v : α} (k : Nat) (e : i = (k : Int)) (h : xs[k]? = some v) : atI xs i = some v := by
  subst e
  exact atI_nat h
theorem ixN_nat {n p : Nat} (h : p < n) : ixN n (p : Int) = some p := by
  unfold ixN
  rw [if_pos (by omega), if_pos (by omega)]
  rfl
theorem _root_.L2.Same.upd {H : Hp} {p : Addr} {o : HO} (h : H p = none) : Same H (upd H p o) := fun b u e => by rw [upd_ne (ne_of_none e h)]; exact e
theorem _root_.L2.Same.up {H H1 : Hp} {p : Addr} {o : HO} (s : Same H H1) (h : H1 p = none) : Same H (L2.upd H1 p o) := s.trans (L2.Same.upd h)
/-- an object that is new with regard to H may be changed -/
theorem _root_.L2.Same.put {H H1 : Hp} {p : Addr} {o : HO} (s : Same H H1) (h : H p = none) : Same H (L2.upd H1 p o) := fun b u e => by rw [upd_ne (ne_of_none e h)]; exact s b u e

/-! ### len of an object with its own __len__ -/
def rLenOwn (C : Addr) (sp : Sp) : List V → Hp → VK → Prop := fun xs H Q => ∃ a dx fs, xs = [.ref a] ∧ H a = some (.ins C dx fs) ∧ sp [.ref a] H (fun v H' => ∃ n : Int, v = .int n ∧ (0 ≤ n ∧ n < 2 ^ 63) ∧ Q (.int n) H') E0
theorem call_lenR {X : Cx} {C : Addr} {k : Nat} {sp : Sp} (D : Me X.prog X.w X.K X.mg X.base C "__len__" k ["self"] sp) (hr : Room (k + 1) X.A) : CallR X (.builtin "len") (rLenOwn C sp) := by
  intro pins s σ H xs us Q I r h
  obtain ⟨a, dx, fs, rfl, ea, q⟩ := h
  obtain ⟨f, fd, c, hm, F, hb⟩ := D.ex
  cases r with
  | cons rv rn =>
    cases rn
    obtain rfl := (show _ = Value.ref a from rv)
    obtain ⟨mA, O, _⟩ := ins_get I.hok ea
    obtain ⟨od, J, _⟩ := O.look
    refine Calls.call_function_entry PySem.kind_len PySem.plain_len PySem.entry_len (PySem.args_len1 _) ?_
    unfold Builtin.«len»
    refine wpAny_bind (m := oneArg "len" _) (wpAny_pure ?_)
    refine wpAny_bind (m := callSpecial? (.ref a) (Str.ofString "__len__")) (PySem.W.special_fn I.kIn J hm.at_ (beq_iff_eq.mp hm.fn) ?_)
    refine wpAny_call (codeAny_mono (F.run X.A.in1 X.stack s H ⟨[.ref a], []⟩ [.ref a] [.ref a] _ E0 hr.in1 I.env0.in1 (hb _ [.ref a] I.kIn rfl) (.cons rfl .nil) q) fun r s' hq => ?_)
    cases r with
    | error e => exact False.elim hq
    | ok fl =>
      cases fl with
      | ret u =>
        obtain ⟨v, H', I3, rv, n, rfl, ⟨h0, h1⟩, q3⟩ := I.after hq
        obtain ⟨t, rfl⟩ := rv
        refine wpAny_bind (wpAny_holding (wpAny_pure ?_))
        refine wpAny_bind (wpAny_letGo ?_)
        show wpAny _ _ (if n < 0 then _ else _) _ _ _
        rw [if_neg (by omega)]
        show wpAny _ _ (if n ≥ 2 ^ 63 then _ else _) _ _ _
        rw [if_neg (by omega)]
        exact wpAny_bind (wpAny_mkInt (wpAny_pure ⟨_, rfl, ⟨.int n, H', I3.tok _, ⟨_, rfl⟩, q3⟩⟩))
      | next => exact False.elim hq
      | brk => exact False.elim hq
      | cont => exact False.elim hq
theorem atI_back {α : Type} {xs : List α} {v : α} (h : xs[xs.length - 1]? = some v) : atI xs (-1) = some v := by
  have hl := (List.getElem?_eq_some_iff.mp h).1
  unfold atI ixN
  rw [if_neg (by omega), if_pos (by omega)]
  show xs[((-1 : Int) + (xs.length : Int)).toNat]? = some v
  rw [show ((-1 : Int) + (xs.length : Int)).toNat = xs.length - 1 by omega]
  exact h
/-- what follows an if is shown once, for all that W says -/
theorem cutIf {b : Bool} {A : Prop} {D : Ends} {σ : St} {H : Hp} (W : St → Hp → Prop) (hT : ∀ σ' H', W σ' H' → D.nx σ' H') (hA : (∀ σ' H', W σ' H' → D.nx σ' H') → b = true → A) (hB : b = false → W σ H) : if b = true then A else tNext D σ H := by
  cases b with
  | true => exact hA hT rfl
  | false => exact hT σ H (hB rfl)
theorem cutIf2 {b : Bool} {A B : Prop} {D : Ends} (W : St → Hp → Prop) (hT : ∀ σ' H', W σ' H' → D.nx σ' H') (hA : (∀ σ' H', W σ' H' → D.nx σ' H') → b = true → A) (hB : (∀ σ' H', W σ' H' → D.nx σ' H') → b = false → B) : if b = true then A else B := by
  cases b with
  | true => exact hA hT rfl
  | false => exact hB hT rfl
/-- a new object -/
theorem nw {H H1 : Hp} {p : Addr} {o : HO} (e : upd H p o = H1) (h : H p = none) : Same H H1 ∧ H1 p = some o := by
  subst e
  exact ⟨L2.Same.upd h, upd_same⟩
theorem cutAnd {b : Bool} {A A2 : Prop} {D : Ends} {σ : St} {H : Hp} (W : St → Hp → Prop) (hT : ∀ σ' H', W σ' H' → D.nx σ' H') (hA : (∀ σ' H', W σ' H' → D.nx σ' H') → b = true → A) (hB : b = false → W σ H) :
    if b = true then A else (if false = true then A2 else tNext D σ H) := by
  cases b with
  | true => exact hA hT rfl
  | false => exact hT σ H (hB rfl)
/-- a power of a great number -/
def CPowW (i j : Int) : Prop := 0 ≤ j ∧ ∃ k : Nat, i.natAbs < 2 ^ k ∧ (k : Int) * j ≤ 2 ^ 27
theorem op_powW {X : Cx} : OpR X (binaryOp .Pow) (rI CPowW fun i j => .int (i ^ j.toNat)) := opI fun _ _ _ _ _ _ _ hc q => by
  obtain ⟨h0, k, hk, hz⟩ := hc
  refine PyProof.Rows.pow_int h0 (Int.le_trans (Int.mul_le_mul_of_nonneg_right (Int.ofNat_le.mpr (PyProof.Rows.intBits_le hk)) h0) hz) q
end Rg
/-! own mathematics: rows -/
namespace Rg
open PySem L2 TL

/-! ### how often one sign stands in a text -/
theorem cnt_run (x : Str) (c limit : Nat) : ∀ (m cur : Nat) (st : Array Nat × Nat), st.snd ≤ cur → st.fst.size + m ≤ limit →
    (forIn (List.range' cur m) st (StrLaws.occBody x ⟨#[c]⟩ x.length limit)).run.fst.size = st.fst.size + (((x.cps.toList).drop cur).take m).count c
  | 0, cur, st, h, _ => by simp
  | m + 1, cur, st, h, hl => by
    rw [List.range'_succ, List.forIn_cons]
    unfold StrLaws.occBody
    by_cases hc : x.cps.toList[cur]? = some c
    · have h2 := (StrLaws.subAt_one x c cur).mpr hc
      rw [if_pos ⟨⟨⟨by omega, h⟩, h2.1⟩, h2.2⟩]
      have ih := cnt_run x c limit m (cur + 1) (st.fst.push cur, cur + 1) (Nat.le_refl _) (by show (st.fst.push cur).size + m ≤ limit; rw [Array.size_push]; omega)
      obtain ⟨hlt, hget⟩ := List.getElem?_eq_some_iff.mp hc
      have e : (x.cps.toList.drop cur).take (m + 1) = c :: (x.cps.toList.drop (cur + 1)).take m := by
        rw [List.drop_eq_getElem_cons hlt, List.take_succ_cons, hget]
      refine Eq.trans ih ?_
      rw [e, List.count_cons_self]
      show (st.fst.push cur).size + _ = _
      rw [Array.size_push]
      omega
    · rw [if_neg fun z => hc ((StrLaws.subAt_one x c cur).mp ⟨z.1.2, z.2⟩)]
      have ih := cnt_run x c limit m (cur + 1) (st.fst, st.snd) (Nat.le_succ_of_le h) (by show st.fst.size + m ≤ limit; omega)
      refine Eq.trans ih ?_
      show st.fst.size + _ = _
      by_cases hlt : cur < x.cps.toList.length
      · have e : (x.cps.toList.drop cur).take (m + 1) = x.cps.toList[cur] :: (x.cps.toList.drop (cur + 1)).take m := by
          rw [List.drop_eq_getElem_cons hlt, List.take_succ_cons]
        have hne : ¬ (x.cps.toList[cur] == c) = true := fun z => hc (by rw [List.getElem?_eq_getElem hlt, beq_iff_eq.mp z])
        rw [e, List.count_cons_of_ne (fun z => hne (beq_iff_eq.mpr z))]
      · rw [List.drop_of_length_le (by omega), List.drop_of_length_le (by omega)]
        simp
theorem count_one (x : Str) (c : Nat) : Txt.count x ⟨#[c]⟩ = ((tl x).count c : Nat) := by
  show (((Builtin.Str.occurrences x ⟨#[c]⟩ 0 x.length (x.length + 1)).length : Nat) : Int) = _
  rw [StrLaws.occ_eq]
  have h := cnt_run x c (x.length + 1) (x.length + 1 - 0) 0 ((#[] : Array Nat), 0) (Nat.le_refl _) (by simp)
  rw [Array.length_toList, h]
  have e : ((x.cps.toList.drop 0).take (x.length + 1 - 0)) = x.cps.toList := by
    rw [List.drop_zero, List.take_of_length_le]
    show x.cps.toList.length ≤ x.cps.size + 1
    simp
  rw [e]
  simp [tl]

/-! ### rows -/
/-- the sign number i, modulo the length -/
def sg (l : List Nat) (i : Int) : Nat := l.getD (i % (l.length : Int)).toNat 0
def Signs (l : List Nat) : Prop := ∀ c ∈ l, c = 45 ∨ c = 46
structure Row (l : List Nat) : Prop where
  ne : 0 < l.length
  sgn : Signs l
  gap : ∀ i : Int, ¬ (sg l i = 45 ∧ sg l (i + 1) = 45)
theorem place_lt {l : List Nat} (h : 0 < l.length) (i : Int) : (i % (l.length : Int)).toNat < l.length := by
  have h1 := Int.emod_nonneg i (show (l.length : Int) ≠ 0 by omega)
  have h2 := Int.emod_lt_of_pos i (show (0 : Int) < l.length by omega)
  omega
theorem sg_get {l : List Nat} (h : 0 < l.length) (i : Int) : l[(i % (l.length : Int)).toNat]? = some (sg l i) := by
  unfold sg
  rw [List.getD_eq_getElem?_getD, List.getElem?_eq_getElem (place_lt h i)]
  rfl
theorem sg_nat {l : List Nat} {k : Nat} (h : k < l.length) : l[k]? = some (sg l (k : Int)) := by
  have e : ((k : Int) % (l.length : Int)).toNat = k := by
    rw [Int.emod_eq_of_lt (by omega) (by omega)]
    omega
  have q := sg_get (l := l) (by omega) (k : Int)
  rw [e] at q
  exact q
theorem sg_mem {l : List Nat} (h : 0 < l.length) (i : Int) : sg l i ∈ l := List.mem_of_getElem? (sg_get h i)
theorem sg_congr {l : List Nat} {i j : Int} (h : i % (l.length : Int) = j % (l.length : Int)) : sg l i = sg l j := by
  unfold sg
  rw [h]
theorem sg_add {l : List Nat} (i : Int) : sg l (i + (l.length : Int)) = sg l i := sg_congr (Int.add_emod_right i _)
theorem sg_first {l : List Nat} (h : 0 < l.length) : l[0]? = some (sg l 0) := sg_nat h
/-- what the program looks at: the signs and the first one behind them -/
theorem gap_iff {l : List Nat} (h : 0 < l.length) : (∀ i : Int, ¬ (sg l i = 45 ∧ sg l (i + 1) = 45)) ↔ ∀ i : Nat, ¬ ((l ++ l.take 1)[i]? = some 45 ∧ (l ++ l.take 1)[i + 1]? = some 45) := by
  have hn : ∀ k : Nat, k ≤ l.length → (l ++ l.take 1)[k]? = some (sg l (k : Int)) := fun k hk => by
    by_cases h1 : k < l.length
    · rw [List.getElem?_append_left h1]
      exact sg_nat h1
    · have e : k = l.length := by omega
      subst e
      rw [List.getElem?_append_right (Nat.le_refl _), Nat.sub_self, List.getElem?_take_of_lt (by omega), sg_first h]
      have q := sg_add (l := l) 0
      rw [Int.zero_add] at q
      rw [q]
  have hlen : (l ++ l.take 1).length = l.length + 1 := by
    rw [List.length_append, List.length_take]
    omega
  constructor
  · rintro g i ⟨h1, h2⟩
    have hi := (List.getElem?_eq_some_iff.mp h2).1
    rw [hlen] at hi
    rw [hn i (by omega)] at h1
    rw [hn (i + 1) (by omega)] at h2
    exact g (i : Int) ⟨Option.some.inj h1, by simpa using h2⟩
  · rintro g i ⟨h1, h2⟩
    have hp := place_lt h i
    have h0 := Int.emod_nonneg i (show (l.length : Int) ≠ 0 by omega)
    have e : (((i % (l.length : Int)).toNat : Nat) : Int) = i % (l.length : Int) := Int.toNat_of_nonneg h0
    have a1 : sg l (((i % (l.length : Int)).toNat : Nat) : Int) = sg l i := sg_congr (by rw [e, Int.emod_emod])
    have a2 : sg l ((((i % (l.length : Int)).toNat + 1 : Nat) : Nat) : Int) = sg l (i + 1) := sg_congr (by
      rw [Int.natCast_add, e]
      show (i % (l.length : Int) + 1) % (l.length : Int) = (i + 1) % (l.length : Int)
      rw [Int.emod_add_emod])
    refine g (i % (l.length : Int)).toNat ⟨?_, ?_⟩
    · rw [hn _ (by omega), a1, h1]
    · rw [hn _ (by omega), a2, h2]
theorem signs_count : ∀ l : List Nat, l.count 45 + l.count 46 ≤ l.length ∧ (l.count 45 + l.count 46 = l.length ↔ Signs l)
  | [] => ⟨by simp, by simp [Signs]⟩
  | a :: l => by
    obtain ⟨h1, h2⟩ := signs_count l
    by_cases e : a = 45
    · subst e
      rw [List.count_cons_self, List.count_cons_of_ne (by decide)]
      refine ⟨by simp; omega, ⟨fun h c hc => ?_, fun h => ?_⟩⟩
      · rcases List.mem_cons.mp hc with rfl | hc
        · exact .inl rfl
        · exact h2.mp (by simp at h; omega) c hc
      · have := h2.mpr fun c hc => h c (List.mem_cons_of_mem _ hc)
        simp; omega
    · by_cases e2 : a = 46
      · subst e2
        rw [List.count_cons_self, List.count_cons_of_ne (by decide)]
        refine ⟨by simp; omega, ⟨fun h c hc => ?_, fun h => ?_⟩⟩
        · rcases List.mem_cons.mp hc with rfl | hc
          · exact .inr rfl
          · exact h2.mp (by simp at h; omega) c hc
        · have := h2.mpr fun c hc => h c (List.mem_cons_of_mem _ hc)
          simp; omega
      · rw [List.count_cons_of_ne (fun z => e z), List.count_cons_of_ne (fun z => e2 z)]
        refine ⟨by simp; omega, ⟨fun h => ?_, fun h => ?_⟩⟩
        · simp at h; omega
        · rcases h a List.mem_cons_self with q | q
          · exact absurd q e
          · exact absurd q e2
/-- a list whose signs are those of a row, one after the other, at other places -/
theorem Row.move {l m : List Nat} (R : Row l) (hm : 0 < m.length) (f : Int → Int) (h : ∀ k : Nat, k < m.length → m[k]? = some (sg l (f k))) (hp : ∀ i : Int, sg l (f (i % (m.length : Int))) = sg l (f i)) (hs : ∀ i : Int, f (i + 1) = f i + 1 ∨ f (i + 1) = f i - 1) : Row m := by
  have key : ∀ i : Int, sg m i = sg l (f i) := fun i => by
    have h1 := sg_get hm i
    rw [h _ (place_lt hm i)] at h1
    have e : (((i % (m.length : Int)).toNat : Nat) : Int) = i % (m.length : Int) := Int.toNat_of_nonneg (Int.emod_nonneg i (by omega))
    rw [e, hp] at h1
    exact (Option.some.inj h1).symm
  refine ⟨hm, fun c hc => ?_, fun i ⟨h1, h2⟩ => ?_⟩
  · obtain ⟨k, hk, e⟩ := List.mem_iff_getElem.mp hc
    have q := h k hk
    rw [List.getElem?_eq_getElem hk, e] at q
    rw [Option.some.inj q]
    exact R.sgn _ (sg_mem R.ne _)
  · rw [key] at h1 h2
    rcases hs i with e | e
    · rw [e] at h2
      exact R.gap (f i) ⟨h1, h2⟩
    · rw [e] at h2
      exact R.gap (f i - 1) ⟨h2, by rw [Int.sub_add_cancel]; exact h1⟩
theorem rep_length (n : Nat) (l : List Nat) : ((List.replicate n l).flatten).length = n * l.length := by simp
theorem rep_get {l : List Nat} (hl : 0 < l.length) : ∀ (n k : Nat), k < n * l.length → ((List.replicate n l).flatten)[k]? = some (sg l (k : Int))
  | 0, k, h => by omega
  | n + 1, k, h => by
    rw [List.replicate_succ, List.flatten_cons]
    by_cases h1 : k < l.length
    · rw [List.getElem?_append_left h1]
      exact sg_nat h1
    · rw [List.getElem?_append_right (by omega), rep_get hl n (k - l.length) (by rw [Nat.succ_mul] at h; omega)]
      have e : ((k : Int)) = ((k - l.length : Nat) : Int) + (l.length : Int) := by omega
      rw [e, sg_add]
theorem Row.rep {l : List Nat} (R : Row l) {n : Nat} (hn : 0 < n) : Row (List.replicate n l).flatten := by
  have hlen := rep_length n l
  refine R.move (f := id) (by rw [hlen]; exact Nat.mul_pos hn R.ne) (fun k hk => rep_get R.ne n k (by rw [← hlen]; exact hk)) (fun i => sg_congr ?_) (fun i => .inl rfl)
  show (i % _) % _ = i % _
  rw [hlen]
  refine Int.emod_emod_of_dvd i ?_
  exact ⟨(n : Int), by rw [Int.natCast_mul, Int.mul_comm]⟩
/-- one sign becomes a point -/
theorem Row.dot {l : List Nat} (R : Row l) (p : Nat) : Row (l.set p 46) := by
  have hlen : (l.set p 46).length = l.length := List.length_set
  have key : ∀ i : Int, sg (l.set p 46) i = 46 ∨ sg (l.set p 46) i = sg l i := fun i => by
    unfold sg
    rw [hlen, List.getD_eq_getElem?_getD, List.getD_eq_getElem?_getD, List.getElem?_set]
    by_cases e : p = (i % (l.length : Int)).toNat
    · rw [if_pos e]
      by_cases h2 : p < l.length
      · rw [if_pos h2]
        exact .inl rfl
      · have := place_lt R.ne i
        omega
    · rw [if_neg e]
      exact .inr rfl
  refine ⟨by rw [hlen]; exact R.ne, fun c hc => ?_, fun i ⟨h1, h2⟩ => ?_⟩
  · rcases List.mem_or_eq_of_mem_set hc with h | h
    · exact R.sgn c h
    · exact .inr h
  · rcases key i with e | e
    · omega
    · rcases key (i + 1) with e2 | e2
      · omega
      · exact R.gap i ⟨by omega, by omega⟩
end Rg
namespace Rg
open PySem L2 TL
theorem take2_drop {l : List Nat} {a b i : Nat} : ((l.drop i).take 2 == [a, b]) = true ↔ l[i]? = some a ∧ l[i + 1]? = some b := by
  have e0 : l[i]? = (l.drop i)[0]? := by rw [List.getElem?_drop]; rfl
  have e1 : l[i + 1]? = (l.drop i)[1]? := by rw [List.getElem?_drop]
  rw [e0, e1, beq_iff_eq]
  cases l.drop i with
  | nil => simp
  | cons x r =>
    cases r with
    | nil => simp
    | cons y r => simp
theorem tl_dd : tl (Str.ofString "--") = [45, 45] := by decide +kernel
theorem dd_iff (y : Str) : (!(Builtin.Str.occurrences y (Str.ofString "--") 0 y.length 1).isEmpty) = true ↔ ∃ i, (tl y)[i]? = some 45 ∧ (tl y)[i + 1]? = some 45 := by
  rw [StrLaws.found_iff]
  have hl : (Str.ofString "--").length = 2 := by decide +kernel
  constructor
  · rintro ⟨i, _, h⟩
    rw [StrLaws.subAt_eq, hl, show (Str.ofString "--").cps.toList = [45, 45] from tl_dd] at h
    exact ⟨i, take2_drop.mp h⟩
  · rintro ⟨i, h⟩
    refine ⟨i, ?_, ?_⟩
    · have := (List.getElem?_eq_some_iff.mp h.2).1
      rw [hl, len_tl]
      omega
    · rw [StrLaws.subAt_eq, hl, show (Str.ofString "--").cps.toList = [45, 45] from tl_dd]
      exact take2_drop.mpr h
/-- what the program asks of a text is that it be a row -/
theorem row_asked {z : Str} {c : Nat} (h0 : 0 < (tl z).length) (hs : (tl z).count 45 + (tl z).count 46 = (tl z).length) (hc : (tl z)[0]? = some c) :
    (!(!(Builtin.Str.occurrences (z ++ (⟨#[c]⟩ : Str)) (Str.ofString "--") 0 (z ++ (⟨#[c]⟩ : Str)).length 1).isEmpty)) = true ↔ Row (tl z) := by
  have e : tl (z ++ (⟨#[c]⟩ : Str)) = tl z ++ (tl z).take 1 := by
    rw [tl_append]
    congr 1
    cases h : tl z with
    | nil => rw [h] at h0; simp at h0
    | cons x r =>
      rw [h] at hc
      have : x = c := by simpa using hc
      subst this
      rfl
  have d := dd_iff (z ++ (⟨#[c]⟩ : Str))
  rw [e] at d
  have g := gap_iff h0
  constructor
  · intro h
    refine ⟨h0, (signs_count _).2.mp hs, g.mpr fun i q => ?_⟩
    have := d.mpr ⟨i, q⟩
    rw [this] at h
    exact absurd h (by decide)
  · intro R
    cases q : (!(Builtin.Str.occurrences (z ++ (⟨#[c]⟩ : Str)) (Str.ofString "--") 0 (z ++ (⟨#[c]⟩ : Str)).length 1).isEmpty) with
    | false => rfl
    | true =>
      obtain ⟨i, hi⟩ := d.mp q
      exact absurd hi (g.mp R.gap i)
end Rg
namespace Rg
open PySem L2 TL
/-! ### a row that grows sign by sign -/
structure Part (n : Nat) (l : List Nat) : Prop where
  sgn : Signs l
  gap : ∀ i : Nat, ¬ (l[i]? = some 45 ∧ l[i + 1]? = some 45)
  fin : l.length = n → ¬ (l[n - 1]? = some 45 ∧ l[0]? = some 45)
theorem Part.nil {n : Nat} (h : 0 < n) : Part n [] := ⟨fun _ h => (nomatch h), fun i h => by simp at h, fun e => by simp at e; omega⟩
theorem Part.add {n : Nat} {l : List Nat} {c : Nat} (p : Part n l) (hc : c = 45 ∨ c = 46) (h1 : c = 45 → l.getLast? ≠ some 45) (h2 : c = 45 → l.length + 1 = n → n ≠ 1 ∧ l[0]? ≠ some 45) : Part n (l ++ [c]) := by
  refine ⟨fun x hx => ?_, fun i ⟨g1, g2⟩ => ?_, fun e ⟨g1, g2⟩ => ?_⟩
  · rcases List.mem_append.mp hx with h | h
    · exact p.sgn x h
    · rw [List.mem_singleton.mp h]
      exact hc
  · have hi := (List.getElem?_eq_some_iff.mp g2).1
    rw [List.length_append, List.length_singleton] at hi
    by_cases hl : i + 1 < l.length
    · rw [List.getElem?_append_left (by omega)] at g1
      rw [List.getElem?_append_left hl] at g2
      exact p.gap i ⟨g1, g2⟩
    · have e : i + 1 = l.length := by omega
      rw [List.getElem?_append_left (by omega)] at g1
      rw [e, List.getElem?_append_right (Nat.le_refl _), Nat.sub_self] at g2
      have ec : c = 45 := by simpa using g2
      refine h1 ec ?_
      rw [List.getLast?_eq_getElem?, show l.length - 1 = i by omega]
      exact g1
  · rw [List.length_append, List.length_singleton] at e
    rw [List.getElem?_append_right (by omega), show n - 1 - l.length = 0 by omega] at g1
    have ec : c = 45 := by simpa using g1
    obtain ⟨a1, a2⟩ := h2 ec e
    rw [List.getElem?_append_left (by omega)] at g2
    exact a2 g2
theorem Part.row {n : Nat} {l : List Nat} (p : Part n l) (e : l.length = n) (h : 0 < n) : Row l := by
  subst e
  refine ⟨h, p.sgn, (gap_iff h).mpr fun i ⟨g1, g2⟩ => ?_⟩
  have hi := (List.getElem?_eq_some_iff.mp g2).1
  rw [List.length_append, List.length_take] at hi
  rw [List.getElem?_append_left (by omega)] at g1
  by_cases hl : i + 1 < l.length
  · rw [List.getElem?_append_left hl] at g2
    exact p.gap i ⟨g1, g2⟩
  · have e : i + 1 = l.length := by omega
    rw [e, List.getElem?_append_right (Nat.le_refl _), Nat.sub_self, List.getElem?_take_of_lt (by omega)] at g2
    exact p.fin rfl ⟨by rw [show l.length - 1 = i by omega]; exact g1, g2⟩
theorem cut_last {z : Str} {c : Nat} (h : (tl z).getLast? = some c) : cutS z (some (-1)) none = ⟨#[c]⟩ := by
  refine ext_tl ?_
  show ((tl z).drop (HT.sIx z.length 0 (some (-1)))).take (HT.sIx z.length z.length none - HT.sIx z.length 0 (some (-1))) = [c]
  have e1 : HT.sIx z.length 0 (some (-1)) = z.length - 1 := by
    show (if (-1 : Int) < 0 then ((-1 : Int) + (z.length : Int)).toNat else min (-1 : Int).toNat z.length) = _
    rw [if_pos (by decide)]
    omega
  have e2 : HT.sIx z.length z.length none = z.length := rfl
  rw [e1, e2, len_tl]
  rw [List.getLast?_eq_getElem?] at h
  obtain ⟨hl, hg⟩ := List.getElem?_eq_some_iff.mp h
  rw [List.drop_eq_getElem_cons hl, hg, show (tl z).length - ((tl z).length - 1) = 1 by omega]
  rfl
/-- the rows of a rule, n signs each -/
structure Rows (n : Nat) (ls : List Str) : Prop where
  ne : 0 < ls.length
  len : ∀ z ∈ ls, (tl z).length = n
  row : ∀ z ∈ ls, Row (tl z)
theorem Rows.pos {n : Nat} {ls : List Str} (h : Rows n ls) : 0 < n := by
  have e := List.getElem_mem h.ne
  rw [← h.len _ e]
  exact (h.row _ e).ne
end Rg
namespace Rg
open PySem L2 TL
/-- a text k times -/
def repS (k : Nat) (z : Str) : Str := ⟨((List.replicate k (tl z)).flatten).toArray⟩
theorem tl_repS (k : Nat) (z : Str) : tl (repS k z) = (List.replicate k (tl z)).flatten := rfl
theorem Rows.mapRep {n k : Nat} {ls : List Str} (R : Rows n ls) (hk : 0 < k) : Rows (k * n) (ls.map (repS k)) := by
  refine ⟨by rw [List.length_map]; exact R.ne, fun z hz => ?_, fun z hz => ?_⟩
  all_goals obtain ⟨y, hy, rfl⟩ := List.mem_map.mp hz
  · rw [tl_repS, rep_length, R.len y hy]
  · rw [tl_repS]
    exact (R.row y hy).rep hk
theorem mem_rep {α : Type} {k : Nat} {l : List α} {x : α} (h : x ∈ (List.replicate k l).flatten) : x ∈ l := by
  rw [List.mem_flatten] at h
  obtain ⟨m, h1, h2⟩ := h
  rw [(List.mem_replicate.mp h1).2] at h2
  exact h2
theorem Rows.many {n k : Nat} {ls : List Str} (R : Rows n ls) (hk : 0 < k) : Rows n (List.replicate k ls).flatten :=
  ⟨by rw [show (List.replicate k ls).flatten.length = k * ls.length by simp]; exact Nat.mul_pos hk R.ne, fun z hz => R.len z (mem_rep hz), fun z hz => R.row z (mem_rep hz)⟩
theorem Rows.set {n : Nat} {ls : List Str} (R : Rows n ls) (p : Nat) {z : Str} (h : (tl z).length = n) (hr : Row (tl z)) : Rows n (ls.set p z) :=
  ⟨by rw [List.length_set]; exact R.ne, fun y hy => (List.mem_or_eq_of_mem_set hy).elim (R.len y) fun e => by rw [e]; exact h, fun y hy => (List.mem_or_eq_of_mem_set hy).elim (R.row y) fun e => by rw [e]; exact hr⟩
theorem rep_map {α β : Type} (f : α → β) (k : Nat) (l : List α) : (List.replicate k (l.map f)).flatten = (List.replicate k l).flatten.map f := by
  rw [List.map_flatten, List.map_replicate]
theorem rep_len' {α : Type} (k : Nat) (l : List α) : (List.replicate k l).flatten.length = k * l.length := by simp
theorem sIx_nat {n d p : Nat} : HT.sIx n d (some (p : Int)) = min p n := by
  show (if (p : Int) < 0 then ((p : Int) + (n : Int)).toNat else min (p : Int).toNat n) = _
  rw [if_neg (by omega)]
  rfl
/-- z[:p] + '.' + z[p + 1:] -/
theorem cut_dot {z s : Str} {p : Nat} (hs : tl s = [46]) (h : p < (tl z).length) : tl (cutS z none (some (p : Int)) ++ s ++ cutS z (some ((p : Int) + 1)) none) = (tl z).set p 46 := by
  rw [tl_append, tl_append, hs]
  have e1 : tl (cutS z none (some (p : Int))) = (tl z).take p := by
    show ((tl z).drop (HT.sIx z.length 0 none)).take (HT.sIx z.length z.length (some (p : Int)) - HT.sIx z.length 0 none) = _
    rw [sIx_nat]
    show ((tl z).drop 0).take (min p z.length - 0) = _
    rw [List.drop_zero, Nat.sub_zero, len_tl, Nat.min_eq_left (Nat.le_of_lt h)]
  have e2 : tl (cutS z (some ((p : Int) + 1)) none) = (tl z).drop (p + 1) := by
    show ((tl z).drop (HT.sIx z.length 0 (some ((p : Int) + 1)))).take (HT.sIx z.length z.length none - HT.sIx z.length 0 (some ((p : Int) + 1))) = _
    rw [show ((p : Int) + 1) = ((p + 1 : Nat) : Int) from rfl, sIx_nat]
    show ((tl z).drop (min (p + 1) z.length)).take (z.length - min (p + 1) z.length) = _
    rw [len_tl, Nat.min_eq_left (by omega), List.take_of_length_le (by rw [List.length_drop]; exact Nat.le_refl _)]
  rw [e1, e2, List.set_eq_take_append_cons_drop, if_pos h, List.append_assoc]
  rfl
theorem Rows.lenS {n : Nat} {ls : List Str} (R : Rows n ls) {z : Str} (h : z ∈ ls) : z.length = n := by rw [len_tl]; exact R.len z h
theorem take_snoc {α β : Type} {f : α → β} {ls : List α} {i : Nat} (h : i < ls.length) : (ls.take (i + 1)).map f = (ls.take i).map f ++ [f ls[i]] := by
  rw [List.take_add_one, List.getElem?_eq_getElem h, List.map_append]
  rfl
end Rg
/-! own words: == of own objects and of lists of texts -/
namespace Rg
open PySem L2 TL
theorem dp_strs {K : PySem.W.Frag} {H : Hp} : ∀ ls : List Str, DpAll K H (ls.map V.str) (ls.map PyData.str)
  | [] => .nil
  | z :: ls => .cons (.str z) (dp_strs ls)
theorem eqvAll_strs : ∀ ls ms : List Str, PyData.eqvAll (ls.map PyData.str) (ms.map PyData.str) = decide (ls = ms)
  | [], [] => rfl
  | [], _ :: _ => rfl
  | _ :: _, [] => rfl
  | x :: ls, y :: ms => by
    show (PyData.eqv (.str x) (.str y) && PyData.eqvAll (ls.map PyData.str) (ms.map PyData.str)) = _
    rw [eqvAll_strs ls ms]
    show ((x == y) && decide (ls = ms)) = _
    by_cases h1 : x = y
    · subst h1
      by_cases h2 : ls = ms
      · subst h2
        simp
      · rw [decide_eq_false h2, decide_eq_false fun e => h2 (List.cons.inj e).2]
        simp
    · rw [decide_eq_false fun e => h1 (List.cons.inj e).1, beq_eq_false_iff_ne.mpr h1]
      rfl
theorem eqv_tup (ls ms : List Str) : PyData.eqv (.tuple (ls.map PyData.str)) (.tuple (ms.map PyData.str)) = decide (ls = ms) := eqvAll_strs ls ms
theorem eqv_lst (ls ms : List Str) : PyData.eqv (.list (ls.map PyData.str)) (.list (ms.map PyData.str)) = decide (ls = ms) := eqvAll_strs ls ms
theorem depth_strs : ∀ ls : List Str, PyData.depthAll (ls.map PyData.str) ≤ 1
  | [] => Nat.zero_le _
  | z :: ls => by
    have ih := depth_strs ls
    simp only [List.map_cons, PyData.depthAll, PyData.depth]
    omega
theorem lay_strs : ∀ ls : List Str, (∀ z ∈ ls, Signs (tl z)) → PyData.canLayAll0 (ls.map PyData.str) = true
  | [], _ => rfl
  | z :: ls, h => by
    have ih := lay_strs ls fun y hy => h y (List.mem_cons_of_mem _ hy)
    show (PyData.strOk z && PyData.canLayAll0 (ls.map PyData.str)) = true
    rw [ih, Bool.and_true]
    show (z.cps.all fun x => decide (x < 0x110000)) = true
    rw [← Array.all_toList, List.all_eq_true]
    intro c hc
    rcases h z List.mem_cons_self c hc with e | e
    · rw [e]; rfl
    · rw [e]; rfl
theorem shaped_tup {ls : List Str} (h : ∀ z ∈ ls, Signs (tl z)) : SeqAt.shaped (.tuple (ls.map PyData.str)) = true := by
  have h1 := lay_strs ls h
  have h2 := depth_strs ls
  show (PyData.canLayAll0 (ls.map PyData.str) && decide (PyData.depth (.tuple (ls.map PyData.str)) ≤ 64)) = true
  rw [h1, Bool.true_and, decide_eq_true_eq]
  simp only [PyData.depth]
  omega
theorem shaped_lst {ls : List Str} (h : ∀ z ∈ ls, Signs (tl z)) : SeqAt.shaped (.list (ls.map PyData.str)) = true := by
  have h1 := lay_strs ls h
  have h2 := depth_strs ls
  show (PyData.canLayAll0 (ls.map PyData.str) && decide (PyData.depth (.list (ls.map PyData.str)) ≤ 64)) = true
  rw [h1, Bool.true_and, decide_eq_true_eq]
  simp only [PyData.depth]
  omega
theorem Rows.signs {n : Nat} {ls : List Str} (R : Rows n ls) : ∀ z ∈ ls, Signs (tl z) := fun z hz => (R.row z hz).sgn

/-! ### == of an object with its own __eq__ -/
def rEqOwn (K : PySem.W.Frag) (C : Addr) (sp : Sp) : R2 := fun x y H Q => ∃ a b dx dy fs gs, x = .ref a ∧ y = .ref b ∧ H a = some (.ins C dx fs) ∧ H b = some (.ins C dy gs) ∧ sp [.ref a, .ref b] H (fun v H' => ∃ k : Bool, v = .bl k ∧ Q (.bl k) H') E0
theorem op_eqOwn {X : Cx} {C : Addr} {n : Nat} {sp : Sp} (D : Me X.prog X.w X.K X.mg X.base C "__eq__" n ["self", "other"] sp) (hr : Room n X.A) : OpR X (compareOp .Eq) (rEqOwn X.K C sp) := by
  intro pins s σ H x y v u Q I rx ry h
  obtain ⟨a, b, dx, dy, fs, gs, rfl, rfl, ha, hb', q⟩ := h
  obtain ⟨f, fd, c, hm, F, hb⟩ := D.ex
  cases rx
  cases ry
  show wpAny (model X.prog X.w) X.A (richCompare .Eq (.ref a) (.ref b)) (EP X pins σ Q) X.xe s
  obtain ⟨mA, J, _⟩ := ins_get I.hok ha
  obtain ⟨mB, J', _⟩ := ins_get I.hok hb'
  obtain ⟨od, J, _⟩ := J.look
  obtain ⟨od', J', _⟩ := J'.look
  obtain ⟨m, hF⟩ := I.fr
  refine PySem.W.cmp_K (op := .Eq) (tb := .ref C) hr.units0 hF I.ok.mod.kin J J'.type (by simp [PySem.W.notFirst]) hm.at_ hm.fn ?_
  refine wpAny_call (codeAny_mono (F.run X.A X.stack s H ⟨[.ref a, .ref b], []⟩ [.ref a, .ref b] [.ref a, .ref b] _ E0 hr I.env0 (hb s [.ref a, .ref b] I.kIn rfl) (.cons rfl (.cons rfl .nil)) q) fun r s' hq => ?_)
  cases r with
  | error e => exact False.elim hq
  | ok fl =>
    cases fl with
    | ret w =>
      obtain ⟨z, H', I', rz, k, rfl, q'⟩ := I.after hq
      cases rz
      exact ⟨.bl k, H', I', rfl, q'⟩
    | next => exact False.elim hq
    | brk => exact False.elim hq
    | cont => exact False.elim hq
end Rg
/-! own mathematics: rows moved and mirrored -/
namespace Rg
open PySem L2 TL
/-- the list whose sign number i is the one with the number f i of l -/
def pick (l : List Nat) (f : Int → Int) : List Nat := (List.range l.length).map fun i : Nat => sg l (f (i : Int))
theorem pick_len (l : List Nat) (f : Int → Int) : (pick l f).length = l.length := by unfold pick; simp
theorem pick_get {l : List Nat} {f : Int → Int} {k : Nat} (h : k < l.length) : (pick l f)[k]? = some (sg l (f (k : Int))) := by
  unfold pick
  rw [List.getElem?_map, List.getElem?_range h]
  rfl
theorem pick_eq {l m : List Nat} {f : Int → Int} (hl : m.length = l.length) (h : ∀ k : Nat, k < l.length → m[k]? = some (sg l (f (k : Int)))) : m = pick l f := by
  refine List.ext_getElem? fun k => ?_
  by_cases hk : k < l.length
  · rw [h k hk, pick_get hk]
  · rw [List.getElem?_eq_none (by omega), List.getElem?_eq_none (by rw [pick_len]; omega)]
theorem pick_congr {l : List Nat} {f g : Int → Int} (h : ∀ k : Nat, k < l.length → sg l (f (k : Int)) = sg l (g (k : Int))) : pick l f = pick l g := by
  refine pick_eq (pick_len l f) fun k hk => ?_
  rw [pick_get hk, h k hk]
/-- what is asked of f: a step on is a step on or back, and it goes round with the length -/
structure Mv (n : Nat) (f : Int → Int) : Prop where
  step : ∀ i : Int, f (i + 1) = f i + 1 ∨ f (i + 1) = f i - 1
  round : ∀ i : Int, f (i % (n : Int)) % (n : Int) = f i % (n : Int)
theorem sg_pick {l : List Nat} (h0 : 0 < l.length) {f : Int → Int} (m : Mv l.length f) (i : Int) : sg (pick l f) i = sg l (f i) := by
  have hm : 0 < (pick l f).length := by rw [pick_len]; exact h0
  have h1 := sg_get hm i
  have hp := place_lt hm i
  rw [pick_len] at h1 hp
  rw [pick_get hp] at h1
  have e : (((i % (l.length : Int)).toNat : Nat) : Int) = i % (l.length : Int) := Int.toNat_of_nonneg (Int.emod_nonneg i (by omega))
  rw [e] at h1
  rw [← Option.some.inj h1]
  exact sg_congr (m.round i)
theorem Row.pick {l : List Nat} (R : Row l) {f : Int → Int} (m : Mv l.length f) : Row (pick l f) :=
  R.move (by rw [pick_len]; exact R.ne) f (fun k hk => pick_get (by rw [pick_len] at hk; exact hk)) (fun i => by rw [pick_len]; exact sg_congr (m.round i)) m.step
theorem mv_sub (n : Nat) (b : Int) : Mv n fun i => i - b :=
  ⟨fun i => .inl (by show i + 1 - b = i - b + 1; omega), fun i => by show (i % (n : Int) - b) % (n : Int) = (i - b) % (n : Int); rw [Int.sub_eq_add_neg, Int.emod_add_emod, Int.sub_eq_add_neg]⟩
theorem mv_mir (n : Nat) (b : Int) : Mv n fun i => b - i := by
  refine ⟨fun i => .inr (by show b - (i + 1) = b - i - 1; omega), fun i => ?_⟩
  show (b - i % (n : Int)) % (n : Int) = (b - i) % (n : Int)
  rw [Int.sub_emod, Int.emod_emod, ← Int.sub_emod]
theorem pick_pick {l : List Nat} (h0 : 0 < l.length) {f g : Int → Int} (m : Mv l.length f) : pick (pick l f) g = pick l fun i => f (g i) := by
  refine pick_eq (by rw [pick_len, pick_len]) fun k hk => ?_
  rw [pick_get (by rw [pick_len]; exact hk), sg_pick h0 m]
theorem pick_id {l : List Nat} {f : Int → Int} (h : ∀ i : Int, f i % (l.length : Int) = i % (l.length : Int)) : pick l f = l := by
  refine (pick_eq rfl fun k hk => ?_).symm
  rw [sg_nat hk, sg_congr (h k)]
/-- a row moved to the right -/
def rotS (b : Int) (z : Str) : Str := ⟨(pick (tl z) fun i => i - b).toArray⟩
/-- a row seen from the other side -/
def mirS (b : Int) (z : Str) : Str := ⟨(pick (tl z) fun i => b - i).toArray⟩
theorem tl_rotS (b : Int) (z : Str) : tl (rotS b z) = pick (tl z) fun i => i - b := rfl
theorem tl_mirS (b : Int) (z : Str) : tl (mirS b z) = pick (tl z) fun i => b - i := rfl
theorem Rows.map {n : Nat} {ls : List Str} (R : Rows n ls) {g : Str → Str} (hl : ∀ z, (tl (g z)).length = (tl z).length) (hr : ∀ z, Row (tl z) → Row (tl (g z))) : Rows n (ls.map g) := by
  refine ⟨by rw [List.length_map]; exact R.ne, fun z hz => ?_, fun z hz => ?_⟩
  all_goals obtain ⟨y, hy, rfl⟩ := List.mem_map.mp hz
  · rw [hl, R.len y hy]
  · exact hr y (R.row y hy)
theorem Rows.rot {n : Nat} {ls : List Str} (R : Rows n ls) (b : Int) : Rows n (ls.map (rotS b)) :=
  R.map (g := rotS b) (fun z => by rw [tl_rotS, pick_len]) fun z h => by rw [tl_rotS]; exact h.pick (mv_sub _ b)
theorem Rows.mir {n : Nat} {ls : List Str} (R : Rows n ls) (b : Int) : Rows n (ls.map (mirS b)) :=
  R.map (g := mirS b) (fun z => by rw [tl_mirS, pick_len]) fun z h => by rw [tl_mirS]; exact h.pick (mv_mir _ b)
theorem rot_rot {n : Nat} {ls : List Str} (R : Rows n ls) (a b : Int) : (ls.map (rotS a)).map (rotS b) = ls.map (rotS (a + b)) := by
  rw [List.map_map]
  refine List.map_congr_left fun z hz => ext_tl ?_
  show tl (rotS b (rotS a z)) = _
  rw [tl_rotS, tl_rotS, tl_rotS, pick_pick (R.row z hz).ne (mv_sub _ a)]
  refine pick_congr fun k _ => ?_
  show sg (tl z) ((k : Int) - b - a) = sg (tl z) ((k : Int) - (a + b))
  congr 1
  omega
theorem rot_width {n : Nat} {ls : List Str} (R : Rows n ls) : ls.map (rotS (n : Int)) = ls := by
  refine Eq.trans (List.map_congr_left fun z hz => ?_) (List.map_id ls)
  refine ext_tl ?_
  rw [tl_rotS]
  refine pick_id fun i => ?_
  rw [R.len z hz]
  exact Int.sub_emod_right i _
theorem mir_mir {n : Nat} {ls : List Str} (R : Rows n ls) (a b : Int) : (ls.map (mirS a)).map (mirS b) = ls.map (rotS (b - a)) := by
  rw [List.map_map]
  refine List.map_congr_left fun z hz => ext_tl ?_
  show tl (mirS b (mirS a z)) = _
  rw [tl_mirS, tl_mirS, tl_rotS, pick_pick (R.row z hz).ne (mv_mir _ a)]
  refine pick_congr fun k _ => ?_
  show sg (tl z) (a - (b - (k : Int))) = sg (tl z) ((k : Int) - (b - a))
  congr 1
  omega
/-- what the program does: the part from a cut on, and the part before it -/
theorem cut_rot {z : Str} {b : Int} {c : Nat} (h0 : 0 < (tl z).length) (hc : ((-b) % ((tl z).length : Int)) = (c : Int)) : cutS z (some (c : Int)) none ++ cutS z none (some (c : Int)) = rotS b z := by
  refine ext_tl ?_
  rw [tl_append, tl_rotS]
  have hlt : c < (tl z).length := by
    have := Int.emod_lt_of_pos (-b) (show (0 : Int) < (tl z).length by omega)
    omega
  have e1 : tl (cutS z none (some (c : Int))) = (tl z).take c := by
    show ((tl z).drop (HT.sIx z.length 0 none)).take (HT.sIx z.length z.length (some (c : Int)) - HT.sIx z.length 0 none) = _
    rw [sIx_nat]
    show ((tl z).drop 0).take (min c z.length - 0) = _
    rw [List.drop_zero, Nat.sub_zero, len_tl, Nat.min_eq_left (Nat.le_of_lt hlt)]
  have e2 : tl (cutS z (some (c : Int)) none) = (tl z).drop c := by
    show ((tl z).drop (HT.sIx z.length 0 (some (c : Int)))).take (HT.sIx z.length z.length none - HT.sIx z.length 0 (some (c : Int))) = _
    rw [sIx_nat]
    show ((tl z).drop (min c z.length)).take (z.length - min c z.length) = _
    rw [len_tl, Nat.min_eq_left (by omega), List.take_of_length_le (by rw [List.length_drop]; exact Nat.le_refl _)]
  rw [e1, e2]
  have hb : ∀ k : Int, sg (tl z) (k - b) = sg (tl z) (k + (c : Int)) := fun k => sg_congr (by
    rw [← hc, Int.add_emod_emod, Int.sub_eq_add_neg])
  refine pick_eq (by rw [List.length_append, List.length_drop, List.length_take]; omega) fun k hk => ?_
  rw [hb]
  by_cases h1 : k < (tl z).length - c
  · rw [List.getElem?_append_left (by rw [List.length_drop]; exact h1), List.getElem?_drop, sg_nat (by omega)]
    congr 2
    omega
  · rw [List.getElem?_append_right (by rw [List.length_drop]; omega), List.length_drop, List.getElem?_take_of_lt (by omega), sg_nat (by omega)]
    congr 1
    rw [← sg_add]
    congr 1
    omega
theorem atI_sg {l : List Nat} (h : 0 < l.length) (i : Int) : atI l (i % (l.length : Int)) = some (sg l i) := by
  have e : (((i % (l.length : Int)).toNat : Nat) : Int) = i % (l.length : Int) := Int.toNat_of_nonneg (Int.emod_nonneg i (by omega))
  rw [← e]
  exact atI_nat (sg_get h i)
theorem joinL_flat : ∀ parts : List (List Nat), joinL [] parts = parts.flatten
  | [] => rfl
  | [p] => by show p = [p].flatten; simp
  | p :: q :: r => by
    show p ++ ([] ++ joinL [] (q :: r)) = _
    rw [joinL_flat (q :: r)]
    simp
theorem join_singles (l : List Nat) : Txt.join (Str.ofString "") (l.map fun c => (⟨#[c]⟩ : Str)) = ⟨l.toArray⟩ := by
  refine ext_tl ?_
  rw [join_eq, tl_join, show tl (Str.ofString "") = [] by decide +kernel, joinL_flat, List.map_map]
  show (l.map fun c => [c]).flatten = l
  induction l with
  | nil => rfl
  | cons a l ih => rw [List.map_cons, List.flatten_cons, ih]; rfl
theorem sum_singles (l : List Nat) : ((l.map fun c => (⟨#[c]⟩ : Str)).map (·.length)).sum = l.length := by
  induction l with
  | nil => rfl
  | cons a l ih =>
    rw [List.map_cons, List.map_cons, List.sum_cons, ih, List.length_cons]
    show 1 + l.length = l.length + 1
    omega
/-- whether the sign with this number is a stroke -/
def rungB (z : Str) (q : Int) : Bool := decide (V.str (⟨#[sg (tl z) q]⟩ : Str) = V.str (Str.ofString "-"))
end Rg
/-! own words: rules one after the other, + of own objects, lcm -/
namespace Rg
open PySem L2 TL
/-- a row repeated to a length -/
def strS (L : Nat) (z : Str) : Str := repS (L / (tl z).length) z
theorem str_len {L : Nat} {z : Str} (h : (tl z).length ∣ L) : (tl (strS L z)).length = L := by
  unfold strS
  rw [tl_repS, rep_length]
  exact Nat.div_mul_cancel h
theorem str_row {L : Nat} {z : Str} (R : Row (tl z)) (h : (tl z).length ∣ L) (hL : 0 < L) : Row (tl (strS L z)) :=
  R.rep (Nat.div_pos (Nat.le_of_dvd hL h) R.ne)
theorem rep_rep (a b : Nat) (l : List Nat) : (List.replicate a (List.replicate b l).flatten).flatten = (List.replicate (a * b) l).flatten := by
  induction a with
  | zero => simp
  | succ a ih =>
    rw [List.replicate_succ, List.flatten_cons, ih, Nat.succ_mul, Nat.add_comm, ← List.replicate_append_replicate, List.flatten_append]
theorem str_str {L M : Nat} {z : Str} (h0 : 0 < (tl z).length) (h : (tl z).length ∣ L) (h2 : L ∣ M) (hL : 0 < L) : strS M (strS L z) = strS M z := by
  refine ext_tl ?_
  have e := str_len h
  unfold strS at e ⊢
  rw [tl_repS, e, tl_repS, tl_repS, rep_rep]
  congr 2
  obtain ⟨c, rfl⟩ := h
  obtain ⟨d, rfl⟩ := h2
  rw [Nat.mul_div_cancel_left _ hL, Nat.mul_div_cancel_left _ h0, Nat.mul_assoc, Nat.mul_div_cancel_left _ h0, Nat.mul_comm]
theorem str_self {z : Str} (h0 : 0 < (tl z).length) : strS (tl z).length z = z := by
  refine ext_tl ?_
  unfold strS
  rw [tl_repS, Nat.div_self h0]
  simp
/-- the rows of the one and then of the other, all of one length -/
def joinR (L : Nat) (ls ms : List Str) : List Str := (ls ++ ms).map (strS L)
theorem joinR_rows {n m : Nat} {ls ms : List Str} (R : Rows n ls) (S : Rows m ms) : Rows (Nat.lcm n m) (joinR (Nat.lcm n m) ls ms) := by
  have hL : 0 < Nat.lcm n m := Nat.lcm_pos R.pos S.pos
  have key : ∀ y ∈ ls ++ ms, Row (tl y) ∧ (tl y).length ∣ Nat.lcm n m := fun y hy => by
    rcases List.mem_append.mp hy with h | h
    · exact ⟨R.row y h, by rw [R.len y h]; exact Nat.dvd_lcm_left n m⟩
    · exact ⟨S.row y h, by rw [S.len y h]; exact Nat.dvd_lcm_right n m⟩
  refine ⟨by unfold joinR; rw [List.length_map, List.length_append]; have := R.ne; omega, fun z hz => ?_, fun z hz => ?_⟩
  all_goals
    unfold joinR at hz
    obtain ⟨y, hy, rfl⟩ := List.mem_map.mp hz
  · exact str_len (key y hy).2
  · exact str_row (key y hy).1 (key y hy).2 hL
theorem str_map {n L M : Nat} {ls : List Str} (R : Rows n ls) (h : n ∣ L) (h2 : L ∣ M) (hL : 0 < L) : (ls.map (strS L)).map (strS M) = ls.map (strS M) := by
  rw [List.map_map]
  refine List.map_congr_left fun z hz => ?_
  exact str_str (R.row z hz).ne (by rw [R.len z hz]; exact h) h2 hL
/-- both ways of adding three -/
theorem join_assoc {n m t : Nat} {ls ms ts : List Str} (R : Rows n ls) (S : Rows m ms) (T : Rows t ts) :
    joinR (Nat.lcm (Nat.lcm n m) t) (joinR (Nat.lcm n m) ls ms) ts = joinR (Nat.lcm n (Nat.lcm m t)) ls (joinR (Nat.lcm m t) ms ts) := by
  have e := Nat.lcm_assoc n m t
  unfold joinR
  have h1 : 0 < Nat.lcm n m := Nat.lcm_pos R.pos S.pos
  have h2 : 0 < Nat.lcm m t := Nat.lcm_pos S.pos T.pos
  simp only [List.map_append]
  rw [str_map R (Nat.dvd_lcm_left n m) (Nat.dvd_lcm_left _ t) h1, str_map S (Nat.dvd_lcm_right n m) (Nat.dvd_lcm_left _ t) h1]
  rw [str_map S (Nat.dvd_lcm_left m t) (Nat.dvd_lcm_right n _) h2, str_map T (Nat.dvd_lcm_right m t) (Nat.dvd_lcm_right n _) h2, e, List.append_assoc]

/-! ### lcm -/
def rLcm : List V → Hp → VK → Prop := fun vs H Q => ∃ a b : Nat, vs = [.int a, .int b] ∧ a < 2 ^ 64 ∧ b < 2 ^ 64 ∧ Q (.int ((Nat.lcm a b : Nat) : Int)) H
theorem cr_lcm {X : Cx} : CallR X (.builtin "math.lcm") rLcm := by
  intro pins s σ H vs us Q I r h
  obtain ⟨a, b, rfl, ha, hb, q⟩ := h
  obtain ⟨t, u, rfl⟩ := Vals.int2 r
  exact PySem.W.mc_lcm ha hb fun _ => ⟨.int _, H, I.tok _, ⟨_, rfl⟩, q⟩

/-! ### + of objects with their own __add__ -/
def rAddOwn (C : Addr) (sp : Sp) : R2 := fun x y H Q => ∃ a b dx dy fs gs, x = .ref a ∧ y = .ref b ∧ H a = some (.ins C dx fs) ∧ H b = some (.ins C dy gs) ∧ sp [.ref a, .ref b] H (fun v H' => (∃ c, v = .ref c) ∧ Q v H') E0
theorem op_addOwn {X : Cx} {C : Addr} {n : Nat} {sp : Sp} (D : Me X.prog X.w X.K X.mg X.base C "__add__" n ["self", "other"] sp) (hc : PySem.W.selfFirst X.K C = true) (hr : Room n X.A) : OpR X (binaryOp .Add) (rAddOwn C sp) := by
  intro pins s σ H x y v u Q I rx ry h
  obtain ⟨a, b, dx, dy, fs, gs, rfl, rfl, ha, hb', q⟩ := h
  obtain ⟨f, fd, c, hm, F, hb⟩ := D.ex
  cases rx
  cases ry
  obtain ⟨mA, J, _⟩ := ins_get I.hok ha
  obtain ⟨mB, J', _⟩ := ins_get I.hok hb'
  obtain ⟨od, J, _⟩ := J.look
  obtain ⟨od', J', _⟩ := J'.look
  obtain ⟨m, hF⟩ := I.fr
  refine PySem.W.binop_K (op := .Add) hF I.ok.mod.kin J J'.type hc hm.at_ hm.fn ?_
  refine wpAny_call (codeAny_mono (F.run X.A X.stack s H ⟨[.ref a, .ref b], []⟩ [.ref a, .ref b] [.ref a, .ref b] _ E0 hr I.env0 (hb s [.ref a, .ref b] I.kIn rfl) (.cons rfl (.cons rfl .nil)) q) fun r s' hq => ?_)
  cases r with
  | error e => exact False.elim hq
  | ok fl =>
    cases fl with
    | ret w =>
      obtain ⟨z, H', I', rz, ⟨c, rfl⟩, q'⟩ := I.after hq
      cases rz
      exact ⟨.ref c, H', I', rfl, q'⟩
    | next => exact False.elim hq
    | brk => exact False.elim hq
    | cont => exact False.elim hq

/-! ### the least multiple that is found by going on -/
theorem lcm_found {n m i : Nat} (hn : 0 < n) (hm : 0 < m) (h : m ∣ n * (i + 1)) (hj : ∀ j, 1 ≤ j → j ≤ i → ¬ m ∣ n * j) : n * (i + 1) = Nat.lcm n m := by
  obtain ⟨j, ej⟩ := Nat.dvd_lcm_left n m
  have h1 : Nat.lcm n m ∣ n * (i + 1) := Nat.lcm_dvd (Nat.dvd_mul_right n (i + 1)) h
  have hp : 0 < Nat.lcm n m := Nat.lcm_pos hn hm
  have hle := Nat.le_of_dvd (Nat.mul_pos hn (Nat.succ_pos i)) h1
  rw [ej] at hle hp
  have j1 : 1 ≤ j := Nat.pos_of_mul_pos_left hp |> fun z => by
    rcases Nat.eq_zero_or_pos j with q | q
    · rw [q, Nat.mul_zero] at hp; omega
    · exact q
  have j2 : j ≤ i + 1 := Nat.le_of_mul_le_mul_left hle hn
  by_cases e : j = i + 1
  · rw [ej, e]
  · exact absurd (by rw [← ej]; exact Nat.dvd_lcm_right n m) (hj j j1 (by omega))
theorem lcm_ends {n m : Nat} (hm : 0 < m) (hj : ∀ j, 1 ≤ j → j ≤ m → ¬ m ∣ n * j) : False := hj m hm (Nat.le_refl _) (Nat.dvd_mul_left m n)
theorem lcm60 {n m : Nat} (h1 : n ≤ 12) (h2 : m ≤ 5) : Nat.lcm n m ≤ 60 := Nat.le_trans (PySem.W.mc_lcm_le n m) (Nat.mul_le_mul h1 h2)
theorem join_len {L : Nat} {ls ms : List Str} : (joinR L ls ms).length = ls.length + ms.length := by unfold joinR; rw [List.length_map, List.length_append]
end Rg
/-! own words: methods called with keywords -/
namespace Rg
open PySem L2 TL
/-- o.m(e, .., k = v, ..) -/
def tMethN (C : Addr) (m : Str) (n l : Nat) (sp : Sp) (gV : List V → List V → List V) (E : XK) (ta : TE) (t tk : TA) : TE := fun σ H Q => ta σ H fun x H1 => ∃ a dx fs, x = .ref a ∧ H1 a = some (.ins C dx fs) ∧ fs.lookup m = none ∧
  t σ H1 fun vs H2 => tk σ H2 fun zs H3 => vs.length = n ∧ zs.length = l ∧ sp (gV (.ref a :: vs) zs) H3 Q E
/-- a method that may be called so: ks the keywords -/
structure MeK (P : Program) (w : World) (K : PySem.W.Frag) (mg : Str → Option Value) (base : Heap) (C : Addr) (x : Str) (k : Nat) (ps : List Str) (sp : Sp) (n : Nat) (ks : List Str) (gV : List V → List V → List V) : Prop where
  ex : ∃ f fd g, Cls K C ∧ Meth K C x f ∧ FnOk P w K mg base CX0 k f fd ps sp ∧ KBn K fd ps (n + 1) ks g gV
section
variable {X : Cx} {k n : Nat} {C : Addr} {m : Str} {ps ks : List Str} {sp : Sp} {gV : List V → List V → List V} {o e : Expr} {es : List Expr} {kws : List Keyword} {ta : TE} {t tk : TA} {pos apos : Pos}
theorem pe_methN {pl : Sem Bool} (he : PE X o ta) (D : MeK X.prog X.w X.K X.mg X.base C m k ps sp n ks gV) (hr : Room k X.A) (ha : PA X (e :: es) t) (hkw : PK X kws tk)
    (hall : (backToKw pos (keywordEach kws X.env)).all (·.1.isSome) = true := by rfl) (hks : (backToKw pos (keywordEach kws X.env)).filterMap (·.1) = ks := by rfl)
    (hst : starEach (e :: es) X.env = (false, eval e X.env) :: starEach es X.env := by rfl) (hpl : ((backTo pos (starEach (e :: es) X.env)).any (·.1) || (backToKw pos (keywordEach kws X.env)).any (·.1.isNone)) = false := by rfl)
    (ht : eval (.Call (.Attribute o m apos) (e :: es) kws pos) X.env = (do
      let ov ← eval o X.env
      standAt apos.atName
      let (f, first) ← holding [ov] (getMethod ov m pl)
      callWith pos f first (backTo pos (starEach (e :: es) X.env)) (backToKw pos (keywordEach kws X.env))) := by rfl) :
    PE X (.Call (.Attribute o m apos) (e :: es) kws pos) (tMethN C m n ks.length sp gV E0 ta t tk) := by
  obtain ⟨f, fd, g, c, hm, F, hb⟩ := D.ex
  refine ⟨fun pins s σ H Q I h => ?_⟩
  refine PySem.W.methodCall_KW (pl := pl) (thn (he.run pins s σ H _ I h) fun u s1 ⟨x, H1, I1, rx, a, dx, fs, ex, ea, l, q⟩ => ?_) ht
  subst ex
  obtain rfl : u = Value.ref a := rx
  refine getmeth_ok I1 ea c hm l ?_
  refine PySem.W.callWith_KW (first := [.ref a]) (h₀ := X.base) I.ok.mod.kin hm.kp hall (thn (ha.run pos pins s1 σ H1 _ I1 q) fun us s2 ⟨vs, H2, I2, r, q2⟩ => ?_) hpl hst
  refine thn (hkw.run pos pins s2 σ H2 _ I2 q2) fun ws s3 ⟨zs, H3, I3, rz, l1, l2, q3⟩ => ⟨I3.kIn, ?_⟩
  rw [hks]
  exact run_fnN (us := .ref a :: us) (vs := .ref a :: vs) F hr hb pass0 I3 (.cons rfl r) rz (congrArg Nat.succ l1) l2 q3
theorem pe_methN0 {pl : Sem Bool} (he : PE X o ta) (D : MeK X.prog X.w X.K X.mg X.base C m k ps sp 0 ks gV) (hr : Room k X.A) (hkw : PK X kws tk)
    (hall : (backToKw pos (keywordEach kws X.env)).all (·.1.isSome) = true := by rfl) (hks : (backToKw pos (keywordEach kws X.env)).filterMap (·.1) = ks := by rfl)
    (hpl : ((backTo pos (starEach [] X.env)).any (·.1) || (backToKw pos (keywordEach kws X.env)).any (·.1.isNone)) = false := by rfl)
    (ht : eval (.Call (.Attribute o m apos) [] kws pos) X.env = (do
      let ov ← eval o X.env
      standAt apos.atName
      let (f, first) ← holding [ov] (getMethod ov m pl)
      callWith pos f first (backTo pos (starEach [] X.env)) (backToKw pos (keywordEach kws X.env))) := by rfl) :
    PE X (.Call (.Attribute o m apos) [] kws pos) (tMethN C m 0 ks.length sp gV E0 ta tNil tk) := by
  obtain ⟨f, fd, g, c, hm, F, hb⟩ := D.ex
  refine ⟨fun pins s σ H Q I h => ?_⟩
  refine PySem.W.methodCall_KW (pl := pl) (thn (he.run pins s σ H _ I h) fun u s1 ⟨x, H1, I1, rx, a, dx, fs, ex, ea, l, q⟩ => ?_) ht
  subst ex
  obtain rfl : u = Value.ref a := rx
  refine getmeth_ok I1 ea c hm l ?_
  refine PySem.W.callWith_KW0 (first := [.ref a]) (h₀ := X.base) I.ok.mod.kin hm.kp hall ?_ hpl
  refine thn (hkw.run pos pins s1 σ H1 _ I1 q) fun ws s3 ⟨zs, H3, I3, rz, l1, l2, q3⟩ => ⟨I3.kIn, ?_⟩
  rw [hks]
  exact run_fnN (us := [.ref a]) (vs := [.ref a]) F hr hb pass0 I3 (.cons rfl .nil) rz rfl l2 q3
end
/-- keywords in the parameters' order, and the other way about -/
theorem kb_app {K : PySem.W.Frag} {fd : FuncData} {ps ks : List Str} {n : Nat} (h : ∀ us ws : List Value, us.length = n → ws.length = ks.length → bindArgs fd ⟨us, ks.zip ws⟩ = pure (ps.zip (us ++ ws))) : KBn K fd ps n ks (fun us ws => us ++ ws) (fun vs zs => vs ++ zs) :=
  ⟨fun _ us ws _ l1 l2 => .of_eq (h us ws l1 l2), fun r rz => r.append rz⟩
theorem vals_rev : ∀ {xs : List V} {us : List Value}, Vals xs us → Vals xs.reverse us.reverse
  | _, _, .nil => .nil
  | _, _, .cons r t => by
    rw [List.reverse_cons, List.reverse_cons]
    exact (vals_rev t).append (.cons r .nil)
theorem kb_rev {K : PySem.W.Frag} {fd : FuncData} {ps ks : List Str} {n : Nat} (h : ∀ us ws : List Value, us.length = n → ws.length = ks.length → bindArgs fd ⟨us, ks.zip ws⟩ = pure (ps.zip (us ++ ws.reverse))) : KBn K fd ps n ks (fun us ws => us ++ ws.reverse) (fun vs zs => vs ++ zs.reverse) :=
  ⟨fun _ us ws _ l1 l2 => .of_eq (h us ws l1 l2), fun r rz => r.append (vals_rev rz)⟩
/-- a class that may be called with keywords -/
structure MkrK (P : Program) (w : World) (K : PySem.W.Frag) (mg : Str → Option Value) (base : Heap) (x : Str) (C : Addr) (k : Nat) (ps : List Str) (sp : Sp) (ks : List Str) (gV : List V → List V → List V) : Prop where
  ex : ∃ f fd g, mg x = some (.ref C) ∧ Mk K C f ∧ FnOk P w K mg base CX0 k f fd ps sp ∧ KBn K fd ps 1 ks g gV
theorem pe_mkN0 {X : Cx} {x : Str} {k : Nat} {C : Addr} {ps ks : List Str} {sp : Sp} {gV : List V → List V → List V} {kws : List Keyword} {tk : TA} {p pos : Pos} (M : MkrK X.prog X.w X.K X.mg X.base x C k ps sp ks gV) (hr : Room (k + 1) X.A) (hg : Gl X x) (hkw : PK X kws tk)
    (hall : (backToKw pos (keywordEach kws X.env)).all (·.1.isSome) = true := by rfl) (hks : (backToKw pos (keywordEach kws X.env)).filterMap (·.1) = ks := by rfl) (hdb : (x == ("__debug__" : Str)) = false := by decide)
    (hpl : ((backTo pos (starEach [] X.env)).any (·.1) || (backToKw pos (keywordEach kws X.env)).any (·.1.isNone)) = false := by rfl) :
    PE X (.Call (.Name x p) [] kws pos) (tMakeK C 0 ks.length sp gV E0 tNil tk) := by
  obtain ⟨f, fd, g, hm, M, F, hb⟩ := M.ex
  exact pe_makeK0 M F hr hg hm hb pass0 hkw hall hks hdb hpl
/-- a def that may be called with keywords alone -/
structure DfK (P : Program) (w : World) (K : PySem.W.Frag) (mg : Str → Option Value) (base : Heap) (x : Str) (k : Nat) (ps : List Str) (sp : Sp) (ks : List Str) (gV : List V → List V → List V) : Prop where
  ex : ∃ f fd g, mg x = some (.ref f) ∧ FnOk P w K mg base CX0 k f fd ps sp ∧ PySem.W.keepIn K (.ref f) = true ∧ KBn K fd ps 0 ks g gV
theorem pe_dfN0 {X : Cx} {x : Str} {k : Nat} {ps ks : List Str} {sp : Sp} {gV : List V → List V → List V} {kws : List Keyword} {tk : TA} {p pos : Pos} (D : DfK X.prog X.w X.K X.mg X.base x k ps sp ks gV) (hr : Room k X.A) (hg : Gl X x) (hkw : PK X kws tk)
    (hall : (backToKw pos (keywordEach kws X.env)).all (·.1.isSome) = true := by rfl) (hks : (backToKw pos (keywordEach kws X.env)).filterMap (·.1) = ks := by rfl) (hdb : (x == ("__debug__" : Str)) = false := by decide)
    (hpl : ((backTo pos (starEach [] X.env)).any (·.1) || (backToKw pos (keywordEach kws X.env)).any (·.1.isNone)) = false := by rfl) :
    PE X (.Call (.Name x p) [] kws pos) (tCallN 0 ks.length sp gV E0 tNil tk) := by
  obtain ⟨f, fd, g, hm, F, hk, hb⟩ := D.ex
  refine ⟨fun pins s σ H Q I h => ?_⟩
  refine wpAny_Call_Name_kw (ld_glob I hg hm ?_ hdb)
  refine PySem.W.callWith_KW0 (first := []) (h₀ := X.base) I.ok.mod.kin hk hall ?_ hpl
  refine thn (hkw.run pos pins s σ H _ I h) fun ws s2 ⟨zs, H2, I2, rz, l1, l2, q2⟩ => ⟨I2.kIn, ?_⟩
  rw [hks]
  exact run_fnN F hr hb pass0 I2 .nil rz l1 l2 q2
end Rg
/-! own words: the source that the laws draw from, a list that is changed at each draw -/
namespace Rg
open PySem L2 TL
/-- the heap without the source's two changing lists -/
def out (s g : Addr) (H : Hp) : Hp := fun b => if b = s ∨ b = g then none else H b
theorem out_same {s g : Addr} {H : Hp} : Same (out s g H) H := fun b u e => by
  unfold out at e
  split at e
  · cases e
  · exact e
theorem out_at {s g b : Addr} {H : Hp} (h1 : b ≠ s) (h2 : b ≠ g) : out s g H b = H b := if_neg fun h => h.elim h1 h2
theorem _root_.L2.Same.out {s g : Addr} {H H' : Hp} (e : Same H H') : Same (out s g H) (out s g H') := fun b u q => by
  unfold Rg.out at q ⊢
  split at q
  · cases q
  · rename_i n
    rw [if_neg n]
    exact e _ _ q
/-- the source, drawn from m times at most -/
structure Src (H : Hp) (s g sm : Addr) (m : Nat) : Prop where
  ex : ∃ (gs ss : List Int) (pl st : Int), H s = some (.lst [.ref g, .ref sm, .int pl, .int st]) ∧ H g = some (.lst (gs.map V.int)) ∧ H sm = some (.lst (ss.map V.int)) ∧ sm ≠ g ∧ gs.length ≤ 63 ∧ ss.length ≤ 63 ∧
    (∀ z ∈ ss, -(10 ^ 18) < z ∧ z < 10 ^ 18) ∧ 0 ≤ pl ∧ pl ≤ (m : Int) ∧ 0 ≤ st ∧ st < 2147483629
theorem Src.same {H H' : Hp} {s g r : Addr} {m : Nat} (S : Src H s g r m) (e : Same H H') : Src H' s g r m := by
  obtain ⟨gs, ss, pl, st, h1, h2, h3, r⟩ := S.ex
  exact ⟨gs, ss, pl, st, e _ _ h1, e _ _ h2, e _ _ h3, r⟩
theorem Src.mono {H : Hp} {s g r : Addr} {m n : Nat} (S : Src H s g r m) (h : m ≤ n) : Src H s g r n := by
  obtain ⟨gs, ss, pl, st, h1, h2, h3, h4, h5, h6, h7, h8, h9, r⟩ := S.ex
  exact ⟨gs, ss, pl, st, h1, h2, h3, h4, h5, h6, h7, h8, by omega, r⟩
theorem Src.new {H : Hp} {s g r q : Addr} {m : Nat} (S : Src H s g r m) (h : H q = none) : q ≠ s ∧ q ≠ g ∧ q ≠ r := by
  obtain ⟨gs, ss, pl, st, h1, h2, h3, _⟩ := S.ex
  exact ⟨fun e => (by rw [e, h1] at h; cases h), fun e => (by rw [e, h2] at h; cases h), fun e => (by rw [e, h3] at h; cases h)⟩
theorem Src.put {H H0 : Hp} {s g r q : Addr} {m n : Nat} {o : HO} (S : Src H s g r m) (S0 : Src H0 s g r n) (h : H0 q = none) : Src (upd H q o) s g r m := by
  obtain ⟨n1, n2, n3⟩ := S0.new h
  obtain ⟨gs, ss, pl, st, h1, h2, h3, x⟩ := S.ex
  exact ⟨gs, ss, pl, st, by rw [upd_ne n1.symm]; exact h1, by rw [upd_ne n2.symm]; exact h2, by rw [upd_ne n3.symm]; exact h3, x⟩
theorem Src.keep {H H' : Hp} {s g r q : Addr} {m : Nat} {u : HO} (S : Src H s g r m) (h : H q = none) (e : H' q = some u) : out s g H' q = some u := by
  obtain ⟨h1, h2, _⟩ := S.new h
  rw [out_at h1 h2]
  exact e
theorem Src.free {H H' : Hp} {s g r q : Addr} {m : Nat} (S' : Src H' s g r m) (e : Same (out s g H) (out s g H')) (h : H' q = none) : H q = none := by
  obtain ⟨h1, h2, _⟩ := S'.new h
  cases z : H q with
  | none => rfl
  | some u =>
    have := e q u (by rw [out_at h1 h2]; exact z)
    rw [out_at h1 h2, h] at this
    cases this
theorem seq0 {n : Nat} (h : 0 < n) : seqIndex? 0 n = some 0 := by
  unfold seqIndex?
  simp [h]
theorem out_put {s g b : Addr} {H : Hp} {o : HO} (h : b = s ∨ b = g) : Same (out s g H) (out s g (upd H b o)) := fun c u e => by
  unfold out at e ⊢
  split at e
  · cases e
  · rename_i n
    rw [if_neg n, upd_ne (fun z => n (by rw [z]; exact h))]
    exact e
/-- what is new may be changed -/
theorem out_set {s g D : Addr} {H H' : Hp} {o : HO} (e : Same (out s g H) (out s g H')) (z : H D = none) : Same (out s g H) (out s g (upd H' D o)) := fun b u q => by
  have h := e b u q
  unfold out at q h ⊢
  split at q
  · cases q
  · rename_i n
    rw [if_neg n] at h
    rw [if_neg n, upd_ne (ne_of_none q z)]
    exact h
theorem out_ne {s g b D : Addr} {H : Hp} {o : HO} (n : b ≠ D) : out s g (upd H D o) b = out s g H b := by
  unfold out
  rw [upd_ne n]
theorem mul_tl0 (z : Str) (n : Int) (h : 0 ≤ n) : Txt.mul z n = ⟨((List.replicate n.toNat (tl z)).flatten).toArray⟩ := by
  by_cases h1 : 1 ≤ n
  · exact mul_tl z n h1
  · have e : n = 0 := by omega
    subst e
    rfl
/-- a text many times, or no time -/
def rRepS0 : R2 := fun x y H Q => ∃ z n, x = .str z ∧ y = .int n ∧ 0 ≤ n ∧ n < 2 ^ 63 ∧ z.length * n.toNat ≤ sizeLine ∧ Q (.str ⟨((List.replicate n.toNat (tl z)).flatten).toArray⟩) H
theorem op_rep_str0 {X : Cx} : OpR X (binaryOp .Mult) rRepS0 := by
  intro pins s σ H x y v u Q I rx ry h
  obtain ⟨z, n, rfl, rfl, h1, h63, hz, q⟩ := h
  by_cases h2 : 1 ≤ n
  · exact op_rep_str pins s σ H _ _ v u Q I rx ry ⟨z, n, rfl, rfl, h2, h63, hz, q⟩
  obtain ⟨t, rfl⟩ := rx
  obtain ⟨t', rfl⟩ := ry
  refine SB.mul ⟨?_, fun h => absurd (show n < 1 by omega) h, fun h => absurd (show n < 1 by omega) h⟩ fun t2 k => ?_
  · rw [decide_eq_false (by omega), decide_eq_false (by omega)]
    rfl
  · rw [mul_tl0 z n h1]
    exact ⟨.str _, H, I.tok _, ⟨_, rfl⟩, q⟩
end Rg
/-! own words: walks down the rows -/
namespace Rg
open PySem L2 TL
/-- where a walker goes on one row -/
def cross (z : Str) (n q : Int) : Int := if decide (q + 1 < n) && rungB z q then q + 1 else if decide (0 < q) && rungB z (q - 1) then q - 1 else q
def rowAt (ls : List Str) (r : Nat) : Str := ls.getD (r % ls.length) Str.empty
/-- where it stands behind k rows -/
def wk (ls : List Str) (n a : Int) : Nat → Int
  | 0 => a
  | k + 1 => cross (rowAt ls k) n (wk ls n a k)
def way (ls : List Str) (n a : Int) (d : Nat) : List Int := (List.range d).map (wk ls n a)
theorem way_len (ls : List Str) (n a : Int) (d : Nat) : (way ls n a d).length = d := by unfold way; simp
theorem way_get {ls : List Str} {n a : Int} {d k : Nat} (h : k < d) : (way ls n a d)[k]? = some (wk ls n a k) := by
  unfold way
  rw [List.getElem?_map, List.getElem?_range h]
  rfl
theorem way_add (ls : List Str) (n a : Int) (d : Nat) : way ls n a (d + 1) = way ls n a d ++ [wk ls n a d] := by
  unfold way
  rw [List.range_succ, List.map_append]
  rfl
theorem rowAt_mem {ls : List Str} (h : 0 < ls.length) (r : Nat) : rowAt ls r ∈ ls := by
  unfold rowAt
  have hr := Nat.mod_lt r h
  rw [List.getD_eq_getElem?_getD, List.getElem?_eq_getElem hr]
  exact List.getElem_mem hr
theorem rowAt_get {ls : List Str} (h : 0 < ls.length) (r : Nat) : ls[((r : Int) % (ls.length : Int)).toNat]? = some (rowAt ls r) := by
  unfold rowAt
  have hr := Nat.mod_lt r h
  rw [show ((r : Int) % (ls.length : Int)).toNat = r % ls.length by omega, List.getD_eq_getElem?_getD, List.getElem?_eq_getElem hr]
  rfl
theorem cross_on {z : Str} {n q : Int} (h0 : 0 ≤ q) (h1 : q < n) : 0 ≤ cross z n q ∧ cross z n q < n := by
  unfold cross
  split
  · rename_i h
    rw [Bool.and_eq_true, decide_eq_true_eq] at h
    omega
  · split
    · rename_i h
      rw [Bool.and_eq_true, decide_eq_true_eq] at h
      omega
    · omega
theorem wk_on {ls : List Str} {n a : Int} (h0 : 0 ≤ a) (h1 : a < n) : ∀ k, 0 ≤ wk ls n a k ∧ wk ls n a k < n
  | 0 => ⟨h0, h1⟩
  | k + 1 => cross_on (wk_on h0 h1 k).1 (wk_on h0 h1 k).2
end Rg
/-! own words: == and != of lists of texts, of numbers -/
namespace Rg
open PySem L2 TL
theorem rd_neS {K : PySem.W.Frag} {H : Hp} {p q : Addr} {ls ms : List Str} {Q : VK} (hp : H p = some (.lst (ls.map V.str))) (hq : H q = some (.lst (ms.map V.str))) (h1 : ∀ z ∈ ls, Signs (tl z)) (h2 : ∀ z ∈ ms, Signs (tl z)) (k : Q (.bl (!decide (ls = ms))) H) : rNeD K (.ref p) (.ref q) H Q := by
  refine ⟨_, _, .lst (SqL.of hp) (dp_strs ls), .lst (SqL.of hq) (dp_strs ms), shaped_lst h1, shaped_lst h2, ?_⟩
  rw [eqv_lst]
  exact k
theorem rd_eqS {K : PySem.W.Frag} {H : Hp} {p q : Addr} {ls ms : List Str} {Q : VK} (hp : H p = some (.lst (ls.map V.str))) (hq : H q = some (.lst (ms.map V.str))) (h1 : ∀ z ∈ ls, Signs (tl z)) (h2 : ∀ z ∈ ms, Signs (tl z)) (k : Q (.bl (decide (ls = ms))) H) : rEqD K (.ref p) (.ref q) H Q := by
  refine ⟨_, _, .lst (SqL.of hp) (dp_strs ls), .lst (SqL.of hq) (dp_strs ms), shaped_lst h1, shaped_lst h2, ?_⟩
  rw [eqv_lst]
  exact k
end Rg
/-! own words: who meets whom; sets of numbers -/
namespace Rg
open PySem L2 TL
theorem rung_sg {z : Str} {q : Int} (h : rungB z q = true) : sg (tl z) q = 45 := by
  unfold rungB at h
  have e := of_decide_eq_true h
  injection e with e
  have e2 := congrArg tl e
  rw [show tl (Str.ofString "-") = [45] by decide +kernel] at e2
  injection e2
theorem cross_cross {z : Str} (R : Row (tl z)) {n q : Int} (h0 : 0 ≤ q) (h1 : q < n) : cross z n (cross z n q) = q := by
  have gap : ∀ i : Int, rungB z i = true → rungB z (i + 1) = true → False := fun i g1 g2 => R.gap i ⟨rung_sg g1, rung_sg g2⟩
  by_cases c1 : q + 1 < n ∧ rungB z q = true
  · have e : cross z n q = q + 1 := by
      unfold cross
      rw [if_pos (by rw [Bool.and_eq_true, decide_eq_true_eq]; exact c1)]
    rw [e]
    unfold cross
    rw [if_neg (by rw [Bool.and_eq_true]; exact fun h => gap q c1.2 h.2), if_pos (by rw [Bool.and_eq_true, decide_eq_true_eq, Int.add_sub_cancel]; exact ⟨by omega, c1.2⟩), Int.add_sub_cancel]
  · have n1 : ¬ (decide (q + 1 < n) && rungB z q) = true := by rw [Bool.and_eq_true, decide_eq_true_eq]; exact c1
    by_cases c2 : 0 < q ∧ rungB z (q - 1) = true
    · have e : cross z n q = q - 1 := by
        unfold cross
        rw [if_neg n1, if_pos (by rw [Bool.and_eq_true, decide_eq_true_eq]; exact c2)]
      rw [e]
      unfold cross
      rw [if_pos (by rw [Bool.and_eq_true, decide_eq_true_eq]; exact ⟨by omega, c2.2⟩), Int.sub_add_cancel]
    · have e : cross z n q = q := by
        unfold cross
        rw [if_neg n1, if_neg (by rw [Bool.and_eq_true, decide_eq_true_eq]; exact c2)]
      rw [e, e]
/-- who stands at a post behind k rows -/
def who (ls : List Str) (n : Int) : Nat → Int → Int
  | 0, a => a
  | k + 1, a => who ls n k (cross (rowAt ls k) n a)
section
variable {m : Nat} {ls : List Str} {n : Int}
theorem who_on (k : Nat) : ∀ {a : Int}, 0 ≤ a → a < n → 0 ≤ who ls n k a ∧ who ls n k a < n := by
  induction k with
  | zero => exact fun h0 h1 => ⟨h0, h1⟩
  | succ k ih => exact fun h0 h1 => ih (cross_on h0 h1).1 (cross_on h0 h1).2
theorem wk_who (W : Rows m ls) (k : Nat) : ∀ {a : Int}, 0 ≤ a → a < n → wk ls n (who ls n k a) k = a := by
  induction k with
  | zero => exact fun _ _ => rfl
  | succ k ih =>
    intro a h0 h1
    show cross (rowAt ls k) n (wk ls n (who ls n k (cross (rowAt ls k) n a)) k) = a
    rw [ih (cross_on h0 h1).1 (cross_on h0 h1).2]
    exact cross_cross (W.row _ (rowAt_mem W.ne k)) h0 h1
theorem who_wk (W : Rows m ls) (k : Nat) {a : Int} (h0 : 0 ≤ a) (h1 : a < n) : who ls n k (wk ls n a k) = a := by
  induction k with
  | zero => rfl
  | succ k ih =>
    show who ls n k (cross (rowAt ls k) n (cross (rowAt ls k) n (wk ls n a k))) = a
    rw [cross_cross (W.row _ (rowAt_mem W.ne k)) (wk_on h0 h1 k).1 (wk_on h0 h1 k).2]
    exact ih
theorem wk_inj (W : Rows m ls) (k : Nat) {a b : Int} (h0 : 0 ≤ a) (h1 : a < n) (h2 : 0 ≤ b) (h3 : b < n) (e : wk ls n a k = wk ls n b k) : a = b := by
  rw [← who_wk W k h0 h1, e, who_wk W k h2 h3]
end
/-- does the walker from s meet the one from j on a row before the d-th? -/
def met1 (ls : List Str) (n s j : Int) (k : Nat) : Bool := decide (V.int (wk ls n j k) = V.int (wk ls n s (k + 1))) && !decide (V.int (wk ls n s (k + 1)) = V.int (wk ls n s k))
def metB (ls : List Str) (n s : Int) (d : Nat) (j : Nat) : Bool := (List.range d).any fun k => met1 ls n s (j : Int) k
theorem metB_add (ls : List Str) (n s : Int) (d j : Nat) : metB ls n s (d + 1) j = (metB ls n s d j || met1 ls n s (j : Int) d) := by
  unfold metB
  rw [List.range_succ, List.any_append]
  simp
def parts (ls : List Str) (N : Nat) (s : Int) (d : Nat) : List Int := ((List.range N).filter (metB ls (N : Int) s d)).map fun j : Nat => (j : Int)
theorem parts_len (ls : List Str) (N : Nat) (s : Int) (d : Nat) : (parts ls N s d).length ≤ N := by
  unfold parts
  rw [List.length_map]
  exact Nat.le_trans (List.length_filter_le _ _) (by rw [List.length_range]; exact Nat.le_refl _)
/-- ascending lists with the same members -/
theorem pw_eq : ∀ {xs ys : List Int}, xs.Pairwise (· < ·) → ys.Pairwise (· < ·) → (∀ k, k ∈ xs ↔ k ∈ ys) → xs = ys
  | [], [], _, _, _ => rfl
  | [], y :: ys, _, _, h => absurd ((h y).mpr List.mem_cons_self) (by simp)
  | x :: xs, [], _, _, h => absurd ((h x).mp List.mem_cons_self) (by simp)
  | x :: xs, y :: ys, hx, hy, h => by
    obtain ⟨x1, x2⟩ := List.pairwise_cons.mp hx
    obtain ⟨y1, y2⟩ := List.pairwise_cons.mp hy
    have e : x = y := by
      rcases List.mem_cons.mp ((h x).mp List.mem_cons_self) with e | e
      · exact e
      · rcases List.mem_cons.mp ((h y).mpr List.mem_cons_self) with e2 | e2
        · exact e2.symm
        · have := y1 x e
          have := x1 y e2
          omega
    subst e
    rw [pw_eq x2 y2 fun k => ⟨fun hk => ?_, fun hk => ?_⟩]
    · rcases List.mem_cons.mp ((h k).mp (List.mem_cons_of_mem _ hk)) with e | e
      · have := x1 k hk
        omega
      · exact e
    · rcases List.mem_cons.mp ((h k).mpr (List.mem_cons_of_mem _ hk)) with e | e
      · have := y1 k hk
        omega
      · exact e
theorem pw_filter (p : Nat → Bool) (N : Nat) : (((List.range N).filter p).map fun j : Nat => (j : Int)).Pairwise (· < ·) := by
  rw [List.pairwise_map]
  exact ((List.pairwise_lt_range (n := N)).filter p).imp fun h => by omega
/-- how many below N -/
def cnt (N : Nat) (p : Nat → Bool) : Nat := ((List.range N).filter p).length
theorem cnt_le (N : Nat) (p : Nat → Bool) : cnt N p ≤ N := Nat.le_trans (List.length_filter_le _ _) (by rw [List.length_range]; exact Nat.le_refl _)
theorem cnt_congr {N : Nat} {p q : Nat → Bool} (h : ∀ j, j < N → p j = q j) : cnt N p = cnt N q := by
  unfold cnt
  rw [List.filter_congr fun j hj => h j (List.mem_range.mp hj)]
theorem cnt_succ (N : Nat) (p : Nat → Bool) : cnt (N + 1) p = cnt N p + (if p N = true then 1 else 0) := by
  unfold cnt
  rw [List.range_succ, List.filter_append, List.length_append]
  by_cases h : p N = true
  · simp [h]
  · simp [h]
theorem cnt_add {p : Nat → Bool} {k : Nat} : ∀ {N : Nat}, k < N → p k = false → cnt N (fun j => p j || decide (j = k)) = cnt N p + 1
  | 0, h, _ => absurd h (Nat.not_lt_zero _)
  | N + 1, h, hp => by
    rw [cnt_succ, cnt_succ]
    by_cases e : k = N
    · subst e
      rw [cnt_congr (p := fun j => p j || decide (j = k)) (q := p) fun j hj => by
        rw [decide_eq_false (by omega), Bool.or_false], hp]
      simp
    · rw [cnt_add (N := N) (by omega) hp, show (p N || decide (N = k)) = p N by rw [decide_eq_false (by omega), Bool.or_false]]
      omega
theorem cnt_same {p : Nat → Bool} {k N : Nat} (hp : p k = true) : cnt N (fun j => p j || decide (j = k)) = cnt N p :=
  cnt_congr fun j _ => by
    by_cases e : j = k
    · subst e
      rw [hp, Bool.true_or]
    · rw [decide_eq_false e, Bool.or_false]
end Rg
/-! own mathematics: meetings of two walkers -/
namespace Rg
open PySem L2 TL
/-- the left post of the rung that is crossed between two posts, none if there is none -/
def rgV (a b : Int) : V := if a = b then .non else .int (if b < a then b else a)
def rungs (ls : List Str) (n a : Int) (d : Nat) : List V := (List.range d).map fun k => rgV (wk ls n a k) (wk ls n a (k + 1))
theorem rungs_len (ls : List Str) (n a : Int) (d : Nat) : (rungs ls n a d).length = d := by unfold rungs; simp
theorem rungs_get {ls : List Str} {n a : Int} {d k : Nat} (h : k < d) : (rungs ls n a d)[k]? = some (rgV (wk ls n a k) (wk ls n a (k + 1))) := by
  unfold rungs
  rw [List.getElem?_map, List.getElem?_range h]
  rfl
/-- do the walkers meet on this row? -/
def mtB (ls : List Str) (n a b : Int) (k : Nat) : Bool := !decide (rgV (wk ls n a k) (wk ls n a (k + 1)) = V.non) && decide (rgV (wk ls n a k) (wk ls n a (k + 1)) = rgV (wk ls n b k) (wk ls n b (k + 1)))
def mtN (ls : List Str) (n a b : Int) (d : Nat) : Nat := ((List.range d).filter (mtB ls n a b)).length
theorem scal_rg (a b c d : Int) : scal (rgV a b) (rgV c d) = true := by
  unfold rgV
  by_cases h1 : a = b
  · by_cases h2 : c = d
    · rw [if_pos h1, if_pos h2]; rfl
    · rw [if_pos h1, if_neg h2]; rfl
  · by_cases h2 : c = d
    · rw [if_neg h1, if_pos h2]; rfl
    · rw [if_neg h1, if_neg h2]; rfl
theorem filt_t {p : Nat → Bool} {i : Nat} (h : p i = true) : (List.range (i + 1)).filter p = (List.range i).filter p ++ [i] := by
  rw [List.range_succ, List.filter_append]
  simp [h]
theorem filt_f {p : Nat → Bool} {i : Nat} (h : p i = false) : (List.range (i + 1)).filter p = (List.range i).filter p := by
  rw [List.range_succ, List.filter_append]
  simp [h]
theorem scal_rn (a b : Int) : scal (rgV a b) .non = true := by
  unfold rgV
  split <;> rfl
/-- the same, as the law counts -/
def meB1 (ls : List Str) (n a b : Int) (k : Nat) : Bool := decide (V.int (wk ls n a k) = V.int (wk ls n b k)) && !decide (V.int (wk ls n a (k + 1)) = V.int (wk ls n a k))
def meB2 (ls : List Str) (n a b : Int) (k : Nat) : Bool := !decide (V.int (wk ls n a k) = V.int (wk ls n b k)) && (decide (V.int (wk ls n a (k + 1)) = V.int (wk ls n b k)) && decide (V.int (wk ls n b (k + 1)) = V.int (wk ls n a k)))
theorem rgV_ne {a b : Int} (h : a ≠ b) : rgV a b = .int (if b < a then b else a) := by
  unfold rgV
  rw [if_neg h]
theorem cross_near (z : Str) (n q : Int) : cross z n q = q ∨ cross z n q = q + 1 ∨ cross z n q = q - 1 := by
  unfold cross
  split
  · exact .inr (.inl rfl)
  · split
    · exact .inr (.inr rfl)
    · exact .inl rfl
theorem me_mt (ls : List Str) (n a b : Int) (k : Nat) : mtB ls n a b k = (meB1 ls n a b k || meB2 ls n a b k) := by
  have h1 : wk ls n a (k + 1) = wk ls n a k ∨ wk ls n a (k + 1) = wk ls n a k + 1 ∨ wk ls n a (k + 1) = wk ls n a k - 1 := cross_near _ _ _
  have h2 : wk ls n b (k + 1) = wk ls n b k ∨ wk ls n b (k + 1) = wk ls n b k + 1 ∨ wk ls n b (k + 1) = wk ls n b k - 1 := cross_near _ _ _
  have h3 : wk ls n a k = wk ls n b k → wk ls n a (k + 1) = wk ls n b (k + 1) := fun e => by
    show cross _ _ (wk ls n a k) = cross _ _ (wk ls n b k)
    rw [e]
  unfold mtB meB1 meB2
  generalize wk ls n a k = p at *
  generalize wk ls n a (k + 1) = p' at *
  generalize wk ls n b k = q at *
  generalize wk ls n b (k + 1) = q' at *
  rw [Bool.eq_iff_iff]
  simp only [Bool.and_eq_true, Bool.or_eq_true, Bool.not_eq_true', decide_eq_true_eq, decide_eq_false_iff_not, V.int.injEq]
  constructor
  · rintro ⟨g1, g2⟩
    by_cases e1 : p = p'
    · unfold rgV at g1
      rw [if_pos e1] at g1
      exact absurd rfl g1
    · rw [rgV_ne e1] at g2
      by_cases e2 : q = q'
      · unfold rgV at g2
        rw [if_pos e2] at g2
        cases g2
      · rw [rgV_ne e2] at g2
        injection g2 with g2
        split at g2 <;> split at g2 <;> omega
  · rintro (⟨g1, g2⟩ | ⟨g1, g2, g3⟩)
    · have e := h3 g1
      subst g1
      subst e
      refine ⟨?_, rfl⟩
      rw [rgV_ne (Ne.symm g2)]
      intro h
      cases h
    · subst g2
      subst g3
      rw [rgV_ne g1, rgV_ne (Ne.symm g1)]
      refine ⟨fun h => (by cases h), ?_⟩
      congr 1
      split <;> split <;> omega
section
variable {m : Nat} {ls : List Str} {N a b : Nat}
theorem met1_mt (W : Rows m ls) (ha : a < N) (hb : b < N) (k : Nat) : met1 ls (N : Int) (a : Int) (b : Int) k = (!decide (b = a) && mtB ls (N : Int) (a : Int) (b : Int) k) := by
  obtain ⟨a0, a1⟩ := wk_on (ls := ls) (show (0 : Int) ≤ (a : Int) by omega) (show (a : Int) < (N : Int) by omega) k
  obtain ⟨b0, b1⟩ := wk_on (ls := ls) (show (0 : Int) ≤ (b : Int) by omega) (show (b : Int) < (N : Int) by omega) k
  have hinj : b ≠ a → wk ls (N : Int) (a : Int) k ≠ wk ls (N : Int) (b : Int) k := fun h e => h (by
    have := wk_inj W k (by omega) (by omega) (by omega) (by omega) e
    omega)
  have ea : wk ls (N : Int) (a : Int) (k + 1) = cross (rowAt ls k) (N : Int) (wk ls (N : Int) (a : Int) k) := rfl
  have eb : wk ls (N : Int) (b : Int) (k + 1) = cross (rowAt ls k) (N : Int) (wk ls (N : Int) (b : Int) k) := rfl
  have hcc := cross_cross (W.row _ (rowAt_mem W.ne k)) a0 a1
  rw [me_mt]
  unfold met1 meB1 meB2
  rw [Bool.eq_iff_iff]
  simp only [Bool.and_eq_true, Bool.or_eq_true, Bool.not_eq_true', decide_eq_true_eq, decide_eq_false_iff_not, V.int.injEq]
  by_cases e : b = a
  · subst e
    constructor
    · rintro ⟨g1, g2⟩
      exact absurd g1.symm g2
    · rintro ⟨g1, _⟩
      exact absurd rfl g1
  · have hne := hinj e
    constructor
    · rintro ⟨g1, g2⟩
      refine ⟨e, .inr ⟨hne, g1.symm, ?_⟩⟩
      rw [eb, g1, ea]
      exact hcc
    · rintro ⟨_, g | ⟨_, g2, g3⟩⟩
      · exact absurd g.1 hne
      · exact ⟨g2.symm, fun h => hne (by rw [← h, g2])⟩
theorem any_len (p : Nat → Bool) (d : Nat) : (List.range d).any p = decide (0 < ((List.range d).filter p).length) := by
  rw [Bool.eq_iff_iff, List.any_eq_true, decide_eq_true_eq, List.length_pos_iff_exists_mem]
  exact ⟨fun ⟨x, h1, h2⟩ => ⟨x, List.mem_filter.mpr ⟨h1, h2⟩⟩, fun ⟨x, h⟩ => ⟨x, (List.mem_filter.mp h).1, (List.mem_filter.mp h).2⟩⟩
theorem metB_mt (W : Rows m ls) (ha : a < N) (hb : b < N) (d : Nat) : metB ls (N : Int) (a : Int) d b = (!decide (b = a) && decide (0 < mtN ls (N : Int) (a : Int) (b : Int) d)) := by
  unfold metB mtN
  rw [← any_len]
  by_cases e : b = a
  · rw [decide_eq_true e, Bool.not_true, Bool.false_and, List.any_eq_false]
    intro k _
    rw [met1_mt W ha hb, decide_eq_true e, Bool.not_true, Bool.false_and]
    exact Bool.false_ne_true
  · rw [decide_eq_false e, Bool.not_false, Bool.true_and]
    congr 1
    funext k
    rw [met1_mt W ha hb, decide_eq_false e, Bool.not_false, Bool.true_and]
/-- the meetings of two unlike walkers -/
theorem mtB_ne (W : Rows m ls) (ha : a < N) (hb : b < N) (e : a ≠ b) (k : Nat) : mtB ls (N : Int) (a : Int) (b : Int) k = (decide (V.int (wk ls (N : Int) (a : Int) (k + 1)) = V.int (wk ls (N : Int) (b : Int) k)) && decide (V.int (wk ls (N : Int) (b : Int) (k + 1)) = V.int (wk ls (N : Int) (a : Int) k))) := by
  have hne : wk ls (N : Int) (a : Int) k ≠ wk ls (N : Int) (b : Int) k := fun h => e (by
    have := wk_inj W k (by omega) (by omega) (by omega) (by omega) h
    omega)
  have hv : ¬ V.int (wk ls (N : Int) (a : Int) k) = V.int (wk ls (N : Int) (b : Int) k) := fun h => hne (by injection h)
  rw [me_mt]
  unfold meB1 meB2
  rw [decide_eq_false hv, Bool.false_and, Bool.false_or, Bool.not_false, Bool.true_and]
theorem mtB_eq (ls : List Str) (n a : Int) (k : Nat) : mtB ls n a a k = !decide (V.int (wk ls n a k) = V.int (wk ls n a (k + 1))) := by
  rw [me_mt]
  unfold meB1 meB2
  rw [decide_eq_true (rfl : V.int (wk ls n a k) = V.int (wk ls n a k)), Bool.true_and, Bool.not_true, Bool.false_and, Bool.or_false]
  congr 1
  exact decide_eq_decide.mpr ⟨Eq.symm, Eq.symm⟩
theorem mtN_symm (W : Rows m ls) (ha : a < N) (hb : b < N) (d : Nat) : mtN ls (N : Int) (a : Int) (b : Int) d = mtN ls (N : Int) (b : Int) (a : Int) d := by
  by_cases e : a = b
  · rw [e]
  · unfold mtN
    congr 2
    funext k
    rw [mtB_ne W ha hb e, mtB_ne W hb ha (Ne.symm e), Bool.and_comm]
end
/-- the names' values, told anew -/
theorem norm_g {i : Nat} {v : V} {σ σ' : St} {H : Hp} {Q : St → Hp → Prop} (e : σ.set i (some v) = σ') (h : Q σ' H) : gName i v σ H Q := by
  subst e
  exact h
end Rg
/-! own words: errors of own classes, raised and caught -/
namespace Rg
open PySem L2 TL
open PyProof.Rows hiding St

/-! ### calls that may let an error out -/
structure DfX (P : Program) (w : World) (K : PySem.W.Frag) (mg : Str → Option Value) (base : Heap) (x : Str) (k : Nat) (ps : List Str) (sp : Sp) : Prop where
  ex : ∃ f fd, mg x = some (.ref f) ∧ FnOk P w K mg base (L2.CX P w) k f fd ps sp ∧ PySem.W.keepIn K (.ref f) = true ∧ Binds K fd ps []
structure MeX (P : Program) (w : World) (K : PySem.W.Frag) (mg : Str → Option Value) (base : Heap) (C : Addr) (x : Str) (k : Nat) (ps : List Str) (sp : Sp) : Prop where
  ex : ∃ f fd, Cls K C ∧ Meth K C x f ∧ FnOk P w K mg base (L2.CX P w) k f fd ps sp ∧ Binds K fd ps []
structure MkrX (P : Program) (w : World) (K : PySem.W.Frag) (mg : Str → Option Value) (base : Heap) (x : Str) (C : Addr) (k : Nat) (ps : List Str) (sp : Sp) : Prop where
  ex : ∃ f fd, mg x = some (.ref C) ∧ Mk K C f ∧ FnOk P w K mg base (L2.CX P w) k f fd ps sp ∧ Binds K fd ps []
/-- what keeps its promise and lets nothing out -/
theorem calmFn {P : Program} {w : World} {K : PySem.W.Frag} {mg : Str → Option Value} {base : Heap} {k : Nat} {f : Addr} {fd : FuncData} {ps : List Str} {sp sp' : Sp} (F : FnOk P w K mg base (L2.CX P w) k f fd ps sp)
    (h : ∀ vs H Q E, sp' vs H Q E → sp vs H Q E0) : FnOk P w K mg base CX0 k f fd ps sp' :=
  ⟨fun vs H Q E z => F.len vs H Q E0 (h vs H Q E z), fun A outer s H args us vs Q E hr e b r z => codeAny_mono (F.run A outer s H args us vs Q E0 hr e b r (h vs H Q E z)) fun r s' q => by
    cases r with
    | error e =>
      obtain ⟨_, _, _, _, _, _, _, _, _, _, _, _, y⟩ := q
      exact y.elim
    | ok fl => cases fl <;> exact q⟩
section
variable {X : Cx} {W : WX} {x m : Str} {k : Nat} {C : Addr} {ps : List Str} {sp : Sp} {o e : Expr} {es : List Expr} {ta : TE} {t : TA} {p pos apos : Pos}
theorem pe_dfS (D : DfX X.prog X.w X.K X.mg X.base x k ps sp) (hr : Room k X.A) (hg : Gl X x) (tk : Takes X W) (ha : PA X (e :: es) t) (hdb : (x == ("__debug__" : Str)) = false := by decide)
    (he : starEach (e :: es) X.env = (false, eval e X.env) :: starEach es X.env := by rfl) (hpl : (backTo pos (starEach es X.env)).any (·.1) = false := by rfl) :
    PE X (.Call (.Name x p) (e :: es) [] pos) (tCallS sp (WE W) t) := by
  obtain ⟨f, fd, hm, F, hk, hb⟩ := D.ex
  exact pe_callS F hr hg hm hk hb (fun σ => passAt tk σ) ha hdb he hpl
/-- o.m(e, ..) that may let an error out -/
def tMethS (C : Addr) (m : Str) (sp : Sp) (W : WX) (ta : TE) (t : TA) : TE := fun σ H Q => ta σ H fun x H1 => ∃ a dx fs, x = .ref a ∧ H1 a = some (.ins C dx fs) ∧ fs.lookup m = none ∧ t σ H1 fun vs H2 => sp (.ref a :: vs) H2 Q (WE W σ)
theorem pe_meS {pl : Sem Bool} (he : PE X o ta) (D : MeX X.prog X.w X.K X.mg X.base C m k ps sp) (hr : Room k X.A) (tk : Takes X W) (ha : PA X (e :: es) t)
    (hst : starEach (e :: es) X.env = (false, eval e X.env) :: starEach es X.env := by rfl) (hpl : (backTo pos (starEach es X.env)).any (·.1) = false := by rfl)
    (ht : eval (.Call (.Attribute o m apos) (e :: es) [] pos) X.env = (do
      let ov ← eval o X.env
      standAt apos.atName
      let (f, first) ← holding [ov] (getMethod ov m pl)
      callWith pos f first (backTo pos (starEach (e :: es) X.env)) (backToKw pos (keywordEach [] X.env))) := by rfl) :
    PE X (.Call (.Attribute o m apos) (e :: es) [] pos) (tMethS C m sp W ta t) := by
  obtain ⟨f, fd, c, hm, F, hb⟩ := D.ex
  refine ⟨fun ps0 s0 σ0 H0 Q0 I0 h0 => PySem.W.methodCall_KW (pl := pl) (thn (he.run ps0 s0 σ0 H0 _ I0 h0) fun u0 s1 hh => ?_) ht⟩
  obtain ⟨_, H1, I1, ru, a, dx, fs, rfl, ea, ln, q⟩ := hh
  cases (show u0 = Value.ref a from ru)
  refine getmeth_ok I1 ea c hm ln (PySem.W.callWith_K (first := [.ref a]) (h₀ := X.base) I1.ok.mod.kin hm.kp (thn (ha.run pos ps0 s1 σ0 H1 _ I1 q) fun us s2 h2 => ?_) hst hpl)
  obtain ⟨vs, H2, I2, rv, q2⟩ := h2
  exact ⟨I2.kIn, run_fnS (us := .ref a :: us) (vs := .ref a :: vs) F hr hb (passAt tk σ0) I2 (.cons rfl rv) q2⟩
/-- C(e, ..), whose __init__ may let an error out -/
def tMakeS (C : Addr) (sp : Sp) (W : WX) (t : TA) : TE := fun σ H Q => t σ H fun vs H1 => ∀ x dx, H1 x = none → H1 dx = none → dx ≠ x →
  sp (.ref x :: vs) (upd (upd H1 dx (.own x)) x (.ins C dx [])) (fun v H2 => v = .non ∧ Q (.ref x) H2) (WE W σ)
theorem pe_mkS (M : MkrX X.prog X.w X.K X.mg X.base x C k ps sp) (hr : Room (k + 1) X.A) (hg : Gl X x) (tk : Takes X W) (ha : PA X (e :: es) t) (hdb : (x == ("__debug__" : Str)) = false := by decide)
    (he : starEach (e :: es) X.env = (false, eval e X.env) :: starEach es X.env := by rfl) (hpl : (backTo pos (starEach es X.env)).any (·.1) = false := by rfl) :
    PE X (.Call (.Name x p) (e :: es) [] pos) (tMakeS C sp W t) := by
  obtain ⟨f, fd, hm, M, F, hb⟩ := M.ex
  refine ⟨fun ps0 s0 σ0 H0 Q0 I0 h0 => wpAny_Call_Name_kw (ld_glob I0 hg hm ?_ hdb)⟩
  refine PySem.W.callWith_K (h₀ := X.base) I0.ok.mod.kin M.kp (thn (ha.run pos ps0 s0 σ0 H0 _ I0 h0) fun us s1 h1 => ?_) he hpl
  obtain ⟨vs, H1, I1, r, q1⟩ := h1
  refine ⟨I1.kIn, ?_⟩
  have lt := Nat.lt_succ_self s1.heap.objs.size
  have hq := q1 (s1.heap.objs.size + 1) s1.heap.objs.size (I1.hok.fresh (Nat.le_of_lt lt)) (I1.hok.fresh (Nat.le_refl _)) (Nat.ne_of_lt lt)
  have J := Inv.made (C := C) I1
  have rv : Vals (V.ref (s1.heap.objs.size + 1) :: vs) (Value.ref (s1.heap.objs.size + 1) :: us) := .cons rfl r
  have hlen : (Value.ref (s1.heap.objs.size + 1) :: us).length = ps.length := (F.len _ _ _ _ hq) ▸ rv.length.symm
  have hbind := hb _ (Value.ref (s1.heap.objs.size + 1) :: us) J.kIn (by rw [List.append_nil]; exact hlen)
  rw [List.append_nil] at hbind
  have run := F.run _ X.stack _ _ ⟨Value.ref (s1.heap.objs.size + 1) :: us, []⟩ _ _ _ (WE W σ0) (hr.make C us []) (J.env0.make C us []) hbind rv hq
  refine wpAny_call (make_map (f := f) I1.kIn M.makes M.init (beq_iff_eq.mp M.fn) (codeAny_mono run fun res s2 hres => ?_))
  match res, hres with
  | .error er, hres => exact passAt tk σ0 ps0 _ _ er s2 J hres
  | .ok (.ret u), hres =>
    obtain ⟨v, H2, I2, rv2, ⟨ev, q2⟩⟩ := J.after hres
    cases ev
    exact ⟨rv2, V.ref (s1.heap.objs.size + 1), H2, I2, rfl, q2⟩
end

/-! ### several clauses «except C as n» -/
/-- the ends behind a suite whose name is taken away -/
def gone (i : Nat) (D : Ends) : Ends := { nx := fun σ H => D.nx (σ.set i none) H, rt := D.rt, bk := fun σ H => D.bk (σ.set i none) H, ct := fun σ H => D.ct (σ.set i none) H }
def wAll (K : PySem.W.Frag) (Wout : WX) (D : Ends) : List (Value × Nat × (Addr → Value → Option Addr → TS)) → WX
  | [] => Wout
  | (c, i, ts) :: r => fun cls d σ H => ∃ b, PySem.W.exmOne K cls c = some b ∧ (b = true → ∀ a, H a = none → ts a cls d (gone i D) (σ.set i (some (.ref a))) H) ∧ (b = false → wAll K Wout D r cls d σ H)
inductive Clauses (X : Cx) : List ExceptHandler → List (Value × Nat × (Addr → Value → Option Addr → TS)) → Prop
  | nil : Clauses X [] []
  | cons {x n : Str} {c : Value} {i : Nat} {ts : Addr → Value → Option Addr → TS} {st : Stmt} {sts : List Stmt} {p1 p2 : Pos} {hds : List ExceptHandler} {l : List (Value × Nat × (Addr → Value → Option Addr → TS))} (hc : Names X x c) (hi : X.N[i]? = some n) (hk : X.env.kindOf n = some .local)
      (hs : ∀ (a : Addr) (oe : Obj) (cls : Value) (d : Option Addr) (pn : List (Addr × Obj)), Zc cls d oe → (∃ vs, oe.data = .fields vs) → PSs (X.suite a ((a, oe) :: pn)) (st :: sts) (ts a cls d)) (r : Clauses X hds l) :
      Clauses X (.ExceptHandler (some (.Name x p1)) (some n) (st :: sts) p2 :: hds) ((c, i, ts) :: l)
section
variable {X : Cx} {pins : List (Addr × Obj)} {D : Ends} {Wout : WX}
/-- an error that has come down to the clauses -/
structure Down (X : Cx) (pins : List (Addr × Obj)) (σ : St) (H : Hp) (a : Addr) (B : Heap) (cls : Value) (d : Option Addr) (sI s : Shared) : Prop where
  inv : Inv X pins σ H sI
  nb : ∀ b o, sI.heap.get? b = some o → b ∉ frs X.stack → B.get? b = some o
  up : sI.heap.UpToSlots s.heap
  fly : HandSPX.FlyingZ B (X.env :: X.outer) a (Zc cls d) s.heap
  na : H a = none
  os : s.os = sI.os
  ag : AllBare s.gens
theorem Down.here {σ : St} {H : Hp} {a : Addr} {B : Heap} {cls : Value} {d : Option Addr} {sI s : Shared} (z : Down X pins σ H a B cls d sI s) : Inv X pins σ H s := z.inv.landed z.nb z.fly.1 z.up z.os z.ag
theorem Down.on {σ : St} {H : Hp} {a : Addr} {B : Heap} {cls : Value} {d : Option Addr} {sI s : Shared} {h : Heap} (z : Down X pins σ H a B cls d sI s) (fl : HandSPX.FlyingZ B (X.env :: X.outer) a (Zc cls d) h) (u : s.heap.UpToSlots h) : Down X pins σ H a B cls d sI { s with heap := h } :=
  ⟨z.inv, z.nb, z.up.trans u, fl, z.na, z.os, z.ag⟩
/-- as a suite finds it -/
theorem Down.suite {σ : St} {H : Hp} {a : Addr} {B : Heap} {cls : Value} {d : Option Addr} {sI s : Shared} (hf : X.env.frame = some X.env.locals) (z : Down X pins σ H a B cls d sI s) :
    ∃ oe, s.heap.get? a = some oe ∧ Zc cls d oe ∧ (∃ vs, oe.data = .fields vs) ∧ Inv (X.suite a ((a, oe) :: (X.pn ++ pins))) [] σ H s := by
  obtain ⟨oe, vs, he, hz, hd⟩ := z.fly.there
  have off : a ∉ frs (X.env :: X.outer) := fun hm => by
    obtain ⟨_, o2, e2, no⟩ := z.fly.2.2.1.mem hm
    cases he.symm.trans e2
    exact no _ hd
  exact ⟨oe, he, hz, ⟨vs, hd⟩, z.here.suite he hd z.na (fun e => off (List.mem_filterMap.mpr ⟨X.env, List.mem_cons_self, hf.trans (congrArg some e.symm)⟩))
    fun hm => off (let ⟨v, hv, q⟩ := List.mem_filterMap.mp hm; List.mem_filterMap.mpr ⟨v, List.mem_cons_of_mem _ hv, q⟩)⟩
/-- no clause is left: on it goes -/
theorem Down.out {σ : St} {H : Hp} {a : Addr} {B : Heap} {cls : Value} {d : Option Addr} {sI s : Shared} (hs : X.stack = X.env :: X.outer) (hf : X.env.frame = some X.env.locals) (tk : Takes X Wout) (z : Down X pins σ H a B cls d sI s) (w : Wout cls d σ H) :
    wpAny (model X.prog X.w) X.A (handleBy (.ref a) X.env []) (SP X pins D) X.xe s := by
  have fin : wpAny (model X.prog X.w) X.A (setFlight (.ref a) X.env.frame) (fun _ s4 => wpAny (model X.prog X.w) X.A (throw (.ref a) : Sem Flow) (SP X pins D) X.xe s4) X.xe s := hf ▸
    HandSPX.setFlight_upZ z.fly fun h4 held u4 => wpAny_throw (tk _ _ ⟨a, B, sI, pins, σ, H, cls, d, rfl, z.inv, z.nb, z.up.trans u4, .inr (.inr (hs ▸ held)), z.na, z.os, z.ag, w⟩)
  refine wpAny_handleBy_nil ?_
  obtain ⟨_, _, _, oe, vs, T, oT, ts', he, hz, hd, h1, hr⟩ := id z.fly
  unfold PySem.passOn
  refine wpAny_bind (wpAny_field he hd h1 ?_)
  rw [if_neg (fun e => Value.noConfusion (beq_iff_eq.mp e))]
  first | exact wpAny_bind (wpAny_pure (wpAny_bind fin)) | exact wpAny_bind fin
theorem Down.go (hs : X.stack = X.env :: X.outer) (hf : X.env.frame = some X.env.locals) (hN : X.N.Nodup) (tk : Takes X Wout) {a : Addr} {B : Heap} {cls : Value} {d : Option Addr} {sI : Shared} {σ : St} {H : Hp} :
    ∀ {hds : List ExceptHandler} {l : List (Value × Nat × (Addr → Value → Option Addr → TS))} {s : Shared}, Clauses X hds l → Down X pins σ H a B cls d sI s → wAll X.K Wout D l cls d σ H → wpAny (model X.prog X.w) X.A (handleBy (.ref a) X.env hds) (SP X pins D) X.xe s
  | _, _, _, .nil, z, w => z.out hs hf tk w
  | _, _, s, @Clauses.cons _ x n c i ts st sts p1 p2 hds l hc hi hk hsu r, z, w => by
    obtain ⟨b, hb, yes, no⟩ := w
    obtain ⟨oe, he, hz, _, S⟩ := z.suite hf
    have LM := PySem.W.exm_one (M := model X.prog X.w) z.here.kIn (c := c) (fun A Q E s2 kk q => wpAny_typeOf_ref (kk _ _ he) (hz.1.symm ▸ q)) hb
    have test : ∀ {Q E : Value → Shared → Prop}, Q c s → wpAny (model X.prog X.w) (X.A.mark (some (.ref a))) (eval (.Name x p1) X.env) Q E s := fun {Q E} q => by
      obtain ⟨hg, hdb, hm | ⟨hm, hv, hnn⟩⟩ := hc
      · exact ld_glob S hg hm q hdb
      · exact ld_blt S hg hm hv q hnn hdb
    refine wpAny_handleBy_cons (codeAny_handlers_test (test (LM.here ?_))) (fun q => nomatch q)
    cases b with
    | false => exact Down.go hs hf hN tk r z (no rfl)
    | true =>
      refine codeAny_handlers_suite_as (HandSPX.lands_againZ z.fly fun h2 fl2 u2 => ?_)
      obtain ⟨oe2, _, hz2, hd2, S2⟩ := (z.on fl2 u2).suite hf
      refine store_ok (X := X.suite a ((a, oe2) :: (X.pn ++ pins))) (v := .ref a) S2 hN hi (.inl hk) rfl (fun s5 S5 => ?_) (.inr hk)
      refine wpAny_mono ((hsu a oe2 cls d (X.pn ++ pins) hz2 hd2).run [] s5 _ H _ S5 (yes rfl a z.na)) (fun f s6 hsp => ?_) fun _ _ y => y.elim
      have last : ∀ {σ6 : St} {H6 : Hp} {Q : Shared → Prop}, Inv (X.suite a ((a, oe2) :: (X.pn ++ pins))) [] σ6 H6 s6 → (∀ s7, Inv X pins (σ6.set i none) H6 s7 → Q s7) → wpAny (model X.prog X.w) X.A (do bindName X.env n .none; unbindBehindTheSuite X.env n p2) (fun _ s7 => Q s7) X.xe s6 :=
        fun S6 hq => gone_ok (S6.unsuite z.inv.ok) hN hi hk hq
      match f, hsp with
      | .next, ⟨_, _, S6, q6⟩ => exact last S6 fun s7 J7 => ⟨_, _, J7, q6⟩
      | .brk, ⟨_, _, S6, q6⟩ => exact last S6 fun s7 J7 => ⟨_, _, J7, q6⟩
      | .cont, ⟨_, _, S6, q6⟩ => exact last S6 fun s7 J7 => ⟨_, _, J7, q6⟩
      | .ret u, ⟨_, _, _, S6, r6, q6⟩ => exact last S6 fun s7 J7 => ⟨_, _, _, J7, r6, q6⟩
theorem ps_tryAll {body : List Stmt} {h0 : ExceptHandler} {hds : List ExceptHandler} {l : List (Value × Nat × (Addr → Value → Option Addr → TS))} {pos : Pos} {tb : WX → TS} (hs : X.stack = X.env :: X.outer) (hf : X.env.frame = some X.env.locals) (hN : X.N.Nodup) (tk : Takes X Wout)
    (hb : ∀ (W : WX) (pn : List (Addr × Obj)) (xe : Value → Shared → Prop), Takes (X.tr pn xe) W → PassesOwn (model X.prog X.w) X.A X.env xe → PSs (X.tr pn xe) body (tb W)) (hh : Clauses X (h0 :: hds) l) :
    PS X (.Try body (h0 :: hds) [] [] pos) (fun D σ H => tb (wAll X.K Wout D l) D σ H) := by
  refine ⟨fun ps0 s0 σ0 H0 D0 I0 h0' => wpAny_Try_except ?_⟩
  have ok := I0.ok
  have frames : X.A.frames = some (X.env :: X.outer) := ok.frames.trans (congrArg some hs)
  have rb := hb (wAll X.K Wout D0 l) (X.pn ++ ps0) (fun e s1 => wpAny (model X.prog X.w) X.A (noteFrame e X.env) (fun _ s2 => wpAny (model X.prog X.w) X.A (setFlight e none) (fun _ s3 => wpAny (model X.prog X.w) X.A (handleBy e X.env (h0 :: hds)) (SP X ps0 D0) X.xe s3) X.xe s2) X.xe s1)
    (fun u s' xx => by
      obtain ⟨a, B, sI, ps1, σ', H', cls, d, rfl, J', nb, up, sky, na, os, ag, w⟩ := xx
      have sky2 : Sky B (X.env :: X.outer) a (Zc cls d) X.env.locals s'.heap := hs ▸ sky
      exact Sky.land Zc.steady frames hf sky2 fun h3 fl3 up3 => Down.go hs hf hN tk hh (s := { s' with heap := h3 }) ⟨J'.ofTry ok, nb, up.trans up3, fl3, na, os, ag⟩ w) PassesOwn.looking
  refine wpAny_mono (rb.run [] s0 σ0 H0 D0 (I0.toTry _) h0') (fun f s1 hsp => ?_) fun _ _ y => y
  match f, hsp with
  | .next, ⟨σ', H', J', q⟩ => exact wpAny_execs_nil ⟨σ', H', J'.ofTry ok, q⟩
  | .brk, ⟨σ', H', J', q⟩ => exact ⟨σ', H', J'.ofTry ok, q⟩
  | .cont, ⟨σ', H', J', q⟩ => exact ⟨σ', H', J'.ofTry ok, q⟩
  | .ret u, ⟨v, σ', H', J', r, q⟩ => exact ⟨v, σ', H', J'.ofTry ok, r, q⟩
end
end Rg
namespace Rg
open PySem L2 TL
open PyProof.Rows hiding St
theorem upd_none {H : Hp} {d t : Addr} {o : HO} (h : upd H d o t = none) : H t = none := by
  by_cases e : t = d
  · rw [e, upd_same] at h
    cases h
  · rwa [upd_ne e] at h
/-! ### the error classes of the program: one __init__ for all, that stores the value -/
def spErr (K : PySem.W.Frag) : Sp := fun vs H Q _ => ∃ (a C : Addr) (v : V), vs = [.ref a, v] ∧ OexC K C ∧ PySem.W.findIn K (.ref C) "value" = some none ∧ H a = some (exo a C none) ∧
  ∀ dx, H dx = none → dx ≠ a → Q .non (upd (upd H dx (exd dx [("value", v)])) a (exo a C (some dx)))
structure Er (P : Program) (w : World) (K : PySem.W.Frag) (mg : Str → Option Value) (base : Heap) (x : Str) (C : Addr) : Prop where
  g : mg x = some (.ref C)
  o : OexC K C
  f : XfC K C
  i : ExcC K C
  nv : PySem.W.findIn K (.ref C) "value" = some none
  ini : ∃ fI fd, PySem.W.findIn K (.ref C) "__init__" = some (some (.ref fI)) ∧ PySem.W.typeIn K (.ref fI) = some (.type "function") ∧ FnOk P w K mg base CX0 1 fI fd ["self", "value"] (spErr K) ∧ Binds K fd ["self", "value"] []
section
variable {X : Cx} {x : Str} {C : Addr} {e : Expr} {es : List Expr} {ta : TA} {te : TE} {p pos : Pos}
theorem pmk_er (T : Er X.prog X.w X.K X.mg X.base x C) (hr : Room 2 X.A) (hg : Gl X x) (ha : PA X (e :: es) ta) (hdb : (x == ("__debug__" : Str)) = false := by decide)
    (he : starEach (e :: es) X.env = (false, eval e X.env) :: starEach es X.env := by rfl) (hpl : (backTo pos (starEach es X.env)).any (·.1) = false := by rfl) :
    PMk X (.Call (.Name x p) (e :: es) [] pos) (tMkO C (spErr X.K) [] ta) := by
  obtain ⟨fI, fd, h1, h2, F, hb⟩ := T.ini
  exact pmk_oex T.o h1 h2 F hr hb .nil pass0 hg T.g ha hdb he hpl
theorem rd_er {P : Program} {w : World} {K : PySem.W.Frag} {mg : Str → Option Value} {base : Heap} (T : Er P w K mg base x C) {v : V} {H : Hp} {Q : XK} (h : ∀ d, H d = none → Q (.ref C) (some d) (upd H d (.xd [("value", v)]))) :
    [v].length ≤ 1000 ∧ ∀ a, H a = none → spErr K (.ref a :: ([v] ++ [])) (upd H a (exo a C none))
      (fun u H2 => u = .non ∧ ∃ (d : Addr) (fs : List (Str × V)), H2 a = some (exo a C (some d)) ∧ H2 d = some (exd d fs) ∧ H d = none ∧ Q (.ref C) (some d) (upd (del H2 a) d (.xd fs))) (fun _ _ _ => False) := by
  refine ⟨by show 1 ≤ 1000; decide, fun a ha => ⟨a, C, v, rfl, T.o, T.nv, upd_same, fun dx hd hne => ⟨rfl, dx, _, upd_same, by rw [upd_ne hne]; exact upd_same, by rw [upd_ne hne] at hd; exact hd, ?_⟩⟩⟩
  rw [upd_ne hne] at hd
  have e : upd (del (upd (upd (upd H a (exo a C none)) dx (exd dx [("value", v)])) a (exo a C (some dx))) a) dx (.xd [("value", v)]) = upd H dx (.xd [("value", v)]) := by
    funext b
    by_cases hb : b = dx
    · rw [hb, upd_same, upd_same]
    · rw [upd_ne hb, upd_ne hb]
      by_cases hba : b = a
      · rw [hba, del_same, ha]
      · rw [del_ne hba, upd_ne hba, upd_ne hb, upd_ne hba]
  rw [e]
  exact h dx hd
variable {a : Addr} {oe : Obj} {cls : Value} {d : Option Addr} {pn : List (Addr × Obj)} {n : Str}
/-- e.n of the error that the suite holds -/
def tXfA (K : PySem.W.Frag) (a : Addr) (cls : Value) (d : Option Addr) (n : Str) (te : TE) : TE := fun σ H Q => ∃ C, XfC K C ∧ PySem.W.findIn K (.ref C) n = some none ∧ tXf a cls d C n te σ H Q
theorem pe_xfA (hz : Zc cls d oe) (hf : ∃ vs, oe.data = .fields vs) (he : PE (X.suite a ((a, oe) :: pn)) e te) (hb : attributeBase e n X.env (eval e X.env) = eval e X.env := by rfl) : PE (X.suite a ((a, oe) :: pn)) (.Attribute e n pos) (tXfA X.K a cls d n te) :=
  ⟨fun pins s σ H Q I ⟨_, T, hno, h⟩ => (pe_xf T hno hz hf he hb).run pins s σ H Q I h⟩
/-- isinstance(e, c) of that error -/
def rIsEd (K : PySem.W.Frag) (a : Addr) (cls : Value) (d : Option Addr) : List V → Hp → VK → Prop := fun xs H Q => ∃ (D dd : Addr) (fs : List (Str × V)) (c : V) (cv : Value) (b : Bool), cls = .ref D ∧ ExcC K D ∧ d = some dd ∧ H dd = some (.xd fs) ∧ xs = [.ref a, c] ∧ (∀ u, RelV c u → u = cv) ∧
  PySem.W.kitOne K (.ref D) cv = some b ∧ Q (.bl b) H
theorem call_isEd (hz : Zc cls d oe) (hf : ∃ vs, oe.data = .fields vs) : CallR (X.suite a ((a, oe) :: pn)) (.builtin "isinstance") (rIsEd X.K a cls d) := by
  intro pins s σ H xs us Q I r h
  obtain ⟨D, dd, fs, c, cv, b, rfl, E, rfl, ed, rfl, hcv, hk, q⟩ := h
  match us, r with
  | [u0, u1], .cons r0 (.cons r1 .nil) =>
    cases r0
    cases hcv _ r1
    obtain ⟨hget, _⟩ := I.pin (a, oe) (List.mem_append.mpr (.inl List.mem_cons_self))
    obtain ⟨vs, hv⟩ := hf
    have hx : ObjOk X.prog X.w H s.heap dd (.xd fs) := I.hok dd _ ed
    obtain ⟨mA, hns, _⟩ := hx
    obtain ⟨od, ho, _⟩ := lookIn_ns hns
    have J : PySem.W.InstAt s.heap a oe D (some od) := ⟨hget, hz.1, by unfold PySem.W.notCls; rw [hv] <;> rfl, by rw [hz.2]; exact ho⟩
    obtain ⟨cd, hcd, _⟩ := PySem.W.any_some E.hd
    exact PySem.W.kia_one (PySem.W.kitx_exc (by rw [hcd]; rfl) E.hg E.hk E.hs E.ha E.hn E.ht E.hm) I.kIn J hk (fun z => nomatch z) fun tk => ⟨.bl b, H, I.kept (t' := tk) fun _ _ z => z, rfl, q⟩
end
theorem kit_er {K : PySem.W.Frag} {D R : Addr} (hs : PySem.W.subIn K (.ref D) (.ref R) = some true) (ht : PySem.W.typeIn K (.ref R) = some (.type "type")) (hd : PySem.W.hasDictIn K R = true) : PySem.W.kitOne K (.ref D) (.ref R) = some true := by
  obtain ⟨cd, hcd, _⟩ := PySem.W.any_some hd
  unfold PySem.W.kitOne
  split
  · rfl
  · show (if ((PySem.W.clsIn K R).isSome && PySem.W.typeIn K (.ref R) == some (.type "type")) = true then PySem.W.subIn K (.ref D) (.ref R) else none) = some true
    rw [if_pos (by rw [hcd, ht]; rfl)]
    exact hs
theorem refs_tail : PySem.HandSPX.refsVE [.type "ValueError", .type "Exception", .type "BaseException", .type "object"] = true := by decide +kernel
theorem refs_one {c : Addr} : PySem.HandSPX.refsVE [.ref c, .type "ValueError", .type "Exception", .type "BaseException", .type "object"] = true := refs_tail
theorem Er.ex {P : Program} {w : World} {K : PySem.W.Frag} {mg : Str → Option Value} {base : Heap} {x : Str} {C D : Addr} {b : Bool} (T : Er P w K mg base x C) (h : PySem.W.subIn K (.ref D) (.ref C) = some b) : PySem.W.exmOne K (.ref D) (.ref C) = some b := PySem.W.exm_ref T.f.exC T.f.hdC T.o.tyC h
theorem Er.kit {P : Program} {w : World} {K : PySem.W.Frag} {mg : Str → Option Value} {base : Heap} {x : Str} {C D : Addr} (T : Er P w K mg base x C) (h : PySem.W.subIn K (.ref D) (.ref C) = some true) : PySem.W.kitOne K (.ref D) (.ref C) = some true := kit_er h T.o.tyC T.f.hdC
/-- a number that may be below b: then an error of the class at C carries it -/
def spChk (C : Addr) (b : Int) : Sp := fun vs H Q E => ∃ n : Int, vs = [.int n] ∧ (b ≤ n → Q .non H) ∧ (n < b → ∀ d, H d = none → E (.ref C) (some d) (upd H d (.xd [("value", .int n)])))
end Rg
/-! own words: errors that carry a number -/
namespace Rg
open PySem L2 TL
/-- an error of the class at C, with this number, goes out -/
def Bad (E : XK) (H : Hp) (C : Addr) (v : Int) : Prop := ∀ d, H d = none → E (.ref C) (some d) (upd H d (.xd [("value", .int v)]))
def spChkP (C : Addr) : Sp := fun vs H Q E => ∃ q n : Int, vs = [.int q, .int n] ∧ (0 ≤ q → q < n → Q .non H) ∧ (q < 0 ∨ n ≤ q → Bad E H C q)
/-- a question of a ladder with a post: the errors in their order, or an answer -/
def Asked1 (Q : VK) (E : XK) (H : Hp) (CS CP CN : Addr) (sz q dep : Int) : Prop :=
  (sz < 1 → Bad E H CS sz) ∧ (1 ≤ sz → (q < 0 ∨ sz ≤ q) → Bad E H CP q) ∧ (1 ≤ sz → 0 ≤ q → q < sz → dep < 0 → Bad E H CN dep) ∧ (1 ≤ sz → 0 ≤ q → q < sz → 0 ≤ dep → ∀ v H', Same H H' → Q v H')
end Rg
/-! own words: the endless row: what a period of posts moves in all is nothing -/
namespace Rg
/-- the sum of h over the n posts from s -/
def sumZ (h : Int → Int) (s : Int) : Nat → Int
  | 0 => 0
  | n + 1 => sumZ h s n + h (s + n)
theorem sumZ_congr {h g : Int → Int} (e : ∀ i, h i = g i) (s : Int) : ∀ n, sumZ h s n = sumZ g s n
  | 0 => rfl
  | n + 1 => by rw [sumZ, sumZ, sumZ_congr e s n, e]
theorem sumZ_add (h g : Int → Int) (s : Int) : ∀ n, sumZ (fun i => h i + g i) s n = sumZ h s n + sumZ g s n
  | 0 => rfl
  | n + 1 => by
    rw [sumZ, sumZ, sumZ, sumZ_add h g s n]
    omega
theorem sumZ_zero (s : Int) : ∀ n, sumZ (fun _ => 0) s n = 0
  | 0 => rfl
  | n + 1 => by rw [sumZ, sumZ_zero s n]; rfl
theorem sumZ_neg (h : Int → Int) (s : Int) : ∀ n, sumZ (fun i => -h i) s n = -sumZ h s n
  | 0 => rfl
  | n + 1 => by
    rw [sumZ, sumZ, sumZ_neg h s n]
    omega
/-- one post further: the first goes, the one behind the last comes -/
theorem sumZ_next (h : Int → Int) (s : Int) : ∀ n, sumZ h (s + 1) n + h s = sumZ h s n + h (s + n)
  | 0 => by
    show (0 : Int) + h s = 0 + h (s + ((0 : Nat) : Int))
    rw [show s + ((0 : Nat) : Int) = s by omega]
  | n + 1 => by
    have ih := sumZ_next h s n
    rw [sumZ, sumZ, show s + 1 + (n : Int) = s + ((n + 1 : Nat) : Int) by omega]
    omega
/-- the same at each n-th post -/
def Per (n : Nat) (h : Int → Int) : Prop := ∀ i, h (i + n) = h i
def PerB (n : Nat) (r : Int → Bool) : Prop := ∀ i, r (i + n) = r i
/-- no two rungs side by side -/
def Lone (r : Int → Bool) : Prop := ∀ i, r i = true → r (i - 1) = false
theorem sumZ_per {n : Nat} {h : Int → Int} (p : Per n h) (s : Int) : sumZ h (s + 1) n = sumZ h s n := by
  have a := sumZ_next h s n
  have b := p s
  omega
theorem sumZ_back {n : Nat} {h : Int → Int} (p : Per n h) (s : Int) : sumZ (fun i => h (i - 1)) s n = sumZ h s n := by
  have e : ∀ (t : Int) (m : Nat), sumZ (fun i => h (i - 1)) (t + 1) m = sumZ h t m := by
    intro t m
    induction m with
    | zero => rfl
    | succ m ih =>
      rw [sumZ, sumZ, ih]
      show _ + h (t + 1 + (m : Int) - 1) = _
      rw [show t + 1 + (m : Int) - 1 = t + m by omega]
  have e1 := e (s - 1) n
  rw [show s - 1 + 1 = s by omega] at e1
  rw [e1]
  have e2 := sumZ_per p (s - 1)
  rw [show s - 1 + 1 = s by omega] at e2
  exact e2.symm
/-- where the walker stands behind a row -/
def cross1 (r : Int → Bool) (i : Int) : Int := if r i = true then i + 1 else if r (i - 1) = true then i - 1 else i
/-- .. behind all rows -/
def crossZ : List (Int → Bool) → Int → Int
  | [], i => i
  | r :: rs, i => crossZ rs (cross1 r i)
theorem cross1_per {n : Nat} {r : Int → Bool} (p : PerB n r) (i : Int) : cross1 r (i + n) = cross1 r i + n := by
  have a := p i
  have b := p (i - 1)
  rw [show i - 1 + (n : Int) = i + n - 1 by omega] at b
  unfold cross1
  rw [a, b]
  split
  · omega
  · split <;> omega
theorem crossZ_per {n : Nat} : ∀ {rs : List (Int → Bool)}, (∀ r ∈ rs, PerB n r) → ∀ i, crossZ rs (i + n) = crossZ rs i + n
  | [], _, _ => rfl
  | r :: rs, p, i => by
    show crossZ rs (cross1 r (i + n)) = crossZ rs (cross1 r i) + n
    rw [cross1_per (p r List.mem_cons_self), crossZ_per (fun q hq => p q (List.mem_cons_of_mem _ hq))]
/-- what a row does to a sum over a period: nothing -/
theorem sumZ_cross1 {n : Nat} {h : Int → Int} {r : Int → Bool} (p : Per n h) (q : PerB n r) (l : Lone r) (s : Int) : sumZ (fun i => h (cross1 r i)) s n = sumZ h s n := by
  have e : ∀ i, h (cross1 r i) = h i + ((if r i = true then h (i + 1) - h i else 0) + -((fun j => if r j = true then h (j + 1) - h j else 0) (i - 1))) := by
    intro i
    have hl := l i
    show _ = h i + ((if r i = true then h (i + 1) - h i else 0) + -(if r (i - 1) = true then h (i - 1 + 1) - h (i - 1) else 0))
    rw [show i - 1 + 1 = i by omega]
    unfold cross1
    cases a : r i with
    | true =>
      rw [hl a]
      simp
      omega
    | false =>
      cases b : r (i - 1) with
      | true =>
        simp
        omega
      | false => simp
  have pw : Per n (fun j => if r j = true then h (j + 1) - h j else 0) := fun i => by
    have a := q i
    have b := p i
    have c := p (i + 1)
    rw [show i + 1 + (n : Int) = i + n + 1 by omega] at c
    show (if r (i + n) = true then h (i + n + 1) - h (i + n) else 0) = if r i = true then h (i + 1) - h i else 0
    rw [a, b, c]
  rw [sumZ_congr e, sumZ_add, sumZ_add, sumZ_neg (fun i => (fun j => if r j = true then h (j + 1) - h j else 0) (i - 1)), sumZ_back pw]
  omega
theorem sumZ_moved1 {n : Nat} {r : Int → Bool} (q : PerB n r) (l : Lone r) (s : Int) : sumZ (fun i => cross1 r i - i) s n = 0 := by
  have e : ∀ i, cross1 r i - i = (if r i = true then 1 else 0) + -((fun j => if r j = true then (1 : Int) else 0) (i - 1)) := by
    intro i
    have hl := l i
    show _ = (if r i = true then 1 else 0) + -(if r (i - 1) = true then (1 : Int) else 0)
    unfold cross1
    cases a : r i with
    | true =>
      rw [hl a]
      simp
      omega
    | false =>
      cases b : r (i - 1) with
      | true =>
        simp
        omega
      | false => simp
  have pw : Per n (fun j => if r j = true then (1 : Int) else 0) := fun i => by
    show (if r (i + n) = true then (1 : Int) else 0) = if r i = true then 1 else 0
    rw [q i]
  rw [sumZ_congr e, sumZ_add, sumZ_neg (fun i => (fun j => if r j = true then (1 : Int) else 0) (i - 1)), sumZ_back pw]
  omega
/-- the posts of a period move by nothing in all -/
theorem sumZ_moved {n : Nat} : ∀ {rs : List (Int → Bool)}, (∀ r ∈ rs, PerB n r ∧ Lone r) → ∀ s, sumZ (fun i => crossZ rs i - i) s n = 0
  | [], _, s => by
    rw [sumZ_congr (g := fun _ => 0) (fun i => by show i - i = 0; omega)]
    exact sumZ_zero s n
  | r :: rs, p, s => by
    have pr := p r List.mem_cons_self
    have ps : ∀ q ∈ rs, PerB n q ∧ Lone q := fun q hq => p q (List.mem_cons_of_mem _ hq)
    have pd : Per n (fun j => crossZ rs j - j) := fun i => by
      show crossZ rs (i + n) - (i + n) = crossZ rs i - i
      rw [crossZ_per (fun q hq => (ps q hq).1)]
      omega
    rw [sumZ_congr (g := fun i => (fun j => crossZ rs j - j) (cross1 r i) + (cross1 r i - i)) (fun i => by
      show crossZ rs (cross1 r i) - i = crossZ rs (cross1 r i) - cross1 r i + (cross1 r i - i)
      omega), sumZ_add, sumZ_cross1 pd pr.1 pr.2, sumZ_moved ps, sumZ_moved1 pr.1 pr.2]
    rfl
open PySem L2 TL
/-- the row of a text, without end -/
theorem rungB_45 {z : Str} {q : Int} : rungB z q = true ↔ sg (tl z) q = 45 := by
  unfold rungB
  rw [decide_eq_true_eq]
  constructor
  · intro h
    have e := congrArg tl (V.str.inj h)
    exact (List.cons.inj e).1
  · intro h
    rw [h]
    rfl
theorem rungB_per {z : Str} {n : Nat} (h : (tl z).length = n) : PerB n (rungB z) := fun i => by
  show rungB z (i + (n : Int)) = rungB z i
  rw [← h]
  unfold rungB
  rw [sg_add]
theorem rungB_lone {z : Str} (h : Row (tl z)) : Lone (rungB z) := fun i e => by
  cases q : rungB z (i - 1) with
  | false => rfl
  | true =>
    have a := rungB_45.mp e
    have b := rungB_45.mp q
    exact absurd ⟨b, by rw [show i - 1 + 1 = i by omega]; exact a⟩ (h.gap (i - 1))
/-- the walker from post i behind all rows of a rule, on the endless row of posts -/
def goZ (ls : List Str) (i : Int) : Int := crossZ (ls.map rungB) i
theorem goZ_rows {n : Nat} {ls : List Str} (W : Rows n ls) : ∀ r ∈ ls.map rungB, PerB n r ∧ Lone r := fun r hr => by
  obtain ⟨z, hz, rfl⟩ := List.mem_map.mp hr
  exact ⟨rungB_per (W.len z hz), rungB_lone (W.row z hz)⟩
theorem goZ_per {n : Nat} {ls : List Str} (W : Rows n ls) (i : Int) : goZ ls (i + n) = goZ ls i + n := crossZ_per (fun r hr => (goZ_rows W r hr).1) i
theorem goZ_moved {n : Nat} {ls : List Str} (W : Rows n ls) (s : Int) : sumZ (fun i => goZ ls i - i) s n = 0 := sumZ_moved (goZ_rows W) s
/-- a row moves by one post at most, a rule by its height -/
theorem cross1_near (r : Int → Bool) (i : Int) : i - 1 ≤ cross1 r i ∧ cross1 r i ≤ i + 1 := by
  unfold cross1
  split
  · omega
  · split <;> omega
theorem crossZ_near : ∀ (rs : List (Int → Bool)) (i : Int), i - rs.length ≤ crossZ rs i ∧ crossZ rs i ≤ i + rs.length
  | [], i => by
    show i - ((0 : Nat) : Int) ≤ i ∧ i ≤ i + ((0 : Nat) : Int)
    omega
  | r :: rs, i => by
    have a := cross1_near r i
    have b := crossZ_near rs (cross1 r i)
    rw [List.length_cons]
    show i - ((rs.length + 1 : Nat) : Int) ≤ crossZ rs (cross1 r i) ∧ crossZ rs (cross1 r i) ≤ i + ((rs.length + 1 : Nat) : Int)
    omega
/-- a row crossed twice is not crossed -/
theorem cross1_twice {r : Int → Bool} (l : Lone r) (i : Int) : cross1 r (cross1 r i) = i := by
  have hl := l i
  have hm := l (i + 1)
  rw [show i + 1 - 1 = i by omega] at hm
  unfold cross1
  cases a : r i with
  | true =>
    have b : r (i + 1) = false := by
      cases c : r (i + 1) with
      | false => rfl
      | true => exact absurd ((hm c).symm.trans a) (by decide)
    simp only [if_true]
    rw [b, show i + 1 - 1 = i by omega, a]
    simp
  | false =>
    cases b : r (i - 1) with
    | true =>
      simp only [Bool.false_eq_true, if_false, if_true]
      rw [b]
      simp only [if_true]
      omega
    | false =>
      simp only [Bool.false_eq_true, if_false]
      rw [a, b]
      simp
theorem crossZ_append : ∀ (rs qs : List (Int → Bool)) (i : Int), crossZ (rs ++ qs) i = crossZ qs (crossZ rs i)
  | [], _, _ => rfl
  | r :: rs, qs, i => by
    show crossZ (rs ++ qs) (cross1 r i) = crossZ qs (crossZ rs (cross1 r i))
    rw [crossZ_append rs qs]
theorem goZ_append (ls ms : List Str) (i : Int) : goZ (ls ++ ms) i = goZ ms (goZ ls i) := by
  unfold goZ
  rw [List.map_append, crossZ_append]
/-- the rows turned round lead back -/
theorem crossZ_back : ∀ {rs : List (Int → Bool)}, (∀ r ∈ rs, Lone r) → ∀ i, crossZ rs.reverse (crossZ rs i) = i
  | [], _, _ => rfl
  | r :: rs, p, i => by
    rw [List.reverse_cons, crossZ_append]
    show cross1 r (crossZ rs.reverse (crossZ rs (cross1 r i))) = i
    rw [crossZ_back (fun q hq => p q (List.mem_cons_of_mem _ hq)), cross1_twice (p r List.mem_cons_self)]
theorem goZ_back {n : Nat} {ls : List Str} (W : Rows n ls) (i : Int) : goZ ls.reverse (goZ ls i) = i := by
  unfold goZ
  rw [List.map_reverse]
  exact crossZ_back (fun r hr => (goZ_rows W r hr).2) i
theorem goZ_inj {n : Nat} {ls : List Str} (W : Rows n ls) {i j : Int} (h : goZ ls i = goZ ls j) : i = j := by
  rw [← goZ_back W i, h, goZ_back W j]
end Rg
/-! own words: one round on the endless row, row by row -/
namespace Rg
open PySem L2 TL
theorem rungB_rest {z : Str} {n : Nat} (h : (tl z).length = n) (q : Int) : rungB z (q % (n : Int)) = rungB z q := by
  unfold rungB
  rw [sg_congr (l := tl z) (i := q % (n : Int)) (j := q) (by rw [h, Int.emod_emod])]
/-- behind a rounds's first k rows, on the endless row -/
def wkZ (ls : List Str) (a : Int) : Nat → Int
  | 0 => a
  | k + 1 => cross1 (rungB (rowAt ls k)) (wkZ ls a k)
theorem wkZ_near (ls : List Str) (a : Int) : ∀ k : Nat, a - k ≤ wkZ ls a k ∧ wkZ ls a k ≤ a + k
  | 0 => by
    show a - ((0 : Nat) : Int) ≤ a ∧ a ≤ a + ((0 : Nat) : Int)
    omega
  | k + 1 => by
    have ih := wkZ_near ls a k
    have c := cross1_near (rungB (rowAt ls k)) (wkZ ls a k)
    show a - ((k + 1 : Nat) : Int) ≤ cross1 (rungB (rowAt ls k)) (wkZ ls a k) ∧ cross1 (rungB (rowAt ls k)) (wkZ ls a k) ≤ a + ((k + 1 : Nat) : Int)
    omega
theorem crossZ_take (rs : List (Int → Bool)) (a : Int) (r : Int → Bool) : crossZ (rs ++ [r]) a = cross1 r (crossZ rs a) := by
  rw [crossZ_append]
  rfl
/-- one round on the endless row, row by row -/
theorem wkZ_take (ls : List Str) (a : Int) : ∀ k, k ≤ ls.length → wkZ ls a k = goZ (ls.take k) a
  | 0, _ => by rw [List.take_zero]; rfl
  | k + 1, h => by
    have e : rowAt ls k = ls[k] := by
      unfold rowAt
      rw [Nat.mod_eq_of_lt (by omega), List.getD_eq_getElem?_getD, List.getElem?_eq_getElem (by omega)]
      rfl
    rw [List.take_succ_eq_append_getElem (by omega), goZ_append]
    show cross1 (rungB (rowAt ls k)) (wkZ ls a k) = goZ [ls[k]] (goZ (ls.take k) a)
    rw [wkZ_take ls a k (by omega), e]
    rfl
theorem wkZ_round (ls : List Str) (a : Int) : wkZ ls a ls.length = goZ ls a := by
  rw [wkZ_take ls a _ (Nat.le_refl _), List.take_length]
end Rg
/-! own words: rounds on the endless row -/
namespace Rg
open PySem L2 TL
/-- a map of the posts that knows its posts only by their rest -/
def PerM (n : Nat) (g : Int → Int) : Prop := ∀ i, g (i + n) = g i + n
theorem PerM.nat {n : Nat} {g : Int → Int} (p : PerM n g) (i : Int) : ∀ m : Nat, g (i + n * m) = g i + n * m
  | 0 => by
    show g (i + (n : Int) * ((0 : Nat) : Int)) = g i + (n : Int) * ((0 : Nat) : Int)
    rw [show (n : Int) * ((0 : Nat) : Int) = 0 from Int.mul_zero _, Int.add_zero, Int.add_zero]
  | m + 1 => by
    have e : (n : Int) * ((m + 1 : Nat) : Int) = n * (m : Int) + n := by
      rw [Int.natCast_add, Int.mul_add]
      show (n : Int) * m + n * 1 = _
      rw [Int.mul_one]
    rw [e, ← Int.add_assoc, p, PerM.nat p i m]
    omega
theorem PerM.int {n : Nat} {g : Int → Int} (p : PerM n g) (i m : Int) : g (i + n * m) = g i + n * m := by
  rcases Int.le_total 0 m with h | h
  · have e : m = (m.toNat : Int) := (Int.toNat_of_nonneg h).symm
    rw [e]
    exact p.nat i m.toNat
  · have e : m = -((-m).toNat : Int) := by omega
    have q := p.nat (i + n * m) (-m).toNat
    have z : (n : Int) * ((-m).toNat : Int) = -(n * m) := by
      rw [Int.toNat_of_nonneg (by omega), Int.mul_neg]
    rw [z] at q
    rw [show i + (n : Int) * m + -(n * m) = i by omega] at q
    omega
/-- the same where only the rests agree -/
theorem PerM.rest {n : Nat} {g : Int → Int} (p : PerM n g) (i : Int) : g i = g (i % n) + (i - i % n) := by
  have e := p.int (i % n) (i / n)
  have d := Int.emod_add_mul_ediv i n
  rw [d] at e
  omega
theorem PerM.comp {n : Nat} {f g : Int → Int} (p : PerM n f) (q : PerM n g) : PerM n fun i => f (g i) := fun i => by
  show f (g (i + n)) = f (g i) + n
  rw [q, p]
/-- g, k times -/
def itG (g : Int → Int) : Nat → Int → Int
  | 0, i => i
  | k + 1, i => g (itG g k i)
theorem itG_add (g : Int → Int) (a i) : ∀ b, itG g (a + b) i = itG g b (itG g a i)
  | 0 => rfl
  | b + 1 => by
    show g (itG g (a + b) i) = g (itG g b (itG g a i))
    rw [itG_add g a i b]
theorem itG_per {n : Nat} {g : Int → Int} (p : PerM n g) : ∀ k, PerM n (itG g k)
  | 0 => fun _ => rfl
  | k + 1 => fun i => by
    show g (itG g k (i + n)) = g (itG g k i) + n
    rw [itG_per p k, p]
/-- after l rounds a post further by a multiple of the width: then in l rounds always so -/
theorem itG_lane {n : Nat} {g : Int → Int} (p : PerM n g) {l : Nat} {i m : Int} (h : itG g l i = i + n * m) : ∀ q : Nat, itG g (q * l) i = i + q * (n * m)
  | 0 => by
    rw [Nat.zero_mul]
    show i = i + ((0 : Nat) : Int) * _
    rw [show ((0 : Nat) : Int) * ((n : Int) * m) = 0 from Int.zero_mul _]
    omega
  | q + 1 => by
    have ih := itG_lane p h q
    have e : (q : Int) * ((n : Int) * m) = n * (q * m) := by
      rw [← Int.mul_assoc, Int.mul_comm (q : Int) n, Int.mul_assoc]
    rw [Nat.succ_mul, itG_add, ih, e, (itG_per p l).int i (q * m), h, Int.natCast_add]
    show i + (n : Int) * m + n * (q * m) = i + ((q : Int) + 1) * (n * m)
    rw [Int.add_mul, Int.one_mul, e]
    omega
/-- any number of rounds, by the lane of the post -/
theorem itG_rounds {n : Nat} {g : Int → Int} (p : PerM n g) {l : Nat} {i m : Int} (h : itG g l i = i + n * m) (t : Nat) : itG g t i = itG g (t % l) i + (t / l : Nat) * (n * m) := by
  have e : ((t / l : Nat) : Int) * ((n : Int) * m) = n * ((t / l : Nat) * m) := by
    rw [← Int.mul_assoc, Int.mul_comm ((t / l : Nat) : Int) n, Int.mul_assoc]
  have d : t = t / l * l + t % l := by
    have := Nat.div_add_mod t l
    rw [Nat.mul_comm] at this
    exact this.symm
  have z : itG g t i = itG g (t / l * l + t % l) i := by rw [← d]
  rw [z, itG_add, itG_lane p h, e, (itG_per p _).int]
theorem goZ_perM {n : Nat} {ls : List Str} (W : Rows n ls) : PerM n (goZ ls) := fun i => goZ_per W i
/-- posts whose rests behind the rows agree had rests that agree -/
theorem goZ_rest_inj {n : Nat} {ls : List Str} (W : Rows n ls) {i j : Int} (h : goZ ls i % n = goZ ls j % n) : i % n = j % n := by
  have a := Int.emod_add_mul_ediv (goZ ls i) n
  have b := Int.emod_add_mul_ediv (goZ ls j) n
  have q := (goZ_perM W).int j (goZ ls i / n - goZ ls j / n)
  have e : goZ ls (j + n * (goZ ls i / n - goZ ls j / n)) = goZ ls i := by
    rw [q, Int.mul_sub]
    omega
  have z := goZ_inj W e
  rw [← z, Int.add_mul_emod_self_left]
/-- more posts than rests: two share one -/
theorem pigeon : ∀ (n : Nat) (f : Nat → Nat), (∀ k, k ≤ n → f k < n) → ∃ i j, i < j ∧ j ≤ n ∧ f i = f j
  | 0, f, h => absurd (h 0 (Nat.le_refl 0)) (Nat.not_lt_zero _)
  | n + 1, f, h => by
    by_cases e : ∃ k, k ≤ n ∧ f k = f (n + 1)
    · obtain ⟨k, hk, q⟩ := e
      exact ⟨k, n + 1, by omega, Nat.le_refl _, q⟩
    · have ne : ∀ k, k ≤ n → f k ≠ f (n + 1) := fun k hk q => e ⟨k, hk, q⟩
      have hv := h (n + 1) (Nat.le_refl _)
      obtain ⟨i, j, hij, hj, q⟩ := pigeon n (fun k => if f (n + 1) < f k then f k - 1 else f k) fun k hk => by
        have a := ne k hk
        have b := h k (by omega)
        show (if f (n + 1) < f k then f k - 1 else f k) < n
        split <;> omega
      have q' : (if f (n + 1) < f i then f i - 1 else f i) = (if f (n + 1) < f j then f j - 1 else f j) := q
      have a := ne i (by omega)
      have b := ne j hj
      refine ⟨i, j, hij, by omega, ?_⟩
      split at q' <;> split at q' <;> omega
theorem itG_rest_inj {n : Nat} {ls : List Str} (W : Rows n ls) {i j : Int} : ∀ k, itG (goZ ls) k i % n = itG (goZ ls) k j % n → i % n = j % n
  | 0, h => h
  | k + 1, h => itG_rest_inj W k (goZ_rest_inj W h)
/-- every rest comes again within as many rounds as there are rests -/
theorem goZ_comes {n : Nat} {ls : List Str} (W : Rows n ls) (c : Int) : ∃ l : Nat, 0 < l ∧ l ≤ n ∧ itG (goZ ls) l c % n = c % n := by
  have h0 := W.pos
  obtain ⟨i, j, hij, hj, q⟩ := pigeon n (fun k => (itG (goZ ls) k c % n).toNat) fun k _ => by
    have a := Int.emod_nonneg (itG (goZ ls) k c) (show (n : Int) ≠ 0 by omega)
    have b := Int.emod_lt_of_pos (itG (goZ ls) k c) (show (0 : Int) < n by omega)
    show (itG (goZ ls) k c % n).toNat < n
    omega
  have q' : (itG (goZ ls) i c % n).toNat = (itG (goZ ls) j c % n).toNat := q
  have a := Int.emod_nonneg (itG (goZ ls) i c) (show (n : Int) ≠ 0 by omega)
  have b := Int.emod_nonneg (itG (goZ ls) j c) (show (n : Int) ≠ 0 by omega)
  have e : itG (goZ ls) i c % n = itG (goZ ls) j c % n := by omega
  refine ⟨j - i, by omega, by omega, ?_⟩
  have d : j = (j - i) + i := by omega
  rw [d, itG_add] at e
  exact (itG_rest_inj W i e).symm
/-- the least number of rounds behind which the rest comes again: the lane's length -/
theorem least_of {p : Nat → Prop} : ∀ l : Nat, 0 < l → p l → ∃ m : Nat, 0 < m ∧ m ≤ l ∧ p m ∧ ∀ k, 0 < k → k < m → ¬ p k := by
  intro l
  induction l using Nat.strongRecOn with
  | ind l ih =>
    intro h0 hp
    by_cases e : ∃ k, 0 < k ∧ k < l ∧ p k
    · obtain ⟨k, k0, kl, kp⟩ := e
      obtain ⟨m, m0, ml, mp, mm⟩ := ih k kl k0 kp
      exact ⟨m, m0, by omega, mp, mm⟩
    · exact ⟨l, h0, Nat.le_refl l, hp, fun k k0 kl kp => e ⟨k, k0, kl, kp⟩⟩
theorem goZ_lane {n : Nat} {ls : List Str} (W : Rows n ls) (c : Int) : ∃ l : Nat, 0 < l ∧ l ≤ n ∧ itG (goZ ls) l c % n = c % n ∧ ∀ k, 0 < k → k < l → itG (goZ ls) k c % n ≠ c % n := by
  obtain ⟨l, l0, ln, e⟩ := goZ_comes W c
  obtain ⟨m, m0, ml, mp, mm⟩ := least_of (p := fun k => itG (goZ ls) k c % n = c % n) l l0 e
  exact ⟨m, m0, by omega, mp, mm⟩
/-- within a lane's length no rest comes twice -/
theorem goZ_lane_ne {n : Nat} {ls : List Str} (W : Rows n ls) {c : Int} {l : Nat} (m : ∀ k, 0 < k → k < l → itG (goZ ls) k c % n ≠ c % n) {i j : Nat} (hij : i < j) (hj : j < l) : itG (goZ ls) i c % n ≠ itG (goZ ls) j c % n := fun e => by
  have d : j = (j - i) + i := by omega
  rw [d, itG_add] at e
  exact m (j - i) (by omega) (by omega) (itG_rest_inj W i e).symm
theorem itG_comm (g : Int → Int) (a b : Nat) (i : Int) : itG g a (itG g b i) = itG g b (itG g a i) := by
  rw [← itG_add, ← itG_add, Nat.add_comm]
/-- what a map does to a post follows from its rest -/
theorem itG_cong {n : Nat} {g : Int → Int} (p : PerM n g) (k : Nat) {i j : Int} (h : i % n = j % n) : itG g k i - i = itG g k j - j := by
  have a := (itG_per p k).rest i
  have b := (itG_per p k).rest j
  rw [h] at a
  omega
theorem itG_congR {n : Nat} {g : Int → Int} (p : PerM n g) (k : Nat) {i j : Int} (h : i % n = j % n) : itG g k i % n = itG g k j % n := by
  have a := Int.emod_add_mul_ediv i n
  have b := Int.emod_add_mul_ediv j n
  have e : i = j + n * (i / n - j / n) := by
    rw [Int.mul_sub]
    omega
  rw [e, (itG_per p k).int, Int.add_mul_emod_self_left]
/-- a lane: its first post, its length, its shift (in widths), and no rest twice -/
structure Lane (n : Nat) (ls : List Str) (c : Int) (l : Nat) (m : Int) : Prop where
  pos : 0 < l
  le : l ≤ n
  end_ : itG (goZ ls) l c = c + n * m
  ne : ∀ k, 0 < k → k < l → itG (goZ ls) k c % n ≠ c % n
theorem lane_of {n : Nat} {ls : List Str} (W : Rows n ls) (c : Int) : ∃ (l : Nat) (m : Int), Lane n ls c l m := by
  obtain ⟨l, l0, ln, e, mm⟩ := goZ_lane W c
  have a := Int.emod_add_mul_ediv (itG (goZ ls) l c) n
  have b := Int.emod_add_mul_ediv c n
  refine ⟨l, itG (goZ ls) l c / n - c / n, l0, ln, ?_, mm⟩
  rw [Int.mul_sub]
  omega
/-- each post of the lane, and each with a rest of the lane, has the lane's length and shift -/
theorem Lane.same {n : Nat} {ls : List Str} (W : Rows n ls) {c : Int} {l : Nat} {m : Int} (L : Lane n ls c l m) {i : Int} {k : Nat} (h : i % n = itG (goZ ls) k c % n) : Lane n ls i l m := by
  have p := goZ_perM W
  have e : itG (goZ ls) l (itG (goZ ls) k c) = itG (goZ ls) k c + n * m := by
    rw [itG_comm, L.end_, (itG_per p k).int]
  refine ⟨L.pos, L.le, ?_, fun q q0 ql z => ?_⟩
  · have d := itG_cong p l h
    omega
  · have d := itG_congR p q h
    rw [z, h, itG_comm] at d
    exact L.ne q q0 ql (itG_rest_inj W k d.symm)
theorem Lane.uniq {n : Nat} {ls : List Str} {c : Int} {l l' : Nat} {m m' : Int} (L : Lane n ls c l m) (L' : Lane n ls c l' m') : l = l' ∧ (n : Int) * m = n * m' := by
  have z : ∀ {l : Nat} {m : Int}, Lane n ls c l m → itG (goZ ls) l c % n = c % n := fun {l m} L => by rw [L.end_, Int.add_mul_emod_self_left]
  have e : l = l' := by
    rcases Nat.lt_trichotomy l l' with q | q | q
    · exact absurd (z L) (L'.ne l L.pos q)
    · exact q
    · exact absurd (z L') (L.ne l' L'.pos q)
  subst e
  have a := L.end_
  rw [L'.end_] at a
  exact ⟨rfl, by omega⟩
/-- whoever is met in the lane of c meets c in its own -/
theorem Lane.back {n : Nat} {ls : List Str} (W : Rows n ls) {c : Int} {l : Nat} {m : Int} (L : Lane n ls c l m) {i : Int} {k : Nat} (hk : k < l) (h : i % n = itG (goZ ls) k c % n) : ∃ q, q < l ∧ c % n = itG (goZ ls) q i % n := by
  have p := goZ_perM W
  cases k with
  | zero => exact ⟨0, L.pos, h.symm⟩
  | succ k =>
    refine ⟨l - (k + 1), by omega, ?_⟩
    rw [itG_congR p _ h, ← itG_add, show k + 1 + (l - (k + 1)) = l by omega, L.end_, Int.add_mul_emod_self_left]
end Rg
/-! own words: all lanes of a rule -/
namespace Rg
open PySem L2 TL
def laneLen (ls : List Str) (n : Nat) (c : Int) : Nat :=
  match (List.range n).find? (fun k => decide (itG (goZ ls) (k + 1) c % (n : Int) = c % n)) with
  | some k => k + 1
  | none => 0
def orb (ls : List Str) (n : Nat) (c : Int) : List Int := (List.range (laneLen ls n c)).map fun k => itG (goZ ls) k c % (n : Int)
def isFirst (ls : List Str) (n : Nat) (c : Int) : Bool := (orb ls n c).all fun z => decide (c ≤ z)
def firsts (ls : List Str) (n : Nat) : List Int := ((List.range n).map fun k : Nat => (k : Int)).filter (isFirst ls n)
section
variable {n : Nat} {ls : List Str}
theorem Lane.len {c : Int} {l : Nat} {m : Int} (L : Lane n ls c l m) : laneLen ls n c = l := by
  have h : (List.range n).find? (fun k => decide (itG (goZ ls) (k + 1) c % (n : Int) = c % n)) = some (l - 1) := by
    rw [List.find?_eq_some_iff_getElem]
    have p := L.pos
    have q := L.le
    refine ⟨?_, l - 1, by rw [List.length_range]; omega, by rw [List.getElem_range], fun j hj => ?_⟩
    · rw [decide_eq_true_eq, show l - 1 + 1 = l by omega, L.end_, Int.add_mul_emod_self_left]
    · rw [List.getElem_range, Bool.not_eq_true', decide_eq_false_iff_not]
      exact L.ne (j + 1) (by omega) (by omega)
  unfold laneLen
  rw [h]
  have p := L.pos
  show l - 1 + 1 = l
  omega
theorem lane_len (W : Rows n ls) (c : Int) : ∃ m, Lane n ls c (laneLen ls n c) m := by
  obtain ⟨l, m, L⟩ := lane_of W c
  exact ⟨m, L.len ▸ L⟩
theorem mem_orb {c z : Int} : z ∈ orb ls n c ↔ ∃ k, k < laneLen ls n c ∧ z = itG (goZ ls) k c % (n : Int) := by
  unfold orb
  rw [List.mem_map]
  constructor
  · rintro ⟨k, hk, e⟩
    exact ⟨k, List.mem_range.mp hk, e.symm⟩
  · rintro ⟨k, hk, e⟩
    exact ⟨k, List.mem_range.mpr hk, e.symm⟩
/-- any number of rounds leads into the lane -/
theorem orb_any (W : Rows n ls) (c : Int) (t : Nat) : itG (goZ ls) t c % (n : Int) ∈ orb ls n c := by
  obtain ⟨m, L⟩ := lane_len W c
  refine mem_orb.mpr ⟨t % laneLen ls n c, Nat.mod_lt _ L.pos, ?_⟩
  rw [itG_rounds (goZ_perM W) L.end_ t]
  have e : ((t / laneLen ls n c : Nat) : Int) * ((n : Int) * m) = n * ((t / laneLen ls n c : Nat) * m) := by
    rw [← Int.mul_assoc, Int.mul_comm ((t / laneLen ls n c : Nat) : Int) n, Int.mul_assoc]
  rw [e, Int.add_mul_emod_self_left]
theorem orb_range (W : Rows n ls) {c z : Int} (h : z ∈ orb ls n c) : 0 ≤ z ∧ z < n := by
  obtain ⟨k, _, rfl⟩ := mem_orb.mp h
  have := W.pos
  exact ⟨Int.emod_nonneg _ (by omega), Int.emod_lt_of_pos _ (by omega)⟩
theorem orb_self (W : Rows n ls) {c : Int} (h0 : 0 ≤ c) (h1 : c < n) : c ∈ orb ls n c := by
  have := orb_any W c 0
  rwa [show itG (goZ ls) 0 c = c from rfl, Int.emod_eq_of_lt h0 h1] at this
theorem orb_trans (W : Rows n ls) {c z y : Int} (h : z ∈ orb ls n c) (g : y ∈ orb ls n z) : y ∈ orb ls n c := by
  obtain ⟨j, _, rfl⟩ := mem_orb.mp h
  obtain ⟨k, _, rfl⟩ := mem_orb.mp g
  rw [itG_congR (goZ_perM W) k (Int.emod_emod _ _), ← itG_add]
  exact orb_any W c _
theorem orb_back (W : Rows n ls) {c z : Int} (h0 : 0 ≤ c) (h1 : c < n) (h : z ∈ orb ls n c) : c ∈ orb ls n z := by
  obtain ⟨m, L⟩ := lane_len W c
  obtain ⟨k, hk, e⟩ := mem_orb.mp h
  have z2 : z % (n : Int) = itG (goZ ls) k c % n := by rw [e, Int.emod_emod]
  obtain ⟨q, _, hq⟩ := L.back W hk z2
  rw [Int.emod_eq_of_lt h0 h1] at hq
  rw [hq]
  exact orb_any W z q
theorem orb_nodup (W : Rows n ls) (c : Int) : (orb ls n c).Nodup := by
  obtain ⟨m, L⟩ := lane_len W c
  unfold orb
  rw [List.Nodup, List.pairwise_map]
  refine List.Pairwise.imp_of_mem (R := fun a b => a < b) (fun {a b} ha hb hab => ?_) List.pairwise_lt_range
  exact goZ_lane_ne W L.ne hab (List.mem_range.mp hb)
theorem first_iff {c : Int} : isFirst ls n c = true ↔ ∀ z ∈ orb ls n c, c ≤ z := by
  unfold isFirst
  rw [List.all_eq_true]
  exact ⟨fun h z hz => of_decide_eq_true (h z hz), fun h z hz => decide_eq_true (h z hz)⟩
theorem mem_firsts {c : Int} : c ∈ firsts ls n ↔ 0 ≤ c ∧ c < n ∧ isFirst ls n c = true := by
  unfold firsts
  rw [List.mem_filter, List.mem_map]
  constructor
  · rintro ⟨⟨k, hk, rfl⟩, h⟩
    have := List.mem_range.mp hk
    exact ⟨by omega, by omega, h⟩
  · rintro ⟨h0, h1, h⟩
    exact ⟨⟨c.toNat, List.mem_range.mpr (by omega), by omega⟩, h⟩
/-- a list that is not empty has a least number -/
theorem least_mem : ∀ {l : List Int}, l ≠ [] → ∃ c ∈ l, ∀ z ∈ l, c ≤ z
  | [], h => absurd rfl h
  | [a], _ => ⟨a, List.mem_singleton.mpr rfl, fun z hz => by rw [List.mem_singleton.mp hz]; exact Int.le_refl _⟩
  | a :: b :: l, _ => by
    obtain ⟨c, hc, m⟩ := least_mem (l := b :: l) (by simp)
    rcases Int.le_total a c with h | h
    · exact ⟨a, List.mem_cons_self, fun z hz => by
        rcases List.mem_cons.mp hz with rfl | q
        · exact Int.le_refl _
        · exact Int.le_trans h (m z q)⟩
    · exact ⟨c, List.mem_cons_of_mem _ hc, fun z hz => by
        rcases List.mem_cons.mp hz with rfl | q
        · exact h
        · exact m z q⟩
/-- each rest lies in the lane of just one first rest -/
theorem first_of (W : Rows n ls) {z : Int} (h0 : 0 ≤ z) (h1 : z < n) : ∃ c ∈ firsts ls n, z ∈ orb ls n c := by
  have hs := orb_self W h0 h1
  obtain ⟨c, hc, m⟩ := least_mem (l := orb ls n z) (fun e => by rw [e] at hs; cases hs)
  obtain ⟨c0, c1⟩ := orb_range W hc
  exact ⟨c, mem_firsts.mpr ⟨c0, c1, first_iff.mpr fun y hy => m y (orb_trans W hc hy)⟩, orb_back W h0 h1 hc⟩
theorem first_one (W : Rows n ls) {c d z : Int} (hc : c ∈ firsts ls n) (hd : d ∈ firsts ls n) (h : z ∈ orb ls n c) (g : z ∈ orb ls n d) : c = d := by
  obtain ⟨c0, c1, fc⟩ := mem_firsts.mp hc
  obtain ⟨d0, d1, fd⟩ := mem_firsts.mp hd
  have a := first_iff.mp fc d (orb_trans W h (orb_back W d0 d1 g))
  have b := first_iff.mp fd c (orb_trans W g (orb_back W c0 c1 h))
  omega
theorem firsts_sorted : (firsts ls n).Pairwise (· < ·) := by
  unfold firsts
  refine List.Pairwise.filter _ ?_
  rw [List.pairwise_map]
  exact List.Pairwise.imp (fun {a b} h => by omega) List.pairwise_lt_range
/-- the lanes' rests are all rests, each once -/
theorem lanes_perm (W : Rows n ls) : ((firsts ls n).map (orb ls n)).flatten.Perm ((List.range n).map fun k : Nat => (k : Int)) := by
  rw [List.perm_ext_iff_of_nodup]
  · intro z
    rw [List.mem_flatten, List.mem_map]
    constructor
    · rintro ⟨l, hl, hz⟩
      obtain ⟨c, _, rfl⟩ := List.mem_map.mp hl
      obtain ⟨z0, z1⟩ := orb_range W hz
      exact ⟨z.toNat, List.mem_range.mpr (by omega), by omega⟩
    · rintro ⟨k, hk, rfl⟩
      have := List.mem_range.mp hk
      obtain ⟨c, hc, hz⟩ := first_of W (z := (k : Int)) (by omega) (by omega)
      exact ⟨_, List.mem_map.mpr ⟨c, hc, rfl⟩, hz⟩
  · rw [List.Nodup, List.pairwise_flatten]
    refine ⟨fun l hl => ?_, ?_⟩
    · obtain ⟨c, _, rfl⟩ := List.mem_map.mp hl
      exact orb_nodup W c
    · rw [List.pairwise_map]
      refine List.Pairwise.imp_of_mem (fun {c d} hc hd hcd x hx y hy e => ?_) firsts_sorted
      subst e
      have := first_one W hc hd hx hy
      omega
  · rw [List.Nodup, List.pairwise_map]
    exact List.Pairwise.imp (fun {a b} h => by omega) List.pairwise_lt_range
end
end Rg
/-! own words: shifts -/
namespace Rg
open PySem L2 TL
theorem sum_appI : ∀ (l m : List Int), (l ++ m).sum = l.sum + m.sum
  | [], m => by
    rw [List.nil_append, List.sum_nil]
    omega
  | a :: l, m => by
    rw [List.cons_append, List.sum_cons, List.sum_cons, sum_appI l m]
    omega
theorem perm_sumI {l m : List Int} (h : l.Perm m) : l.sum = m.sum := by
  induction h with
  | nil => rfl
  | cons a _ ih => rw [List.sum_cons, List.sum_cons, ih]
  | swap a b l =>
    rw [List.sum_cons, List.sum_cons, List.sum_cons, List.sum_cons]
    omega
  | trans _ _ ih1 ih2 => rw [ih1, ih2]
theorem sum_flatI (f : Int → Int) : ∀ L : List (List Int), (L.flatten.map f).sum = (L.map fun l => (l.map f).sum).sum
  | [] => rfl
  | l :: L => by
    rw [List.flatten_cons, List.map_append, sum_appI, List.map_cons, List.sum_cons, sum_flatI f L]
theorem sumZ_range (f : Int → Int) : ∀ n : Nat, sumZ f 0 n = (((List.range n).map fun k : Nat => (k : Int)).map f).sum
  | 0 => rfl
  | n + 1 => by
    rw [List.range_succ, List.map_append, List.map_append, sum_appI, ← sumZ_range f n]
    show sumZ f 0 n + f (0 + (n : Int)) = sumZ f 0 n + (f (n : Int) + 0)
    rw [Int.zero_add, Int.add_zero]
def moveZ (ls : List Str) (z : Int) : Int := goZ ls z - z
def shiftZ (ls : List Str) (n : Nat) (c : Int) : Int := itG (goZ ls) (laneLen ls n c) c - c
section
variable {n : Nat} {ls : List Str}
theorem moveZ_rest (W : Rows n ls) (i : Int) : moveZ ls (i % n) = moveZ ls i :=
  itG_cong (goZ_perM W) 1 (i := i % n) (j := i) (Int.emod_emod _ _)
theorem moved_sum (W : Rows n ls) (c : Int) : ∀ l : Nat, itG (goZ ls) l c - c = ((List.range l).map fun k => moveZ ls (itG (goZ ls) k c % n)).sum
  | 0 => by
    show c - c = 0
    omega
  | l + 1 => by
    rw [List.range_succ, List.map_append, sum_appI, ← moved_sum W c l]
    show goZ ls (itG (goZ ls) l c) - c = itG (goZ ls) l c - c + (moveZ ls (itG (goZ ls) l c % n) + 0)
    rw [moveZ_rest W]
    unfold moveZ
    omega
theorem shiftZ_sum (W : Rows n ls) (c : Int) : shiftZ ls n c = ((orb ls n c).map (moveZ ls)).sum := by
  unfold shiftZ orb
  rw [moved_sum W c, List.map_map]
  rfl
/-- the shifts of all lanes add up to nothing -/
theorem shifts_zero (W : Rows n ls) : ((firsts ls n).map (shiftZ ls n)).sum = 0 := by
  have e : (firsts ls n).map (shiftZ ls n) = ((firsts ls n).map (orb ls n)).map fun l => (l.map (moveZ ls)).sum := by
    rw [List.map_map]
    exact List.map_congr_left fun c _ => shiftZ_sum W c
  rw [e, ← sum_flatI, perm_sumI ((lanes_perm W).map (moveZ ls)), ← sumZ_range]
  exact goZ_moved W 0
/-- a shift is a multiple of the width -/
theorem shiftZ_mul (W : Rows n ls) (c : Int) : shiftZ ls n c % n = 0 := by
  obtain ⟨m, L⟩ := lane_len W c
  unfold shiftZ
  rw [L.end_, show c + (n : Int) * m - c = n * m by omega]
  exact Int.mul_emod_right _ _
/-- any number of rounds, by lengths and shifts -/
theorem after_lane (W : Rows n ls) (i : Int) (t : Nat) : itG (goZ ls) t i = itG (goZ ls) (t % laneLen ls n i) i + (t / laneLen ls n i : Nat) * shiftZ ls n i := by
  obtain ⟨m, L⟩ := lane_len W i
  have e : shiftZ ls n i = n * m := by
    unfold shiftZ
    rw [L.end_]
    omega
  rw [e]
  exact itG_rounds (goZ_perM W) L.end_ t
/-- length and shift are those of the lane, whichever of its posts one asks -/
theorem lane_rest (W : Rows n ls) {c i : Int} {k : Nat} (h : i % n = itG (goZ ls) k c % n) : laneLen ls n i = laneLen ls n c ∧ shiftZ ls n i = shiftZ ls n c := by
  obtain ⟨m, L⟩ := lane_len W c
  have M := L.same W h
  have e := M.len
  refine ⟨e, ?_⟩
  unfold shiftZ
  rw [e, M.end_, L.end_]
  omega
end
end Rg
/-! own words: while, membership of numbers -/
namespace Rg
open PySem L2 TL
theorem wq_ite {W : Nat → St → Hp → Prop} {m : Nat} {tb : TS} {D : Ends} {σ : St} {b : Bool} {H1 : Hp} (ht : b = true → tb { D with nx := fun σ' H' => ∃ m', m' < m ∧ W m' σ' H', ct := fun σ' H' => ∃ m', m' < m ∧ W m' σ' H', bk := D.nx } σ H1) (hf : b = false → D.nx σ H1) :
    if b = true then ∃ N : St → Hp → Prop, (∀ σ' H', N σ' H' → ∃ m', m' < m ∧ W m' σ' H') ∧ tb { D with nx := N, ct := N, bk := D.nx } σ H1 else D.nx σ H1 := by
  cases b with
  | true => exact ⟨_, fun _ _ h => h, ht rfl⟩
  | false => exact hf rfl
/-- the names' values told anew -/
theorem norm_w {i : Nat} {v : V} {σ σ' : St} {H : Hp} {Q : St → Hp → Prop} (e : σ.set i (some v) = σ') (h : Q σ' H) : gName i v σ H Q := by
  subst e
  exact h
/-- for over a range, where a break may lead to what follows, too -/
theorem for_rangeB {lo : Int} {n : Nat} {g : TG} {tb : TS} {D : Ends} {σ : St} {H : Hp} (W : St → Hp → Prop) (Pv : Nat → St → Hp → Prop) (hT : ∀ σ H, W σ H → D.nx σ H) (h0 : Pv 0 σ H)
    (hs : (∀ σ H, W σ H → D.nx σ H) → ∀ i σ H, i < n → Pv i σ H → g (.int (lo + i)) σ H fun σ2 H2 => tb { D with nx := Pv (i + 1), ct := Pv (i + 1), bk := D.nx } σ2 H2) (hd : ∀ σ H, Pv n σ H → W σ H) :
    ∃ W : Nat → Nat → St → Hp → Prop, (∃ m, W 0 m σ H) ∧ ∀ i m σ H, W i m σ H →
      ((Itr lo n).stop i H ∧ D.nx σ H) ∨ ((Itr lo n).go i H ∧ ∃ N : St → Hp → Prop, (∀ σ' H', N σ' H' → ∃ m', m' < m ∧ W (i + 1) m' σ' H') ∧ ∀ x H', (Itr lo n).yld i H x H' → g x σ H' fun σ2 H2 => tb { D with nx := N, ct := N, bk := D.nx } σ2 H2) :=
  for_range Pv h0 (hs hT) fun σ H p => hT σ H (hd σ H p)
theorem flat_ints (ns : List Int) : (ns.map V.int).all flatV = true := by
  rw [List.all_map, List.all_eq_true]
  intro x _
  rfl
theorem inV_int (c : Int) (ns : List Int) : inV (.int c) (ns.map V.int) = ns.contains c := by
  unfold inV
  rw [List.any_map, Bool.eq_iff_iff, List.any_eq_true, List.contains_iff_mem]
  constructor
  · rintro ⟨x, hx, h⟩
    have : (x == c) = true := h
    rw [← eq_of_beq this]
    exact hx
  · intro h
    exact ⟨c, h, show (c == c) = true from beq_self_eq_true c⟩
theorem inV_yes {c : Int} {ns : List Int} (h : c ∈ ns) : inV (.int c) (ns.map V.int) = true := by
  rw [inV_int, List.contains_iff_mem]
  exact h
theorem inV_no {c : Int} {ns : List Int} (h : c ∉ ns) : inV (.int c) (ns.map V.int) = false := by
  rw [inV_int, Bool.eq_false_iff]
  exact fun e => h (List.contains_iff_mem.mp e)
/-- the rest behind the last round of a lane was there before, no earlier one was -/
theorem orb_take_in {n : Nat} {ls : List Str} (W : Rows n ls) (q : Int) : itG (goZ ls) (laneLen ls n q) q % (n : Int) ∈ (orb ls n q).take (laneLen ls n q) := by
  have : (orb ls n q).length = laneLen ls n q := by unfold orb; simp
  rw [List.take_of_length_le (by omega)]
  exact orb_any W q _
theorem orb_len (ls : List Str) (n : Nat) (q : Int) : (orb ls n q).length = laneLen ls n q := by unfold orb; simp
theorem orb_get {ls : List Str} {n k : Nat} {q : Int} (h : k < laneLen ls n q) : (orb ls n q)[k]? = some (itG (goZ ls) k q % (n : Int)) := by
  unfold orb
  rw [List.getElem?_map, List.getElem?_range h]
  rfl
theorem orb_take_no {n : Nat} {ls : List Str} (W : Rows n ls) (q : Int) {k : Nat} (hk : k < laneLen ls n q) : itG (goZ ls) k q % (n : Int) ∉ (orb ls n q).take k := by
  intro h
  obtain ⟨j, hj, e⟩ := List.getElem_of_mem h
  rw [List.length_take, orb_len] at hj
  have hjk : j < k := by omega
  rw [List.getElem_take] at e
  have nd := orb_nodup W q
  have g1 : (orb ls n q)[j]? = some (itG (goZ ls) k q % (n : Int)) := by
    rw [List.getElem?_eq_getElem (by rw [orb_len]; omega), e]
  obtain ⟨m, L⟩ := lane_len W q
  rw [orb_get (by omega)] at g1
  exact goZ_lane_ne W L.ne hjk hk (Option.some.inj g1)
theorem orb_take_succ {n : Nat} {ls : List Str} {q : Int} {k : Nat} (hk : k < laneLen ls n q) : (orb ls n q).take (k + 1) = (orb ls n q).take k ++ [itG (goZ ls) k q % (n : Int)] := by
  rw [List.take_add_one, orb_get hk]
  rfl
theorem lane_pos {n : Nat} {ls : List Str} (W : Rows n ls) (q : Int) : 0 < laneLen ls n q ∧ laneLen ls n q ≤ n := by
  obtain ⟨m, L⟩ := lane_len W q
  exact ⟨L.pos, L.le⟩
/-- two lists, item by item -/
def Fa2 {α : Type} (R : V → α → Prop) (vs : List V) (L : List α) : Prop := vs.length = L.length ∧ ∀ (i : Nat) (v : V) (e : α), vs[i]? = some v → L[i]? = some e → R v e
section
variable {α : Type} {R R' : V → α → Prop} {vs : List V} {L : List α}
theorem Fa2.nil : Fa2 R [] [] := ⟨rfl, fun i v e h => by cases h⟩
theorem Fa2.snoc (F : Fa2 R vs L) {v : V} {e : α} (h : R v e) : Fa2 R (vs ++ [v]) (L ++ [e]) := by
  refine ⟨by rw [List.length_append, List.length_append, F.1]; rfl, fun i x y hx hy => ?_⟩
  by_cases hi : i < vs.length
  · rw [List.getElem?_append_left hi] at hx
    rw [List.getElem?_append_left (by rw [← F.1]; exact hi)] at hy
    exact F.2 i x y hx hy
  · rw [List.getElem?_append_right (by omega)] at hx
    have e0 := F.1
    rw [List.getElem?_append_right (by omega)] at hy
    have hl := (List.getElem?_eq_some_iff.mp hx).1
    rw [List.length_singleton] at hl
    have h0 : i - vs.length = 0 := by omega
    have h1 : i - L.length = 0 := by omega
    rw [h0] at hx
    rw [h1] at hy
    cases hx
    cases hy
    exact h
theorem Fa2.imp (F : Fa2 R vs L) (h : ∀ v e, R v e → R' v e) : Fa2 R' vs L := ⟨F.1, fun i v e a b => h v e (F.2 i v e a b)⟩
theorem Fa2.at (F : Fa2 R vs L) {i : Nat} {e : α} (h : L[i]? = some e) : ∃ v, vs[i]? = some v ∧ R v e := by
  have hi := (List.getElem?_eq_some_iff.mp h).1
  have hv : vs[i]? = some (vs[i]'(by rw [F.1]; exact hi)) := List.getElem?_eq_getElem _
  exact ⟨_, hv, F.2 i _ e hv h⟩
theorem Fa2.of (F : Fa2 R vs L) {i : Nat} {v : V} (h : vs[i]? = some v) : ∃ e, L[i]? = some e ∧ R v e := by
  have hi := (List.getElem?_eq_some_iff.mp h).1
  have hv : L[i]? = some (L[i]'(by rw [← F.1]; exact hi)) := List.getElem?_eq_getElem _
  exact ⟨_, hv, F.2 i v _ h hv⟩
end
end Rg
/-! own words: == and != of lists of numbers, of lists of such, tuples .. -/
namespace Rg
open PySem L2 TL
mutual
/-- numbers, in lists and tuples of any depth -/
def plainI : PyData → Bool
  | .int _ => true
  | .list xs => plainIs xs
  | .tuple xs => plainIs xs
  | _ => false
def plainIs : List PyData → Bool
  | [] => true
  | x :: xs => plainI x && plainIs xs
end
mutual
theorem eqvI : ∀ d e : PyData, plainI d = true → plainI e = true → PyData.eqv d e = true → d = e
  | .int i, e, _, h, q => by
    cases e with
    | int j =>
      have : (i == j) = true := by rw [PyData.eqv] at q; exact q
      rw [eq_of_beq this]
    | list _ => rw [PyData.eqv] at q; cases q
    | tuple _ => rw [PyData.eqv] at q; cases q
    | _ => cases h
  | .list xs, e, g, h, q => by
    cases e with
    | list ys =>
      rw [PyData.eqv] at q
      rw [eqvIs xs ys (by rw [plainI] at g; exact g) (by rw [plainI] at h; exact h) q]
    | int _ => rw [PyData.eqv] at q; cases q
    | tuple _ => rw [PyData.eqv] at q; cases q
    | _ => cases h
  | .tuple xs, e, g, h, q => by
    cases e with
    | tuple ys =>
      rw [PyData.eqv] at q
      rw [eqvIs xs ys (by rw [plainI] at g; exact g) (by rw [plainI] at h; exact h) q]
    | int _ => rw [PyData.eqv] at q; cases q
    | list _ => rw [PyData.eqv] at q; cases q
    | _ => cases h
theorem eqvIs : ∀ xs ys : List PyData, plainIs xs = true → plainIs ys = true → PyData.eqvAll xs ys = true → xs = ys
  | [], [], _, _, _ => rfl
  | [], _ :: _, _, _, q => by rw [PyData.eqvAll] at q; cases q
  | _ :: _, [], _, _, q => by rw [PyData.eqvAll] at q; cases q
  | x :: xs, y :: ys, g, h, q => by
    rw [PyData.eqvAll, Bool.and_eq_true] at q
    rw [plainIs, Bool.and_eq_true] at g h
    rw [eqvI x y g.1 h.1 q.1, eqvIs xs ys g.2 h.2 q.2]
end
mutual
theorem layI : ∀ d : PyData, plainI d = true → d.canLay0 = true
  | .int _, _ => rfl
  | .list xs, h => by
    rw [plainI] at h
    show PyData.canLayAll0 xs = true
    exact layIs xs h
  | .tuple xs, h => by
    rw [plainI] at h
    show PyData.canLayAll0 xs = true
    exact layIs xs h
theorem layIs : ∀ xs : List PyData, plainIs xs = true → PyData.canLayAll0 xs = true
  | [], _ => rfl
  | x :: xs, h => by
    rw [plainIs, Bool.and_eq_true] at h
    show (x.canLay0 && PyData.canLayAll0 xs) = true
    rw [layI x h.1, layIs xs h.2]
    rfl
end
/-- data that the operators == and != tell apart as they are -/
structure PlD (d : PyData) : Prop where
  p : plainI d = true
  z : d.depth ≤ 64
theorem PlD.shaped {d : PyData} (h : PlD d) : SeqAt.shaped d = true := by
  show (d.canLay0 && decide (d.depth ≤ 64)) = true
  rw [layI d h.p, decide_eq_true h.z]
  rfl
theorem PlD.yes {d : PyData} (h : PlD d) : PyData.eqv d d = true := by
  exact SeqAt.eqv_refl d (layI d h.p)
theorem PlD.no {d e : PyData} (h : PlD d) (g : PlD e) (n : d ≠ e) : PyData.eqv d e = false := by
  cases q : PyData.eqv d e with
  | false => rfl
  | true => exact absurd (eqvI d e h.p g.p q) n
theorem rd_eqD {K : PySem.W.Frag} {H : Hp} {x y : V} {d e : PyData} {Q : VK} (hx : Dp K H x d) (hy : Dp K H y e) (pd : PlD d) (pe : PlD e) (kt : d = e → Q (.bl true) H) (kf : d ≠ e → Q (.bl false) H) : rEqD K x y H Q := by
  refine ⟨_, _, hx, hy, pd.shaped, pe.shaped, ?_⟩
  by_cases h : d = e
  · subst h
    rw [pd.yes]
    exact kt rfl
  · rw [pd.no pe h]
    exact kf h
theorem rd_neD {K : PySem.W.Frag} {H : Hp} {x y : V} {d e : PyData} {Q : VK} (hx : Dp K H x d) (hy : Dp K H y e) (pd : PlD d) (pe : PlD e) (kt : d = e → Q (.bl false) H) (kf : d ≠ e → Q (.bl true) H) : rNeD K x y H Q := by
  refine ⟨_, _, hx, hy, pd.shaped, pe.shaped, ?_⟩
  by_cases h : d = e
  · subst h
    rw [pd.yes]
    exact kt rfl
  · rw [pd.no pe h]
    exact kf h
/-! ### lists of numbers -/
def intsD (ns : List Int) : PyData := .list (ns.map PyData.int)
theorem intsD_inj {ns ms : List Int} (h : intsD ns = intsD ms) : ns = ms := by
  injection h with h
  exact (List.map_inj_right (fun a b e => by injection e)).mp h
theorem plain_ints : ∀ ns : List Int, plainIs (ns.map PyData.int) = true
  | [] => rfl
  | z :: ns => by rw [List.map_cons, plainIs, plain_ints ns]; rfl
theorem depth_all {c : Nat} : ∀ {ds : List PyData}, (∀ d ∈ ds, d.depth ≤ c) → PyData.depthAll ds ≤ c
  | [], _ => Nat.zero_le _
  | d :: ds, h => by
    have h1 := h d List.mem_cons_self
    have h2 := depth_all (ds := ds) fun e he => h e (List.mem_cons_of_mem _ he)
    simp only [PyData.depthAll]
    omega
theorem depth_ints1 (ns : List Int) : PyData.depthAll (ns.map PyData.int) ≤ 1 := depth_all fun d hd => by
  obtain ⟨z, _, rfl⟩ := List.mem_map.mp hd
  simp only [PyData.depth]
  omega
theorem pl_ints (ns : List Int) : PlD (intsD ns) := ⟨plain_ints ns, by
  have := depth_ints1 ns
  unfold intsD
  simp only [PyData.depth]
  omega⟩
theorem dpI {K : PySem.W.Frag} {H : Hp} : ∀ ns : List Int, DpAll K H (ns.map V.int) (ns.map PyData.int)
  | [] => .nil
  | z :: ns => .cons (.int z) (dpI ns)
theorem dp_intsL {K : PySem.W.Frag} {H : Hp} {p : Addr} {ns : List Int} (h : H p = some (.lst (ns.map V.int))) : Dp K H (.ref p) (intsD ns) := .lst (SqL.of h) (dpI ns)
theorem rd_eqI {K : PySem.W.Frag} {H : Hp} {p q : Addr} {ns ms : List Int} {Q : VK} (hp : H p = some (.lst (ns.map V.int))) (hq : H q = some (.lst (ms.map V.int))) (k : Q (.bl (decide (ns = ms))) H) : rEqD K (.ref p) (.ref q) H Q :=
  rd_eqD (dp_intsL hp) (dp_intsL hq) (pl_ints _) (pl_ints _) (fun e => by rw [decide_eq_true (intsD_inj e)] at k; exact k) (fun n => by rw [decide_eq_false (fun e => n (by rw [e]))] at k; exact k)
theorem rd_neI {K : PySem.W.Frag} {H : Hp} {p q : Addr} {ns ms : List Int} {Q : VK} (hp : H p = some (.lst (ns.map V.int))) (hq : H q = some (.lst (ms.map V.int))) (k : Q (.bl (!decide (ns = ms))) H) : rNeD K (.ref p) (.ref q) H Q :=
  rd_neD (dp_intsL hp) (dp_intsL hq) (pl_ints _) (pl_ints _) (fun e => by rw [decide_eq_true (intsD_inj e)] at k; exact k) (fun n => by rw [decide_eq_false (fun e => n (by rw [e]))] at k; exact k)
/-- lists of data, item by item -/
theorem dpAll_of {K : PySem.W.Frag} {H : Hp} : ∀ {vs : List V} {ds : List PyData}, vs.length = ds.length → (∀ (i : Nat) (v : V) (d : PyData), vs[i]? = some v → ds[i]? = some d → Dp K H v d) → DpAll K H vs ds
  | [], [], _, _ => .nil
  | v :: vs, d :: ds, h, k => .cons (k 0 v d rfl rfl) (dpAll_of (by simpa using h) fun i v d h1 h2 => k (i + 1) v d h1 h2)
theorem plainIs_of : ∀ {ds : List PyData}, (∀ d ∈ ds, plainI d = true) → plainIs ds = true
  | [], _ => rfl
  | d :: ds, h => by rw [plainIs, h d List.mem_cons_self, plainIs_of fun e he => h e (List.mem_cons_of_mem _ he)]; rfl
end Rg
/-! own words: lanes in memory -/
namespace Rg
open PySem L2 TL
/-- a lane told: a tuple with a list -/
structure LnAt (H0 H : Hp) (v : V) (e : List Int × Int) : Prop where
  ex : ∃ a r, v = .ref a ∧ H a = some (.tup [.ref r, .int e.2]) ∧ H r = some (.lst (e.1.map V.int)) ∧ H0 a = none ∧ H0 r = none
theorem LnAt.same {H0 H H' : Hp} {v : V} {e : List Int × Int} (L : LnAt H0 H v e) (s : Same H H') : LnAt H0 H' v e := by
  obtain ⟨a, r, h1, h2, h3, h4⟩ := L.ex
  exact ⟨a, r, h1, s _ _ h2, s _ _ h3, h4⟩
theorem LnAt.old {H0 H1 H : Hp} {v : V} {e : List Int × Int} (L : LnAt H1 H v e) (s : Same H0 H1) : LnAt H0 H v e := by
  obtain ⟨a, r, h1, h2, h3, h4, h5⟩ := L.ex
  exact ⟨a, r, h1, h2, h3, s.free h4, s.free h5⟩
theorem LnAt.put {H0 H : Hp} {v : V} {e : List Int × Int} (L : LnAt H0 H v e) {D : Addr} {o o' : HO} (h : H0 D = some o) : LnAt H0 (upd H D o') v e := by
  obtain ⟨a, r, h1, h2, h3, h4, h5⟩ := L.ex
  exact ⟨a, r, h1, by rw [upd_ne (fun z => by rw [z, h] at h4; cases h4)]; exact h2, by rw [upd_ne (fun z => by rw [z, h] at h5; cases h5)]; exact h3, h4, h5⟩
/-- a list of lanes -/
def LnsAt (H0 H : Hp) (p : Addr) (L : List (List Int × Int)) : Prop := ∃ vs : List V, H p = some (.lst vs) ∧ H0 p = none ∧ Fa2 (LnAt H0 H) vs L
theorem LnsAt.same {H0 H H' : Hp} {p : Addr} {L : List (List Int × Int)} (A : LnsAt H0 H p L) (s : Same H H') : LnsAt H0 H' p L := by
  obtain ⟨vs, h1, h2, h3⟩ := A
  exact ⟨vs, s _ _ h1, h2, h3.imp fun v e h => h.same s⟩
theorem LnsAt.old {H0 H1 H : Hp} {p : Addr} {L : List (List Int × Int)} (A : LnsAt H1 H p L) (s : Same H0 H1) : LnsAt H0 H p L := by
  obtain ⟨vs, h1, h2, h3⟩ := A
  exact ⟨vs, h1, s.free h2, h3.imp fun v e h => h.old s⟩
/-- a tuple that is being put into the list at E -/
def LnMk (H1 H2 H : Hp) (E : Addr) (v : V) (e : List Int × Int) : Prop := ∃ a r, v = .ref a ∧ H a = some (.tup [.ref r, .int e.2]) ∧ H2 r = some (.lst (e.1.map V.int)) ∧ H1 r = none ∧ H1 a = none ∧ a ≠ E
theorem LnMk.same {H1 H2 H H' : Hp} {E : Addr} {v : V} {e : List Int × Int} (L : LnMk H1 H2 H E v e) (s : Same H H') : LnMk H1 H2 H' E v e := by
  obtain ⟨a, r, h1, h2, h3⟩ := L
  exact ⟨a, r, h1, s _ _ h2, h3⟩
theorem LnMk.put {H1 H2 H : Hp} {E : Addr} {v : V} {e : List Int × Int} {o : HO} (L : LnMk H1 H2 H E v e) : LnMk H1 H2 (upd H E o) E v e := by
  obtain ⟨a, r, h1, h2, h3, h4, h5, h6⟩ := L
  exact ⟨a, r, h1, by rw [upd_ne h6]; exact h2, h3, h4, h5, h6⟩
theorem LnMk.done {H1 H2 H : Hp} {E : Addr} {v : V} {e : List Int × Int} (L : LnMk H1 H2 H E v e) (s : Same H2 H) : LnAt H1 H v e := by
  obtain ⟨a, r, h1, h2, h3, h4, h5, h6⟩ := L
  exact ⟨a, r, h1, h2, s _ _ h3, h5, h4⟩
/-- all lanes -/
def lanesL (ls : List Str) (n : Nat) : List (List Int × Int) := (firsts ls n).map fun c => (orb ls n c, shiftZ ls n c)
theorem orb_head {n : Nat} {ls : List Str} (W : Rows n ls) {c : Int} (c0 : 0 ≤ c) (c1 : c < n) : (orb ls n c)[0]? = some c := by
  rw [orb_get (lane_pos W c).1]
  show some (c % (n : Int)) = _
  rw [Int.emod_eq_of_lt c0 c1]
theorem isFirst_min {n : Nat} {ls : List Str} (W : Rows n ls) {c m : Int} (c0 : 0 ≤ c) (c1 : c < n) (hm : m ∈ orb ls n c) (hl : ∀ y ∈ orb ls n c, m ≤ y) : isFirst ls n c = decide (c = m) := by
  have hs := orb_self W c0 c1
  rw [Bool.eq_iff_iff, first_iff, decide_eq_true_eq]
  constructor
  · intro h
    have a := h m hm
    have b := hl c hs
    omega
  · rintro rfl z hz
    exact hl z hz
theorem orb_next {n : Nat} {ls : List Str} (W : Rows n ls) (q : Int) {k : Nat} (hk : k < laneLen ls n q) : (orb ls n q)[(k + 1) % laneLen ls n q]? = some ((itG (goZ ls) k q % (n : Int) + moveZ ls (itG (goZ ls) k q % (n : Int))) % (n : Int)) := by
  have e : (itG (goZ ls) k q % (n : Int) + moveZ ls (itG (goZ ls) k q % (n : Int))) % (n : Int) = itG (goZ ls) (k + 1) q % (n : Int) := by
    unfold moveZ
    rw [show itG (goZ ls) k q % (n : Int) + (goZ ls (itG (goZ ls) k q % (n : Int)) - itG (goZ ls) k q % (n : Int)) = goZ ls (itG (goZ ls) k q % (n : Int)) by omega]
    exact itG_congR (goZ_perM W) 1 (i := itG (goZ ls) k q % (n : Int)) (j := itG (goZ ls) k q) (Int.emod_emod _ _)
  rw [e, orb_get (Nat.mod_lt _ (lane_pos W q).1)]
  by_cases h : k + 1 < laneLen ls n q
  · rw [Nat.mod_eq_of_lt h]
  · have h2 : k + 1 = laneLen ls n q := by omega
    rw [h2, Nat.mod_self]
    obtain ⟨m, L⟩ := lane_len W q
    rw [L.end_, Int.add_mul_emod_self_left]
    rfl
theorem pw_eqI : ∀ {l m : List Int}, l.Pairwise (· ≤ ·) → m.Pairwise (· < ·) → l.Perm m → l = m := fun {l m} h1 h2 hp =>
  hp.eq_of_pairwise (le := fun a b : Int => a ≤ b) (fun a b _ _ h h' => Int.le_antisymm h h') h1 (h2.imp fun h => Int.le_of_lt h)

/-- what flows to the right -/
def flowZ (ls : List Str) (n : Nat) : Int := ((((lanesL ls n).map Prod.snd).filter fun s => decide (0 < s)).sum) / (n : Int)
/-- the drift of a lane -/
def driftG (ls : List Str) (n : Nat) (q : Int) : Nat := Nat.gcd (shiftZ ls n q).natAbs (laneLen ls n q)
def driftT (ls : List Str) (n : Nat) (q : Int) : Int := shiftZ ls n q / (driftG ls n q : Int)
def driftB (ls : List Str) (n : Nat) (q : Int) : Nat := laneLen ls n q / driftG ls n q
/-- a round moves by no more than the rows -/
theorem goZ_near (ls : List Str) (i : Int) : i - ls.length ≤ goZ ls i ∧ goZ ls i ≤ i + ls.length := by
  have h := crossZ_near (ls.map rungB) i
  rw [List.length_map] at h
  exact h
theorem itG_near (ls : List Str) (i : Int) : ∀ k : Nat, i - (k * ls.length : Nat) ≤ itG (goZ ls) k i ∧ itG (goZ ls) k i ≤ i + (k * ls.length : Nat)
  | 0 => by
    rw [Nat.zero_mul]
    show i - ((0 : Nat) : Int) ≤ i ∧ i ≤ i + ((0 : Nat) : Int)
    omega
  | k + 1 => by
    have ih := itG_near ls i k
    have h := goZ_near ls (itG (goZ ls) k i)
    rw [Nat.succ_mul]
    show _ ≤ goZ ls (itG (goZ ls) k i) ∧ goZ ls (itG (goZ ls) k i) ≤ _
    omega
theorem shiftZ_near {n : Nat} {ls : List Str} (W : Rows n ls) (q : Int) : -((n * ls.length : Nat) : Int) ≤ shiftZ ls n q ∧ shiftZ ls n q ≤ ((n * ls.length : Nat) : Int) := by
  have h := itG_near ls q (laneLen ls n q)
  have l := Nat.mul_le_mul_right ls.length (lane_pos W q).2
  unfold shiftZ
  omega
theorem driftG_pos {n : Nat} {ls : List Str} (W : Rows n ls) (q : Int) : 0 < driftG ls n q := Nat.gcd_pos_of_pos_right _ (lane_pos W q).1
theorem driftG_le {n : Nat} {ls : List Str} (W : Rows n ls) (q : Int) : driftG ls n q ≤ n := Nat.le_trans (Nat.gcd_le_right _ (lane_pos W q).1) (lane_pos W q).2
theorem driftB_pos {n : Nat} {ls : List Str} (W : Rows n ls) (q : Int) : 1 ≤ driftB ls n q ∧ driftB ls n q ≤ n := by
  have h := Nat.gcd_dvd_right (shiftZ ls n q).natAbs (laneLen ls n q)
  have g := driftG_pos W q
  have l := lane_pos W q
  refine ⟨Nat.div_pos (Nat.le_of_dvd l.1 h) g, Nat.le_trans (Nat.div_le_self _ _) l.2⟩
theorem drift_T {ls : List Str} {n : Nat} (q : Int) : driftT ls n q * (driftG ls n q : Int) = shiftZ ls n q :=
  Int.ediv_mul_cancel (Int.ofNat_dvd_left.mpr (Nat.gcd_dvd_left _ _))
theorem drift_B {ls : List Str} {n : Nat} (q : Int) : driftB ls n q * driftG ls n q = laneLen ls n q := Nat.div_mul_cancel (Nat.gcd_dvd_right _ _)
theorem drift_cross {n : Nat} {ls : List Str} (W : Rows n ls) (q : Int) : driftT ls n q * (laneLen ls n q : Int) = shiftZ ls n q * (driftB ls n q : Int) := by
  rw [← drift_T (ls := ls) (n := n) q, ← drift_B (ls := ls) (n := n) q, Int.natCast_mul, Int.mul_assoc, Int.mul_comm (driftB ls n q : Int)]
theorem drift_prime {n : Nat} {ls : List Str} (W : Rows n ls) (q : Int) {k : Nat} (h1 : k ∣ driftB ls n q) (h2 : (k : Int) ∣ driftT ls n q) : k = 1 := by
  have g := driftG_pos W q
  have a1 : k * driftG ls n q ∣ laneLen ls n q := by
    rw [← drift_B (ls := ls) (n := n) q]
    exact Nat.mul_dvd_mul_right h1 _
  have a2 : k * driftG ls n q ∣ (shiftZ ls n q).natAbs := by
    rw [← drift_T (ls := ls) (n := n) q, Int.natAbs_mul]
    exact Nat.mul_dvd_mul (Int.ofNat_dvd_left.mp h2) (Nat.dvd_refl _)
  have a3 := Nat.le_of_dvd g (Nat.dvd_gcd a2 a1)
  have a4 : 0 < k := by
    rcases Nat.eq_zero_or_pos k with e | e
    · rw [e] at h1
      have := Nat.eq_zero_of_zero_dvd h1
      have := (driftB_pos W q).1
      omega
    · exact e
  have : k * driftG ls n q ≤ 1 * driftG ls n q := by omega
  have := Nat.le_of_mul_le_mul_right this g
  omega
/-- which rests the lanes ahead of i have -/
def knB (ls : List Str) (n i z : Nat) : Bool := (firsts ls n).any fun c => decide (c < (i : Int)) && (orb ls n c).contains (z : Int)
theorem knB_iff {ls : List Str} {n i z : Nat} : knB ls n i z = true ↔ ∃ c ∈ firsts ls n, c < (i : Int) ∧ (z : Int) ∈ orb ls n c := by
  unfold knB
  rw [List.any_eq_true]
  constructor
  · rintro ⟨c, hc, h⟩
    rw [Bool.and_eq_true, decide_eq_true_eq, List.contains_iff_mem] at h
    exact ⟨c, hc, h.1, h.2⟩
  · rintro ⟨c, hc, h1, h2⟩
    exact ⟨c, hc, by rw [Bool.and_eq_true, decide_eq_true_eq, List.contains_iff_mem]; exact ⟨h1, h2⟩⟩
theorem knB_zero (ls : List Str) (n z : Nat) : knB ls n 0 z = false := by
  rw [Bool.eq_false_iff]
  intro h
  obtain ⟨c, hc, h1, _⟩ := knB_iff.mp h
  have := (mem_firsts.mp hc).1
  omega
/-- a rest that no lane ahead has is a first one, and no lane ahead has a rest of its lane -/
theorem knB_first {n : Nat} {ls : List Str} (W : Rows n ls) {i : Nat} (hi : i < n) : isFirst ls n (i : Int) = !knB ls n i i := by
  rw [Bool.eq_iff_iff, Bool.not_eq_true', first_iff]
  constructor
  · intro h
    rw [Bool.eq_false_iff]
    intro q
    obtain ⟨c, hc, h1, h2⟩ := knB_iff.mp q
    obtain ⟨c0, c1, _⟩ := mem_firsts.mp hc
    have := h c (orb_back W c0 c1 h2)
    omega
  · intro h z hz
    refine Int.not_lt.mp fun q => ?_
    obtain ⟨z0, z1⟩ := orb_range W hz
    obtain ⟨c, hc, hcz⟩ := first_of W z0 z1
    obtain ⟨c0, c1, cf⟩ := mem_firsts.mp hc
    have : knB ls n i i = true := knB_iff.mpr ⟨c, hc, by
      have := first_iff.mp cf z hcz
      omega, orb_trans W hcz (orb_back W (by omega) (by omega) hz)⟩
    rw [this] at h
    cases h
theorem knB_out {n : Nat} {ls : List Str} (W : Rows n ls) {i : Nat} (hi : i < n) (h : knB ls n i i = false) {z : Nat} (hz : (z : Int) ∈ orb ls n (i : Int)) : knB ls n i z = false := by
  rw [Bool.eq_false_iff]
  intro q
  obtain ⟨c, hc, h1, h2⟩ := knB_iff.mp q
  have : knB ls n i i = true := knB_iff.mpr ⟨c, hc, h1, orb_trans W h2 (orb_back W (by omega) (by omega) hz)⟩
  rw [this] at h
  cases h
theorem knB_succ {n : Nat} {ls : List Str} (W : Rows n ls) {i : Nat} (hi : i < n) (z : Nat) : knB ls n (i + 1) z = (knB ls n i z || (!knB ls n i i && (orb ls n (i : Int)).contains (z : Int))) := by
  rw [← knB_first W hi, Bool.eq_iff_iff, Bool.or_eq_true, Bool.and_eq_true, List.contains_iff_mem, knB_iff, knB_iff]
  constructor
  · rintro ⟨c, hc, h1, h2⟩
    by_cases e : c = (i : Int)
    · subst e
      exact .inr ⟨(mem_firsts.mp hc).2.2, h2⟩
    · exact .inl ⟨c, hc, by omega, h2⟩
  · rintro (⟨c, hc, h1, h2⟩ | ⟨h1, h2⟩)
    · exact ⟨c, hc, by omega, h2⟩
    · exact ⟨(i : Int), mem_firsts.mpr ⟨by omega, by omega, h1⟩, by omega, h2⟩
/-- a list of truth values -/
def blsV (n : Nat) (f : Nat → Bool) : List V := (List.range n).map fun z => V.bl (f z)
theorem blsV_len (n : Nat) (f : Nat → Bool) : (blsV n f).length = n := by unfold blsV; simp
theorem blsV_get {n : Nat} {f : Nat → Bool} {k : Nat} (h : k < n) : (blsV n f)[k]? = some (V.bl (f k)) := by
  unfold blsV
  rw [List.getElem?_map, List.getElem?_range h]
  rfl
theorem blsV_set {n : Nat} {f : Nat → Bool} {k : Nat} : (blsV n f).set k (V.bl true) = blsV n fun z => f z || decide (z = k) := by
  refine List.ext_getElem? fun j => ?_
  by_cases hj : j < n
  · by_cases e : k = j
    · subst e
      rw [List.getElem?_set_self (by rw [blsV_len]; exact hj), blsV_get hj, decide_eq_true rfl, Bool.or_true]
    · rw [List.getElem?_set_ne e, blsV_get hj, blsV_get hj, decide_eq_false (fun z => e z.symm), Bool.or_false]
  · rw [List.getElem?_eq_none (by rw [List.length_set, blsV_len]; omega), List.getElem?_eq_none (by rw [blsV_len]; omega)]
theorem blsV_congr {n : Nat} {f g : Nat → Bool} (h : ∀ z, z < n → f z = g z) : blsV n f = blsV n g := by
  unfold blsV
  exact List.map_congr_left fun z hz => by rw [h z (List.mem_range.mp hz)]
end Rg
/-! own words: rings: the cycles of a map of the posts 0 .. n - 1 that sends no two to one -/
namespace Rg
open PySem L2 TL
structure Cyc (n : Nat) (f : Int → Int) : Prop where
  to : ∀ i : Int, 0 ≤ i → i < n → 0 ≤ f i ∧ f i < n
  inj : ∀ i j : Int, 0 ≤ i → i < n → 0 ≤ j → j < n → f i = f j → i = j
def ringLen (f : Int → Int) (n : Nat) (c : Int) : Nat :=
  match (List.range n).find? (fun k => decide (itG f (k + 1) c = c)) with
  | some k => k + 1
  | none => 0
def ringOf (f : Int → Int) (n : Nat) (c : Int) : List Int := (List.range (ringLen f n c)).map fun k => itG f k c
def isHead (f : Int → Int) (n : Nat) (c : Int) : Bool := (ringOf f n c).all fun z => decide (c ≤ z)
def heads (f : Int → Int) (n : Nat) : List Int := ((List.range n).map fun k : Nat => (k : Int)).filter (isHead f n)
section
variable {n : Nat} {f : Int → Int} {c : Int}
theorem Cyc.it (C : Cyc n f) (h0 : 0 ≤ c) (h1 : c < n) : ∀ k, 0 ≤ itG f k c ∧ itG f k c < n
  | 0 => ⟨h0, h1⟩
  | k + 1 => C.to _ (C.it h0 h1 k).1 (C.it h0 h1 k).2
theorem Cyc.it_inj (C : Cyc n f) {i j : Int} (i0 : 0 ≤ i) (i1 : i < n) (j0 : 0 ≤ j) (j1 : j < n) : ∀ k, itG f k i = itG f k j → i = j
  | 0, h => h
  | k + 1, h => C.it_inj i0 i1 j0 j1 k (C.inj _ _ (C.it i0 i1 k).1 (C.it i0 i1 k).2 (C.it j0 j1 k).1 (C.it j0 j1 k).2 h)
theorem Cyc.comes (C : Cyc n f) (h0 : 0 ≤ c) (h1 : c < n) : ∃ l : Nat, 0 < l ∧ l ≤ n ∧ itG f l c = c := by
  obtain ⟨i, j, hij, hj, q⟩ := pigeon n (fun k => (itG f k c).toNat) fun k _ => by
    have a := C.it h0 h1 k
    show (itG f k c).toNat < n
    omega
  have q' : (itG f i c).toNat = (itG f j c).toNat := q
  have a := C.it h0 h1 i
  have b := C.it h0 h1 j
  have e : itG f i c = itG f j c := by omega
  refine ⟨j - i, by omega, by omega, ?_⟩
  have d : j = (j - i) + i := by omega
  rw [d, itG_add] at e
  exact (C.it_inj h0 h1 (C.it h0 h1 _).1 (C.it h0 h1 _).2 i e).symm
theorem Cyc.len (C : Cyc n f) (h0 : 0 ≤ c) (h1 : c < n) : 0 < ringLen f n c ∧ ringLen f n c ≤ n ∧ itG f (ringLen f n c) c = c ∧ ∀ k, 0 < k → k < ringLen f n c → itG f k c ≠ c := by
  obtain ⟨l, l0, ln, e⟩ := C.comes h0 h1
  obtain ⟨m, m0, ml, mp, mm⟩ := least_of (p := fun k => itG f k c = c) l l0 e
  have h : (List.range n).find? (fun k => decide (itG f (k + 1) c = c)) = some (m - 1) := by
    rw [List.find?_eq_some_iff_getElem]
    refine ⟨?_, m - 1, by rw [List.length_range]; omega, by rw [List.getElem_range], fun j hj => ?_⟩
    · rw [decide_eq_true_eq, show m - 1 + 1 = m by omega]
      exact mp
    · rw [List.getElem_range, Bool.not_eq_true', decide_eq_false_iff_not]
      exact mm (j + 1) (by omega) (by omega)
  have e2 : ringLen f n c = m := by
    unfold ringLen
    rw [h]
    show m - 1 + 1 = m
    omega
  rw [e2]
  exact ⟨m0, by omega, mp, mm⟩
theorem itG_mul {l : Nat} (h : itG f l c = c) : ∀ q, itG f (q * l) c = c
  | 0 => by rw [Nat.zero_mul]; rfl
  | q + 1 => by rw [Nat.succ_mul, itG_add, itG_mul h q, h]
/-- any number of rounds, modulo the ring's length -/
theorem Cyc.mod (C : Cyc n f) (h0 : 0 ≤ c) (h1 : c < n) (t : Nat) : itG f t c = itG f (t % ringLen f n c) c := by
  obtain ⟨_, _, e, _⟩ := C.len h0 h1
  have d : t = t / ringLen f n c * ringLen f n c + t % ringLen f n c := by
    have := Nat.div_add_mod t (ringLen f n c)
    rw [Nat.mul_comm] at this
    exact this.symm
  have z : itG f t c = itG f (t / ringLen f n c * ringLen f n c + t % ringLen f n c) c := by rw [← d]
  rw [z, itG_add, itG_mul e]
theorem mem_ring {z : Int} : z ∈ ringOf f n c ↔ ∃ k, k < ringLen f n c ∧ z = itG f k c := by
  unfold ringOf
  rw [List.mem_map]
  constructor
  · rintro ⟨k, hk, e⟩
    exact ⟨k, List.mem_range.mp hk, e.symm⟩
  · rintro ⟨k, hk, e⟩
    exact ⟨k, List.mem_range.mpr hk, e.symm⟩
theorem Cyc.any (C : Cyc n f) (h0 : 0 ≤ c) (h1 : c < n) (t : Nat) : itG f t c ∈ ringOf f n c :=
  mem_ring.mpr ⟨t % ringLen f n c, Nat.mod_lt _ (C.len h0 h1).1, C.mod h0 h1 t⟩
theorem Cyc.range (C : Cyc n f) (h0 : 0 ≤ c) (h1 : c < n) {z : Int} (h : z ∈ ringOf f n c) : 0 ≤ z ∧ z < n := by
  obtain ⟨k, _, rfl⟩ := mem_ring.mp h
  exact C.it h0 h1 k
theorem Cyc.self (C : Cyc n f) (h0 : 0 ≤ c) (h1 : c < n) : c ∈ ringOf f n c := C.any h0 h1 0
theorem Cyc.trans (C : Cyc n f) (h0 : 0 ≤ c) (h1 : c < n) {z y : Int} (h : z ∈ ringOf f n c) (g : y ∈ ringOf f n z) : y ∈ ringOf f n c := by
  obtain ⟨j, _, rfl⟩ := mem_ring.mp h
  obtain ⟨k, _, rfl⟩ := mem_ring.mp g
  rw [← itG_add]
  exact C.any h0 h1 _
theorem Cyc.back (C : Cyc n f) (h0 : 0 ≤ c) (h1 : c < n) {z : Int} (h : z ∈ ringOf f n c) : c ∈ ringOf f n z := by
  obtain ⟨k, hk, rfl⟩ := mem_ring.mp h
  obtain ⟨_, _, e, _⟩ := C.len h0 h1
  have d : itG f (ringLen f n c - k) (itG f k c) = c := by rw [← itG_add, show k + (ringLen f n c - k) = ringLen f n c by omega, e]
  have m := C.any (C.it h0 h1 k).1 (C.it h0 h1 k).2 (ringLen f n c - k)
  rwa [d] at m
theorem Cyc.nodup (C : Cyc n f) (h0 : 0 ≤ c) (h1 : c < n) : (ringOf f n c).Nodup := by
  obtain ⟨_, _, _, ne⟩ := C.len h0 h1
  unfold ringOf
  rw [List.Nodup, List.pairwise_map]
  refine List.Pairwise.imp_of_mem (R := fun a b => a < b) (fun {a b} _ hb hab e => ?_) List.pairwise_lt_range
  have hb' := List.mem_range.mp hb
  have d : b = (b - a) + a := by omega
  rw [d, itG_add] at e
  exact ne (b - a) (by omega) (by omega) (C.it_inj h0 h1 (C.it h0 h1 _).1 (C.it h0 h1 _).2 a e).symm
theorem head_iff : isHead f n c = true ↔ ∀ z ∈ ringOf f n c, c ≤ z := by
  unfold isHead
  rw [List.all_eq_true]
  exact ⟨fun h z hz => of_decide_eq_true (h z hz), fun h z hz => decide_eq_true (h z hz)⟩
theorem mem_heads : c ∈ heads f n ↔ 0 ≤ c ∧ c < n ∧ isHead f n c = true := by
  unfold heads
  rw [List.mem_filter, List.mem_map]
  constructor
  · rintro ⟨⟨k, hk, rfl⟩, h⟩
    have := List.mem_range.mp hk
    exact ⟨by omega, by omega, h⟩
  · rintro ⟨h0, h1, h⟩
    exact ⟨⟨c.toNat, List.mem_range.mpr (by omega), by omega⟩, h⟩
theorem Cyc.head_of (C : Cyc n f) {z : Int} (h0 : 0 ≤ z) (h1 : z < n) : ∃ c ∈ heads f n, z ∈ ringOf f n c := by
  have hs := C.self h0 h1
  obtain ⟨c, hc, m⟩ := least_mem (l := ringOf f n z) (fun e => by rw [e] at hs; cases hs)
  obtain ⟨c0, c1⟩ := C.range h0 h1 hc
  exact ⟨c, mem_heads.mpr ⟨c0, c1, head_iff.mpr fun y hy => m y (C.trans h0 h1 hc hy)⟩, C.back h0 h1 hc⟩
theorem Cyc.head_one (C : Cyc n f) {c d z : Int} (hc : c ∈ heads f n) (hd : d ∈ heads f n) (h : z ∈ ringOf f n c) (g : z ∈ ringOf f n d) : c = d := by
  obtain ⟨c0, c1, fc⟩ := mem_heads.mp hc
  obtain ⟨d0, d1, fd⟩ := mem_heads.mp hd
  have a := head_iff.mp fc d (C.trans c0 c1 h (C.back d0 d1 g))
  have b := head_iff.mp fd c (C.trans d0 d1 g (C.back c0 c1 h))
  omega
theorem heads_sorted : (heads f n).Pairwise (· < ·) := by
  unfold heads
  refine List.Pairwise.filter _ ?_
  rw [List.pairwise_map]
  exact List.Pairwise.imp (fun {a b} h => by omega) List.pairwise_lt_range
/-- the rings hold each post once -/
theorem Cyc.perm (C : Cyc n f) : ((heads f n).map (ringOf f n)).flatten.Perm ((List.range n).map fun k : Nat => (k : Int)) := by
  rw [List.perm_ext_iff_of_nodup]
  · intro z
    rw [List.mem_flatten, List.mem_map]
    constructor
    · rintro ⟨l, hl, hz⟩
      obtain ⟨c, hc, rfl⟩ := List.mem_map.mp hl
      obtain ⟨c0, c1, _⟩ := mem_heads.mp hc
      obtain ⟨z0, z1⟩ := C.range c0 c1 hz
      exact ⟨z.toNat, List.mem_range.mpr (by omega), by omega⟩
    · rintro ⟨k, hk, rfl⟩
      have := List.mem_range.mp hk
      obtain ⟨c, hc, hz⟩ := C.head_of (z := (k : Int)) (by omega) (by omega)
      exact ⟨_, List.mem_map.mpr ⟨c, hc, rfl⟩, hz⟩
  · rw [List.Nodup, List.pairwise_flatten]
    refine ⟨fun l hl => ?_, ?_⟩
    · obtain ⟨c, hc, rfl⟩ := List.mem_map.mp hl
      obtain ⟨c0, c1, _⟩ := mem_heads.mp hc
      exact C.nodup c0 c1
    · rw [List.pairwise_map]
      refine List.Pairwise.imp_of_mem (fun {c d} hc hd hcd x hx y hy e => ?_) heads_sorted
      subst e
      have := C.head_one hc hd hx hy
      omega
  · rw [List.Nodup, List.pairwise_map]
    exact List.Pairwise.imp (fun {a b} h => by omega) List.pairwise_lt_range
end
end Rg
/-! own words: rounds between two ends, and their rings -/
namespace Rg
open PySem L2 TL
/-- where a walker stands behind one round -/
def roundF (ls : List Str) (n : Int) (a : Int) : Int := wk ls n a ls.length
theorem rowAt_add {ls : List Str} (t k : Nat) : rowAt ls (t * ls.length + k) = rowAt ls k := by
  unfold rowAt
  rw [Nat.mul_comm, Nat.mul_add_mod]
theorem wk_add (ls : List Str) (n a : Int) (t : Nat) : ∀ k, wk ls n a (t * ls.length + k) = wk ls n (wk ls n a (t * ls.length)) k
  | 0 => rfl
  | k + 1 => by
    show cross (rowAt ls (t * ls.length + k)) n (wk ls n a (t * ls.length + k)) = cross (rowAt ls k) n (wk ls n (wk ls n a (t * ls.length)) k)
    rw [rowAt_add, wk_add ls n a t k]
/-- t rounds are the round, t times -/
theorem wk_rounds (ls : List Str) (n a : Int) : ∀ t, wk ls n a (t * ls.length) = itG (roundF ls n) t a
  | 0 => by rw [Nat.zero_mul]; rfl
  | t + 1 => by
    show _ = roundF ls n (itG (roundF ls n) t a)
    rw [Nat.succ_mul, wk_add, wk_rounds ls n a t]
    rfl
/-- rows and rounds: the rounds, then the rows that are over -/
theorem wk_split (ls : List Str) (n a : Int) (d : Nat) : wk ls n a d = wk ls n (itG (roundF ls n) (d / ls.length) a) (d % ls.length) := by
  have h := Nat.div_add_mod d ls.length
  rw [Nat.mul_comm] at h
  rw [← wk_rounds, ← wk_add, h]
theorem round_cyc {m : Nat} {ls : List Str} (W : Rows m ls) (n : Nat) : Cyc n (roundF ls n) :=
  ⟨fun _ h0 h1 => wk_on h0 h1 _, fun _ _ i0 i1 j0 j1 e => wk_inj W _ i0 i1 j0 j1 e⟩
/-- far from the ends a row between two ends does what it does on the endless row -/
theorem cross_mid {z : Str} {n q : Int} (h0 : 0 < q) (h1 : q + 1 < n) : cross z n q = cross1 (rungB z) q := by
  unfold cross cross1
  rw [decide_eq_true h0, decide_eq_true h1, Bool.true_and, Bool.true_and]
theorem wk_mid {ls : List Str} {n a : Int} : ∀ k : Nat, (k : Int) ≤ a → a + k < n → wk ls n a k = wkZ ls a k
  | 0, _, _ => rfl
  | k + 1, h0, h1 => by
    have ih := wk_mid (ls := ls) (n := n) (a := a) k (by omega) (by omega)
    have c := wkZ_near ls a k
    show cross (rowAt ls k) n (wk ls n a k) = cross1 (rungB (rowAt ls k)) (wkZ ls a k)
    rw [ih]
    exact cross_mid (by omega) (by omega)
/-- a round between two ends, far from them: as on the endless row -/
theorem round_mid {ls : List Str} {n a : Int} (h0 : (ls.length : Int) ≤ a) (h1 : a + ls.length < n) : roundF ls n a = goZ ls a := by
  unfold roundF
  rw [wk_mid _ h0 h1, wkZ_round]
end Rg
/-! own words: rings in memory -/
namespace Rg
open PySem L2 TL
section
variable {f : Int → Int} {n : Nat} {c : Int}
theorem ring_len (f : Int → Int) (n : Nat) (c : Int) : (ringOf f n c).length = ringLen f n c := by unfold ringOf; simp
theorem ring_get {k : Nat} (h : k < ringLen f n c) : (ringOf f n c)[k]? = some (itG f k c) := by
  unfold ringOf
  rw [List.getElem?_map, List.getElem?_range h]
  rfl
theorem ring_take_succ {k : Nat} (h : k < ringLen f n c) : (ringOf f n c).take (k + 1) = (ringOf f n c).take k ++ [itG f k c] := by
  rw [List.take_add_one, ring_get h]
  rfl
theorem Cyc.ne_of (C : Cyc n f) (h0 : 0 ≤ c) (h1 : c < n) {i j : Nat} (hij : i < j) (hj : j < ringLen f n c) : itG f i c ≠ itG f j c := fun e => by
  have nd := C.nodup h0 h1
  unfold ringOf at nd
  rw [List.Nodup, List.pairwise_map] at nd
  have := List.pairwise_iff_getElem.mp nd i j (by rw [List.length_range]; omega) (by rw [List.length_range]; exact hj) hij
  rw [List.getElem_range, List.getElem_range] at this
  exact this e
theorem Cyc.take_no (C : Cyc n f) (h0 : 0 ≤ c) (h1 : c < n) {k : Nat} (hk : k < ringLen f n c) : itG f k c ∉ (ringOf f n c).take k := by
  intro h
  obtain ⟨j, hj, e⟩ := List.getElem_of_mem h
  rw [List.length_take, ring_len] at hj
  rw [List.getElem_take] at e
  have g1 : (ringOf f n c)[j]? = some (itG f k c) := by
    rw [List.getElem?_eq_getElem (by rw [ring_len]; omega), e]
  rw [ring_get (by omega)] at g1
  exact C.ne_of h0 h1 (show j < k by omega) hk (Option.some.inj g1)
theorem ring_all (f : Int → Int) (n : Nat) (c : Int) : (ringOf f n c).take (ringLen f n c) = ringOf f n c := List.take_of_length_le (by rw [ring_len]; exact Nat.le_refl _)
theorem Cyc.pos (C : Cyc n f) (h0 : 0 ≤ c) (h1 : c < n) : 0 < ringLen f n c ∧ ringLen f n c ≤ n := ⟨(C.len h0 h1).1, (C.len h0 h1).2.1⟩
theorem Cyc.next (C : Cyc n f) (h0 : 0 ≤ c) (h1 : c < n) {k : Nat} (hk : k < ringLen f n c) : (ringOf f n c)[(k + 1) % ringLen f n c]? = some (f (itG f k c)) := by
  have l := C.len h0 h1
  rw [ring_get (Nat.mod_lt _ l.1)]
  show some (itG f ((k + 1) % ringLen f n c) c) = some (itG f (k + 1) c)
  rw [← C.mod h0 h1]
theorem Cyc.head0 (C : Cyc n f) (h0 : 0 ≤ c) (h1 : c < n) : (ringOf f n c)[0]? = some c := ring_get (C.len h0 h1).1
/-- which posts the rings ahead of i have -/
def knR (f : Int → Int) (n i z : Nat) : Bool := (heads f n).any fun c => decide (c < (i : Int)) && (ringOf f n c).contains (z : Int)
theorem knR_iff {i z : Nat} : knR f n i z = true ↔ ∃ c ∈ heads f n, c < (i : Int) ∧ (z : Int) ∈ ringOf f n c := by
  unfold knR
  rw [List.any_eq_true]
  constructor
  · rintro ⟨c, hc, h⟩
    rw [Bool.and_eq_true, decide_eq_true_eq, List.contains_iff_mem] at h
    exact ⟨c, hc, h.1, h.2⟩
  · rintro ⟨c, hc, h1, h2⟩
    exact ⟨c, hc, by rw [Bool.and_eq_true, decide_eq_true_eq, List.contains_iff_mem]; exact ⟨h1, h2⟩⟩
theorem knR_zero (f : Int → Int) (n z : Nat) : knR f n 0 z = false := by
  rw [Bool.eq_false_iff]
  intro h
  obtain ⟨c, hc, h1, _⟩ := knR_iff.mp h
  have := (mem_heads.mp hc).1
  omega
theorem Cyc.kn_head (C : Cyc n f) {i : Nat} (hi : i < n) : isHead f n (i : Int) = !knR f n i i := by
  have i0 : (0 : Int) ≤ (i : Int) := by omega
  have i1 : (i : Int) < (n : Int) := by omega
  rw [Bool.eq_iff_iff, Bool.not_eq_true', head_iff]
  constructor
  · intro h
    rw [Bool.eq_false_iff]
    intro q
    obtain ⟨c, hc, h1, h2⟩ := knR_iff.mp q
    obtain ⟨c0, c1, _⟩ := mem_heads.mp hc
    have := h c (C.back c0 c1 h2)
    omega
  · intro h z hz
    refine Int.not_lt.mp fun q => ?_
    obtain ⟨z0, z1⟩ := C.range i0 i1 hz
    obtain ⟨c, hc, hcz⟩ := C.head_of z0 z1
    obtain ⟨c0, c1, cf⟩ := mem_heads.mp hc
    have : knR f n i i = true := knR_iff.mpr ⟨c, hc, by
      have := head_iff.mp cf z hcz
      omega, C.trans c0 c1 hcz (C.back i0 i1 hz)⟩
    rw [this] at h
    cases h
theorem Cyc.kn_out (C : Cyc n f) {i : Nat} (hi : i < n) (h : knR f n i i = false) {z : Nat} (hz : (z : Int) ∈ ringOf f n (i : Int)) : knR f n i z = false := by
  have i0 : (0 : Int) ≤ (i : Int) := by omega
  have i1 : (i : Int) < (n : Int) := by omega
  rw [Bool.eq_false_iff]
  intro q
  obtain ⟨c, hc, h1, h2⟩ := knR_iff.mp q
  obtain ⟨c0, c1, cf⟩ := mem_heads.mp hc
  have : knR f n i i = true := knR_iff.mpr ⟨c, hc, h1, C.trans c0 c1 h2 (C.back i0 i1 hz)⟩
  rw [this] at h
  cases h
theorem Cyc.kn_succ (C : Cyc n f) {i : Nat} (hi : i < n) (z : Nat) : knR f n (i + 1) z = (knR f n i z || (!knR f n i i && (ringOf f n (i : Int)).contains (z : Int))) := by
  rw [← C.kn_head hi, Bool.eq_iff_iff, Bool.or_eq_true, Bool.and_eq_true, List.contains_iff_mem, knR_iff, knR_iff]
  constructor
  · rintro ⟨c, hc, h1, h2⟩
    by_cases e : c = (i : Int)
    · subst e
      exact .inr ⟨(mem_heads.mp hc).2.2, h2⟩
    · exact .inl ⟨c, hc, by omega, h2⟩
  · rintro (⟨c, hc, h1, h2⟩ | ⟨h1, h2⟩)
    · exact ⟨c, hc, by omega, h2⟩
    · exact ⟨(i : Int), mem_heads.mpr ⟨by omega, by omega, h1⟩, by omega, h2⟩
theorem Cyc.rings_len (C : Cyc n f) (j : Nat) : ((((heads f n).take j).map (ringOf f n)).flatten).length ≤ n := by
  have e := C.perm.length_eq
  rw [List.length_map, List.length_range] at e
  have e2 : ((heads f n).map (ringOf f n)).flatten = (((heads f n).take j).map (ringOf f n)).flatten ++ (((heads f n).drop j).map (ringOf f n)).flatten := by
    rw [← List.flatten_append, ← List.map_append, List.take_append_drop]
  rw [e2, List.length_append] at e
  omega
/-- the heads ahead of i -/
def hdU (f : Int → Int) (n i : Nat) : List Int := ((List.range i).map fun j : Nat => (j : Int)).filter (isHead f n)
theorem hdU_t {i : Nat} (h : isHead f n (i : Int) = true) : hdU f n (i + 1) = hdU f n i ++ [(i : Int)] := by
  unfold hdU
  rw [List.range_succ, List.map_append, List.filter_append]
  show _ ++ [(i : Int)].filter _ = _
  rw [List.filter_cons_of_pos h, List.filter_nil]
theorem hdU_f {i : Nat} (h : isHead f n (i : Int) = false) : hdU f n (i + 1) = hdU f n i := by
  unfold hdU
  rw [List.range_succ, List.map_append, List.filter_append]
  show _ ++ [(i : Int)].filter _ = _
  rw [List.filter_cons_of_neg (by rw [h]; decide), List.filter_nil, List.append_nil]
theorem hdU_all (f : Int → Int) (n : Nat) : hdU f n n = heads f n := rfl
theorem hdU_mono (f : Int → Int) (n i : Nat) : ∀ j : Nat, (((hdU f n i).map (ringOf f n)).flatten).length ≤ (((hdU f n (i + j)).map (ringOf f n)).flatten).length
  | 0 => Nat.le_refl _
  | j + 1 => by
    have ih := hdU_mono f n i j
    rw [show i + (j + 1) = (i + j) + 1 by omega]
    cases h : isHead f n ((i + j : Nat) : Int) with
    | true =>
      rw [hdU_t h, List.map_append, List.flatten_append, List.length_append]
      omega
    | false =>
      rw [hdU_f h]
      exact ih
theorem Cyc.hdU_len (C : Cyc n f) {i : Nat} (hi : i ≤ n) : (((hdU f n i).map (ringOf f n)).flatten).length ≤ n := by
  have h := hdU_mono f n i (n - i)
  rw [show i + (n - i) = n by omega, hdU_all] at h
  have e := C.perm.length_eq
  rw [List.length_map, List.length_range] at e
  omega
theorem heads_len (f : Int → Int) (n : Nat) : (heads f n).length ≤ n := by
  unfold heads
  refine Nat.le_trans (List.length_filter_le _ _) ?_
  rw [List.length_map, List.length_range]
  exact Nat.le_refl _
end
/-- an entry of a list without repetition is not among those ahead of it -/
theorem nodup_ahead {l : List Int} (h : l.Nodup) {A B : List Int} {z : Int} (e : l = A ++ z :: B) : z ∉ A := by
  subst e
  intro hz
  have := (List.pairwise_append.mp h).2.2 z hz z List.mem_cons_self
  exact this rfl
theorem rangeI_nodup (n : Nat) : ((List.range n).map fun k : Nat => (k : Int)).Nodup := by
  rw [List.Nodup, List.pairwise_map]
  exact List.Pairwise.imp (fun {a b} h => by omega) List.pairwise_lt_range
theorem Cyc.flat_nodup {n : Nat} {f : Int → Int} (C : Cyc n f) : (((heads f n).map (ringOf f n)).flatten).Nodup := C.perm.nodup_iff.mpr (rangeI_nodup n)
/-- a post of the ring of the i-th head is in no ring ahead, nor ahead of it in its ring -/
theorem Cyc.fresh {n : Nat} {f : Int → Int} (C : Cyc n f) {i j : Nat} {c : Int} (hc : (heads f n)[i]? = some c) (hj : j < ringLen f n c) : itG f j c ∉ (((heads f n).take i).map (ringOf f n)).flatten ++ (ringOf f n c).take j := by
  refine nodup_ahead C.flat_nodup (B := (ringOf f n c).drop (j + 1) ++ (((heads f n).drop (i + 1)).map (ringOf f n)).flatten) ?_
  have hi := (List.getElem?_eq_some_iff.mp hc).1
  have e1 : heads f n = (heads f n).take i ++ c :: (heads f n).drop (i + 1) := by
    have h := List.getElem?_eq_some_iff.mp hc
    obtain ⟨h1, h2⟩ := h
    rw [← h2, List.getElem_cons_drop, List.take_append_drop]
  have hl : j < (ringOf f n c).length := by rw [ring_len]; exact hj
  have e2 : ringOf f n c = (ringOf f n c).take j ++ itG f j c :: (ringOf f n c).drop (j + 1) := by
    have h2 : (ringOf f n c)[j] = itG f j c := by
      have := ring_get hj
      rw [List.getElem?_eq_getElem hl] at this
      exact Option.some.inj this
    rw [← h2, List.getElem_cons_drop, List.take_append_drop]
  have e3 : ((heads f n).map (ringOf f n)).flatten = (((heads f n).take i).map (ringOf f n)).flatten ++ (ringOf f n c ++ (((heads f n).drop (i + 1)).map (ringOf f n)).flatten) := by
    rw [← List.flatten_cons, ← List.map_cons, ← List.flatten_append, ← List.map_append, ← e1]
  rw [e3]
  have e4 : ringOf f n c ++ (((heads f n).drop (i + 1)).map (ringOf f n)).flatten = (ringOf f n c).take j ++ itG f j c :: ((ringOf f n c).drop (j + 1) ++ (((heads f n).drop (i + 1)).map (ringOf f n)).flatten) := by
    rw [← List.cons_append, ← List.append_assoc, ← e2]
  rw [e4, List.append_assoc]
/-- all rings -/
def ringsL (f : Int → Int) (n : Nat) : List (List Int) := (heads f n).map (ringOf f n)
/-- a ring in memory -/
structure RgAt (H0 H : Hp) (v : V) (e : List Int) : Prop where
  ex : ∃ r, v = .ref r ∧ H r = some (.lst (e.map V.int)) ∧ H0 r = none
theorem RgAt.same {H0 H H' : Hp} {v : V} {e : List Int} (L : RgAt H0 H v e) (s : Same H H') : RgAt H0 H' v e := by
  obtain ⟨r, h1, h2, h3⟩ := L.ex
  exact ⟨r, h1, s _ _ h2, h3⟩
theorem RgAt.old {H0 H1 H : Hp} {v : V} {e : List Int} (L : RgAt H1 H v e) (s : Same H0 H1) : RgAt H0 H v e := by
  obtain ⟨r, h1, h2, h3⟩ := L.ex
  exact ⟨r, h1, h2, s.free h3⟩
theorem RgAt.put {H0 H : Hp} {v : V} {e : List Int} (L : RgAt H0 H v e) {D : Addr} {o o' : HO} (h : H0 D = some o) : RgAt H0 (upd H D o') v e := by
  obtain ⟨r, h1, h2, h3⟩ := L.ex
  exact ⟨r, h1, by rw [upd_ne (fun z => by rw [z, h] at h3; cases h3)]; exact h2, h3⟩
def RgsAt (H0 H : Hp) (p : Addr) (L : List (List Int)) : Prop := ∃ vs : List V, H p = some (.lst vs) ∧ H0 p = none ∧ Fa2 (RgAt H0 H) vs L
theorem RgsAt.same {H0 H H' : Hp} {p : Addr} {L : List (List Int)} (A : RgsAt H0 H p L) (s : Same H H') : RgsAt H0 H' p L := by
  obtain ⟨vs, h1, h2, h3⟩ := A
  exact ⟨vs, s _ _ h1, h2, h3.imp fun v e h => h.same s⟩
theorem RgsAt.old {H0 H1 H : Hp} {p : Addr} {L : List (List Int)} (A : RgsAt H1 H p L) (s : Same H0 H1) : RgsAt H0 H p L := by
  obtain ⟨vs, h1, h2, h3⟩ := A
  exact ⟨vs, h1, s.free h2, h3.imp fun v e h => h.old s⟩
end Rg
/-! own words: the items of a dict of numbers, sorted -/
namespace Rg
open PySem PySem.Spec PyProof.Rows L2 L2.DX
def rItemsK : V → List V → Hp → VK → Prop := fun x xs H Q => ∃ (a : Addr) (kvs : List (L2.Key × V)), x = .ref a ∧ xs = [] ∧ H a = some (.dK kvs) ∧ ∀ p, H p = none → Q (.ref p) (upd H p (itemsO p a))
section
variable {X : Cx}
theorem mt_itemsK : MtR X "dict.items" rItemsK := by
  intro pins s σ H x xs v us Q I rx rxs h
  obtain ⟨a, kvs, rfl, rfl, ha, q⟩ := h
  cases rx
  cases rxs
  obtain ⟨z, hd, vs, kv, o, es, ep, ho, hx, hdat, _⟩ := dk_of I.hok ha
  refine DT.callItems (es := es) (ep := ep) hd ⟨o, ho, hx, hdat⟩ ?_
  have hf : H s.heap.objs.size = none := I.hok.fresh (Nat.le_refl _)
  exact ⟨.ref s.heap.objs.size, upd H s.heap.objs.size (itemsO s.heap.objs.size a), I.laid (t' := s.toks) (fun b u e => Heap.get?_push_of_some _ e) (Nat.le_refl _) (itemsO_ok (Heap.get?_push_size _ rfl)), rfl, q _ hf⟩
theorem pairs_get {prog : Program} {w : World} {Kt : Type} [DecidableEq Kt] {knd : KeyKind prog w Kt} : ∀ {es : List DictEntry} {kvs : List (Kt × Value)}, Pairs knd es kvs → ∀ {j : Nat} {e : DictEntry}, es[j]? = some e → ∃ kv, kvs[j]? = some kv ∧ knd.is kv.1 e.key = true ∧ e.val = kv.2
  | _, _, .nil, j, e, h => by cases h
  | _, _, .cons h1 h2 t, 0, e, h => by
    have := Option.some.inj h
    subst this
    exact ⟨_, rfl, h1, h2⟩
  | _, _, .cons h1 h2 t, j + 1, e, h => pairs_get t h
theorem paired_get2 {α β : Type} {F : α → β → Prop} : ∀ {xs : List α} {ys : List β}, Paired F xs ys → ∀ {i : Nat} {y : β}, ys[i]? = some y → ∃ x, xs[i]? = some x ∧ F x y
  | _, _, .nil, i, y, h => by cases h
  | _, _, .cons r t, 0, y, h => by
    have e := Option.some.inj h
    subst e
    exact ⟨_, rfl, r⟩
  | _, _, .cons r t, i + 1, y, h => paired_get2 t h
/-- the pair that stands for a new tuple -/
def prOf (L : List (Addr × Int × Int)) (v : Value) : Int × Int := match v with
  | .ref b => (L.lookup b).getD (0, 0)
  | _ => (0, 0)
theorem lookup_zip {β : Type} : ∀ {as : List Addr} {ks : List β}, as.Nodup → ∀ {j : Nat} {b : Addr} {e : β}, as[j]? = some b → ks[j]? = some e → (as.zip ks).lookup b = some e
  | [], _, _, j, b, e, h, _ => by cases h
  | _ :: _, [], _, j, b, e, _, h => by cases h
  | a :: as, k :: ks, nd, 0, b, e, h1, h2 => by
    cases h1
    cases h2
    simp [List.lookup]
  | a :: as, k :: ks, nd, j + 1, b, e, h1, h2 => by
    rw [List.nodup_cons] at nd
    have hm : b ∈ as := List.mem_of_getElem? h1
    have ne : (b == a) = false := by
      rw [beq_eq_false_iff_ne]
      rintro rfl
      exact nd.1 hm
    show List.lookup b ((a, k) :: as.zip ks) = _
    simp only [List.lookup, ne]
    exact lookup_zip nd.2 h1 h2
abbrev entI (e : Int × Int) : L2.Key × V := (Sum.inl e.1, V.int e.2)
def rSortItI : List V → Hp → VK → Prop := fun vs H Q => ∃ (p a : Addr) (ks : List (Int × Int)), vs = [.ref p] ∧ H p = some (itemsO p a) ∧ H a = some (.dK (ks.map entI)) ∧
  ∀ (H' : Hp) (l : Addr) (ps : List (Addr × Int × Int)), (∀ b o, H b = some o → H' b = some o) → H l = none → (∀ z ∈ ps, H z.1 = none) → (ps.map (·.2)).Perm ks → (ps.map (·.2)).Pairwise (fun e f => SrtO.lexB f e = false) → H' l = some (.lst (ps.map fun z => V.ref z.1)) →
    (∀ z ∈ ps, H' z.1 = some (.tup [.int z.2.1, .int z.2.2])) → Q (.ref l) H'
theorem cr_sortedItemsI (hc : X.calm = true) : CallR X (.builtin "sorted") rSortItI := by
  intro pins s σ H xs us Q I r h
  obtain ⟨p, a, ks, rfl, hp, ha, q⟩ := h
  obtain rfl := Vals.ref1 r
  have view : s.heap.IsItemsView p a := (show ObjOk X.prog X.w H s.heap p (itemsO p a) from I.hok p _ hp).1
  obtain ⟨z, hd, vs, rel, o, es, ep, ho, hx, hdat, his, hprs, hn⟩ := dk_of I.hok ha
  have l1 : (ks.map entI).length = vs.length := Paired.length rel
  rw [List.length_map] at l1 z
  have l2 : es.size = vs.length := by
    have := hprs.length
    rw [Array.length_toList] at this
    exact this
  have hh : X.A.handled = none := I.ok.hd hc
  refine DT.sortedI (es := es) (ep := ep) hh view ⟨o, ho, hx, hdat⟩ (by rw [l2, ← l1]; exact z) fun h' tk as hk hlt hl hG => ?_
  have lak : as.length = ks.length := by omega
  have nd : as.Nodup := List.Pairwise.imp (fun h => Nat.ne_of_lt h) hG.rise
  have pr : ∀ (j : Nat) (b : Addr), as[j]? = some b → ∃ (e : Int × Int) (t1 t2 : Tok), ks[j]? = some e ∧ h'.get? b = some { cls := .type "tuple", data := .seq #[Value.int e.1 t1, Value.int e.2 t2] } := by
    intro j b hj
    obtain ⟨en, he, hg⟩ := hG.pairs j b hj
    rw [← Array.getElem?_toList] at he
    obtain ⟨kv, hkv, k1, k2⟩ := pairs_get hprs he
    obtain ⟨e0, he0, r1, r2⟩ := paired_get2 rel hkv
    rw [List.getElem?_map, Option.map_eq_some_iff] at he0
    obtain ⟨e, hke, rfl⟩ := he0
    have k1' : keyIs (Sum.inl e.1) en.key = true := by
      have : keyIs kv.1 en.key = true := k1
      rw [← r1] at this
      exact this
    obtain ⟨t2, ht2⟩ := (show RelV (V.int e.2) kv.2 from r2)
    rcases keyIs_shape k1' with ⟨i, t1, q1, q2⟩ | ⟨x, t1, q1, q2⟩
    · cases q1
      refine ⟨e, t1, t2, hke, ?_⟩
      rw [hg, q2, k2, ht2]
    · cases q1
  have hob : (h'.push { cls := .type "list", data := .seq (as.map Value.ref).toArray }).get? h'.objs.size = some (seqObj "list" (as.map Value.ref).toArray 0) := Heap.get?_push_size _ rfl
  have kb : ∀ b o, s.heap.get? b = some o → (h'.push { cls := .type "list", data := .seq (as.map Value.ref).toArray }).get? b = some o := fun b o e => Heap.get?_push_of_some _ (hk b o e)
  have ne0 : ∀ b o, h'.get? b = some o → b ≠ h'.objs.size := fun b o e => Nat.ne_of_lt (Heap.lt_size e)
  generalize hh2 : h'.push { cls := .type "list", data := .seq (as.map Value.ref).toArray } = h2 at hob kb ⊢
  have ka : ∀ b o, h'.get? b = some o → h2.get? b = some o := fun b o e => by rw [← hh2]; exact Heap.get?_push_of_some _ e
  have pv : ∀ (j : Nat) (b : Addr) (e : Int × Int), as[j]? = some b → ks[j]? = some e → prOf (as.zip ks) (.ref b) = e := fun j b e h1 h2 => by
    show ((as.zip ks).lookup b).getD (0, 0) = e
    rw [lookup_zip nd h1 h2]
    rfl
  have isP : ∀ v ∈ as.map Value.ref, Srt.IsPair h2 v (prOf (as.zip ks) v).1 (prOf (as.zip ks) v).2 := by
    intro v hv
    obtain ⟨b, hb, rfl⟩ := List.mem_map.mp hv
    obtain ⟨j, hj⟩ := List.mem_iff_getElem?.mp hb
    obtain ⟨e, t1, t2, he, hg⟩ := pr j b hj
    rw [pv j b e hj he]
    exact ⟨b, _, t1, t2, _, rfl, ka _ _ hg, rfl, rfl⟩
  have hvl : (as.map Value.ref).length = ks.length := by rw [List.length_map, lak]
  refine wpAny_call_entry PyProof.Rows.slot_list_sort ⟨_, hob, rfl⟩ PyProof.Rows.entry_list_sort
    (SrtO.list_sort_ord (ltv := fun v u => SrtO.lexB (prOf (as.zip ks) v) (prOf (as.zip ks) u)) (SrtO.swo_lex _) hob (by rw [hvl]; exact z)
      (fun h22 => SrtO.pairs_sortableO (s := { s with heap := h2, toks := tk }) (by omega) isP (fun o e c => by
        have : some o = some (seqObj "list" (as.map Value.ref).toArray 0) := e.symm.trans hob
        cases this
        injection c with c
        exact absurd c (by decide))) fun out o1 o2 => ⟨.none, rfl, ?_⟩) (PyProof.Rows.args_list_sort _)
  show EP X pins σ Q (.ref h'.objs.size) { s with heap := sortedHeap h2 h'.objs.size (as.map Value.ref) out.toArray, toks := tk }
  obtain ⟨zs, pz, ez⟩ := perm_lift (fun z : Addr × Int × Int => Value.ref z.1) o2.perm (as.zip ks) (by
    rw [show (fun z : Addr × Int × Int => Value.ref z.1) = Value.ref ∘ Prod.fst from rfl, ← List.map_map, List.map_fst_zip (by rw [lak]; exact Nat.le_refl _)])
  have idx : ∀ z ∈ zs, ∃ j : Nat, as[j]? = some z.1 ∧ ks[j]? = some z.2 := by
    intro z' hz'
    obtain ⟨j, hj⟩ := List.mem_iff_getElem?.mp (pz.mem_iff.mp hz')
    exact ⟨j, List.getElem?_zip_eq_some.mp hj⟩
  have hperm : (zs.map (·.2)).Perm ks := by
    have e := pz.map (·.2)
    have m2 : (as.zip ks).map (·.2) = ks := List.map_snd_zip (by rw [lak]; exact Nat.le_refl _)
    rw [m2] at e
    exact e
  have hsort : (zs.map (·.2)).Pairwise (fun e f => SrtO.lexB f e = false) := by
    have o1' : out.Pairwise (fun v u => SrtO.lexB (prOf (as.zip ks) u) (prOf (as.zip ks) v) = false) := o1
    rw [← ez, List.pairwise_map] at o1'
    rw [List.pairwise_map]
    refine List.Pairwise.imp_of_mem (fun {x y} hx hy h => ?_) o1'
    obtain ⟨j, j1, j2⟩ := idx x hx
    obtain ⟨i, i1, i2⟩ := idx y hy
    rw [pv j _ _ j1 j2, pv i _ _ i1 i2] at h
    exact h
  have kF : ∀ b o, b ≠ h'.objs.size → h2.get? b = some o → (sortedHeap h2 h'.objs.size (as.map Value.ref) out.toArray).get? b = some o := fun b o hb e => (PyProof.Rows.sortedHeap_old hb (Heap.lt_size e)).trans e
  have kS : ∀ b o, s.heap.get? b = some o → (sortedHeap h2 h'.objs.size (as.map Value.ref) out.toArray).get? b = some o := fun b o e => kF b o (ne0 _ _ (hk b o e)) (kb b o e)
  obtain ⟨eF, heF⟩ := PyProof.Rows.sortedHeap_at (vs := as.map Value.ref) (out := out.toArray) hob
  have I1 : Inv X pins σ H { s with heap := sortedHeap h2 h'.objs.size (as.map Value.ref) out.toArray, toks := tk } := I.kept (t' := tk) kS
  have hn0 : H h'.objs.size = none := I.hok.fresh (Nat.le_of_lt hlt)
  have hlen : (zs.map fun z => V.ref z.1).length ≤ sizeLine := by
    have e := hperm.length_eq
    rw [List.length_map] at e
    rw [List.length_map]
    omega
  have rv : Vals (zs.map fun z => V.ref z.1) out := by
    rw [← ez]
    exact vals_maps (fun z : Addr × Int × Int => V.ref z.1) (fun z => Value.ref z.1) zs fun _ _ => rfl
  have I2 : Inv X pins σ (upd H h'.objs.size (.lst (zs.map fun z => V.ref z.1))) { s with heap := sortedHeap h2 h'.objs.size (as.map Value.ref) out.toArray, toks := tk } :=
    I1.take (h' := sortedHeap h2 h'.objs.size (as.map Value.ref) out.toArray) (t' := tk) (fun b ob _ e => e) (I.fpOk (Nat.le_of_lt hlt) hn0) ⟨hlen, out, eF, rv, heF⟩
  obtain ⟨H2, I3, g, qt⟩ := takeT (P := fun b vs => ∃ (j : Nat) (e : Int × Int), as[j]? = some b ∧ ks[j]? = some e ∧ vs = [.int e.1, .int e.2]) I as _ I2 nd fun b hb => by
    obtain ⟨j, hj⟩ := List.mem_iff_getElem?.mp hb
    obtain ⟨e, t1, t2, he, hg⟩ := pr j b hj
    have hbl : s.heap.objs.size ≤ b := Nat.le_of_lt (hG.above b hb)
    refine ⟨hbl, ?_, [.int e.1, .int e.2], ⟨j, e, hj, he, rfl⟩, fun H3 => ⟨(by rw [sizeLine_eq]; show 2 ≤ 16777216; omega), [Value.int e.1 t1, Value.int e.2 t2], .cons ⟨t1, rfl⟩ (.cons ⟨t2, rfl⟩ .nil), ⟨_, kF _ _ (ne0 _ _ hg) (ka _ _ hg), rfl, 0, rfl⟩⟩⟩
    rw [upd_ne (ne0 _ _ hg)]
    exact I.hok.fresh hbl
  have gr : ∀ b o, H b = some o → H2 b = some o := fun b o e => g b o (by rw [upd_ne (ne_of_none e hn0)]; exact e)
  refine ⟨.ref h'.objs.size, H2, I3, rfl, q H2 h'.objs.size zs gr hn0 (fun z' hz' => ?_) hperm hsort (g _ _ upd_same) fun z' hz' => ?_⟩
  · obtain ⟨i, i1, i2⟩ := idx z' hz'
    exact I.hok.fresh (Nat.le_of_lt (hG.above _ (List.mem_of_getElem? i1)))
  · obtain ⟨i, i1, i2⟩ := idx z' hz'
    obtain ⟨vs, ⟨j, e, j1, j2, ev⟩, hH⟩ := qt z'.1 (List.mem_of_getElem? i1)
    have eij : i = j := (List.getElem?_inj (List.getElem?_eq_some_iff.mp i1).1 nd).mp (i1.trans j1.symm)
    subst eij
    have ee : e = z'.2 := Option.some.inj (j2.symm.trans i2)
    rw [ev, ee] at hH
    exact hH
end
end Rg
/-! own words: math.lcm of great numbers; the home of sizes -/
namespace Rg
open PySem L2 TL PySem.W PySem.Calls PyProof.Rows PySem.Spec
def rLcmW : List V → Hp → VK → Prop := fun vs H Q => ∃ a b : Nat, vs = [.int a, .int b] ∧ a.log2 < 13000 ∧ b.log2 < 13000 ∧ Q (.int ((Nat.lcm a b : Nat) : Int)) H
theorem log2_mono {a b : Nat} (h : a ≤ b) : a.log2 ≤ b.log2 := by
  by_cases h0 : a = 0
  · subst h0
    rw [Nat.log2_zero]
    exact Nat.zero_le _
  · exact (Nat.le_log2 (by omega)).mpr (Nat.le_trans (Nat.log2_self_le h0) h)
theorem lcm_log {a b : Nat} : (Nat.lcm a b).log2 ≤ a.log2 + b.log2 + 2 := by
  by_cases h0 : Nat.lcm a b = 0
  · rw [h0, Nat.log2_zero]
    exact Nat.zero_le _
  · have h1 : Nat.lcm a b < 2 ^ (a.log2 + 1 + (b.log2 + 1)) := by
      rw [Nat.pow_add]
      exact Nat.lt_of_le_of_lt (mc_lcm_le a b) (Nat.mul_lt_mul_of_lt_of_lt Nat.lt_log2_self Nat.lt_log2_self)
    have := (Nat.log2_lt h0).mpr h1
    omega
theorem cr_lcmW {X : Cx} : CallR X (.builtin "math.lcm") rLcmW := by
  intro pins s σ H vs us Q I r h
  obtain ⟨a, b, rfl, ha, hb, q⟩ := h
  obtain ⟨t, u, rfl⟩ := Vals.int2 r
  have hm : ∀ x y : Nat, x.log2 < 13000 → y.log2 < 13000 → (max x y).log2 < 13000 := fun x y h1 h2 => by
    rcases Nat.le_total x y with h | h
    · rw [Nat.max_eq_right h]; exact h2
    · rw [Nat.max_eq_left h]; exact h1
  have h1 : Nat.log2 1 < 13000 := by decide
  have e : Nat.lcm 1 a = a := by simp [Nat.lcm]
  refine call_function_meets MGF.kind_lcm MGF.plain_lcm MGF.entry_lcm (MGF.args_lcm _ _) (mg_run_lcm (a : Int) t (b : Int) u ?_ ?_ ?_).meets ?_
  · have := hm 1 a h1 ha
    show ¬ (max 1 a).log2 / 30 + 1 > 450
    omega
  · have := hm a b ha hb
    show ¬ (max a b).log2 / 30 + 1 > 450
    omega
  · show (((Nat.lcm 1 a).lcm b : Nat)).log2 < 2 ^ 27
    rw [e]
    have := lcm_log (a := a) (b := b)
    omega
  · show _
    refine ⟨.int ((Nat.lcm a b : Nat) : Int), H, I.tok _, ⟨s.toks, ?_⟩, q⟩
    show Value.int (((Nat.lcm 1 a).lcm b : Nat) : Int) _ = _
    rw [e]
end Rg
/-! own words: sizes: numbers counted by a key -/
namespace Rg
open PySem L2 TL
def totC (cs : List (Int × Int)) (l : Int) : Int := ((cs.filter fun e => decide (e.1 = l)).map (·.2)).sum
theorem totC_nil (l : Int) : totC [] l = 0 := rfl
theorem totC_snoc (cs : List (Int × Int)) (a b l : Int) : totC (cs ++ [(a, b)]) l = totC cs l + (if a = l then b else 0) := by
  unfold totC
  rw [List.filter_append, List.map_append, sum_appI]
  by_cases h : a = l
  · rw [List.filter_cons_of_pos (by rw [decide_eq_true_eq]; exact h), if_pos h]
    show _ + (b + 0) = _
    omega
  · rw [List.filter_cons_of_neg (by rw [decide_eq_true_eq]; exact h), if_neg h]
    rfl
theorem totC_none {cs : List (Int × Int)} {l : Int} (h : ∀ e ∈ cs, e.1 ≠ l) : totC cs l = 0 := by
  unfold totC
  rw [List.filter_eq_nil_iff.mpr (fun e he => by rw [decide_eq_true_eq]; exact h e he)]
  rfl
/-- a dict that counts -/
structure DcOf (cs ks : List (Int × Int)) : Prop where
  nd : (ks.map (·.1)).Nodup
  val : ∀ e ∈ ks, e.2 = totC cs e.1
  key : ∀ e ∈ cs, e.1 ∈ ks.map (·.1)
def putI (ks : List (Int × Int)) (l m : Int) : List (Int × Int) := if (ks.any fun e => decide (e.1 = l)) = true then ks.map (fun e => if e.1 = l then (e.1, m) else e) else ks ++ [(l, m)]
theorem inl_iff (a l : Int) : ((Sum.inl a : L2.Key) = Sum.inl l) ↔ a = l := ⟨fun h => by injection h, fun h => by rw [h]⟩
theorem put_ent (ks : List (Int × Int)) (l m : Int) : putK (ks.map entI) (Sum.inl l) (.int m) = (putI ks l m).map entI := by
  have e1 : ((ks.map entI).any fun kv => decide (kv.1 = Sum.inl l)) = ks.any fun e => decide (e.1 = l) := by
    rw [List.any_map]
    congr 1
    funext e
    exact decide_eq_decide.mpr (inl_iff e.1 l)
  unfold putK putI
  rw [e1]
  split
  · rw [List.map_map, List.map_map]
    refine List.map_congr_left fun e _ => ?_
    show (if (Sum.inl e.1 : L2.Key) = Sum.inl l then (Sum.inl e.1, V.int m) else entI e) = entI (if e.1 = l then (e.1, m) else e)
    by_cases h : e.1 = l
    · rw [if_pos ((inl_iff _ _).mpr h), if_pos h]
    · rw [if_neg (fun q => h ((inl_iff _ _).mp q)), if_neg h]
  · rw [List.map_append]
    rfl
theorem val_ent : ∀ (ks : List (Int × Int)) (l : Int), valV (ks.map entI) (Sum.inl l) = (ks.find? fun e => decide (e.1 = l)).map fun e => V.int e.2
  | [], _ => rfl
  | e :: ks, l => by
    rw [List.map_cons]
    by_cases h : e.1 = l
    · rw [valV_pos (show (entI e).1 = Sum.inl l from (inl_iff _ _).mpr h), List.find?_cons_of_pos (by rw [decide_eq_true_eq]; exact h)]
      rfl
    · rw [valV_neg (show ¬ (entI e).1 = Sum.inl l from fun q => h ((inl_iff _ _).mp q)), List.find?_cons_of_neg (by rw [decide_eq_true_eq]; exact h)]
      exact val_ent ks l
theorem DcOf.get {cs ks : List (Int × Int)} (D : DcOf cs ks) (l : Int) : (valV (ks.map entI) (Sum.inl l)).getD (.int 0) = .int (totC cs l) := by
  rw [val_ent]
  cases h : ks.find? fun e => decide (e.1 = l) with
  | none =>
    rw [totC_none fun e he q => ?_]
    · rfl
    · obtain ⟨e', he', q'⟩ := List.mem_map.mp (D.key e he)
      have := List.find?_eq_none.mp h e' he'
      rw [decide_eq_true_eq] at this
      exact this (q'.trans q)
  | some e =>
    have h1 := List.find?_some h
    rw [decide_eq_true_eq] at h1
    show V.int e.2 = _
    rw [D.val e (List.mem_of_find?_eq_some h), h1]
theorem DcOf.put {cs ks : List (Int × Int)} (D : DcOf cs ks) (l m : Int) : DcOf (cs ++ [(l, m)]) (putI ks l (totC cs l + m)) := by
  unfold putI
  split
  · rename_i h
    obtain ⟨e0, he0, hq0⟩ := List.any_eq_true.mp h
    rw [decide_eq_true_eq] at hq0
    have ek : (ks.map fun e => if e.1 = l then (e.1, totC cs l + m) else e).map (·.1) = ks.map (·.1) := by
      rw [List.map_map]
      refine List.map_congr_left fun e _ => ?_
      show (if e.1 = l then (e.1, totC cs l + m) else e).1 = e.1
      split <;> rfl
    refine ⟨by rw [ek]; exact D.nd, fun e he => ?_, fun e he => ?_⟩
    · obtain ⟨e', he', rfl⟩ := List.mem_map.mp he
      by_cases q : e'.1 = l
      · rw [if_pos q]
        show totC cs l + m = totC (cs ++ [(l, m)]) e'.1
        rw [totC_snoc, q, if_pos rfl]
      · rw [if_neg q, totC_snoc, if_neg (fun z => q z.symm), Int.add_zero]
        exact D.val e' he'
    · rw [ek]
      rcases List.mem_append.mp he with he | he
      · exact D.key e he
      · rw [List.mem_singleton.mp he]
        exact List.mem_map.mpr ⟨e0, he0, hq0⟩
  · rename_i h
    have h' : ∀ e ∈ ks, e.1 ≠ l := fun e he q => h (List.any_eq_true.mpr ⟨e, he, by rw [decide_eq_true_eq]; exact q⟩)
    have t0 : totC cs l = 0 := totC_none fun e he q => by
      obtain ⟨e', he', q'⟩ := List.mem_map.mp (D.key e he)
      exact h' e' he' (q'.trans q)
    refine ⟨?_, fun e he => ?_, fun e he => ?_⟩
    · rw [List.map_append, List.Nodup, List.pairwise_append]
      refine ⟨D.nd, List.pairwise_singleton _ _, fun a ha b hb q => ?_⟩
      obtain ⟨e', he', rfl⟩ := List.mem_map.mp ha
      rw [List.mem_singleton.mp hb] at q
      exact h' e' he' q
    · rcases List.mem_append.mp he with he | he
      · rw [totC_snoc, if_neg (fun z => h' e he z.symm), Int.add_zero]
        exact D.val e he
      · rw [List.mem_singleton.mp he]
        show totC cs l + m = totC (cs ++ [(l, m)]) l
        rw [totC_snoc, if_pos rfl]
    · rw [List.map_append]
      rcases List.mem_append.mp he with he | he
      · exact List.mem_append.mpr (.inl (D.key e he))
      · rw [List.mem_singleton.mp he]
        exact List.mem_append.mpr (.inr (List.mem_singleton.mpr rfl))
theorem putI_len (ks : List (Int × Int)) (l m : Int) : (putI ks l m).length ≤ ks.length + 1 := by
  unfold putI
  split
  · rw [List.length_map]; omega
  · rw [List.length_append]; exact Nat.le_refl _
/-- sizes: ascending, for each key with something what it comes to -/
structure SzOf (cs L : List (Int × Int)) : Prop where
  asc : L.Pairwise (fun e f => e.1 < f.1)
  mem : ∀ e, e ∈ L ↔ e.2 = totC cs e.1 ∧ 0 < e.2
theorem SzOf.uniq {cs L M : List (Int × Int)} (A : SzOf cs L) (B : SzOf cs M) : L = M := by
  have nd : ∀ {X : List (Int × Int)}, X.Pairwise (fun e f => e.1 < f.1) → X.Nodup := fun h => List.Pairwise.imp (fun {a b} h e => by rw [e] at h; omega) h
  have p : L.Perm M := (List.perm_ext_iff_of_nodup (nd A.asc) (nd B.asc)).mpr fun e => by rw [A.mem, B.mem]
  exact p.eq_of_pairwise (le := fun a b : Int × Int => a.1 < b.1) (fun a b _ _ h h' => absurd h (by omega)) A.asc B.asc
theorem SzOf.congr {cs cs' L : List (Int × Int)} (A : SzOf cs L) (h : ∀ l, totC cs l = totC cs' l) : SzOf cs' L := ⟨A.asc, fun e => by rw [A.mem, h]⟩
theorem szOf_sorted {cs ks L : List (Int × Int)} (D : DcOf cs ks) (p : L.Perm ks) (h : L.Pairwise fun e f => SrtO.lexB f e = false) : SzOf cs (L.filter fun e => decide (0 < e.2)) := by
  have ndk : (L.map (·.1)).Nodup := (p.map (·.1)).nodup_iff.mpr D.nd
  have hs : L.Pairwise (fun e f => e.1 < f.1) := by
    rw [List.Nodup, List.pairwise_map] at ndk
    refine (h.and ndk).imp fun {e f} q => ?_
    have q1 := SrtO.lexB_no.mp q.1
    have q2 := q.2
    omega
  refine ⟨List.Pairwise.filter _ hs, fun e => ?_⟩
  rw [List.mem_filter, decide_eq_true_eq, p.mem_iff]
  constructor
  · rintro ⟨h1, h2⟩
    exact ⟨D.val e h1, h2⟩
  · rintro ⟨h1, h2⟩
    refine ⟨?_, h2⟩
    have : ∃ c ∈ cs, c.1 = e.1 := by
      refine Classical.byContradiction fun q => ?_
      have := totC_none (cs := cs) (l := e.1) fun c hc z => q ⟨c, hc, z⟩
      omega
    obtain ⟨c, hc, hce⟩ := this
    obtain ⟨e', he', q'⟩ := List.mem_map.mp (D.key c hc)
    have v := D.val e' he'
    rw [q', hce, ← h1] at v
    have : e' = e := Prod.ext (q'.trans hce) v
    rw [← this]
    exact he'
/-- a list of pairs of numbers in memory -/
def PrAt (H0 H : Hp) (v : V) (e : Int × Int) : Prop := ∃ t, v = .ref t ∧ H t = some (.tup [.int e.1, .int e.2]) ∧ H0 t = none
theorem PrAt.same {H0 H H' : Hp} {v : V} {e : Int × Int} (L : PrAt H0 H v e) (s : Same H H') : PrAt H0 H' v e := by
  obtain ⟨t, h1, h2, h3⟩ := L
  exact ⟨t, h1, s _ _ h2, h3⟩
theorem PrAt.old {H0 H1 H : Hp} {v : V} {e : Int × Int} (L : PrAt H1 H v e) (s : Same H0 H1) : PrAt H0 H v e := by
  obtain ⟨t, h1, h2, h3⟩ := L
  exact ⟨t, h1, h2, s.free h3⟩
theorem PrAt.put {H0 H : Hp} {v : V} {e : Int × Int} (L : PrAt H0 H v e) {D : Addr} {o o' : HO} (h : H0 D = some o) : PrAt H0 (upd H D o') v e := by
  obtain ⟨t, h1, h2, h3⟩ := L
  exact ⟨t, h1, by rw [upd_ne (fun z => by rw [z, h] at h3; cases h3)]; exact h2, h3⟩
def PrsAt (H0 H : Hp) (p : Addr) (L : List (Int × Int)) : Prop := ∃ vs : List V, H p = some (.lst vs) ∧ H0 p = none ∧ Fa2 (PrAt H0 H) vs L
theorem PrsAt.same {H0 H H' : Hp} {p : Addr} {L : List (Int × Int)} (A : PrsAt H0 H p L) (s : Same H H') : PrsAt H0 H' p L := by
  obtain ⟨vs, h1, h2, h3⟩ := A
  exact ⟨vs, s _ _ h1, h2, h3.imp fun v e h => h.same s⟩
theorem PrsAt.old {H0 H1 H : Hp} {p : Addr} {L : List (Int × Int)} (A : PrsAt H1 H p L) (s : Same H0 H1) : PrsAt H0 H p L := by
  obtain ⟨vs, h1, h2, h3⟩ := A
  exact ⟨vs, h1, s.free h2, h3.imp fun v e h => h.old s⟩
def PrsIn (H : Hp) (p : Addr) (L : List (Int × Int)) : Prop := ∃ vs : List V, H p = some (.lst vs) ∧ Fa2 (fun v e => ∃ t, v = .ref t ∧ H t = some (.tup [.int e.1, .int e.2])) vs L
theorem PrsIn.same {H H' : Hp} {p : Addr} {L : List (Int × Int)} (A : PrsIn H p L) (s : Same H H') : PrsIn H' p L := by
  obtain ⟨vs, h1, h3⟩ := A
  exact ⟨vs, s _ _ h1, h3.imp fun v e ⟨t, h1, h2⟩ => ⟨t, h1, s _ _ h2⟩⟩
theorem PrsAt.in_ {H0 H : Hp} {p : Addr} {L : List (Int × Int)} (A : PrsAt H0 H p L) : PrsIn H p L := by
  obtain ⟨vs, h1, _, h3⟩ := A
  exact ⟨vs, h1, h3.imp fun v e ⟨t, h1, h2, _⟩ => ⟨t, h1, h2⟩⟩
/-- the home of walkers whose rings have such sizes -/
def homeN (L : List (Int × Int)) : Nat := L.foldl (fun r e => Nat.lcm r e.1.toNat) 1
theorem homeN_snoc (L : List (Int × Int)) (e : Int × Int) : homeN (L ++ [e]) = Nat.lcm (homeN L) e.1.toNat := by
  unfold homeN
  rw [List.foldl_append]
  rfl
theorem homeN_pos {L : List (Int × Int)} (h : ∀ e ∈ L, 0 < e.1) : ∀ i, 0 < homeN (L.take i)
  | 0 => by rw [List.take_zero]; exact Nat.one_pos
  | i + 1 => by
    by_cases hi : i < L.length
    · rw [List.take_succ_eq_append_getElem hi, homeN_snoc]
      have := h L[i] (List.getElem_mem hi)
      exact Nat.lcm_pos (homeN_pos h i) (by omega)
    · rw [List.take_of_length_le (by omega)]
      have := homeN_pos h i
      rw [List.take_of_length_le (by omega)] at this
      exact this
theorem homeN_lt {L : List (Int × Int)} {k : Nat} (h : ∀ e ∈ L, 0 < e.1 ∧ e.1.toNat < 2 ^ k) : ∀ i, i ≤ L.length → homeN (L.take i) ≤ 2 ^ (k * i)
  | 0, _ => by
    rw [List.take_zero, Nat.mul_zero]
    exact Nat.le_refl _
  | i + 1, hi => by
    rw [List.take_succ_eq_append_getElem (by omega), homeN_snoc, Nat.mul_succ, Nat.pow_add]
    exact Nat.le_trans (PySem.W.mc_lcm_le _ _) (Nat.mul_le_mul (homeN_lt h i (by omega)) (Nat.le_of_lt (h _ (List.getElem_mem (by omega))).2))
theorem log_pow {a m : Nat} (h : a ≤ 2 ^ m) : a.log2 ≤ m := by
  by_cases h0 : a = 0
  · subst h0
    rw [Nat.log2_zero]
    exact Nat.zero_le _
  · have := (Nat.log2_lt (k := m + 1) h0).mpr (Nat.lt_of_le_of_lt h (Nat.pow_lt_pow_right (by decide) (Nat.lt_succ_self m)))
    omega
/-- rings by their lengths -/
def lensC (L : List (List Int)) : List (Int × Int) := L.map fun r => ((r.length : Int), 1)
end Rg
/-! own words: set(l) of a list of numbers -/
namespace Rg
open PySem PySem.Spec PyProof.Rows L2
/-- the set as it is made, empty -/
abbrev set00 (w : World) : Obj := { cls := .type "set", dict := none, data := .set #[] 0 (.fresh 0 0 (!w.params.followText "set-order")) }
section
variable {P : Program} {w : World} {A : Around} {E : Value → Shared → Prop} {s : Shared}
theorem set_of_listI {l : Addr} {us : Array Value} (ns : List Int) {Q : Value → Shared → Prop} (hh : A.handled = none) (hl : s.heap.IsList l us) (hu : IntsAre us.toList ns) (hb : ns.length + 1 < scanBound)
    (fin : ∀ (h' : Heap) (tk c : Nat), SetR w h' s.heap.objs.size (fun j => decide (j ∈ ns)) c → c ≤ ns.length → (∀ b o, s.heap.get? b = some o → h'.get? b = some o) → Q (.ref s.heap.objs.size) { s with heap := h', toks := tk }) :
    wpAny (model P w) A (call (.type "set") [.ref l]) Q E s := by
  have usz : us.size = ns.length := by
    have q := IntsAre.length hu
    rwa [Array.length_toList] at q
  have sl : l < s.heap.objs.size := by
    obtain ⟨o, ho, _⟩ := hl
    exact Heap.lt_size ho
  obtain ⟨_, _, hmro⟩ := F.called_set.mro
  have hmade := F.called_set.made
  have hsub := F.called_set.sub
  have h1 := F.called_set.notType
  have h2 := F.called_set.canCreate
  have hct := F.typeCall_set_1 (.ref l)
  have hli := F.called_set.init.lookup
  have hbi := F.called_set.init.bind (.ref s.heap.objs.size)
  refine wpAny_call (codeAny_of_tree (wpAny_pure ⟨Code.quiet_builtin _ (by decide +kernel), codeAny_builtin F.entry_type_call ?_⟩))
  rw [Around.under_plain (weight_type_call_type "set" [.ref l] []) rfl]
  repeat (any_goals (first | assumption | wp_step))
  refine codeAny_mono (code_set_led1 (.ref l) (E := E) (Q₁ := fun v s₁ => v = .ref s.heap.objs.size ∧ s₁ = { s with heap := s.heap.push (set00 w) }) ⟨rfl, rfl⟩) fun r s₁ hr => ?_
  rcases r with e | fl
  · exact hr
  cases fl with
  | ret v =>
    obtain ⟨rfl, rfl⟩ := hr
    have at0 : (s.heap.push (set00 w)).get? s.heap.objs.size = some (set00 w) := Heap.get?_push_size _ rfl
    have sz1 : (s.heap.push (set00 w)).objs.size = s.heap.objs.size + 1 := Heap.size_push ..
    repeat (any_goals (first | assumption | wp_step))
    refine codeAny_mono (codeAny_call_builtin (R := wants (fun r s₂ => r = .none ∧ ∃ h' tk c, s₂ = { s with heap := h', toks := tk } ∧ SetR w h' s.heap.objs.size (fun j => decide (j ∈ ns)) c ∧ c ≤ ns.length ∧ (∀ b o, s.heap.get? b = some o → h'.get? b = some o)) E)
      F.called_set.init.plain F.entry_set_init (check_set_init_1 (⟨_, at0, rfl⟩ : Shared.TypeIs { s with heap := s.heap.push (set00 w) } (.ref s.heap.objs.size) "set") ?_)) fun r₂ s₂ hr₂ => ?_
    · have hl1 : (s.heap.push (set00 w)).IsList l us := hl.push _
      have hcl : ∃ o, (s.heap.push (set00 w)).get? l = some o ∧ o.cls = .type "list" := by
        obtain ⟨o, ho, hc, _⟩ := hl1
        exact ⟨o, ho, hc⟩
      obtain ⟨⟨oc, od, odt, osl⟩, hol, hoc⟩ := hcl
      simp only at hoc
      subst hoc
      have k1 := F.sub_list_set
      have k2 := F.sub_list_frozenset
      have k3 : (Value.type "list" == Value.type "dict") = false := by decide
      unfold Builtin.«set.__init__» noKeywords Builtin.Frozenset.updateFrom
      generalize hPI : pyIter = PI
      wp_walk
      subst hPI
      refine wpAny_pyIter_list hl1 (wpAny_bind (wpAny_runValue ?_))
      refine set_update_ints ((Walks.list (by simp [hh]) _ l (by rw [sz1]; exact Nat.ne_of_lt (Nat.lt_succ_of_lt sl)) us).toS) s.heap.objs.size (by rw [sz1]; simp only [List.mem_cons, List.not_mem_nil, or_false, not_or]; exact ⟨Nat.ne_of_lt (Nat.lt_succ_self _), Nat.ne_of_gt sl⟩) ns usz hb (fun i v hv => ?_) (us.size - 0) 0 _ (by omega) (Nat.zero_le _)
        ⟨⟨_, Heap.get?_push_size _ rfl, rfl, rfl⟩, hl1.push _⟩ ⟨0, Nat.le_refl 0, setR_new_at (Heap.get?_push_of_some _ at0)⟩ fun s' c hm hc hS => ?_
      · have hi : i < ns.length := usz ▸ (Array.getElem?_eq_some_iff.mp hv).1
        obtain ⟨t, e⟩ := IntsAre.int_at hu i v (by rw [Array.getElem?_toList]; exact hv)
        exact ⟨ns[i], t, List.getElem?_eq_getElem hi, by rw [e, List.getD_eq_getElem?_getD, List.getElem?_eq_getElem hi]; rfl⟩
      · obtain ⟨h', g', d', tk, os'⟩ := s'
        obtain rfl : g' = s.gens := hm.gens
        obtain rfl : d' = s.drawn := hm.drawn
        obtain rfl : os' = s.os := hm.os
        show wpAny _ _ _ _ _ _
        refine wpAny_pure ?_
        show wpAny _ _ (ret Value.none) _ _ _
        refine wpAny_pure (⟨rfl, h', tk, c, rfl, hS, usz ▸ hc, fun b o e => hm.heap b o ?_ (Heap.get?_push_of_some _ (Heap.get?_push_of_some _ e))⟩)
        have lb := Heap.lt_size e
        rw [sz1]
        simp only [List.mem_cons, List.not_mem_nil, or_false, not_or]
        exact ⟨Nat.ne_of_lt lb, Nat.ne_of_lt (Nat.lt_succ_of_lt lb)⟩
    · rcases r₂ with e | fl₂
      · exact hr₂
      cases fl₂ with
      | ret r =>
        obtain ⟨rfl, h', tk, c, rfl, hS, hc, hk⟩ := hr₂
        repeat (any_goals (first | assumption | wp_step))
        exact fin _ _ _ hS hc hk
      | _ => exact hr₂.elim
  | _ => exact hr.elim
end
section
variable {X : Cx}
def rSetL (K : PySem.W.Frag) (w : World) : List V → Hp → VK → Prop := fun xs H Q => ∃ (l : Addr) (ns : List Int), xs = [V.ref l] ∧ SqL K H l (ns.map V.int) ∧ ns.length < 4000 ∧
  ∀ (a : Addr) (ks : List Int), H a = none → ks.Nodup → (∀ k, k ∈ ks ↔ k ∈ ns) → Q (.ref a) (upd H a (SetO w a (fun j => decide (j ∈ ns)) ks.length))
theorem cr_setL (hc : X.calm = true) : CallR X (.type "set") (rSetL X.K X.w) := by
  intro pins s σ H xs us Q I r h
  obtain ⟨l, ns, rfl, hl, hn, q⟩ := h
  rw [Vals.ref1 r]
  obtain ⟨its, rv, pl, hz⟩ := I.list hl
  have hf : H s.heap.objs.size = none := I.hok.fresh (Nat.le_refl _)
  refine set_of_listI (P := X.prog) (w := X.w) ns (I.ok.hd hc) pl.isList (by simpa using rv.ints) (by unfold scanBound; omega) fun h' tk c R hc' hk => ?_
  obtain ⟨ks, nd, hks, rfl⟩ : ∃ ks : List Int, ks.Nodup ∧ (∀ k, k ∈ ks ↔ k ∈ ns) ∧ ks.length = c := by
    obtain ⟨_, es, _, _, _, _, _, _, nd, hm, _, _, hn, _⟩ := R
    refine ⟨_, nd, fun k => (hm k).symm.trans decide_eq_true_iff, ?_⟩
    rw [List.length_map, Array.length_toList]
    exact hn
  exact ⟨.ref s.heap.objs.size, upd H s.heap.objs.size (SetO X.w s.heap.objs.size (fun j => decide (j ∈ ns)) ks.length), I.laid (t' := tk) hk (Nat.le_refl _) (setO_new R), rfl, q _ ks hf nd hks⟩
end
end Rg
/-! own words: the lengths of the rings are few; a ring, turned -/
namespace Rg
open PySem L2 TL
theorem asc_sum : ∀ (ks : List Int) (b : Int), ks.Pairwise (· < ·) → (∀ k ∈ ks, b ≤ k) → (ks.length : Int) * (2 * b + ks.length - 1) ≤ 2 * ks.sum
  | [], b, _, _ => by simp
  | k :: ks, b, h, hb => by
    rw [List.pairwise_cons] at h
    have h0 := hb k (.head _)
    have ih := asc_sum ks (b + 1) h.2 fun x hx => by
      have := h.1 x hx
      omega
    rw [List.sum_cons, List.length_cons]
    have e : ((ks.length + 1 : Nat) : Int) * (2 * b + (ks.length + 1 : Nat) - 1) = (ks.length : Int) * (2 * (b + 1) + ks.length - 1) + 2 * b := by
      rw [Int.natCast_add]
      generalize (ks.length : Int) = m
      show (m + 1) * (2 * b + (m + 1) - 1) = _
      have e1 : 2 * b + (m + 1) - 1 = 2 * b + m := by omega
      have e2 : 2 * (b + 1) + m - 1 = 2 * b + m + 1 := by omega
      rw [e1, e2, Int.add_mul, Int.mul_add m (2 * b + m) 1]
      omega
    omega
theorem perm_sum {as bs : List Int} (p : as.Perm bs) : as.sum = bs.sum := by
  induction p with
  | nil => rfl
  | cons x _ ih => rw [List.sum_cons, List.sum_cons, ih]
  | swap x y l =>
    simp only [List.sum_cons]
    omega
  | trans _ _ h1 h2 => exact h1.trans h2
theorem sub_sum : ∀ (ks ls : List Int), ks.Nodup → (∀ k ∈ ks, k ∈ ls) → (∀ l ∈ ls, 0 ≤ l) → ks.sum ≤ ls.sum
  | [], ls, _, _, h => by
    rw [List.sum_nil]
    induction ls with
    | nil => simp
    | cons l ls ih =>
      rw [List.sum_cons]
      have := ih (fun _ h => nomatch h) fun x hx => h x (.tail _ hx)
      have := h l (.head _)
      omega
  | k :: ks, ls, nd, h, h0 => by
    rw [List.nodup_cons] at nd
    have p := List.perm_cons_erase (h k (.head _))
    have ih := sub_sum ks (ls.erase k) nd.2 (fun x hx => by
      have hx' : x ∈ k :: ls.erase k := p.mem_iff.mp (h x (.tail _ hx))
      rcases List.mem_cons.mp hx' with rfl | hx'
      · exact absurd hx nd.1
      · exact hx') fun x hx => h0 x (List.mem_of_mem_erase hx)
    have e := perm_sum p
    rw [List.sum_cons] at e
    rw [List.sum_cons, e]
    omega
theorem few {ks ls : List Int} (nd : ks.Nodup) (h : ∀ k ∈ ks, k ∈ ls) (h1 : ∀ l ∈ ls, 1 ≤ l) (tot : ls.sum ≤ 2000) : ks.length < 64 := by
  refine Nat.lt_of_not_le fun hc => ?_
  have p := List.mergeSort_perm ks (fun a b => decide (a ≤ b))
  have nd' : (ks.mergeSort fun a b => decide (a ≤ b)).Nodup := p.nodup_iff.mpr nd
  have pw : (ks.mergeSort fun a b => decide (a ≤ b)).Pairwise fun a b => decide (a ≤ b) = true := List.pairwise_mergeSort (fun a b c h1 h2 => by
    rw [decide_eq_true_eq] at *
    omega) (fun a b => by
    rw [Bool.or_eq_true, decide_eq_true_eq, decide_eq_true_eq]
    omega) ks
  have asc : (ks.mergeSort fun a b => decide (a ≤ b)).Pairwise (· < ·) := List.Pairwise.imp₂ (fun a b h ne => by
    have := of_decide_eq_true h
    omega) pw nd'
  have s1 := asc_sum _ 1 asc fun k hk => h1 k (h k (p.mem_iff.mp hk))
  have s2 := sub_sum ks ls nd h fun l hl => by
    have := h1 l hl
    omega
  rw [p.length_eq, perm_sum p] at s1
  have s3 : (64 : Int) * 64 ≤ (ks.length : Int) * (2 * 1 + ks.length - 1) := Int.mul_le_mul (by omega) (by omega) (by omega) (by omega)
  omega
def lensI (L : List (List Int)) : List Int := L.map fun r => (r.length : Int)
theorem lens_sum : ∀ L : List (List Int), (lensI L).sum = (L.flatten.length : Int)
  | [] => rfl
  | r :: L => by
    show (r.length : Int) + (lensI L).sum = _
    rw [lens_sum L, List.flatten_cons, List.length_append]
    omega
theorem totC_lens : ∀ (L : List (List Int)) (l : Int), totC (lensC L) l = ((lensI L).count l : Nat)
  | [], l => rfl
  | r :: L, l => by
    have ih := totC_lens L l
    unfold totC lensC lensI at *
    rw [List.map_cons, List.map_cons, List.filter_cons, List.count_cons]
    by_cases h : ((r.length : Int) = l)
    · rw [if_pos (by simpa using h), List.map_cons, List.sum_cons, ih]
      rw [if_pos (by simpa using h)]
      omega
    · rw [if_neg (by simpa using h), if_neg (by simpa using h), ih]
      rfl
/-- the lengths in their order, each with how often it is there -/
theorem szOf_count {L : List (List Int)} {ns : List Int} (asc : ns.Pairwise (· < ·)) (h : ∀ k, k ∈ ns ↔ k ∈ lensI L) : SzOf (lensC L) (ns.map fun l => (l, ((lensI L).count l : Int))) where
  asc := by
    rw [List.pairwise_map]
    exact asc
  mem := by
    rintro ⟨l, m⟩
    rw [totC_lens, List.mem_map]
    constructor
    · rintro ⟨x, hx, e⟩
      injection e with e1 e2
      subst e1 e2
      have := List.count_pos_iff.mpr ((h x).mp hx)
      exact ⟨rfl, by show (0 : Int) < _; omega⟩
    · rintro ⟨e, h0⟩
      have e : m = ((lensI L).count l : Nat) := e
      have h0 : 0 < m := h0
      subst e
      exact ⟨l, (h l).mpr (List.count_pos_iff.mp (by omega)), rfl⟩
variable {n : Nat} {f : Int → Int}
theorem Cyc.len_it (C : Cyc n f) {c : Int} (h0 : 0 ≤ c) (h1 : c < n) (i : Nat) : ringLen f n (itG f i c) = ringLen f n c := by
  have c1 := C.it h0 h1 i
  have p := C.nodup h0 h1
  have q := C.nodup c1.1 c1.2
  have m : itG f i c ∈ ringOf f n c := C.any h0 h1 i
  have e : (ringOf f n (itG f i c)).Perm (ringOf f n c) := (List.perm_ext_iff_of_nodup q p).mpr fun z => ⟨fun h => C.trans h0 h1 m h, fun h => C.trans c1.1 c1.2 (C.back h0 h1 m) h⟩
  have := e.length_eq
  rw [ring_len, ring_len] at this
  exact this
theorem itG_add' (f : Int → Int) (i j : Nat) (c : Int) : itG f (i + j) c = itG f j (itG f i c) := by
  induction j with
  | zero => rfl
  | succ j ih =>
    show f (itG f (i + j) c) = f (itG f j (itG f i c))
    rw [ih]
theorem Cyc.turn (C : Cyc n f) {c : Int} (h0 : 0 ≤ c) (h1 : c < n) {i : Nat} (hi : i < ringLen f n c) : (ringOf f n c).drop i ++ (ringOf f n c).take i = ringOf f n (itG f i c) := by
  have c1 := C.it h0 h1 i
  have e := C.len_it h0 h1 i
  refine List.ext_getElem? fun j => ?_
  rw [List.getElem?_append, List.length_drop, ring_len]
  by_cases hj : j < ringLen f n c - i
  · rw [if_pos hj, List.getElem?_drop, ring_get (by omega), ring_get (by omega), itG_add']
  · rw [if_neg hj]
    by_cases hj2 : j < ringLen f n c
    · rw [List.getElem?_take_of_lt (by omega), ring_get (by omega), ring_get (by omega), ← itG_add', C.mod h0 h1 (i + j)]
      congr 1
      rw [show i + j = (j - (ringLen f n c - i)) + ringLen f n c by omega, Nat.add_mod_right, Nat.mod_eq_of_lt (by omega)]
    · rw [List.getElem?_eq_none (by rw [List.length_take, ring_len]; omega), List.getElem?_eq_none (by rw [ring_len]; omega)]
/-- rings in memory, wherever they come from -/
def RgsIn (H : Hp) (p : Addr) (L : List (List Int)) : Prop := ∃ vs : List V, H p = some (.lst vs) ∧ Fa2 (fun v e => ∃ r, v = .ref r ∧ H r = some (.lst (e.map V.int))) vs L
theorem RgsIn.same {H H' : Hp} {p : Addr} {L : List (List Int)} (A : RgsIn H p L) (s : Same H H') : RgsIn H' p L := by
  obtain ⟨vs, h1, h2⟩ := A
  exact ⟨vs, s _ _ h1, h2.imp fun v e ⟨r, h3, h4⟩ => ⟨r, h3, s _ _ h4⟩⟩
theorem RgsAt.in_ {H0 H : Hp} {p : Addr} {L : List (List Int)} (A : RgsAt H0 H p L) : RgsIn H p L := by
  obtain ⟨vs, h1, _, h2⟩ := A
  exact ⟨vs, h1, h2.imp fun v e h => by
    obtain ⟨r, h3, h4, _⟩ := h.ex
    exact ⟨r, h3, h4⟩⟩
theorem Cyc.rings_ok (C : Cyc n f) : (∀ e ∈ ringsL f n, e ≠ []) ∧ (ringsL f n).flatten.length ≤ n ∧ (ringsL f n).length ≤ n := by
  refine ⟨fun e he => ?_, ?_, ?_⟩
  · unfold ringsL at he
    obtain ⟨c, hc, rfl⟩ := List.mem_map.mp he
    obtain ⟨c0, c1, _⟩ := mem_heads.mp hc
    have := (C.pos c0 c1).1
    intro h
    have e := ring_len f n c
    rw [h] at e
    simp at e
    omega
  · have := C.rings_len (heads f n).length
    rw [List.take_length] at this
    exact this
  · unfold ringsL
    rw [List.length_map]
    exact heads_len _ _
theorem few_lens {L : List (List Int)} {ks : List Int} (nd : ks.Nodup) (h : ∀ k ∈ ks, k ∈ lensI L) (h1 : ∀ e ∈ L, e ≠ []) (tot : L.flatten.length ≤ 2000) : ks.length < 64 :=
  few nd h (fun l hl => by
    unfold lensI at hl
    obtain ⟨r, hr, rfl⟩ := List.mem_map.mp hl
    have := List.length_pos_iff.mpr (h1 r hr)
    omega) (by rw [lens_sum]; omega)
theorem RgsAt.put {H0 H : Hp} {p : Addr} {L : List (List Int)} (A : RgsAt H0 H p L) {D : Addr} {o o' : HO} (h : H0 D = some o) : RgsAt H0 (upd H D o') p L := by
  obtain ⟨vs, h1, h2, h3⟩ := A
  exact ⟨vs, by rw [upd_ne (fun z => by rw [z, h] at h2; cases h2)]; exact h1, h2, h3.imp fun v e q => q.put h⟩
theorem PrsAt.old' {H0 H : Hp} {p : Addr} {L : List (Int × Int)} (A : PrsAt H0 H p L) : H0 p = none ∧ ∃ vs, H p = some (.lst vs) ∧ vs.length = L.length := by
  obtain ⟨vs, h1, h2, h3⟩ := A
  exact ⟨h2, vs, h1, h3.1⟩
theorem RgsAt.old2 {H0 H1 H : Hp} {p : Addr} {L : List (List Int)} (A : RgsAt H1 H p L) (f : ∀ x, H1 x = none → H0 x = none) : RgsAt H0 H p L := by
  obtain ⟨vs, h1, h2, h3⟩ := A
  refine ⟨vs, h1, f _ h2, h3.imp fun v e h => ?_⟩
  obtain ⟨r, h4, h5, h6⟩ := h.ex
  exact ⟨r, h4, h5, f _ h6⟩
end Rg
/-! own words: sorted of a list of lists, of tuples .. -/
namespace Rg
open PySem PySem.Spec PyProof.Rows L2 PySem.W
def rSortedD (K : PySem.W.Frag) : List V → Hp → VK → Prop := fun vs H Q => ∃ (α : Type) (vf : α → V) (enc : α → PyData) (a : Addr) (bs : List α),
  vs = [.ref a] ∧ SqL K H a (bs.map vf) ∧ (∀ b ∈ bs, Dp K H (vf b) (enc b)) ∧ AllAlike (bs.map enc) ∧ Sortable (bs.map enc) ∧ (∀ b ∈ bs, (enc b).depth ≤ 60) ∧
  ∀ p, H p = none → Q (.ref p) (upd H p (.lst ((bs.mergeSort (dataLe false enc)).map vf)))
theorem each_of_vals {α : Type} {vf : α → V} : ∀ {bs : List α} {us : List Value}, Vals (bs.map vf) us → EachIs (fun v b => RelV (vf b) v) us bs
  | [], us, h => by cases h; exact .nil
  | b :: bs, us, h => by
    have h' : Vals (vf b :: bs.map vf) us := h
    cases h' with
    | cons h1 h2 => exact .cons h1 (each_of_vals h2)
theorem vals_of_each {α : Type} {vf : α → V} : ∀ {us : List Value} {bs : List α}, EachIs (fun v b => RelV (vf b) v) us bs → Vals (bs.map vf) us
  | _, _, .nil => .nil
  | _, _, .cons h1 h2 => .cons h1 (vals_of_each h2)
section
variable {X : Cx}
theorem cr_sortedD (hu : X.A.units + 64 < cLine) : CallR X (.builtin "sorted") (rSortedD X.K) := by
  intro pins s σ H vs us Q I r h
  obtain ⟨α, vf, enc, a, bs, rfl, hs, hd, hal, hk, hdp, q⟩ := h
  obtain ⟨its, rv, hl, hz⟩ := I.list hs
  rw [Vals.ref1 r]
  rw [List.length_map] at hz
  have e := each_of_vals rv
  have er : EachIs (fun v b => ∃ as, Reads s.heap v (enc b) as) its bs := (each_mem e).mono fun v b ⟨h1, hb⟩ => Dp.reads I (enc b) (vf b) v (hd b hb) h1
  refine sorted_data hl.isList e er hal hk hz (fun b hb => by have := hdp b hb; omega) fun out ho eo => ?_
  obtain ⟨ep, he'⟩ := PyProof.Rows.sortedAll_at s.heap its out.toArray
  have hlen : ((bs.mergeSort (dataLe false enc)).map vf).length ≤ sizeLine := by
    rw [List.length_map, List.length_mergeSort]
    exact hz
  exact ⟨.ref _, upd H (s.heap.objs.size + 1) (.lst ((bs.mergeSort (dataLe false enc)).map vf)), I.laid (t' := s.toks) (fun _ _ => PyProof.Rows.sortedAll_old) (Nat.le_succ _) ⟨hlen, out, ep, vals_of_each eo, he'⟩, rfl, q _ (I.hok.fresh (Nat.le_succ _))⟩
end
end Rg
/-! own words: lists of lists of numbers: the same, sorted; a list told from its least entry on -/
namespace Rg
open PySem L2 TL PySem.W
def intssD (L : List (List Int)) : PyData := .list (L.map intsD)
theorem intss_inj : ∀ {L M : List (List Int)}, L.map intsD = M.map intsD → L = M
  | [], [], _ => rfl
  | [], _ :: _, h => by cases h
  | _ :: _, [], h => by cases h
  | x :: L, y :: M, h => by
    rw [List.map_cons, List.map_cons] at h
    injection h with h1 h2
    rw [intsD_inj h1, intss_inj h2]
theorem plain_intss : ∀ L : List (List Int), plainIs (L.map intsD) = true
  | [] => rfl
  | x :: L => by
    show (plainI (intsD x) && plainIs (L.map intsD)) = true
    rw [plain_intss L, (pl_ints x).p]
    rfl
theorem depth_intss : ∀ L : List (List Int), PyData.depthAll (L.map intsD) ≤ 2
  | [] => by simp [PyData.depthAll]
  | x :: L => by
    show PyData.depthAll (intsD x :: L.map intsD) ≤ 2
    have h1 := depth_intss L
    have h2 : (intsD x).depth ≤ 2 := by
      unfold intsD
      simp only [PyData.depth]
      have := depth_ints1 x
      omega
    rw [PyData.depthAll]
    omega
theorem pl_intss (L : List (List Int)) : PlD (intssD L) := ⟨plain_intss L, by
  have := depth_intss L
  unfold intssD
  simp only [PyData.depth]
  omega⟩
theorem dpAll_ofL {K : PySem.W.Frag} {H : Hp} : ∀ {vs : List V} {L : List (List Int)}, Fa2 (fun v e => ∃ r, v = .ref r ∧ H r = some (.lst (e.map V.int))) vs L → DpAll K H vs (L.map intsD)
  | [], [], _ => .nil
  | [], _ :: _, h => by
    have := h.1
    cases this
  | _ :: _, [], h => by
    have := h.1
    cases this
  | v :: vs, e :: L, h => by
    obtain ⟨r, rfl, hr⟩ := h.2 0 v e rfl rfl
    exact .cons (dp_intsL hr) (dpAll_ofL ⟨by
      have := h.1
      simpa using this, fun i v e h1 h2 => h.2 (i + 1) v e h1 h2⟩)
theorem dp_intss {K : PySem.W.Frag} {H : Hp} {p : Addr} {L : List (List Int)} (h : RgsIn H p L) : Dp K H (.ref p) (intssD L) := by
  obtain ⟨vs, hp, hv⟩ := h
  exact .lst (SqL.of hp) (dpAll_ofL hv)
theorem rd_eqLL {K : PySem.W.Frag} {H : Hp} {p q : Addr} {L M : List (List Int)} {Q : VK} (hp : RgsIn H p L) (hq : RgsIn H q M) (k : Q (.bl (decide (L = M))) H) : rEqD K (.ref p) (.ref q) H Q :=
  rd_eqD (dp_intss hp) (dp_intss hq) (pl_intss _) (pl_intss _) (fun e => by
    have e' : L = M := intss_inj (by unfold intssD at e; injection e)
    rw [decide_eq_true e'] at k; exact k) (fun n => by rw [decide_eq_false (fun e => n (by rw [e]))] at k; exact k)
theorem rd_neLL {K : PySem.W.Frag} {H : Hp} {p q : Addr} {L M : List (List Int)} {Q : VK} (hp : RgsIn H p L) (hq : RgsIn H q M) (k : Q (.bl (!decide (L = M))) H) : rNeD K (.ref p) (.ref q) H Q :=
  rd_neD (dp_intss hp) (dp_intss hq) (pl_intss _) (pl_intss _) (fun e => by
    have e' : L = M := intss_inj (by unfold intssD at e; injection e)
    rw [decide_eq_true e'] at k; exact k) (fun n => by rw [decide_eq_false (fun e => n (by rw [e]))] at k; exact k)
abbrev sortLL (L : List (List Int)) : List (List Int) := L.mergeSort fun a b => decide (a ≤ b)
theorem rd_sortLL {K : PySem.W.Frag} {H : Hp} {p : Addr} {L : List (List Int)} {Q : VK} (hp : RgsIn H p L) (k : ∀ q H', Same H H' → H q = none → RgsIn H' q (sortLL L) → Q (.ref q) H') : rSortedD K [.ref p] H Q := by
  obtain ⟨vs, hv, hL⟩ := hp
  have e1 : (vs.zip L).map Prod.fst = vs := List.map_fst_zip (by rw [hL.1]; exact Nat.le_refl _)
  have e2 : (vs.zip L).map Prod.snd = L := List.map_snd_zip (by rw [hL.1]; exact Nat.le_refl _)
  have inz : ∀ b ∈ vs.zip L, ∃ r, b.1 = V.ref r ∧ H r = some (.lst (b.2.map V.int)) := fun b hb => by
    obtain ⟨j, hj⟩ := List.mem_iff_getElem?.mp hb
    obtain ⟨h1, h2⟩ := List.getElem?_zip_eq_some.mp hj
    exact hL.2 j _ _ h1 h2
  refine ⟨V × List Int, Prod.fst, fun b => intsD b.2, p, vs.zip L, rfl, by rw [e1]; exact SqL.of hv, fun b hb => ?_, fun d hd d' hd' => ?_, Sortable.others fun b => ⟨fun z => (by cases z), fun xs z => (by cases z)⟩, fun b hb => ?_, fun q zq => ?_⟩
  · obtain ⟨r, h1, h2⟩ := inz b hb
    rw [h1]
    exact dp_intsL h2
  · obtain ⟨b, _, rfl⟩ := List.mem_map.mp hd
    obtain ⟨b', _, rfl⟩ := List.mem_map.mp hd'
    show alike (.list (b.2.map .int)) (.list (b'.2.map .int)) = true
    rw [alike]
    exact alike_ints _ _
  · unfold intsD
    simp only [PyData.depth]
    have := depth_ints1 b.2
    omega
  · have eo : dataLe false (fun b : V × List Int => intsD b.2) = fun p q => decide (p.2 ≤ q.2) := dataLe_rows (fun b : V × List Int => b.2)
    rw [eo]
    generalize eS : (vs.zip L).mergeSort (fun p q => decide (p.2 ≤ q.2)) = S
    have pS : S.Perm (vs.zip L) := eS ▸ List.mergeSort_perm _ _
    have eL : S.map Prod.snd = sortLL L := by
      have h := List.map_mergeSort (f := Prod.snd) (r := fun p q : V × List Int => decide (p.2 ≤ q.2)) (s := fun a b : List Int => decide (a ≤ b)) (l := vs.zip L) (fun a _ b _ => rfl)
      rw [e2, eS] at h
      exact h
    have s1 : Same H (upd H q (.lst (S.map Prod.fst))) := Same.upd zq
    refine k q _ s1 zq ⟨S.map Prod.fst, upd_same, ?_⟩
    rw [← eL]
    refine ⟨by rw [List.length_map, List.length_map], fun i v e h1 h2 => ?_⟩
    rw [List.getElem?_map, Option.map_eq_some_iff] at h1 h2
    obtain ⟨b, hb, rfl⟩ := h1
    obtain ⟨b', hb', rfl⟩ := h2
    rw [hb] at hb'
    obtain rfl := Option.some.inj hb'
    obtain ⟨r, q1, q2⟩ := inz b (pS.mem_iff.mp (List.mem_of_getElem? hb))
    exact ⟨r, q1, s1 _ _ q2⟩
/-- a list that goes round, told from its least entry on -/
def leastI (ns : List Int) : Int := ns.min?.getD 0
def fromL (ns : List Int) : List Int := ns.drop (ns.idxOf (leastI ns)) ++ ns.take (ns.idxOf (leastI ns))
theorem least_is {ns : List Int} {m : Int} (h : m ∈ ns) (h2 : ∀ y ∈ ns, m ≤ y) : leastI ns = m := by
  unfold leastI
  rw [(List.min?_eq_some_iff (xs := ns) (a := m)).mpr ⟨h, h2⟩]
  rfl
theorem fromL_head {ns : List Int} {m : Int} (h : ns[0]? = some m) (h2 : ∀ y ∈ ns, m ≤ y) : fromL ns = ns := by
  have hm := List.mem_of_getElem? h
  unfold fromL
  rw [least_is hm h2]
  have : ns.idxOf m = 0 := by
    cases ns with
    | nil => cases h
    | cons x xs =>
      obtain rfl := Option.some.inj h
      exact List.idxOf_cons_self
  rw [this, List.drop_zero, List.take_zero, List.append_nil]
theorem fromL_len (ns : List Int) : (fromL ns).length = ns.length := by
  unfold fromL
  rw [List.length_append, List.length_drop, List.length_take]
  omega
end Rg
namespace Rg
open PySem L2 TL
theorem cutV_to {xs : List V} {i : Int} (p : Nat) (e : i = (p : Int)) : cutV xs none (some i) = xs.take p := by
  subst e
  unfold cutV
  rw [HT.sIx_nat]
  show (xs.drop 0).take (min p xs.length - 0) = _
  rw [List.drop_zero, Nat.sub_zero]
  by_cases h : p ≤ xs.length
  · rw [Nat.min_eq_left h]
  · rw [Nat.min_eq_right (by omega), List.take_of_length_le (Nat.le_refl _), List.take_of_length_le (by omega)]
theorem cutV_from {xs : List V} {i : Int} (p : Nat) (e : i = (p : Int)) : cutV xs (some i) none = xs.drop p := by
  subst e
  unfold cutV
  rw [HT.sIx_nat]
  show (xs.drop (min p xs.length)).take (xs.length - min p xs.length) = _
  by_cases h : p ≤ xs.length
  · rw [Nat.min_eq_left h, List.take_of_length_le (by rw [List.length_drop]; exact Nat.le_refl _)]
  · rw [Nat.min_eq_right (by omega), Nat.sub_self, List.take_zero, List.drop_of_length_le (by omega)]
end Rg
namespace Rg
open PySem L2 TL
local macro_rules | `(tactic| walk_at "sd") => `(tactic| (first | (with_reducible show (_ : Int) ≤ _; omega) | (with_reducible show (_ : Int) < _; omega) | ((fail_if_success (with_reducible show (_ : Int) ≤ _)); rfl) | assumption | omega | (show (0 : Int) < _; omega) | (refine Or.inl ⟨?_, ?_⟩ <;> omega) | (refine Or.inr ⟨?_, ?_⟩ <;> omega) | (refine And.intro ?_ ?_ <;> omega) | exact cp60 | exact cp18 | exact cm60 | exact ps60 | exact Nat.le_of_ble_eq_true rfl | decide))
local macro_rules | `(tactic| walk_at "r") => `(tactic| (first | refine ⟨_, rfl, ?_⟩ | refine Or.inl ⟨_, rfl, ?_⟩ | refine ⟨_, _, rfl, rfl, ?_⟩ | refine ⟨_, _, _, _, rfl, rfl, SqL.of (by assumption), (by assumption), ?_⟩ | refine And.intro (Or.inl ⟨rfl, _, SqL.of (by assumption)⟩) ?_ | refine And.intro ⟨_, rfl⟩ ?_ | refine ⟨_, _, rfl, .inl (SqL.of (by assumption)), ?_⟩ | (refine And.intro ?_ ?_; focus (walk_at "sd"; done))))
local macro_rules | `(tactic| walk_at "x") => `(tactic| (first | refine ⟨_, rfl, ?_⟩ | refine Or.inl ⟨_, rfl, ?_⟩ | refine ⟨_, _, rfl, rfl, ?_⟩ | refine ⟨_, _, _, _, rfl, rfl, SqL.of (by assumption), (by assumption), ?_⟩ | refine And.intro (Or.inl ⟨rfl, _, SqL.of (by assumption)⟩) ?_ | refine And.intro ⟨_, rfl⟩ ?_ | refine ⟨_, _, rfl, .inl (SqL.of (by assumption)), ?_⟩ | refine ⟨_, _, rfl, .inr (SqT.of (by assumption)), ?_⟩ | refine ⟨_, _, _, _, rfl, rfl, SqT.of (by assumption), (by assumption), ?_⟩ | with_reducible refine iteF ?_ | with_reducible refine iteT ?_ | (refine And.intro ?_ ?_; focus (walk_at "sd"; done))))
local macro_rules | `(tactic| walk_at "rd") => `(tactic| repeat (first | refine ⟨_, rfl, ?_⟩ | refine Or.inl ⟨_, rfl, ?_⟩ | refine ⟨_, _, rfl, rfl, ?_⟩ | refine ⟨_, _, _, _, rfl, rfl, SqL.of (by assumption), (by assumption), ?_⟩ | refine And.intro (Or.inl ⟨rfl, _, SqL.of (by assumption)⟩) ?_ | refine And.intro ⟨_, rfl⟩ ?_ | refine ⟨_, _, rfl, .inl (SqL.of (by assumption)), ?_⟩ | (refine And.intro ?_ ?_; focus (walk_at "sd"; done))))
local macro_rules | `(tactic| walk_at "rx") => `(tactic| repeat (first | refine ⟨_, rfl, ?_⟩ | refine Or.inl ⟨_, rfl, ?_⟩ | refine ⟨_, _, rfl, rfl, ?_⟩ | refine ⟨_, _, _, _, rfl, rfl, SqL.of (by assumption), (by assumption), ?_⟩ | refine And.intro (Or.inl ⟨rfl, _, SqL.of (by assumption)⟩) ?_ | refine And.intro ⟨_, rfl⟩ ?_ | refine ⟨_, _, rfl, .inl (SqL.of (by assumption)), ?_⟩ | refine ⟨_, _, rfl, .inr (SqT.of (by assumption)), ?_⟩ | refine ⟨_, _, _, _, rfl, rfl, SqT.of (by assumption), (by assumption), ?_⟩ | with_reducible refine iteF ?_ | with_reducible refine iteT ?_ | (refine And.intro ?_ ?_; focus (walk_at "sd"; done))))
def top (i : Nat) : Stmt := PySem.Challenge.pw_rungrepeats_k29_errors_of_lanes_and_ring.main.body.getD i (.Pass ⟨0, 0, 0, 0⟩)
abbrev s_RungError_u__init_u_ : Stmt := inClass (top 3) 0
abbrev N_RungError_u__init_u_ : List Str := ["self", "value"]
theorem sc_RungError_u__init_u_ : FnScope N_RungError_u__init_u_ ["self", "value"] (defScope s_RungError_u__init_u_) := ⟨rfl, rfl, rfl, by decide +kernel, rfl, by decide +kernel, by decide +kernel⟩
section
variable {P : Program} {w : World} {K : PySem.W.Frag} {mg : Str → Option Value} {base : Heap}
theorem ok_RungError_init {f : Addr} {fd : FuncData} (F : Fun K "__init__" "RungError.__init__" s_RungError_u__init_u_ f fd) (B : Bi mg) : FnOk P w K mg base CX0 1 f fd ["self", "value"] (spErr K) := by
  refine F.ok sc_RungError_u__init_u_ (fun vs H Q E h => ?_) (fun cdv A outer s H vs Q E hr h => ?_)
  · obtain ⟨a, C, v, rfl, _⟩ := h
    rfl
  · obtain ⟨a, C, v, rfl, T, nv, ha, k⟩ := h
    refine ⟨_, (pss_one (ps_ost (pv 0) (pv 1) rfl)), ?_⟩
    exact ⟨_, rfl, _, rfl, a, C, rfl, T, nv, .inl ⟨ha, fun dx h1 h2 => k dx h1 h2⟩⟩
end
abbrev s_check_size : Stmt := top 9
abbrev N_check_size : List Str := ["n"]
theorem sc_check_size : FnScope N_check_size ["n"] (defScope s_check_size) := ⟨rfl, rfl, rfl, by decide +kernel, rfl, by decide +kernel, by decide +kernel⟩
section
variable {P : Program} {w : World} {K : PySem.W.Frag} {mg : Str → Option Value} {base : Heap}
def spCheckSize : Sp := fun vs H Q _ => ∃ n : Int, vs = [.int n] ∧ 1 ≤ n ∧ Q .non H
theorem ok_check_size {f : Addr} {fd : FuncData} (F : Fun K "check_size" "check_size" s_check_size f fd) (B : Bi mg) : FnOk P w K mg base CX0 2 f fd ["n"] spCheckSize := by
  refine F.ok sc_check_size (fun vs H Q E h => ?_) (fun cdv A outer s H vs Q E hr h => ?_)
  · obtain ⟨n, rfl, _⟩ := h
    rfl
  · obtain ⟨n, rfl, hn, k⟩ := h
    refine ⟨_, (pss_one (ps_if (pt_cmpR op_lt (pv 0) pe_int (nomark _))
    (pss_one ps_never)
    pss_nil)), ?_⟩
    walk_at "rd"
    refine ite2 (fun hc => ?_) (fun hc => ?_)
    · exact absurd (of_decide_eq_true hc) (by omega)
    · exact k
end
abbrev s_check_post : Stmt := top 10
abbrev N_check_post : List Str := ["post", "n"]
theorem sc_check_post : FnScope N_check_post ["post", "n"] (defScope s_check_post) := ⟨rfl, rfl, rfl, by decide +kernel, rfl, by decide +kernel, by decide +kernel⟩
section
variable {P : Program} {w : World} {K : PySem.W.Frag} {mg : Str → Option Value} {base : Heap}
def spCheckPost : Sp := fun vs H Q _ => ∃ q n : Int, vs = [.int q, .int n] ∧ 0 ≤ q ∧ q < n ∧ Q .non H
theorem ok_check_post {f : Addr} {fd : FuncData} (F : Fun K "check_post" "check_post" s_check_post f fd) (B : Bi mg) : FnOk P w K mg base CX0 2 f fd ["post", "n"] spCheckPost := by
  refine F.ok sc_check_post (fun vs H Q E h => ?_) (fun cdv A outer s H vs Q E hr h => ?_)
  · obtain ⟨q, n, rfl, _⟩ := h
    rfl
  · obtain ⟨q, n, rfl, h0, h1, k⟩ := h
    refine ⟨_, (pss_one (ps_if (PW.pt (pw_or (pt_cmpR op_lt (pv 0) pe_int (nomark _)) (pw_or1 (pt_cmpR op_ge (pv 0) (pv 1) (nomark _)))))
    (pss_one ps_never)
    pss_nil)), ?_⟩
    walk_at "rd"
    refine ite2 (fun hc => absurd (of_decide_eq_true hc) (by omega)) (fun _ => ?_)
    walk_at "rd"
    refine ite2 (fun hc => absurd (of_decide_eq_true hc) (by omega)) (fun _ => ?_)
    exact k
end
abbrev s_check_half_post : Stmt := top 11
abbrev N_check_half_post : List Str := ["post"]
theorem sc_check_half_post : FnScope N_check_half_post ["post"] (defScope s_check_half_post) := ⟨rfl, rfl, rfl, by decide +kernel, rfl, by decide +kernel, by decide +kernel⟩
section
variable {P : Program} {w : World} {K : PySem.W.Frag} {mg : Str → Option Value} {base : Heap}
def spCheckHalf : Sp := fun vs H Q _ => ∃ n : Int, vs = [.int n] ∧ 0 ≤ n ∧ Q .non H
theorem ok_check_half_post {f : Addr} {fd : FuncData} (F : Fun K "check_half_post" "check_half_post" s_check_half_post f fd) (B : Bi mg) : FnOk P w K mg base CX0 2 f fd ["post"] spCheckHalf := by
  refine F.ok sc_check_half_post (fun vs H Q E h => ?_) (fun cdv A outer s H vs Q E hr h => ?_)
  · obtain ⟨n, rfl, _⟩ := h
    rfl
  · obtain ⟨n, rfl, hn, k⟩ := h
    refine ⟨_, (pss_one (ps_if (pt_cmpR op_lt (pv 0) pe_int (nomark _))
    (pss_one ps_never)
    pss_nil)), ?_⟩
    walk_at "rd"
    refine ite2 (fun hc => ?_) (fun hc => ?_)
    · exact absurd (of_decide_eq_true hc) (by omega)
    · exact k
end
abbrev s_check_number : Stmt := top 12
abbrev N_check_number : List Str := ["number"]
theorem sc_check_number : FnScope N_check_number ["number"] (defScope s_check_number) := ⟨rfl, rfl, rfl, by decide +kernel, rfl, by decide +kernel, by decide +kernel⟩
section
variable {P : Program} {w : World} {K : PySem.W.Frag} {mg : Str → Option Value} {base : Heap}
def spCheckNumber : Sp := fun vs H Q _ => ∃ n : Int, vs = [.int n] ∧ 0 ≤ n ∧ Q .non H
theorem ok_check_number {f : Addr} {fd : FuncData} (F : Fun K "check_number" "check_number" s_check_number f fd) (B : Bi mg) : FnOk P w K mg base CX0 2 f fd ["number"] spCheckNumber := by
  refine F.ok sc_check_number (fun vs H Q E h => ?_) (fun cdv A outer s H vs Q E hr h => ?_)
  · obtain ⟨n, rfl, _⟩ := h
    rfl
  · obtain ⟨n, rfl, hn, k⟩ := h
    refine ⟨_, (pss_one (ps_if (pt_cmpR op_lt (pv 0) pe_int (nomark _))
    (pss_one ps_never)
    pss_nil)), ?_⟩
    walk_at "rd"
    refine ite2 (fun hc => ?_) (fun hc => ?_)
    · exact absurd (of_decide_eq_true hc) (by omega)
    · exact k
end
abbrev s_from_least : Stmt := top 14
abbrev N_from_least : List Str := ["entries", "start"]
theorem sc_from_least : FnScope N_from_least ["entries"] (defScope s_from_least) := ⟨rfl, rfl, rfl, by decide +kernel, rfl, by decide +kernel, by decide +kernel⟩
section
variable {P : Program} {w : World} {K : PySem.W.Frag} {mg : Str → Option Value} {base : Heap}
def spFromLeast : Sp := fun vs H Q _ => ∃ (a : Addr) (ns : List Int), vs = [.ref a] ∧ H a = some (.lst (ns.map V.int)) ∧ ns.length ≤ 10000 ∧ ∀ (r : Addr) (H' : Hp), Same H H' → H r = none → H' r = some (.lst ((fromL ns).map V.int)) → Q (.ref r) H'
theorem ok_from_least {f : Addr} {fd : FuncData} (F : Fun K "from_least" "from_least" s_from_least f fd) (B : Bi mg) : FnOk P w K mg base CX0 2 f fd ["entries"] spFromLeast := by
  refine F.ok sc_from_least (fun vs H Q E h => ?_) (fun cdv A outer s0 H vs Q E hr h => ?_)
  · obtain ⟨a, ns, rfl, _⟩ := h
    rfl
  · obtain ⟨a, ns, rfl, ha, hl, k⟩ := h
    refine ⟨_, (pss_cons (ps_if (pt_cmpR op_eq (pe_callB call_len_seq (by rfl) B.len_ PySem.boot_len (pa_cons (pv 0) pa_nil)) pe_int (nomark _))
    (pss_one (ps_ret (pe_lst pa_nil)))
    pss_nil)
    (pss_cons (ps_set (i := 1) sc_from_least.nd rfl (Or.inl rfl) (pe_bm PySem.F.plainAttrs_list PySem.F.slot_list_index PySem.F.type_list_index mt_index (pv 0) (pa_cons (pe_callB (cr_min rfl) (by rfl) B.min_ (by decide +kernel) (pa_cons (pv 0) pa_nil)) pa_nil)))
    (pss_one (ps_ret (pe_op op_cat (pe_slice sl_list (pv 0) (po_some (pv 1)) po_none) (pe_slice sl_list (pv 0) po_none (po_some (pv 1)))))))), ?_⟩
    walk_at "rx"
    refine ite2 (fun hc => ?_) (fun hc => ?_)
    · have e0 : ns = [] := by
        have e := of_decide_eq_true hc
        injection e with e
        rw [List.length_map] at e
        exact List.length_eq_zero_iff.mp (by omega)
      subst e0
      walk_at "rx"
      intro u zu
      exact k u _ (Same.upd zu) zu upd_same
    have n0 : 0 < ns.length := by
      refine Nat.pos_of_ne_zero fun e => hc (decide_eq_true ?_)
      rw [List.length_map, e]
      rfl
    walk_at "rx"
    refine ⟨a, ns, rfl, SqL.of ha, n0, fun m hm hmin => ?_⟩
    have em := least_is hm hmin
    have hj := List.idxOf_lt_length_of_mem hm
    have hz : (ns.map V.int)[ns.idxOf m]? = some (V.int m) := by
      rw [List.getElem?_map, List.getElem?_eq_getElem hj, List.getElem_idxOf hj]
      rfl
    walk_at "rx"
    refine ⟨a, _, _, ns.idxOf m, _, rfl, rfl, SqL.of ha, rfl, flat_ints _, hz, decide_eq_true rfl, fun j z' hj' hz' => ?_, ?_⟩
    · rw [List.getElem?_map, Option.map_eq_some_iff] at hz'
      obtain ⟨x, hx, rfl⟩ := hz'
      refine decide_eq_false fun e => ?_
      subst e
      have hjl := (List.getElem?_eq_some_iff.mp hx).1
      have := List.not_of_lt_findIdx (p := (· == x)) (xs := ns) (i := j) hj'
      rw [List.getElem?_eq_getElem hjl] at hx
      rw [Option.some.inj hx] at this
      simp at this
    walk_at "rx"
    refine ⟨a, _, rfl, SqL.of ha, fun u zu => ?_⟩
    generalize eu : upd _ u _ = H1
    obtain ⟨s1, hu⟩ := nw eu zu
    have ha1 := s1 _ _ ha
    walk_at "rx"
    refine ⟨a, _, rfl, SqL.of ha1, fun u2 zu2 => ?_⟩
    generalize eu2 : upd _ u2 _ = H2
    obtain ⟨s2, hu2⟩ := nw eu2 zu2
    have hu' := s2 _ _ hu
    rw [cutV_from (ns.idxOf m) rfl, ← List.map_drop] at hu'
    rw [cutV_to (ns.idxOf m) rfl, ← List.map_take] at hu2
    refine ⟨u, u2, _, _, rfl, rfl, hu', hu2, ?_, fun u3 zu3 => ?_⟩
    · refine Nat.le_trans ?_ (show 10000 ≤ sizeLine by decide)
      simp only [List.length_map, List.length_drop, List.length_take]
      omega
    · generalize eu3 : upd _ u3 _ = H3
      obtain ⟨s3, hu3⟩ := nw eu3 zu3
      refine k u3 H3 (s1.trans (s2.trans s3)) (s1.free (s2.free zu3)) ?_
      rw [hu3, ← List.map_append]
      unfold fromL
      rw [em]
end
abbrev s_is_marked : Stmt := top 31
abbrev N_is_marked : List Str := ["text"]
theorem sc_is_marked : FnScope N_is_marked ["text"] (defScope s_is_marked) := ⟨rfl, rfl, rfl, by decide +kernel, rfl, by decide +kernel, by decide +kernel⟩
section
variable {P : Program} {w : World} {K : PySem.W.Frag} {mg : Str → Option Value} {base : Heap}
/-- marks alone, no two rungs side by side: as the program asks it -/
def Mk (z : Str) : Bool := decide ((tl z).count 45 + (tl z).count 46 = (tl z).length) && (!(!(Builtin.Str.occurrences z (Str.ofString "--") 0 z.length 1).isEmpty))
def spIsMarked : Sp := fun vs H Q _ => ∃ z : Str, vs = [.str z] ∧ z.length ≤ sizeLine ∧ Q (.bl (Mk z)) H
theorem ok_is_marked {f : Addr} {fd : FuncData} (F : Fun K "is_marked" "is_marked" s_is_marked f fd) (B : Bi mg) : FnOk P w K mg base CX0 1 f fd ["text"] spIsMarked := by
  refine F.ok sc_is_marked (fun vs H Q E h => ?_) (fun cdv A outer s H vs Q E hr h => ?_)
  · obtain ⟨z, rfl, _⟩ := h
    rfl
  · obtain ⟨z, rfl, hz, k⟩ := h
    refine ⟨_, (pss_one (ps_ret (pe_and (pe_cmpR op_eq (pe_op op_add (pe_m1 PySem.F.slot_str_count PySem.F.type_str_count mt_count (pv 0) pe_str) (pe_m1 PySem.F.slot_str_count PySem.F.type_str_count mt_count (pv 0) pe_str)) (pe_callB call_len_str (by rfl) B.len_ PySem.boot_len (pa_cons (pv 0) pa_nil)) (nomark _)) (pe_one (pe_cmpR op_notin_str pe_str (pv 0) (by rfl)))))), ?_⟩
    walk_at "rx"
    have e1 : Txt.count z (Str.ofString "-") = ((tl z).count 45 : Nat) := count_one z 45
    have e2 : Txt.count z (Str.ofString ".") = ((tl z).count 46 : Nat) := count_one z 46
    rw [e1, e2, len_tl]
    unfold Mk at k
    refine ite2 (fun hc => ?_) (fun hc => ?_)
    · have hs : (tl z).count 45 + (tl z).count 46 = (tl z).length := by
        have := of_decide_eq_true hc
        injection this with this
        omega
      rw [decide_eq_true hs, Bool.true_and] at k
      walk_at "rx"
      exact k
    · have hs : ¬ (tl z).count 45 + (tl z).count 46 = (tl z).length := fun h => hc (decide_eq_true (congrArg V.int (by omega)))
      rw [decide_eq_false hs, Bool.false_and] at k
      walk_at "rx"
      exact k
end
abbrev s_is_row : Stmt := top 32
abbrev N_is_row : List Str := ["text"]
theorem sc_is_row : FnScope N_is_row ["text"] (defScope s_is_row) := ⟨rfl, rfl, rfl, by decide +kernel, rfl, by decide +kernel, by decide +kernel⟩
section
variable {P : Program} {w : World} {K : PySem.W.Frag} {mg : Str → Option Value} {base : Heap}
theorem mk_row {z : Str} {c : Nat} (h0 : 0 < (tl z).length) (hc : (tl z)[0]? = some c) : Mk (z ++ (⟨#[c]⟩ : Str)) = true ↔ Row (tl z) := by
  have e : tl (z ++ (⟨#[c]⟩ : Str)) = tl z ++ [c] := tl_append z _
  unfold Mk
  rw [e, Bool.and_eq_true, decide_eq_true_eq, List.count_append, List.count_append, List.length_append, List.length_singleton]
  have q := (signs_count (tl z)).1
  have q1 := (signs_count [c]).1
  rw [List.length_singleton] at q1
  constructor
  · rintro ⟨h1, h2⟩
    have hs : (tl z).count 45 + (tl z).count 46 = (tl z).length := by omega
    exact (row_asked h0 hs hc).mp h2
  · intro R
    have hs := (signs_count (tl z)).2.mpr R.sgn
    have hs1 : ([c]).count 45 + ([c]).count 46 = ([c] : List Nat).length := (signs_count [c]).2.mpr fun x hx => by
      rw [List.mem_singleton.mp hx]
      exact R.sgn c (List.mem_of_getElem? hc)
    rw [List.length_singleton] at hs1
    exact ⟨by omega, (row_asked h0 hs hc).mpr R⟩
def spIsRow : Sp := fun vs H Q _ => ∃ z : Str, vs = [.str z] ∧ z.length < sizeLine ∧ ∀ b : Bool, (b = true ↔ Row (tl z)) → Q (.bl b) H
theorem ok_is_row {f : Addr} {fd : FuncData} (F : Fun K "is_row" "is_row" s_is_row f fd) (B : Bi mg) (D_is_marked : Df P w K mg base "is_marked" 1 ["text"] spIsMarked) : FnOk P w K mg base CX0 2 f fd ["text"] spIsRow := by
  refine F.ok sc_is_row (fun vs H Q E h => ?_) (fun cdv A outer s H vs Q E hr h => ?_)
  · obtain ⟨z, rfl, _⟩ := h
    rfl
  · obtain ⟨z, rfl, hz, k⟩ := h
    refine ⟨_, (pss_one (ps_ret (pe_and (pe_cmpR op_ne (pv 0) pe_str (nomark _)) (pe_one (pe_df D_is_marked (hr.mono (by first | decide | omega)) (by rfl) (pa_cons (pe_op op_add_str (pv 0) (pe_ix ix_str (pv 0) pe_int (fun _ _ => rfl))) pa_nil)))))), ?_⟩
    walk_at "rx"
    refine ite2 (fun hc => ?_) (fun hc => ?_)
    · have hne : 0 < (tl z).length := by
        rcases Nat.eq_zero_or_pos (tl z).length with q | q
        · rw [decide_eq_true (congrArg V.str (ext_tl (List.length_eq_zero_iff.mp q : tl z = tl (Str.ofString "")) ))] at hc
          exact absurd hc (by decide)
        · exact q
      have hg := sg_first hne
      walk_at "rx"
      refine ⟨_, _, _, rfl, rfl, Nat.le_of_lt hz, atI_k' 0 rfl hg, ?_⟩
      refine ⟨_, _, rfl, rfl, hz, ?_⟩
      walk_at "rx"
      refine ⟨?_, k _ (mk_row hne hg)⟩
      have : (z ++ (⟨#[sg (tl z) 0]⟩ : Str)).length = z.length + 1 := by
        rw [len_tl, tl_append, List.length_append, len_tl]
        rfl
      omega
    · walk_at "rx"
      refine k false ⟨fun h => (nomatch h), fun R => ?_⟩
      rw [Bool.not_eq_true, Bool.not_eq_false', decide_eq_true_eq] at hc
      injection hc with e
      rw [e] at R
      exact absurd R.ne (by decide +kernel)
end
abbrev s_Rule_u__init_u_ : Stmt := inClass (top 34) 0
abbrev N_Rule_u__init_u_ : List Str := ["self", "texts", "row"]
theorem sc_Rule_u__init_u_ : FnScope N_Rule_u__init_u_ ["self", "texts"] (defScope s_Rule_u__init_u_) := ⟨rfl, rfl, rfl, by decide +kernel, rfl, by decide +kernel, by decide +kernel⟩
section
variable {P : Program} {w : World} {K : PySem.W.Frag} {mg : Str → Option Value} {base : Heap}
/-- what is known of the class -/
structure Rl (K : PySem.W.Frag) (C : Addr) : Prop where
  cl : Cls K C
  nR : NoAttr K C "_rows"
  c1 : PySem.W.findIn K (.ref C) "__class__" = some (some (.builtin "object.__class__"))
  c2 : PySem.W.specialIn K (.builtin "object.__class__") "__get__" = some (some (.builtin "getset_descriptor.__get__"))
  c3 : PySem.W.takesIn K (.builtin "object.__class__") = some true
  c4 : PySem.W.mroIn K C (.type "object") = some true
  sf : PySem.W.selfFirst K C = true
theorem Rl.c5 {K : PySem.W.Frag} {C : Addr} (_ : Rl K C) : PySem.W.kitOne K (.ref C) (.ref C) = some true := by
  unfold PySem.W.kitOne
  rw [if_pos (beq_self_eq_true _)]
theorem Rl.ty {K : PySem.W.Frag} {C : Addr} (T : Rl K C) {H : Hp} {a dx : Addr} {fs : List (Str × V)} (e : H a = some (.ins C dx fs)) : TyX K H (.ref a) (.ref C) := .base (.ins e T.cl T.c1 T.c2 T.c3 T.c4)
/-- at p an object of the class stands, with these rows -/
def RuleAt (C : Addr) (H : Hp) (p : Addr) (ls : List Str) : Prop := ∃ dx u, H p = some (.ins C dx [("_rows", V.ref u)]) ∧ H u = some (.tup (ls.map V.str))
theorem RuleAt.same {C : Addr} {H H' : Hp} {p : Addr} {ls : List Str} (h : RuleAt C H p ls) (s : Same H H') : RuleAt C H' p ls := by
  obtain ⟨dx, u, h1, h2⟩ := h
  exact ⟨dx, u, s _ _ h1, s _ _ h2⟩
theorem RuleAt.put {C : Addr} {H : Hp} {p l : Addr} {ls : List Str} {xs : List V} {o : HO} (h : RuleAt C H p ls) (hl : H l = some (.lst xs)) : RuleAt C (upd H l o) p ls := by
  obtain ⟨dx, u, h1, h2⟩ := h
  exact ⟨dx, u, by rw [upd_ne (ne_of h1 hl (by intro z; cases z))]; exact h1, by rw [upd_ne (ne_of h2 hl (by intro z; cases z))]; exact h2⟩
def spInit (C : Addr) : Sp := fun vs H Q _ => ∃ (p t dx : Addr) (n : Nat) (ls : List Str), vs = [.ref p, .ref t] ∧ H p = some (.ins C dx []) ∧ H t = some (.lst (ls.map V.str)) ∧ Rows n ls ∧ n ≤ 5000 ∧
  ∀ H' : Hp, RuleAt C H' p ls → (∀ b o, H b = some o → b ≠ p → H' b = some o) → Q .non H'
theorem ok_Rule_init {f C : Addr} {fd : FuncData} (F : Fun K "__init__" "Rule.__init__" s_Rule_u__init_u_ f fd) (B : Bi mg) (T : Rl K C) (D_is_row : Df P w K mg base "is_row" 2 ["text"] spIsRow) : FnOk P w K mg base CX0 3 f fd ["self", "texts"] (spInit C) := by
  refine F.ok sc_Rule_u__init_u_ (fun vs H Q E h => ?_) (fun cdv A outer s H vs Q E hr h => ?_)
  · obtain ⟨p, t, dx, n, ls, rfl, _⟩ := h
    rfl
  · obtain ⟨p, t, dx, n, ls, rfl, hp, ht, R, hn, k⟩ := h
    have npt : p ≠ t := ne_of hp ht (by intro z; cases z)
    have n5 : n < sizeLine := Nat.lt_of_le_of_lt hn (by decide)
    refine ⟨_, (pss_cons (ps_if (pt_cmpR op_eq (pe_callB call_len_seq (by rfl) B.len_ PySem.boot_len (pa_cons (pv 1) pa_nil)) pe_int (nomark _))
    (pss_one ps_never)
    pss_nil)
    (pss_cons (ps_for PassesOwn.never rfl (pi_list (pv 1)) (pg_name (i := 2) sc_Rule_u__init_u_.nd rfl (Or.inl rfl))
    (pss_one (ps_if (PW.pt (pw_or (pt_not (pt_val (pe_df D_is_row (hr.mono (by first | decide | omega)) (by rfl) (pa_cons (pv 2) pa_nil)))) (pw_or1 (pt_cmpR op_ne (pe_callB call_len_str (by rfl) B.len_ PySem.boot_len (pa_cons (pv 2) pa_nil)) (pe_callB call_len_str (by rfl) B.len_ PySem.boot_len (pa_cons (pe_ix ix_list (pv 1) pe_int (fun _ _ => rfl)) pa_nil)) (nomark _)))))
    (pss_one ps_never)
    pss_nil)))
    (pss_one (ps_fld (pv 0) (pe_callTy call_tuple_of (by rfl) B.tuple_ (by decide +kernel) (pa_cons (pv 1) pa_nil)) rfl)))), ?_⟩
    walk_at "rd"
    refine ite2 (fun hc => ?_) (fun hc => ?_)
    · exfalso
      have e := of_decide_eq_true hc
      injection e with e
      rw [List.length_map] at e
      have := R.ne
      omega
    walk_at "rd"
    refine ⟨⟨_, SqL.of ht⟩, ?_⟩
    refine for_list (K := K) (a := t) (xs := ls.map V.str) (fun i σ H' => H' = H ∧ ∃ v, σ = [some (.ref p), some (.ref t), v]) ⟨rfl, none, rfl⟩ (fun i σ H' _ h => by rw [h.1]; exact SqL.of ht) ?_ ?_
    · rintro i x σ H' hi ⟨rfl, v, rfl⟩
      have hil : i < ls.length := by
        have := (List.getElem?_eq_some_iff.mp hi).1
        rw [List.length_map] at this
        exact this
      rw [getS hil] at hi
      obtain rfl := Option.some.inj hi
      have hz := R.lenS (List.getElem_mem hil)
      have hz0 := R.lenS (List.getElem_mem R.ne)
      walk_at "rd"
      intro b hb
      obtain rfl := hb.mpr (R.row _ (List.getElem_mem hil))
      have iz := atI_k' (i := 0) 0 rfl (getS R.ne)
      walk_at "rd"
      rw [hz, hz0]
      walk_at "rd"
      refine iteNS rfl ?_
      walk_at "rd"
      exact ⟨_, rfl⟩
    · rintro σ H' ⟨rfl, v, rfl⟩
      walk_at "rd"
      refine ⟨t, _, rfl, .inl ⟨SqL.of ht, fun u hu => ?_⟩⟩
      have npu : p ≠ u := ne_of_none hp hu
      walk_at "rd"
      refine ⟨p, C, dx, [], rfl, by rw [upd_ne npu]; exact hp, T.cl, T.nR, by decide, ?_⟩
      refine k _ ⟨dx, u, upd_same, by rw [upd_ne npu.symm, upd_same]⟩ fun b o e hb => ?_
      rw [upd_ne hb, upd_ne (ne_of_none e hu)]
      exact e
theorem mk_at {C : Addr} {H : Hp} {t x dx : Addr} {n : Nat} {ls : List Str} {Q : VK} (ht : H t = some (.lst (ls.map V.str))) (W : Rows n ls) (hn : n ≤ 5000) (nx : H x = none) (ndx : H dx = none) (k : ∀ H' : Hp, Same H H' → RuleAt C H' x ls → Q .non H') :
    spInit C [.ref x, .ref t] (upd (upd H dx (.own x)) x (.ins C dx [])) Q E0 :=
  ⟨x, t, dx, n, ls, rfl, upd_same, by rw [upd_ne (ne_of_none ht nx), upd_ne (ne_of_none ht ndx)]; exact ht, W, hn, fun H' RA keep => k H' (L2.Same.made nx ndx keep) RA⟩
theorem lkR {m : Str} (v : V) (h : ¬ m = "_rows") : ([("_rows", v)] : List (Str × V)).lookup m = none := by
  have : (m == ("_rows" : Str)) = false := by simpa using h
  simp [List.lookup, this]
end
abbrev s_sizes_from : Stmt := top 16
abbrev N_sizes_from : List Str := ["counted", "found", "length", "many"]
theorem sc_sizes_from : FnScope N_sizes_from ["counted"] (defScope s_sizes_from) := ⟨rfl, rfl, rfl, by decide +kernel, rfl, by decide +kernel, by decide +kernel⟩
section
variable {P : Program} {w : World} {K : PySem.W.Frag} {mg : Str → Option Value} {base : Heap}
def spSizesFrom : Sp := fun vs H Q _ => ∃ (p : Addr) (cs : List (Int × Int)), vs = [.ref p] ∧ PrsIn H p cs ∧ cs.length ≤ 10000 ∧ ∀ (q : Addr) (H' : Hp) (L : List (Int × Int)), Same H H' → SzOf cs L → PrsAt H H' q L → Q (.ref q) H'
theorem ok_sizes_from {f : Addr} {fd : FuncData} (F : Fun K "sizes_from" "sizes_from" s_sizes_from f fd) (B : Bi mg) : FnOk P w K mg base CX0 2 f fd ["counted"] spSizesFrom := by
  refine F.ok sc_sizes_from (fun vs H Q E h => ?_) (fun cdv A outer s0 H vs Q E hr h => ?_)
  · obtain ⟨p, cs, rfl, _⟩ := h
    rfl
  · obtain ⟨p, cs, rfl, ⟨xs, hp, hxs⟩, hcs, k⟩ := h
    refine ⟨_, (pss_cons (ps_set (i := 1) sc_sizes_from.nd rfl (Or.inl rfl) pe_dnewK)
    (pss_cons (ps_for PassesOwn.never rfl (pi_list (pv 0)) (pg_tup rfl (pgs_cons (pg_name (i := 2) sc_sizes_from.nd rfl (Or.inl rfl)) (pgs_cons (pg_name (i := 3) sc_sizes_from.nd rfl (Or.inl rfl)) pgs_nil)))
    (pss_one (ps_dput (hu_of hr) (pv 1) (pv 2) (pe_op op_add (pe_dget2 (hu_of hr) (pv 1) (pv 2) pe_int ⟨rfl, rfl, rfl, rfl⟩) (pv 3)) rfl)))
    (pss_one (ps_ret (pe_lc (own := [("length", 2), ("many", 3)]) (g := gTup K 2 (gCons (gName 2) (gCons (gName 3) (gNil)))) (tt := _) rfl sc_sizes_from.nd (pi_list (pe_callB (cr_sortedItemsI rfl) (by rfl) B.sorted_ (by decide +kernel) (pa_cons (pe_bm0 PySem.F.plainAttrs_dict PySem.F.slot_dict_items PySem.F.type_dict_items mt_itemsK (pv 1)) pa_nil))) (blkOk_by (N := N_sizes_from) (sc := defScope s_sizes_from) (by decide +kernel)) (fun _ _ _ _ _ => pg_tup rfl (pgs_cons (pg_name (i := 2) sc_sizes_from.nd rfl (Or.inl rfl)) (pgs_cons (pg_name (i := 3) sc_sizes_from.nd rfl (Or.inl rfl)) (pgs_nil)))) (fun _ _ _ _ _ => pts_one (pt_cmpR op_gt (pv 3) pe_int (nomark _))) (fun _ _ _ _ _ => (pe_tup (pa_cons (pv 2) (pa_cons (pv 3) pa_nil))))))))), ?_⟩
    have big : ∀ x : Nat, x ≤ 10000 → x < sizeLine := fun x hx => Nat.lt_of_le_of_lt hx (by decide)
    walk_at "rx"
    intro d zd
    generalize ed : upd _ d _ = H1
    obtain ⟨s1, hd⟩ := nw ed zd
    walk_at "rx"
    refine ⟨⟨_, SqL.of (s1 _ _ hp)⟩, ?_⟩
    refine for_list (K := K) (a := p) (xs := xs) (fun i σ H' => ∃ (o2 o3 : Option V), σ = [some (.ref p), some (.ref d), o2, o3] ∧ Same H H' ∧ ∃ ks, H' d = some (.dK (ks.map entI)) ∧ DcOf (cs.take i) ks ∧ ks.length ≤ i)
      ⟨_, _, rfl, s1, [], hd, ⟨List.Pairwise.nil, (fun _ h => by cases h), fun _ h => by rw [List.take_zero] at h; cases h⟩, Nat.le_refl _⟩ (fun i σ H' _ h => by
        obtain ⟨_, _, _, h, _⟩ := h
        exact SqL.of (h _ _ hp)) ?_ ?_
    · rintro i v σ H' hv ⟨o2, o3, rfl, s', ks, hd', D, hkl⟩
      obtain ⟨e, he, t, rfl, ht⟩ := hxs.of hv
      have hil : i < cs.length := (List.getElem?_eq_some_iff.mp he).1
      refine ⟨t, _, rfl, SqT.of (s' _ _ ht), rfl, _, _, rfl, _, _, rfl, rfl, ?_⟩
      walk_at "rx"
      refine ⟨.inl ⟨_, .inl hd'⟩, ?_⟩
      walk_at "rx"
      refine ⟨_, DGet.k (k := Sum.inl e.1) hd', ?_⟩
      rw [D.get]
      walk_at "rx"
      refine ⟨d, _, rfl, DPut.k (k := Sum.inl e.1) hd' (by rw [List.length_map]; exact big _ (by omega)), ?_⟩
      refine ⟨_, _, rfl, s'.put zd, putI ks e.1 (totC (cs.take i) e.1 + e.2), ?_, ?_, Nat.le_trans (putI_len _ _ _) (Nat.succ_le_succ hkl)⟩
      · rw [upd_same, ← put_ent]
      · rw [List.take_add_one, he]
        exact D.put e.1 e.2
    rintro σ H2 ⟨o2, o3, rfl, s2, ks, hd2, D, hkl⟩
    rw [hxs.1, List.take_length] at D
    rw [hxs.1] at hkl
    walk_at "rx"
    refine ⟨Or.inr (Or.inr (Or.inl ⟨rfl, .inl ⟨_, hd2⟩⟩)), ?_⟩
    walk_at "rx"
    refine ⟨d, _, rfl, rfl, hd2, fun it zit => ?_⟩
    generalize eit : upd _ it _ = H3
    obtain ⟨s3, hit⟩ := nw eit zit
    walk_at "rx"
    refine ⟨it, d, ks, rfl, hit, s3 _ _ hd2, fun H4 l ps s4 zl zps hperm hsort hl hps => ?_⟩
    have s24 := s3.trans s4
    have hpl : ps.length ≤ 10000 := by
      have := hperm.length_eq
      rw [List.length_map] at this
      omega
    walk_at "rx"
    refine ⟨⟨_, SqL.of hl⟩, fun E1 zE => ?_⟩
    obtain ⟨H5, eE⟩ : ∃ H5, upd H4 E1 (.lst []) = H5 := ⟨_, rfl⟩
    obtain ⟨s5, hE1⟩ := nw eE zE
    refine lc_list (K := K) (a := l) (xs := ps.map fun z => V.ref z.1) (fun i H' => Same H4 H' ∧ ∃ ws : List V, H' E1 = some (.lst ws) ∧ ws.length ≤ i ∧ Fa2 (PrAt H5 H') ws ((ps.map (·.2)).take i |>.filter fun e => decide (0 < e.2))) ⟨by rw [eE]; exact s5, [], by rw [eE]; exact hE1, Nat.le_refl _, Fa2.nil⟩ (fun i H' _ h => SqL.of (h.1 _ _ hl)) ?_ ?_
    · rintro i v H' hv ⟨s6, ws, hE, hwl, hws⟩
      rw [List.getElem?_map, Option.map_eq_some_iff] at hv
      obtain ⟨z, hz, rfl⟩ := hv
      have hil : i < ps.length := (List.getElem?_eq_some_iff.mp hz).1
      have ht := s6 _ _ (hps z (List.mem_of_getElem? hz))
      have hts : (ps.map (·.2)).take (i + 1) = (ps.map (·.2)).take i ++ [z.2] := by
        rw [List.take_add_one, List.getElem?_map, hz]
        rfl
      refine ⟨z.1, _, rfl, SqT.of ht, rfl, _, _, rfl, _, _, rfl, rfl, ?_⟩
      refine ⟨rfl, ?_⟩
      walk_at "rx"
      refine ite2 (fun hc => ?_) (fun hc => ?_)
      · have hp := of_decide_eq_true hc
        walk_at "rx"
        intro t zt
        generalize et : upd _ t _ = H7
        obtain ⟨s7, ht7⟩ := nw et zt
        have nt : t ≠ E1 := (ne_of_none hE zt).symm
        have zt5 : H5 t = none := by
          rw [← eE, upd_ne nt]
          exact s6.free zt
        refine ⟨ws, s7 _ _ hE, big _ (by omega), (s6.trans s7).put zE, ws ++ [.ref t], upd_same, by rw [List.length_append]; exact Nat.succ_le_succ hwl, ?_⟩
        rw [hts, List.filter_append, List.filter_cons_of_pos (by rw [decide_eq_true_eq]; exact hp), List.filter_nil]
        exact (hws.imp fun v e h => (h.same s7).put hE1).snoc (PrAt.put ⟨t, rfl, ht7, zt5⟩ hE1)
      · refine ⟨s6, ws, hE, by omega, ?_⟩
        rw [hts, List.filter_append, List.filter_cons_of_neg (by rw [decide_eq_true_eq]; exact fun z => hc (decide_eq_true z)), List.filter_nil, List.append_nil]
        exact hws
    · rintro H6 ⟨s6, ws, hE, hwl, hws⟩
      rw [List.length_map, show ps.length = (ps.map (·.2)).length by rw [List.length_map], List.take_length] at hws
      have s06 := s2.trans (s24.trans s6)
      have s04 := s2.trans s24
      exact k E1 H6 _ s06 (szOf_sorted D hperm hsort) ⟨ws, hE, s04.free zE, hws.imp fun v e h => h.old (s04.trans s5)⟩
end
abbrev s_home_with : Stmt := top 17
abbrev N_home_with : List Str := ["sizes", "rounds", "length", "_"]
theorem sc_home_with : FnScope N_home_with ["sizes"] (defScope s_home_with) := ⟨rfl, rfl, rfl, by decide +kernel, rfl, by decide +kernel, by decide +kernel⟩
section
variable {P : Program} {w : World} {K : PySem.W.Frag} {mg : Str → Option Value} {base : Heap}
def spHomeWith : Sp := fun vs H Q _ => ∃ (p : Addr) (L : List (Int × Int)) (b : Nat), vs = [.ref p] ∧ PrsIn H p L ∧ (∀ e ∈ L, 0 < e.1 ∧ e.1.toNat < 2 ^ b) ∧ b * L.length < 13000 ∧ b < 13000 ∧ Q (.int (homeN L)) H
theorem ok_home_with {f : Addr} {fd : FuncData} (F : Fun K "home_with" "home_with" s_home_with f fd) (B : Bi mg) (G_lcm : mg "lcm" = some (.builtin "math.lcm")) : FnOk P w K mg base CX0 2 f fd ["sizes"] spHomeWith := by
  refine F.ok sc_home_with (fun vs H Q E h => ?_) (fun cdv A outer s0 H vs Q E hr h => ?_)
  · obtain ⟨p, L, b, rfl, _⟩ := h
    rfl
  · obtain ⟨p, L, b, rfl, ⟨xs, hp, hxs⟩, hL, hb, hb1, k⟩ := h
    refine ⟨_, (pss_cons (ps_set (i := 1) sc_home_with.nd rfl (Or.inl rfl) pe_int)
    (pss_cons (ps_for PassesOwn.never rfl (pi_list (pv 0)) (pg_tup rfl (pgs_cons (pg_name (i := 2) sc_home_with.nd rfl (Or.inl rfl)) (pgs_cons (pg_name (i := 3) sc_home_with.nd rfl (Or.inl rfl)) pgs_nil)))
    (pss_one (ps_set (i := 1) sc_home_with.nd rfl (Or.inl rfl) (pe_callBfun cr_lcmW (by rfl) G_lcm (pa_cons (pv 1) (pa_cons (pv 2) pa_nil))))))
    (pss_one (ps_ret (pv 1))))), ?_⟩
    walk_at "rx"
    refine ⟨⟨_, SqL.of hp⟩, ?_⟩
    refine for_list (K := K) (a := p) (xs := xs) (fun i σ H' => H = H' ∧ ∃ (o2 o3 : Option V), σ = [some (.ref p), some (.int (homeN (L.take i))), o2, o3]) ⟨rfl, _, _, rfl⟩ (fun i σ H' _ h => by rw [← h.1]; exact SqL.of hp) ?_ ?_
    · rintro i v σ _ hv ⟨rfl, o2, o3, rfl⟩
      obtain ⟨e, he, t, rfl, ht⟩ := hxs.of hv
      have hil : i < L.length := (List.getElem?_eq_some_iff.mp he).1
      have hei := hL e (List.mem_of_getElem? he)
      refine ⟨t, _, rfl, SqT.of ht, rfl, _, _, rfl, _, _, rfl, rfl, ?_⟩
      walk_at "rx"
      have h1 := log_pow (homeN_lt hL i (by omega))
      have h2 := log_pow (Nat.le_of_lt hei.2)
      have h3 : b * i ≤ b * L.length := Nat.mul_le_mul_left b (by omega)
      refine ⟨homeN (L.take i), e.1.toNat, by rw [Int.toNat_of_nonneg (by omega)], by omega, by omega, ?_⟩
      have e2 : homeN (L.take (i + 1)) = Nat.lcm (homeN (L.take i)) e.1.toNat := by
        rw [List.take_add_one, he]
        exact homeN_snoc _ _
      rw [e2]
      exact ⟨rfl, _, _, rfl⟩
    · rintro σ _ ⟨rfl, o2, o3, rfl⟩
      rw [hxs.1, List.take_length]
      walk_at "rx"
      exact k
end
abbrev s_Rule_width : Stmt := inClass (top 34) 2
abbrev N_Rule_width : List Str := ["self"]
theorem sc_Rule_width : FnScope N_Rule_width ["self"] (defScope s_Rule_width) := ⟨rfl, rfl, rfl, by decide +kernel, rfl, by decide +kernel, by decide +kernel⟩
section
variable {P : Program} {w : World} {K : PySem.W.Frag} {mg : Str → Option Value} {base : Heap}
def spWidth (C : Addr) : Sp := fun vs H Q _ => ∃ (p : Addr) (ls : List Str) (n : Nat), vs = [.ref p] ∧ RuleAt C H p ls ∧ Rows n ls ∧ n ≤ 5000 ∧ Q (.int n) H
theorem ok_Rule_width {f C : Addr} {fd : FuncData} (F : Fun K "width" "Rule.width" s_Rule_width f fd) (B : Bi mg) (T : Rl K C) : FnOk P w K mg base CX0 2 f fd ["self"] (spWidth C) := by
  refine F.ok sc_Rule_width (fun vs H Q E h => ?_) (fun cdv A outer s H vs Q E hr h => ?_)
  · obtain ⟨p, ls, n, rfl, _⟩ := h
    rfl
  · obtain ⟨p, ls, n, rfl, ⟨dx, u, hp, hu⟩, R, hn, k⟩ := h
    refine ⟨_, (pss_one (ps_ret (pe_callB call_len_str (by rfl) B.len_ PySem.boot_len (pa_cons (pe_ix ix_tup (pe_fld (pv 0) rfl) pe_int (fun _ _ => rfl)) pa_nil)))), ?_⟩
    walk_at "rd"
    refine ⟨p, C, dx, _, _, rfl, hp, T.cl, T.nR, rfl, ?_⟩
    have hz := R.lenS (List.getElem_mem R.ne)
    refine ⟨u, _, _, _, rfl, rfl, SqT.of hu, atI_k' 0 rfl (getS R.ne), ?_⟩
    refine ⟨_, rfl, Nat.le_trans (Nat.le_of_eq hz) (Nat.le_trans hn (by decide)), ?_⟩
    rw [hz]
    exact k
end
abbrev s_Rule_height : Stmt := inClass (top 34) 3
abbrev N_Rule_height : List Str := ["self"]
theorem sc_Rule_height : FnScope N_Rule_height ["self"] (defScope s_Rule_height) := ⟨rfl, rfl, rfl, by decide +kernel, rfl, by decide +kernel, by decide +kernel⟩
section
variable {P : Program} {w : World} {K : PySem.W.Frag} {mg : Str → Option Value} {base : Heap}
def spHeight (C : Addr) : Sp := fun vs H Q _ => ∃ (p : Addr) (ls : List Str), vs = [.ref p] ∧ RuleAt C H p ls ∧ Q (.int ls.length) H
theorem ok_Rule_height {f C : Addr} {fd : FuncData} (F : Fun K "height" "Rule.height" s_Rule_height f fd) (B : Bi mg) (T : Rl K C) : FnOk P w K mg base CX0 2 f fd ["self"] (spHeight C) := by
  refine F.ok sc_Rule_height (fun vs H Q E h => ?_) (fun cdv A outer s H vs Q E hr h => ?_)
  · obtain ⟨p, ls, rfl, _⟩ := h
    rfl
  · obtain ⟨p, ls, rfl, ⟨dx, u, hp, hu⟩, k⟩ := h
    refine ⟨_, (pss_one (ps_ret (pe_callB call_len_seq (by rfl) B.len_ PySem.boot_len (pa_cons (pe_fld (pv 0) rfl) pa_nil)))), ?_⟩
    walk_at "rd"
    refine ⟨p, C, dx, _, _, rfl, hp, T.cl, T.nR, rfl, ?_⟩
    refine ⟨u, _, rfl, .inr (SqT.of hu), ?_⟩
    rw [List.length_map]
    exact k
end
abbrev s_Rule_has_rung : Stmt := inClass (top 34) 7
abbrev N_Rule_has_rung : List Str := ["self", "row", "post"]
theorem sc_Rule_has_rung : FnScope N_Rule_has_rung ["self", "row", "post"] (defScope s_Rule_has_rung) := ⟨rfl, rfl, rfl, by decide +kernel, rfl, by decide +kernel, by decide +kernel⟩
section
variable {P : Program} {w : World} {K : PySem.W.Frag} {mg : Str → Option Value} {base : Heap}
def spHasRung (C : Addr) : Sp := fun vs H Q _ => ∃ (p : Addr) (r q : Int) (n : Nat) (ls : List Str) (z : Str), vs = [.ref p, .int r, .int q] ∧ RuleAt C H p ls ∧ Rows n ls ∧ n ≤ 5000 ∧ 0 ≤ r ∧ 0 ≤ q ∧ ls[(r % (ls.length : Int)).toNat]? = some z ∧ Q (.bl (rungB z q)) H
theorem ok_Rule_has_rung {f C : Addr} {fd : FuncData} (F : Fun K "has_rung" "Rule.has_rung" s_Rule_has_rung f fd) (B : Bi mg) (T : Rl K C) (D_check_number : Df P w K mg base "check_number" 2 ["number"] spCheckNumber) (D_check_half_post : Df P w K mg base "check_half_post" 2 ["post"] spCheckHalf) (P_width : Pr P w K mg base C "width" 2 (spWidth C)) (P_height : Pr P w K mg base C "height" 2 (spHeight C)) : FnOk P w K mg base CX0 4 f fd ["self", "row", "post"] (spHasRung C) := by
  refine F.ok sc_Rule_has_rung (fun vs H Q E h => ?_) (fun cdv A outer s H vs Q E hr h => ?_)
  · obtain ⟨p, r, q, n, ls, z, rfl, _⟩ := h
    rfl
  · obtain ⟨p, r, q, n, ls, z, rfl, R, W, hn, hr0, hq0, hz, k⟩ := h
    refine ⟨_, (pss_cons (ps_expr (pe_df D_check_number (hr.mono (by first | decide | omega)) (by rfl) (pa_cons (pv 1) pa_nil)))
    (pss_cons (ps_expr (pe_df D_check_half_post (hr.mono (by first | decide | omega)) (by rfl) (pa_cons (pv 2) pa_nil)))
    (pss_one (ps_ret (pe_cmpR op_eq (pe_ix ix_str (pe_ix ix_tup (pe_fld (pv 0) rfl) (pe_op op_mod (pv 1) (pe_pr (pv 0) P_height (hr.mono (by first | decide | omega)) rfl)) (fun _ _ => rfl)) (pe_op op_mod (pv 2) (pe_pr (pv 0) P_width (hr.mono (by first | decide | omega)) rfl)) (fun _ _ => rfl)) pe_str (nomark _)))))), ?_⟩
    obtain ⟨dx, u, hp, hu⟩ := id R
    have hzm : z ∈ ls := List.mem_of_getElem? hz
    have hzn : (tl z).length = n := W.len z hzm
    have h0 := W.pos
    have hl0 := W.ne
    have hzl : z.length ≤ sizeLine := by rw [len_tl, hzn]; exact Nat.le_trans hn (by decide)
    have e : (((r % (ls.length : Int)).toNat : Nat) : Int) = r % (ls.length : Int) := Int.toNat_of_nonneg (Int.emod_nonneg r (by omega))
    have iz : atI (ls.map V.str) (r % (ls.length : Int)) = some (V.str z) := by
      rw [← e]
      exact atI_nat (by rw [List.getElem?_map, hz]; rfl)
    have ic : atI z.cps.toList (q % (n : Int)) = some (sg (tl z) q) := by
      have x := atI_sg (l := tl z) (by omega) q
      rw [hzn] at x
      exact x
    have pl : (0 : Int) < (ls.length : Int) := by omega
    have pn : (0 : Int) < (n : Int) := by omega
    walk_at "rd"
    try (refine ⟨r, rfl, hr0, ?_⟩; walk_at "rd")
    try (refine ⟨q, rfl, hq0, ?_⟩; walk_at "rd")
    refine ⟨p, C, dx, _, _, rfl, hp, T.cl, T.nR, rfl, ?_⟩
    walk_at "rd"
    refine ⟨p, dx, _, rfl, hp, p, ls, rfl, R, ?_⟩
    walk_at "rd"
    refine ⟨u, _, _, _, rfl, rfl, SqT.of hu, iz, ?_⟩
    walk_at "rd"
    refine ⟨p, dx, _, rfl, hp, p, ls, n, rfl, R, W, hn, ?_⟩
    walk_at "rd"
    refine ⟨_, _, _, rfl, rfl, hzl, ic, ?_⟩
    walk_at "rd"
    exact k
end
abbrev s_past_row_walks : Stmt := top 19
abbrev N_past_row_walks : List Str := ["rule", "n", "row", "post"]
theorem sc_past_row_walks : FnScope N_past_row_walks ["rule", "n", "row", "post"] (defScope s_past_row_walks) := ⟨rfl, rfl, rfl, by decide +kernel, rfl, by decide +kernel, by decide +kernel⟩
section
variable {P : Program} {w : World} {K : PySem.W.Frag} {mg : Str → Option Value} {base : Heap}
def spPast (C : Addr) : Sp := fun vs H Q _ => ∃ (p : Addr) (sz q : Int) (r n : Nat) (ls : List Str), vs = [.ref p, .int sz, .int r, .int q] ∧ RuleAt C H p ls ∧ Rows n ls ∧ n ≤ 5000 ∧ 0 ≤ q ∧ Q (.int (cross (rowAt ls r) sz q)) H
theorem cross_up {z : Str} {n q : Int} (h1 : decide (q + 1 < n) = true) (h2 : rungB z q = true) : cross z n q = q + 1 := by
  unfold cross
  rw [h1, h2]
  rfl
theorem cross_dn {z : Str} {n q : Int} (h1 : (decide (q + 1 < n) && rungB z q) = false) (h2 : 0 < q) (h3 : rungB z (q - 1) = true) : cross z n q = q - 1 := by
  unfold cross
  rw [h1, h3, decide_eq_true h2]
  rfl
theorem cross_no {z : Str} {n q : Int} (h1 : (decide (q + 1 < n) && rungB z q) = false) (h2 : ¬ (0 < q ∧ rungB z (q - 1) = true)) : cross z n q = q := by
  unfold cross
  rw [h1, if_neg (by decide), if_neg]
  intro h
  rw [Bool.and_eq_true, decide_eq_true_eq] at h
  exact h2 h
theorem ok_past_row_walks {f C : Addr} {fd : FuncData} (F : Fun K "_past_row" "_past_row" s_past_row_walks f fd) (B : Bi mg) (E_has_rung : Me P w K mg base C "has_rung" 4 ["self", "row", "post"] (spHasRung C)) : FnOk P w K mg base CX0 5 f fd ["rule", "n", "row", "post"] (spPast C) := by
  refine F.ok sc_past_row_walks (fun vs H Q E h => ?_) (fun cdv A outer s0 H vs Q E hr h => ?_)
  · obtain ⟨p, sz, q, r, n, ls, rfl, _⟩ := h
    rfl
  · obtain ⟨p, sz, q, r, n, ls, rfl, R, W, hn, hq, k⟩ := h
    refine ⟨_, (pss_cons (ps_if (PW.pt (pw_and (pt_cmpR op_lt (pe_op op_add (pv 3) pe_int) (pv 1) (nomark _)) (pw_and1 (pt_val (pe_me (pv 0) E_has_rung (hr.mono (by first | decide | omega)) (pa_cons (pv 2) (pa_cons (pv 3) pa_nil)))))))
    (pss_one (ps_ret (pe_op op_add (pv 3) pe_int)))
    pss_nil)
    (pss_cons (ps_if (PW.pt (pw_and (pt_cmpR op_gt (pv 3) pe_int (nomark _)) (pw_and1 (pt_val (pe_me (pv 0) E_has_rung (hr.mono (by first | decide | omega)) (pa_cons (pv 2) (pa_cons (pe_op op_sub (pv 3) pe_int) pa_nil)))))))
    (pss_one (ps_ret (pe_op op_sub (pv 3) pe_int)))
    pss_nil)
    (pss_one (ps_ret (pv 3))))), ?_⟩
    obtain ⟨dx, u, hp, _⟩ := id R
    have hr0 : (0 : Int) ≤ (r : Int) := Int.natCast_nonneg _
    have hz := rowAt_get W.ne r
    generalize rowAt ls r = z at hz k
    walk_at "rd"
    refine cutAnd (fun σ H' => H = H' ∧ σ = [some (.ref p), some (.int sz), some (.int r), some (.int q)] ∧ (decide (q + 1 < sz) && rungB z q) = false) ?_ ?_ ?_
    · rintro σ _ ⟨rfl, rfl, h1⟩
      walk_at "rd"
      refine ite2 (fun hc => ?_) (fun hc => ?_)
      · have hq0 := of_decide_eq_true hc
        walk_at "rd"
        refine ⟨p, dx, _, rfl, hp, lkR _ (by decide +kernel), ?_⟩
        walk_at "rd"
        refine ⟨p, r, q - 1, n, ls, z, rfl, R, W, hn, hr0, by omega, hz, ?_⟩
        walk_at "rd"
        refine ite2 (fun hb => ?_) (fun hb => ?_)
        · rw [cross_dn h1 hq0 hb] at k
          walk_at "rd"
          exact k
        · rw [cross_no h1 (fun h => hb h.2)] at k
          walk_at "rd"
          exact k
      · rw [cross_no h1 (fun h => hc (decide_eq_true h.1))] at k
        walk_at "rd"
        exact k
    · intro hT hc
      walk_at "rd"
      refine ⟨p, dx, _, rfl, hp, lkR _ (by decide +kernel), ?_⟩
      walk_at "rd"
      refine ⟨p, r, q, n, ls, z, rfl, R, W, hn, hr0, hq, hz, ?_⟩
      walk_at "rd"
      refine ite2 (fun hb => ?_) (fun hb => ?_)
      · rw [cross_up hc hb] at k
        walk_at "rd"
        exact k
      · exact hT _ _ ⟨rfl, rfl, by rw [Bool.eq_false_iff.mpr hb, Bool.and_false]⟩
    · intro hc
      exact ⟨rfl, rfl, by rw [hc]; rfl⟩
end
abbrev s__way : Stmt := top 21
abbrev N__way : List Str := ["rule", "n", "post", "rows", "way", "row"]
theorem sc__way : FnScope N__way ["rule", "n", "post", "rows"] (defScope s__way) := ⟨rfl, rfl, rfl, by decide +kernel, rfl, by decide +kernel, by decide +kernel⟩
section
variable {P : Program} {w : World} {K : PySem.W.Frag} {mg : Str → Option Value} {base : Heap}
def spWay (C : Addr) : Sp := fun vs H Q _ => ∃ (p : Addr) (sz q : Int) (d n : Nat) (ls : List Str), vs = [.ref p, .int sz, .int q, .int d] ∧ RuleAt C H p ls ∧ Rows n ls ∧ n ≤ 5000 ∧ 0 ≤ q ∧ q < sz ∧ d ≤ 100000 ∧
  ∀ (t : Addr) (H' : Hp), Same H H' → H t = none → H' t = some (.lst ((way ls sz q (d + 1)).map V.int)) → Q (.ref t) H'
theorem ok__way {f C : Addr} {fd : FuncData} (F : Fun K "_way" "_way" s__way f fd) (B : Bi mg) (D_past_row_walks : Df P w K mg base "past_row_walks" 5 ["rule", "n", "row", "post"] (spPast C)) : FnOk P w K mg base CX0 6 f fd ["rule", "n", "post", "rows"] (spWay C) := by
  refine F.ok sc__way (fun vs H Q E h => ?_) (fun cdv A outer s0 H vs Q E hr h => ?_)
  · obtain ⟨p, sz, q, d, n, ls, rfl, _⟩ := h
    rfl
  · obtain ⟨p, sz, q, d, n, ls, rfl, R, W, hn, h0, h1, hd, k⟩ := h
    refine ⟨_, (pss_cons (ps_set (i := 4) sc__way.nd rfl (Or.inl rfl) (pe_lst (pa_cons (pv 2) pa_nil)))
    (pss_cons (ps_for PassesOwn.never rfl (pi_range1 (by rfl) B.range_ (pa_cons (pv 3) pa_nil)) (pg_name (i := 5) sc__way.nd rfl (Or.inl rfl))
    (pss_one (ps_expr (pe_bm PySem.F.plainAttrs_list PySem.F.slot_list_append PySem.F.type_list_append mt_append (pv 4) (pa_cons (pe_df D_past_row_walks (hr.mono (by first | decide | omega)) (by rfl) (pa_cons (pv 0) (pa_cons (pv 1) (pa_cons (pv 5) (pa_cons (pe_ix ix_list (pv 4) (pv 5) (fun _ _ => rfl)) pa_nil))))) pa_nil)))))
    (pss_one (ps_ret (pv 4))))), ?_⟩
    have hd62 : (d : Int) < 2 ^ 62 := by omega
    walk_at "rd"
    intro D zD
    generalize eD : upd _ D _ = H1
    obtain ⟨s1, hD⟩ := nw eD zD
    walk_at "rd"
    refine for_range (lo := 0) (n := (d : Int).toNat) (fun i σ H' => ∃ o, σ = [some (.ref p), some (.int sz), some (.int q), some (.int d), some (.ref D), o] ∧ Same H H' ∧ H' D = some (.lst ((way ls sz q (i + 1)).map V.int))) ⟨none, rfl, s1, hD⟩ ?_ ?_
    · rintro i σ H' hi ⟨o, rfl, s2, hD'⟩
      have hw : (way ls sz q (i + 1))[i]? = some (wk ls sz q i) := way_get (Nat.lt_succ_self i)
      have ix : atI ((way ls sz q (i + 1)).map V.int) (0 + (i : Int)) = some (V.int (wk ls sz q i)) := atI_k' i (by omega) (by rw [List.getElem?_map, hw]; rfl)
      walk_at "rd"
      rw [Int.zero_add]
      refine ⟨p, sz, _, i, n, ls, rfl, R.same s2, W, hn, (wk_on h0 h1 i).1, ?_⟩
      walk_at "rd"
      refine ⟨D, _, _, rfl, rfl, hD', by rw [List.length_map, way_len]; exact Nat.lt_of_le_of_lt (show i + 1 ≤ 100000 by omega) (by decide), ?_⟩
      refine ⟨_, rfl, s2.put zD, ?_⟩
      rw [upd_same, way_add ls sz q (i + 1), List.map_append]
      rfl
    · rintro σ H' ⟨o, rfl, s2, hD'⟩
      walk_at "rd"
      exact k D H' s2 zD hD'
end
abbrev s_round_of : Stmt := top 22
abbrev N_round_of : List Str := ["rule", "n", "post"]
theorem sc_round_of : FnScope N_round_of ["rule", "n"] (defScope s_round_of) := ⟨rfl, rfl, rfl, by decide +kernel, rfl, by decide +kernel, by decide +kernel⟩
section
variable {P : Program} {w : World} {K : PySem.W.Frag} {mg : Str → Option Value} {base : Heap}
/-- where the walkers from all posts come out -/
def ends (ls : List Str) (N : Nat) : List Int := (List.range N).map fun j : Nat => wk ls (N : Int) (j : Int) ls.length
theorem ends_len (ls : List Str) (N : Nat) : (ends ls N).length = N := by unfold ends; simp
theorem ends_get {ls : List Str} {N j : Nat} (h : j < N) : (ends ls N)[j]? = some (wk ls (N : Int) (j : Int) ls.length) := by
  unfold ends
  rw [List.getElem?_map, List.getElem?_range h]
  rfl
def spRound (C : Addr) : Sp := fun vs H Q _ => ∃ (p : Addr) (N n : Nat) (ls : List Str), vs = [.ref p, .int N] ∧ RuleAt C H p ls ∧ Rows n ls ∧ n ≤ 5000 ∧ ls.length ≤ 5000 ∧ 1 ≤ N ∧ N ≤ 5000 ∧
  ∀ (t : Addr) (H' : Hp), Same H H' → H t = none → H' t = some (.lst ((ends ls N).map V.int)) → Q (.ref t) H'
theorem ok_round_of {f C : Addr} {fd : FuncData} (F : Fun K "round_of" "round_of" s_round_of f fd) (B : Bi mg) (D_check_size : Df P w K mg base "check_size" 2 ["n"] spCheckSize) (D_way : Df P w K mg base "_way" 6 ["rule", "n", "post", "rows"] (spWay C)) (P_height : Pr P w K mg base C "height" 2 (spHeight C)) : FnOk P w K mg base CX0 7 f fd ["rule", "n"] (spRound C) := by
  refine F.ok sc_round_of (fun vs H Q E h => ?_) (fun cdv A outer s0 H vs Q E hr h => ?_)
  · obtain ⟨p, N, n, ls, rfl, _⟩ := h
    rfl
  · obtain ⟨p, N, n, ls, rfl, R, W, hn, hl, hN, hN2, k⟩ := h
    refine ⟨_, (pss_cons (ps_expr (pe_df D_check_size (hr.mono (by first | decide | omega)) (by rfl) (pa_cons (pv 1) pa_nil)))
    (pss_one (ps_ret (pe_lc (own := [("post", 2)]) (g := gName 2) (tt := tYes) rfl sc_round_of.nd (pi_range1 (by rfl) B.range_ (pa_cons (pv 1) pa_nil)) (blkOk_by (N := N_round_of) (sc := defScope s_round_of) (by decide +kernel)) (fun _ _ _ _ _ => pg_name (i := 2) sc_round_of.nd rfl (Or.inl rfl)) (fun _ _ _ _ _ => pts_nil) (fun _ _ _ _ _ => (pe_ix (show IxR _ (rIxL K) from ix_list) (pe_df D_way (hr.mono (by first | decide | omega)) (by rfl) (pa_cons (pv 0) (pa_cons (pv 1) (pa_cons (pv 2) (pa_cons (pe_pr (pv 0) P_height (hr.mono (by first | decide | omega)) rfl) pa_nil))))) (pe_un un_neg pe_int) (fun _ _ => rfl))))))), ?_⟩
    have hN62 : (N : Int) < 2 ^ 62 := by omega
    walk_at "rd"
    try (refine ⟨(N : Int), rfl, by omega, ?_⟩; walk_at "rd")
    intro D hD
    refine lc_range (lo := 0) (n := N) (fun i H' => Same H H' ∧ H' D = some (.lst (((List.range i).map fun j : Nat => wk ls (N : Int) (j : Int) ls.length).map V.int))) ⟨L2.Same.upd hD, upd_same⟩ ?_ ?_
    · rintro i H' hi ⟨sm, hD'⟩
      refine ⟨rfl, ?_⟩
      have R' := R.same sm
      obtain ⟨dx, u, hp, _⟩ := id R'
      walk_at "rd"
      refine ⟨p, dx, _, rfl, hp, p, ls, rfl, R', ?_⟩
      walk_at "rd"
      refine ⟨p, N, 0 + (i : Int), ls.length, n, ls, rfl, R', W, hn, by omega, by omega, by omega, fun t H2 s2 zt ht => ?_⟩
      have it : atI ((way ls (N : Int) (0 + (i : Int)) (ls.length + 1)).map V.int) (-1) = some (V.int (wk ls (N : Int) (i : Int) ls.length)) := atI_back (by
        rw [List.length_map, way_len, Nat.add_sub_cancel, List.getElem?_map, way_get (Nat.lt_succ_self _), Int.zero_add]
        rfl)
      walk_at "rd"
      refine ⟨_, s2 _ _ hD', by rw [List.length_map, List.length_map, List.length_range]; exact Nat.lt_of_lt_of_le hi (Nat.le_trans hN2 (by decide)), (sm.trans s2).put hD, ?_⟩
      rw [upd_same, List.range_succ, List.map_append, List.map_append]
      rfl
    · rintro H' ⟨sm, hD'⟩
      exact k D H' sm hD hD'
end
abbrev s__ring_from : Stmt := top 24
abbrev N__ring_from : List Str := ["after", "post", "ring"]
theorem sc__ring_from : FnScope N__ring_from ["after", "post"] (defScope s__ring_from) := ⟨rfl, rfl, rfl, by decide +kernel, rfl, by decide +kernel, by decide +kernel⟩
section
variable {P : Program} {w : World} {K : PySem.W.Frag} {mg : Str → Option Value} {base : Heap}
def spRingFrom : Sp := fun vs H Q _ => ∃ (t : Addr) (q : Int) (N : Nat) (f : Int → Int), vs = [.ref t, .int q] ∧ Cyc N f ∧ N ≤ 5000 ∧ H t = some (.lst (((List.range N).map fun j : Nat => f (j : Int)).map V.int)) ∧ 0 ≤ q ∧ q < (N : Int) ∧
  ∀ (r : Addr) (H' : Hp), Same H H' → H r = none → H' r = some (.lst ((ringOf f N q).map V.int)) → Q (.ref r) H'
theorem ok__ring_from {f : Addr} {fd : FuncData} (F : Fun K "_ring_from" "_ring_from" s__ring_from f fd) (B : Bi mg) : FnOk P w K mg base CX0 2 f fd ["after", "post"] spRingFrom := by
  refine F.ok sc__ring_from (fun vs H Q E h => ?_) (fun cdv A outer s0 H vs Q E hr h => ?_)
  · obtain ⟨t, q, N, g, rfl, _⟩ := h
    rfl
  · obtain ⟨t, q, N, g, rfl, C, hN, ht, q0, q1, k⟩ := h
    refine ⟨_, (pss_cons (ps_set (i := 2) sc__ring_from.nd rfl (Or.inl rfl) (pe_lst (pa_cons (pv 1) pa_nil)))
    (pss_cons (ps_while PassesOwn.never (pt_cmpR op_ne (pe_ix ix_list (pv 0) (pe_ix ix_list (pv 2) (pe_un un_neg pe_int) (fun _ _ => rfl)) (fun _ _ => rfl)) (pv 1) (nomark _))
    (pss_one (ps_expr (pe_bm PySem.F.plainAttrs_list PySem.F.slot_list_append PySem.F.type_list_append mt_append (pv 2) (pa_cons (pe_ix ix_list (pv 0) (pe_ix ix_list (pv 2) (pe_un un_neg pe_int) (fun _ _ => rfl)) (fun _ _ => rfl)) pa_nil)))))
    (pss_one (ps_ret (pv 2))))), ?_⟩
    have lp := C.pos q0 q1
    have ix : ∀ y : Int, 0 ≤ y → y < (N : Int) → atI (((List.range N).map fun j : Nat => g (j : Int)).map V.int) y = some (V.int (g y)) := fun y h0 h1 => by
      obtain ⟨j, rfl⟩ := Int.eq_ofNat_of_zero_le h0
      exact atI_k' j rfl (by rw [List.getElem?_map, List.getElem?_map, List.getElem?_range (by omega)]; rfl)
    walk_at "rx"
    intro D zD
    generalize eD : upd _ D _ = H1
    obtain ⟨s1, hD⟩ := nw eD zD
    walk_at "rx"
    refine ⟨fun m σ H' => ∃ i : Nat, m = ringLen g N q - i ∧ i < ringLen g N q ∧ σ = [some (.ref t), some (.int q), some (.ref D)] ∧ Same H H' ∧ H' D = some (.lst (((ringOf g N q).take (i + 1)).map V.int)), ⟨_, 0, rfl, lp.1, rfl, s1, by rw [hD, ring_take_succ lp.1]; rfl⟩, ?_⟩
    rintro m σ H' ⟨i, rfl, hi, rfl, s2, hD'⟩
    have ht' := s2 _ _ ht
    have hlen : ((ringOf g N q).take (i + 1)).length = i + 1 := by rw [List.length_take, ring_len]; omega
    have hx : atI (((ringOf g N q).take (i + 1)).map V.int) (-1) = some (V.int (itG g i q)) := atI_back (by
      rw [List.length_map, hlen, List.getElem?_map, Nat.add_sub_cancel, List.getElem?_take_of_lt (by omega), ring_get hi]
      rfl)
    have c := C.it q0 q1 i
    have hy := ix _ c.1 c.2
    walk_at "rx"
    refine wq_ite (fun hc => ?_) (fun hc => ?_)
    · have hlt : i + 1 < ringLen g N q := by
        refine Nat.lt_of_le_of_ne hi fun e => ?_
        have := (C.len q0 q1).2.2.1
        rw [← e] at this
        rw [decide_eq_true (show V.int (g (itG g i q)) = V.int q from congrArg V.int this)] at hc
        cases hc
      walk_at "rx"
      refine ⟨D, _, _, rfl, rfl, hD', by rw [List.length_map, hlen]; exact Nat.lt_of_lt_of_le hlt (Nat.le_trans lp.2 (Nat.le_trans hN (by decide))), ?_⟩
      refine ⟨_, ?_, i + 1, rfl, hlt, rfl, s2.put zD, ?_⟩
      · omega
      · rw [upd_same, ring_take_succ hlt, List.map_append]
        rfl
    · have he : i + 1 = ringLen g N q := by
        refine Nat.le_antisymm hi (Nat.le_of_not_lt fun hlt => ?_)
        have := (C.len q0 q1).2.2.2 (i + 1) (Nat.succ_pos i) hlt
        rw [decide_eq_false (fun e : V.int (g (itG g i q)) = V.int q => this (by injection e))] at hc
        cases hc
      rw [he, ring_all] at hD'
      walk_at "rx"
      exact k D H' s2 zD hD'
end
abbrev s_rings_of : Stmt := top 25
abbrev N_rings_of : List Str := ["rule", "n", "after", "rings", "seen", "post", "ring", "at"]
theorem sc_rings_of : FnScope N_rings_of ["rule", "n"] (defScope s_rings_of) := ⟨rfl, rfl, rfl, by decide +kernel, rfl, by decide +kernel, by decide +kernel⟩
section
variable {P : Program} {w : World} {K : PySem.W.Frag} {mg : Str → Option Value} {base : Heap}
def spRingsOf (C : Addr) : Sp := fun vs H Q _ => ∃ (p : Addr) (N n : Nat) (ls : List Str), vs = [.ref p, .int N] ∧ RuleAt C H p ls ∧ Rows n ls ∧ n ≤ 5000 ∧ ls.length ≤ 5000 ∧ 1 ≤ N ∧ N ≤ 4000 ∧
  ∀ (t : Addr) (H' : Hp), Same H H' → RgsAt H H' t (ringsL (roundF ls (N : Int)) N) → Q (.ref t) H'
theorem ok_rings_of {f C : Addr} {fd : FuncData} (F : Fun K "rings_of" "rings_of" s_rings_of f fd) (B : Bi mg) (D_round_of : Df P w K mg base "round_of" 7 ["rule", "n"] (spRound C)) (D_ring_from : Df P w K mg base "_ring_from" 2 ["after", "post"] spRingFrom) : FnOk P w K mg base CX0 8 f fd ["rule", "n"] (spRingsOf C) := by
  refine F.ok sc_rings_of (fun vs H Q E h => ?_) (fun cdv A outer s0 H vs Q E hr h => ?_)
  · obtain ⟨p, N, n, ls, rfl, _⟩ := h
    rfl
  · obtain ⟨p, N, n, ls, rfl, R, W, hn, hl, hN1, hN, k⟩ := h
    refine ⟨_, (pss_cons (ps_set (i := 2) sc_rings_of.nd rfl (Or.inl rfl) (pe_df D_round_of (hr.mono (by first | decide | omega)) (by rfl) (pa_cons (pv 0) (pa_cons (pv 1) pa_nil))))
    (pss_cons (ps_set (i := 3) sc_rings_of.nd rfl (Or.inl rfl) (pe_lst pa_nil))
    (pss_cons (ps_set (i := 4) sc_rings_of.nd rfl (Or.inl rfl) (pe_callTy0 cr_set0 (by rfl) B.set_ (by decide +kernel)))
    (pss_cons (ps_for PassesOwn.never rfl (pi_range1 (by rfl) B.range_ (pa_cons (pv 1) pa_nil)) (pg_name (i := 5) sc_rings_of.nd rfl (Or.inl rfl))
    (pss_one (ps_if (pt_cmpR or_snotin (pv 5) (pv 4) (by rfl))
    (pss_cons (ps_set (i := 6) sc_rings_of.nd rfl (Or.inl rfl) (pe_df D_ring_from (hr.mono (by first | decide | omega)) (by rfl) (pa_cons (pv 2) (pa_cons (pv 5) pa_nil))))
    (pss_cons (ps_for PassesOwn.never rfl (pi_list (pv 6)) (pg_name (i := 7) sc_rings_of.nd rfl (Or.inl rfl))
    (pss_one (ps_expr (pe_sadd (pv 4) (pa_cons (pv 7) pa_nil)))))
    (pss_one (ps_expr (pe_bm PySem.F.plainAttrs_list PySem.F.slot_list_append PySem.F.type_list_append mt_append (pv 3) (pa_cons (pv 6) pa_nil))))))
    pss_nil)))
    (pss_one (ps_ret (pv 3))))))), ?_⟩
    have hN62 : (N : Int) < 2 ^ 62 := by omega
    have big : ∀ x : Nat, x ≤ 10000 → x < sizeLine := fun x hx => Nat.lt_of_le_of_lt hx (by decide)
    have CY := round_cyc W N
    walk_at "rx"
    refine ⟨p, N, n, ls, rfl, R, W, hn, hl, hN1, by omega, fun af H1 s1 zaf haf => ?_⟩
    have haf : H1 af = some (.lst (((List.range N).map fun j : Nat => roundF ls (N : Int) (j : Int)).map V.int)) := haf
    generalize roundF ls (N : Int) = g at CY k haf
    walk_at "rx"
    intro D zD
    obtain ⟨H2, eD⟩ : ∃ H2, upd H1 D (.lst []) = H2 := ⟨_, rfl⟩
    rw [eD]
    obtain ⟨s2, hD2⟩ := nw eD zD
    have zD0' := zD
    walk_at "rx"
    intro S zS
    generalize eS : upd _ S _ = H3
    obtain ⟨s3, hS3⟩ := nw eS zS
    have nDS : D ≠ S := ne_of_none hD2 zS
    have zS1 : H1 S = none := s2.free zS
    have dom : ∀ {H' : Hp} {x : Addr} {vs : List V}, Same H1 H' → H' D = some (.lst vs) → H' x = none → H2 x = none := fun {H' x vs} s h z => by
      rw [← eD, upd_ne (ne_of_none h z).symm]
      exact s.free z
    walk_at "rx"
    refine for_range (lo := 0) (n := N) (fun i σ H' => ∃ (o5 o6 o7 : Option V), σ = [some (.ref p), some (.int N), some (.ref af), some (.ref D), some (.ref S), o5, o6, o7] ∧ Same H1 H' ∧ (∃ (Sf : Int → Bool) (m : Nat), H' S = some (SetO w S Sf m) ∧ m ≤ (((hdU g N i).map (ringOf g N)).flatten).length ∧ ∀ z : Nat, z < N → Sf (z : Int) = knR g N i z) ∧ ∃ ws : List V, H' D = some (.lst ws) ∧ ws.length ≤ i ∧ Fa2 (fun v e => RgAt H2 H' v e ∧ v ≠ .ref S) ws ((hdU g N i).map (ringOf g N)))
      ⟨_, _, _, rfl, s2.trans s3, ⟨_, _, hS3, Nat.zero_le _, fun z _ => (knR_zero g N z).symm⟩, [], s3 _ _ hD2, Nat.le_refl _, Fa2.nil⟩ ?_ ?_
    · rintro i σ H' hi ⟨o5, o6, o7, rfl, s', ⟨Sf, m, hS', hm, hSf⟩, ws, hD', hwl, hws⟩
      have hsi := hSf i hi
      have i0 : (0 : Int) ≤ (i : Int) := by omega
      have i1 : (i : Int) < (N : Int) := by omega
      walk_at "rx"
      rw [Int.zero_add]
      refine ⟨_, S, Sf, m, rfl, rfl, hS', ?_⟩
      refine ⟨_, rfl, ?_⟩
      rw [hsi]
      cases eK : knR g N i i with
      | true =>
        have hh : isHead g N (i : Int) = false := by rw [CY.kn_head hi, eK]; rfl
        refine ⟨_, _, _, rfl, s', ⟨Sf, m, hS', by rw [hdU_f hh]; exact hm, fun z hz => ?_⟩, ws, hD', by omega, by rw [hdU_f hh]; exact hws⟩
        rw [hSf z hz, CY.kn_succ hi, eK]
        simp
      | false =>
        have hh : isHead g N (i : Int) = true := by rw [CY.kn_head hi, eK]; rfl
        have lp := CY.pos i0 i1
        walk_at "rx"
        refine ⟨af, (i : Int), N, g, rfl, CY, by omega, s' _ _ haf, i0, i1, fun r H4 s4 zr hr4 => ?_⟩
        have hrS : r ≠ S := (ne_of_none hS' zr).symm
        have hrD : r ≠ D := (ne_of_none hD' zr).symm
        have hS4 := s4 _ _ hS'
        have hD4 := s4 _ _ hD'
        have s14 := s'.trans s4
        walk_at "rx"
        refine ⟨⟨_, SqL.of hr4⟩, ?_⟩
        refine for_list (K := K) (a := r) (xs := (ringOf g N (i : Int)).map V.int) (fun j σ H5 => ∃ (o7 : Option V), σ = [some (.ref p), some (.int N), some (.ref af), some (.ref D), some (.ref S), some (.int (i : Int)), some (.ref r), o7] ∧ Same H1 H5 ∧ (∀ b u, b ≠ S → H4 b = some u → H5 b = some u) ∧ ∃ (Sf : Int → Bool) (m' : Nat), H5 S = some (SetO w S Sf m') ∧ m' ≤ m + j ∧ ∀ z : Nat, z < N → Sf (z : Int) = (knR g N i z || ((ringOf g N (i : Int)).take j).contains (z : Int)))
          ⟨_, rfl, s14, fun b u _ h => h, Sf, m, hS4, Nat.le_refl _, fun z hz => by rw [hSf z hz, List.take_zero, List.contains_nil, Bool.or_false]⟩ (fun j σ H5 _ h => by
            obtain ⟨_, _, _, h, _⟩ := h
            exact SqL.of (h r _ hrS hr4)) ?_ ?_
        · rintro j v σ H5 hv ⟨o7', rfl, s5, keep, Sf', m', hS5, hm', hSf'⟩
          have hjl : j < ringLen g N (i : Int) := by
            have := (List.getElem?_eq_some_iff.mp hv).1
            rw [List.length_map, ring_len] at this
            exact this
          rw [List.getElem?_map, ring_get hjl] at hv
          obtain rfl := Option.some.inj hv
          have c := CY.it i0 i1 j
          have fl := CY.hdU_len (show i + 1 ≤ N by omega)
          rw [hdU_t hh, List.map_append, List.flatten_append, List.length_append] at fl
          have fl2 : ([ringOf g N (i : Int)].flatten).length = ringLen g N (i : Int) := by rw [List.flatten_cons, List.flatten_nil, List.append_nil, ring_len]
          rw [List.map_cons, List.map_nil, fl2] at fl
          walk_at "rx"
          refine ⟨⟨S, Sf', _, rfl, hS5⟩, ?_⟩
          walk_at "rx"
          refine ⟨S, _, Sf', _, rfl, rfl, hS5, by show m' + 1 < 4096; omega, ?_⟩
          refine ⟨_, rfl, s5.put zS1, fun b u hb h => by rw [upd_ne hb]; exact keep b u hb h, _, _, upd_same, by split <;> omega, fun z hz => ?_⟩
          rw [hSf' z hz, ring_take_succ hjl, Bool.eq_iff_iff, Bool.or_eq_true, Bool.or_eq_true, Bool.or_eq_true, decide_eq_true_eq, List.contains_iff_mem, List.contains_iff_mem, List.mem_append, List.mem_singleton]
          constructor
          · rintro ((h | h) | h)
            · exact .inl h
            · exact .inr (.inl h)
            · exact .inr (.inr h)
          · rintro (h | h | h)
            · exact .inl (.inl h)
            · exact .inl (.inr h)
            · exact .inr h
        · rintro σ H5 ⟨o7', rfl, s5, keep, Sf', m', hS5, hm', hSf'⟩
          rw [List.length_map, ring_len] at hm' hSf'
          rw [ring_all] at hSf'
          have hD5 := keep D _ nDS hD4
          walk_at "rx"
          refine ⟨D, _, _, rfl, rfl, hD5, by exact big _ (by omega), ?_⟩
          refine ⟨_, _, _, rfl, s5.put zD0', ⟨Sf', m', by rw [upd_ne nDS.symm]; exact hS5, ?_, fun z hz => ?_⟩, ws ++ [.ref r], upd_same, by rw [List.length_append]; exact Nat.succ_le_succ hwl, ?_⟩
          · rw [hdU_t hh, List.map_append, List.flatten_append, List.length_append]
            show m' ≤ _ + ([ringOf g N (i : Int)].flatten).length
            rw [List.flatten_cons, List.flatten_nil, List.append_nil, ring_len]
            omega
          · rw [hSf' z hz, CY.kn_succ hi, eK]
            rfl
          · rw [hdU_t hh, List.map_append]
            refine (hws.imp fun v e h => ?_).snoc ?_
            · obtain ⟨⟨b, h1, h2, h3⟩, h4⟩ := h
              have nb : b ≠ S := fun z => h4 (by rw [h1, z])
              have nbD : b ≠ D := fun z => by rw [z, hD2] at h3; cases h3
              exact ⟨⟨b, h1, by rw [upd_ne nbD]; exact keep b _ nb (s4 _ _ h2), h3⟩, h4⟩
            · exact ⟨⟨r, rfl, by rw [upd_ne hrD]; exact keep r _ hrS hr4, dom s' hD' zr⟩, fun z => by cases z; exact hrS rfl⟩
    · rintro σ H' ⟨o5, o6, o7, rfl, s', _, ws, hD', hwl, hws⟩
      walk_at "rx"
      rw [hdU_all] at hws
      exact k D H' (s1.trans s') (RgsAt.old ⟨ws, hD', zD, hws.imp fun v e h => h.1.old s2⟩ s1)
end
abbrev s_ring_of : Stmt := top 26
abbrev N_ring_of : List Str := ["rule", "n", "post"]
theorem sc_ring_of : FnScope N_ring_of ["rule", "n", "post"] (defScope s_ring_of) := ⟨rfl, rfl, rfl, by decide +kernel, rfl, by decide +kernel, by decide +kernel⟩
section
variable {P : Program} {w : World} {K : PySem.W.Frag} {mg : Str → Option Value} {base : Heap}
def spRingOf (C : Addr) : Sp := fun vs H Q _ => ∃ (p : Addr) (N n : Nat) (q : Int) (ls : List Str), vs = [.ref p, .int N, .int q] ∧ RuleAt C H p ls ∧ Rows n ls ∧ n ≤ 5000 ∧ ls.length ≤ 5000 ∧ 1 ≤ N ∧ N ≤ 4000 ∧ 0 ≤ q ∧ q < (N : Int) ∧
  ∀ (r : Addr) (H' : Hp), Same H H' → H r = none → H' r = some (.lst ((ringOf (roundF ls (N : Int)) N q).map V.int)) → Q (.ref r) H'
theorem ok_ring_of {f C : Addr} {fd : FuncData} (F : Fun K "ring_of" "ring_of" s_ring_of f fd) (B : Bi mg) (D_check_size : Df P w K mg base "check_size" 2 ["n"] spCheckSize) (D_check_post : Df P w K mg base "check_post" 2 ["post", "n"] spCheckPost) (D_round_of : Df P w K mg base "round_of" 7 ["rule", "n"] (spRound C)) (D_ring_from : Df P w K mg base "_ring_from" 2 ["after", "post"] spRingFrom) : FnOk P w K mg base CX0 8 f fd ["rule", "n", "post"] (spRingOf C) := by
  refine F.ok sc_ring_of (fun vs H Q E h => ?_) (fun cdv A outer s0 H vs Q E hr h => ?_)
  · obtain ⟨p, N, n, q, ls, rfl, _⟩ := h
    rfl
  · obtain ⟨p, N, n, q, ls, rfl, R, W, hn, hl, hN1, hN, q0, q1, k⟩ := h
    refine ⟨_, (pss_cons (ps_expr (pe_df D_check_size (hr.mono (by first | decide | omega)) (by rfl) (pa_cons (pv 1) pa_nil)))
    (pss_cons (ps_expr (pe_df D_check_post (hr.mono (by first | decide | omega)) (by rfl) (pa_cons (pv 2) (pa_cons (pv 1) pa_nil))))
    (pss_one (ps_ret (pe_df D_ring_from (hr.mono (by first | decide | omega)) (by rfl) (pa_cons (pe_df D_round_of (hr.mono (by first | decide | omega)) (by rfl) (pa_cons (pv 0) (pa_cons (pv 1) pa_nil))) (pa_cons (pv 2) pa_nil))))))), ?_⟩
    have CY := round_cyc W N
    walk_at "rx"
    try (refine ⟨(N : Int), rfl, by omega, ?_⟩; walk_at "rx")
    try (refine ⟨q, (N : Int), rfl, q0, q1, ?_⟩; walk_at "rx")
    refine ⟨p, N, n, ls, rfl, R, W, hn, hl, hN1, by omega, fun af H1 s1 zaf haf => ?_⟩
    walk_at "rx"
    refine ⟨af, q, N, roundF ls (N : Int), rfl, CY, by omega, haf, q0, q1, fun r H2 s2 zr hr => ?_⟩
    exact k r H2 (s1.trans s2) (s1.free zr) hr
end
abbrev s_sizes_of : Stmt := top 27
abbrev N_sizes_of : List Str := ["rule", "n", "ring"]
theorem sc_sizes_of : FnScope N_sizes_of ["rule", "n"] (defScope s_sizes_of) := ⟨rfl, rfl, rfl, by decide +kernel, rfl, by decide +kernel, by decide +kernel⟩
section
variable {P : Program} {w : World} {K : PySem.W.Frag} {mg : Str → Option Value} {base : Heap}
def spSizesOf (C : Addr) : Sp := fun vs H Q _ => ∃ (p : Addr) (N n : Nat) (ls : List Str), vs = [.ref p, .int N] ∧ RuleAt C H p ls ∧ Rows n ls ∧ n ≤ 5000 ∧ ls.length ≤ 5000 ∧ 1 ≤ N ∧ N ≤ 4000 ∧
  ∀ (t : Addr) (H' : Hp) (L : List (Int × Int)), Same H H' → SzOf (lensC (ringsL (roundF ls (N : Int)) N)) L → PrsAt H H' t L → Q (.ref t) H'
theorem ok_sizes_of {f C : Addr} {fd : FuncData} (F : Fun K "sizes_of" "sizes_of" s_sizes_of f fd) (B : Bi mg) (D_rings_of : Df P w K mg base "rings_of" 8 ["rule", "n"] (spRingsOf C)) (D_sizes_from : Df P w K mg base "sizes_from" 2 ["counted"] spSizesFrom) : FnOk P w K mg base CX0 9 f fd ["rule", "n"] (spSizesOf C) := by
  refine F.ok sc_sizes_of (fun vs H Q E h => ?_) (fun cdv A outer s0 H vs Q E hr h => ?_)
  · obtain ⟨p, N, n, ls, rfl, _⟩ := h
    rfl
  · obtain ⟨p, N, n, ls, rfl, R, W, hn, hl, hN1, hN, k⟩ := h
    refine ⟨_, (pss_one (ps_ret (pe_df D_sizes_from (hr.mono (by first | decide | omega)) (by rfl) (pa_cons (pe_lc (own := [("ring", 2)]) (g := gName 2) (tt := tYes) rfl sc_sizes_of.nd (pi_list (pe_df D_rings_of (hr.mono (by first | decide | omega)) (by rfl) (pa_cons (pv 0) (pa_cons (pv 1) pa_nil)))) (blkOk_by (N := N_sizes_of) (sc := defScope s_sizes_of) (by decide +kernel)) (fun _ _ _ _ _ => pg_name (i := 2) sc_sizes_of.nd rfl (Or.inl rfl)) (fun _ _ _ _ _ => pts_nil) (fun _ _ _ _ _ => (pe_tup (pa_cons (pe_callB (show CallR _ _ (rLenSeq K) from call_len_seq) (by rfl) B.len_ PySem.boot_len (pa_cons (pv 2) pa_nil)) (pa_cons pe_int pa_nil))))) pa_nil)))), ?_⟩
    have big : ∀ x : Nat, x ≤ 10000 → x < sizeLine := fun x hx => Nat.lt_of_le_of_lt hx (by decide)
    walk_at "rx"
    refine ⟨p, N, n, ls, rfl, R, W, hn, hl, hN1, hN, fun t H1 s1 LN => ?_⟩
    obtain ⟨xs, ht, zt, hxs⟩ := LN
    have hxl : xs.length ≤ N := by
      rw [hxs.1]
      unfold ringsL
      rw [List.length_map]
      exact heads_len _ _
    walk_at "rx"
    refine ⟨⟨_, SqL.of ht⟩, fun D zD => ?_⟩
    obtain ⟨H2, eD⟩ : ∃ H2, upd H1 D (.lst []) = H2 := ⟨_, rfl⟩
    obtain ⟨s2, hD2⟩ := nw eD zD
    refine lc_list (K := K) (a := t) (xs := xs) (fun i H' => Same H1 H' ∧ ∃ ws : List V, H' D = some (.lst ws) ∧ ws.length ≤ i ∧ Fa2 (PrAt H2 H') ws (lensC ((ringsL (roundF ls (N : Int)) N).take i))) ⟨by rw [eD]; exact s2, [], by rw [eD]; exact hD2, Nat.le_refl _, Fa2.nil⟩ (fun i H' _ h => SqL.of (h.1 _ _ ht)) ?_ ?_
    · rintro i v H' hv ⟨s3, ws, hD, hwl, hws⟩
      obtain ⟨e, he, r, rfl, hr0, zr⟩ := hxs.of hv
      have hil := (List.getElem?_eq_some_iff.mp hv).1
      have hr1 : H' r = some (.lst (e.map V.int)) := s3 _ _ hr0
      refine ⟨rfl, ?_⟩
      walk_at "rx"
      rw [List.length_map]
      walk_at "rx"
      intro u zu
      generalize eu : upd _ u _ = H4
      obtain ⟨s4, hu⟩ := nw eu zu
      have nu : u ≠ D := (ne_of_none hD zu).symm
      have zu2 : H2 u = none := by
        rw [← eD, upd_ne nu]
        exact s3.free zu
      refine ⟨ws, s4 _ _ hD, big _ (by omega), (s3.trans s4).put zD, ws ++ [.ref u], upd_same, by rw [List.length_append]; exact Nat.succ_le_succ hwl, ?_⟩
      have el : lensC ((ringsL (roundF ls (N : Int)) N).take (i + 1)) = lensC ((ringsL (roundF ls (N : Int)) N).take i) ++ [((e.length : Int), 1)] := by
        unfold lensC
        rw [List.take_add_one, he, List.map_append]
        rfl
      rw [el]
      exact (hws.imp fun v e h => (h.same s4).put hD2).snoc (PrAt.put ⟨u, rfl, hu, zu2⟩ hD2)
    rintro H3 ⟨s3, ws, hD, hwl, hws⟩
    rw [hxs.1, List.take_length] at hws
    refine ⟨D, _, rfl, PrsAt.in_ ⟨ws, hD, zD, hws.imp fun v e h => h.old s2⟩, ?_, fun q H4 L s4 hL hq => ?_⟩
    · unfold lensC
      rw [List.length_map, ← hxs.1]
      omega
    · exact k q H4 L (s1.trans (s3.trans s4)) hL (hq.old (s1.trans s3))
end
abbrev s_home_of : Stmt := top 28
abbrev N_home_of : List Str := ["rule", "n"]
theorem sc_home_of : FnScope N_home_of ["rule", "n"] (defScope s_home_of) := ⟨rfl, rfl, rfl, by decide +kernel, rfl, by decide +kernel, by decide +kernel⟩
section
variable {P : Program} {w : World} {K : PySem.W.Frag} {mg : Str → Option Value} {base : Heap}
/-- after how many rounds all are at home -/
def homeF (ls : List Str) (N : Nat) : Nat := (ringsL (roundF ls (N : Int)) N).foldl (fun r e => Nat.lcm r e.length) 1
theorem homeN_dvd (L : List (Int × Int)) : (∀ e ∈ L, e.1.toNat ∣ homeN L) ∧ ∀ m, (∀ e ∈ L, e.1.toNat ∣ m) → homeN L ∣ m := by
  have key : ∀ (L : List (Int × Int)) (r : Nat), (r ∣ L.foldl (fun r e => Nat.lcm r e.1.toNat) r ∧ ∀ e ∈ L, e.1.toNat ∣ L.foldl (fun r e => Nat.lcm r e.1.toNat) r) ∧ ∀ m, r ∣ m → (∀ e ∈ L, e.1.toNat ∣ m) → L.foldl (fun r e => Nat.lcm r e.1.toNat) r ∣ m := fun L => by
    induction L with
    | nil => exact fun r => ⟨⟨Nat.dvd_refl r, fun e h => by cases h⟩, fun m h _ => h⟩
    | cons a L ih =>
      intro r
      obtain ⟨⟨h1, h2⟩, h3⟩ := ih (Nat.lcm r a.1.toNat)
      refine ⟨⟨Nat.dvd_trans (Nat.dvd_lcm_left _ _) h1, fun e he => ?_⟩, fun m hr hm => h3 m (Nat.lcm_dvd hr (hm a List.mem_cons_self)) fun e he => hm e (List.mem_cons_of_mem _ he)⟩
      rcases List.mem_cons.mp he with rfl | he
      · exact Nat.dvd_trans (Nat.dvd_lcm_right _ _) h1
      · exact h2 e he
  obtain ⟨⟨_, h2⟩, h3⟩ := key L 1
  exact ⟨h2, fun m hm => h3 m (Nat.one_dvd m) hm⟩
theorem foldl_map_lcm (R : List (List Int)) : R.foldl (fun r e => Nat.lcm r e.length) 1 = homeN (lensC R) := by
  unfold homeN lensC
  rw [List.foldl_map]
  rfl
theorem tot_pos {cs : List (Int × Int)} (h1 : ∀ e ∈ cs, e.2 = 1) (l : Int) : (0 < totC cs l ↔ ∃ e ∈ cs, e.1 = l) ∧ 0 ≤ totC cs l := by
  have key : ∀ ds : List (Int × Int), (∀ e ∈ ds, e.2 = 1) → (ds.map (·.2)).sum = (ds.length : Int) := fun ds => by
    induction ds with
    | nil => exact fun _ => rfl
    | cons a ds ih =>
      intro h
      rw [List.map_cons, List.sum_cons, ih fun e he => h e (List.mem_cons_of_mem _ he), h a List.mem_cons_self, List.length_cons]
      omega
  unfold totC
  rw [key _ fun e he => h1 e (List.mem_filter.mp he).1]
  refine ⟨⟨fun h => ?_, fun ⟨e, he, q⟩ => ?_⟩, by omega⟩
  · have hp : 0 < (cs.filter fun e => decide (e.1 = l)).length := by omega
    obtain ⟨e, he⟩ := List.exists_mem_of_length_pos hp
    obtain ⟨h2, h3⟩ := List.mem_filter.mp he
    exact ⟨e, h2, of_decide_eq_true h3⟩
  · have := List.length_pos_of_mem ((List.mem_filter (p := fun e : Int × Int => decide (e.1 = l))).mpr ⟨he, decide_eq_true q⟩)
    omega
theorem home_sizes {R : List (List Int)} {L : List (Int × Int)} (S : SzOf (lensC R) L) : homeN L = R.foldl (fun r e => Nat.lcm r e.length) 1 := by
  rw [foldl_map_lcm]
  have h1 : ∀ e ∈ lensC R, e.2 = 1 := fun e he => by
    unfold lensC at he
    obtain ⟨r, _, rfl⟩ := List.mem_map.mp he
    rfl
  obtain ⟨a1, a2⟩ := homeN_dvd L
  obtain ⟨b1, b2⟩ := homeN_dvd (lensC R)
  refine Nat.dvd_antisymm (a2 _ fun e he => ?_) (b2 _ fun e he => ?_)
  · obtain ⟨q1, q2⟩ := (S.mem e).mp he
    rw [q1] at q2
    obtain ⟨c, hc, q3⟩ := (tot_pos h1 e.1).1.mp q2
    rw [← q3]
    exact b1 c hc
  · have : (e.1, totC (lensC R) e.1) ∈ L := (S.mem _).mpr ⟨rfl, (tot_pos h1 e.1).1.mpr ⟨e, he, rfl⟩⟩
    exact a1 (e.1, totC (lensC R) e.1) this
theorem sizes_small {N : Nat} {g : Int → Int} (C : Cyc N g) {L : List (Int × Int)} (S : SzOf (lensC (ringsL g N)) L) : ∀ e ∈ L, 0 < e.1 ∧ e.1 ≤ (N : Int) := fun e he => by
  have h1 : ∀ e ∈ lensC (ringsL g N), e.2 = 1 := fun e he => by
    unfold lensC at he
    obtain ⟨r, _, rfl⟩ := List.mem_map.mp he
    rfl
  obtain ⟨q1, q2⟩ := (S.mem e).mp he
  rw [q1] at q2
  obtain ⟨c, hc, q3⟩ := (tot_pos h1 e.1).1.mp q2
  unfold lensC at hc
  obtain ⟨r, hr, rfl⟩ := List.mem_map.mp hc
  unfold ringsL at hr
  obtain ⟨d, hd, rfl⟩ := List.mem_map.mp hr
  obtain ⟨d0, d1, _⟩ := mem_heads.mp hd
  have := C.pos d0 d1
  have q4 : e.1 = (ringLen g N d : Int) := by
    rw [← q3, ← ring_len]
  omega
theorem asc_len : ∀ (l : List Int) (lo hi : Int), l.Pairwise (· < ·) → (∀ x ∈ l, lo < x ∧ x ≤ hi) → lo ≤ hi → (l.length : Int) ≤ hi - lo
  | [], lo, hi, _, _, h => by
    rw [List.length_nil]
    omega
  | a :: l, lo, hi, h, g, _ => by
    obtain ⟨h1, h2⟩ := List.pairwise_cons.mp h
    obtain ⟨g1, g2⟩ := g a List.mem_cons_self
    have := asc_len l a hi h2 (fun x hx => ⟨h1 x hx, (g x (List.mem_cons_of_mem _ hx)).2⟩) g2
    rw [List.length_cons]
    omega
theorem sizes_few {N : Nat} {g : Int → Int} (C : Cyc N g) {L : List (Int × Int)} (S : SzOf (lensC (ringsL g N)) L) : L.length ≤ N := by
  have hs := sizes_small C S
  have h := asc_len (L.map (·.1)) 0 (N : Int) (by rw [List.pairwise_map]; exact S.asc) (fun x hx => by
    obtain ⟨e, he, rfl⟩ := List.mem_map.mp hx
    exact hs e he) (by omega)
  rw [List.length_map] at h
  omega
def spHomeOf (C : Addr) : Sp := fun vs H Q _ => ∃ (p : Addr) (N n : Nat) (ls : List Str), vs = [.ref p, .int N] ∧ RuleAt C H p ls ∧ Rows n ls ∧ n ≤ 5000 ∧ ls.length ≤ 5000 ∧ 1 ≤ N ∧ N ≤ 500 ∧ ∀ H', Same H H' → Q (.int (homeF ls N)) H'
theorem ok_home_of {f C : Addr} {fd : FuncData} (F : Fun K "home_of" "home_of" s_home_of f fd) (B : Bi mg) (D_sizes_of : Df P w K mg base "sizes_of" 9 ["rule", "n"] (spSizesOf C)) (D_home_with : Df P w K mg base "home_with" 2 ["sizes"] spHomeWith) : FnOk P w K mg base CX0 10 f fd ["rule", "n"] (spHomeOf C) := by
  refine F.ok sc_home_of (fun vs H Q E h => ?_) (fun cdv A outer s0 H vs Q E hr h => ?_)
  · obtain ⟨p, N, n, ls, rfl, _⟩ := h
    rfl
  · obtain ⟨p, N, n, ls, rfl, R, W, hn, hl, hN1, hN, k⟩ := h
    refine ⟨_, (pss_one (ps_ret (pe_df D_home_with (hr.mono (by first | decide | omega)) (by rfl) (pa_cons (pe_df D_sizes_of (hr.mono (by first | decide | omega)) (by rfl) (pa_cons (pv 0) (pa_cons (pv 1) pa_nil))) pa_nil)))), ?_⟩
    have C := round_cyc W N
    walk_at "rx"
    refine ⟨p, N, n, ls, rfl, R, W, hn, hl, hN1, by omega, fun t H1 L s1 hL hq => ?_⟩
    have hs := sizes_small C hL
    have hf := sizes_few C hL
    walk_at "rx"
    refine ⟨t, L, 9, rfl, hq.in_, fun e he => ?_, by omega, by decide, ?_⟩
    · have := hs e he
      exact ⟨this.1, by omega⟩
    rw [home_sizes hL]
    exact k H1 s1
end
abbrev s_judge_rings : Stmt := top 29
abbrev N_judge_rings : List Str := ["rule", "n", "told", "ring"]
theorem sc_judge_rings : FnScope N_judge_rings ["rule", "n", "told"] (defScope s_judge_rings) := ⟨rfl, rfl, rfl, by decide +kernel, rfl, by decide +kernel, by decide +kernel⟩
section
variable {P : Program} {w : World} {K : PySem.W.Frag} {mg : Str → Option Value} {base : Heap}
def spJudgeRings (C : Addr) : Sp := fun vs H Q _ => ∃ (p t : Addr) (N n : Nat) (ls : List Str) (L : List (List Int)), vs = [.ref p, .int N, .ref t] ∧ RuleAt C H p ls ∧ Rows n ls ∧ n ≤ 5000 ∧ ls.length ≤ 5000 ∧ 1 ≤ N ∧ N ≤ 4000 ∧ RgsIn H t L ∧ L.length ≤ 5000 ∧ (∀ e ∈ L, e.length ≤ 10000) ∧
  ∀ H', Same H H' → Q (.bl (decide (sortLL (L.map fromL) = ringsL (roundF ls (N : Int)) N))) H'
theorem ok_judge_rings {f C : Addr} {fd : FuncData} (F : Fun K "judge_rings" "judge_rings" s_judge_rings f fd) (B : Bi mg) (D_from_least : Df P w K mg base "from_least" 2 ["entries"] spFromLeast) (D_rings_of : Df P w K mg base "rings_of" 8 ["rule", "n"] (spRingsOf C)) : FnOk P w K mg base CX0 9 f fd ["rule", "n", "told"] (spJudgeRings C) := by
  refine F.ok sc_judge_rings (fun vs H Q E h => ?_) (fun cdv A outer s0 H vs Q E hr h => ?_)
  · obtain ⟨p, t, N, n, ls, L, rfl, _⟩ := h
    rfl
  · obtain ⟨p, t, N, n, ls, L, rfl, R, W, hn, hl, hN1, hN, ⟨ws, ht, hws⟩, hL, hLe, k⟩ := h
    refine ⟨_, (pss_one (ps_ret (pe_cmpR (op_eqD hr.units) (pe_callB (cr_sortedD hr.units) (by rfl) B.sorted_ (by decide +kernel) (pa_cons (pe_lc (own := [("ring", 3)]) (g := gName 3) (tt := tYes) rfl sc_judge_rings.nd (pi_list (pv 2)) (blkOk_by (N := N_judge_rings) (sc := defScope s_judge_rings) (by decide +kernel)) (fun _ _ _ _ _ => pg_name (i := 3) sc_judge_rings.nd rfl (Or.inl rfl)) (fun _ _ _ _ _ => pts_nil) (fun _ _ _ _ _ => (pe_df D_from_least (hr.mono (by first | decide | omega)) (by rfl) (pa_cons (pv 3) pa_nil)))) pa_nil)) (pe_df D_rings_of (hr.mono (by first | decide | omega)) (by rfl) (pa_cons (pv 0) (pa_cons (pv 1) pa_nil))) (nomark _)))), ?_⟩
    walk_at "rx"
    refine ⟨⟨_, SqL.of ht⟩, fun D zD => ?_⟩
    obtain ⟨H1, eD⟩ : ∃ H1, upd H D (.lst []) = H1 := ⟨_, rfl⟩
    obtain ⟨s1, hD1⟩ := nw eD zD
    refine lc_list (K := K) (a := t) (xs := ws) (fun i H' => Same H H' ∧ ∃ us : List V, H' D = some (.lst us) ∧ us.length = i ∧ Fa2 (RgAt H1 H') us ((L.map fromL).take i)) ⟨L2.Same.upd zD, [], upd_same, rfl, Fa2.nil⟩ (fun i H' _ h => SqL.of (h.1 _ _ ht)) ?_ ?_
    · rintro i v H' hv ⟨s', us, hD', hul, hus⟩
      obtain ⟨e, he, r, rfl, hr0⟩ := hws.of hv
      have hil := (List.getElem?_eq_some_iff.mp he).1
      have hr1 := s' _ _ hr0
      refine ⟨rfl, ?_⟩
      walk_at "rx"
      refine ⟨r, e, rfl, hr1, hLe e (List.mem_of_getElem? he), fun u H2 s2 zu hu => ?_⟩
      have nu : u ≠ D := (ne_of_none hD' zu).symm
      have zu1 : H1 u = none := by
        rw [← eD, upd_ne nu]
        exact s'.free zu
      refine ⟨us, s2 _ _ hD', by rw [hul]; exact Nat.lt_of_lt_of_le (show i < 10000 by omega) (by decide), (s'.trans s2).put zD, us ++ [.ref u], upd_same, by rw [List.length_append, hul]; rfl, ?_⟩
      rw [List.take_add_one, List.getElem?_map, he]
      exact (hus.imp fun v e h => (h.same s2).put hD1).snoc (RgAt.put ⟨u, rfl, hu, zu1⟩ hD1)
    rintro H2 ⟨s2, us, hD2, hul, hus⟩
    rw [hws.1, List.take_of_length_le (by rw [List.length_map]; exact Nat.le_refl _)] at hus
    have RI : RgsIn H2 D (L.map fromL) := ⟨us, hD2, hus.imp fun v e h => by
      obtain ⟨r, h1, h2, _⟩ := h.ex
      exact ⟨r, h1, h2⟩⟩
    walk_at "rx"
    unfold tNil
    refine rd_sortLL RI fun q H3 s3 zq RQ => ?_
    have s23 := s2.trans s3
    walk_at "rx"
    refine ⟨p, N, n, ls, rfl, R.same s23, W, hn, hl, hN1, hN, fun b H4 s4 LB => ?_⟩
    exact rd_eqLL (RQ.same s4) LB.in_ (k _ (s23.trans s4))
end
abbrev s_past_row_lanes : Stmt := top 36
abbrev N_past_row_lanes : List Str := ["rule", "row", "post"]
theorem sc_past_row_lanes : FnScope N_past_row_lanes ["rule", "row", "post"] (defScope s_past_row_lanes) := ⟨rfl, rfl, rfl, by decide +kernel, rfl, by decide +kernel, by decide +kernel⟩
section
variable {P : Program} {w : World} {K : PySem.W.Frag} {mg : Str → Option Value} {base : Heap}
/-- where a walker on the endless row goes on one row -/
def spPastZ (C : Addr) : Sp := fun vs H Q _ => ∃ (p : Addr) (q : Int) (r n : Nat) (ls : List Str), vs = [.ref p, .int r, .int q] ∧ RuleAt C H p ls ∧ Rows n ls ∧ n ≤ 5000 ∧ Q (.int (cross1 (rungB (rowAt ls r)) q)) H
theorem ok_past_row_lanes {f C : Addr} {fd : FuncData} (F : Fun K "_past_row" "_past_row" s_past_row_lanes f fd) (B : Bi mg) (E_has_rung : Me P w K mg base C "has_rung" 4 ["self", "row", "post"] (spHasRung C)) (P_width : Pr P w K mg base C "width" 2 (spWidth C)) : FnOk P w K mg base CX0 5 f fd ["rule", "row", "post"] (spPastZ C) := by
  refine F.ok sc_past_row_lanes (fun vs H Q E h => ?_) (fun cdv A outer s0 H vs Q E hr h => ?_)
  · obtain ⟨p, q, r, n, ls, rfl, _⟩ := h
    rfl
  · obtain ⟨p, q, r, n, ls, rfl, R, W, hn, k⟩ := h
    refine ⟨_, (pss_cons (ps_if (pt_val (pe_me (pv 0) E_has_rung (hr.mono (by first | decide | omega)) (pa_cons (pv 1) (pa_cons (pe_op op_mod (pv 2) (pe_pr (pv 0) P_width (hr.mono (by first | decide | omega)) rfl)) pa_nil))))
    (pss_one (ps_ret (pe_op op_add (pv 2) pe_int)))
    pss_nil)
    (pss_cons (ps_if (pt_val (pe_me (pv 0) E_has_rung (hr.mono (by first | decide | omega)) (pa_cons (pv 1) (pa_cons (pe_op op_mod (pe_op op_sub (pv 2) pe_int) (pe_pr (pv 0) P_width (hr.mono (by first | decide | omega)) rfl)) pa_nil))))
    (pss_one (ps_ret (pe_op op_sub (pv 2) pe_int)))
    pss_nil)
    (pss_one (ps_ret (pv 2))))), ?_⟩
    obtain ⟨dx, u, hp, _⟩ := id R
    have hr0 : (0 : Int) ≤ (r : Int) := Int.natCast_nonneg _
    have hz := rowAt_get W.ne r
    have hzl : (tl (rowAt ls r)).length = n := W.len _ (rowAt_mem W.ne r)
    generalize rowAt ls r = z at hz hzl k
    have pn : (0 : Int) < (n : Int) := by have := W.pos; omega
    have m0 : ∀ q : Int, 0 ≤ q % (n : Int) := fun q => Int.emod_nonneg _ (by omega)
    have e := rungB_rest hzl
    unfold cross1 at k
    walk_at "rd"
    refine ⟨p, dx, _, rfl, hp, lkR _ (by decide +kernel), ?_⟩
    walk_at "rd"
    refine ⟨p, dx, _, rfl, hp, p, ls, n, rfl, R, W, hn, ?_⟩
    walk_at "rd"
    refine ⟨p, r, _, n, ls, z, rfl, R, W, hn, hr0, m0 q, hz, ?_⟩
    rw [e]
    walk_at "rd"
    refine ite2 (fun hc => ?_) (fun hc => ?_)
    · rw [if_pos hc] at k
      walk_at "rd"
      exact k
    rw [if_neg hc] at k
    walk_at "rd"
    refine ⟨p, dx, _, rfl, hp, lkR _ (by decide +kernel), ?_⟩
    walk_at "rd"
    refine ⟨p, dx, _, rfl, hp, p, ls, n, rfl, R, W, hn, ?_⟩
    walk_at "rd"
    refine ⟨p, r, _, n, ls, z, rfl, R, W, hn, hr0, m0 (q - 1), hz, ?_⟩
    rw [e]
    walk_at "rd"
    refine ite2 (fun hb => ?_) (fun hb => ?_)
    · rw [if_pos hb] at k
      walk_at "rd"
      exact k
    · rw [if_neg hb] at k
      walk_at "rd"
      exact k
end
abbrev s_step_of : Stmt := top 38
abbrev N_step_of : List Str := ["rule", "post", "at", "row"]
theorem sc_step_of : FnScope N_step_of ["rule", "post"] (defScope s_step_of) := ⟨rfl, rfl, rfl, by decide +kernel, rfl, by decide +kernel, by decide +kernel⟩
section
variable {P : Program} {w : World} {K : PySem.W.Frag} {mg : Str → Option Value} {base : Heap}
def spStepOf (C : Addr) : Sp := fun vs H Q _ => ∃ (p : Addr) (q : Int) (n : Nat) (ls : List Str), vs = [.ref p, .int q] ∧ RuleAt C H p ls ∧ Rows n ls ∧ n ≤ 5000 ∧ ls.length ≤ 5000 ∧ Q (.int (goZ ls q - q)) H
theorem ok_step_of {f C : Addr} {fd : FuncData} (F : Fun K "step_of" "step_of" s_step_of f fd) (B : Bi mg) (D_past_row_lanes : Df P w K mg base "past_row_lanes" 5 ["rule", "row", "post"] (spPastZ C)) (P_height : Pr P w K mg base C "height" 2 (spHeight C)) : FnOk P w K mg base CX0 6 f fd ["rule", "post"] (spStepOf C) := by
  refine F.ok sc_step_of (fun vs H Q E h => ?_) (fun cdv A outer s0 H vs Q E hr h => ?_)
  · obtain ⟨p, q, n, ls, rfl, _⟩ := h
    rfl
  · obtain ⟨p, q, n, ls, rfl, R, W, hn, hl, k⟩ := h
    refine ⟨_, (pss_cons (ps_set (i := 2) sc_step_of.nd rfl (Or.inl rfl) (pv 1))
    (pss_cons (ps_for PassesOwn.never rfl (pi_range1 (by rfl) B.range_ (pa_cons (pe_pr (pv 0) P_height (hr.mono (by first | decide | omega)) rfl) pa_nil)) (pg_name (i := 3) sc_step_of.nd rfl (Or.inl rfl))
    (pss_one (ps_set (i := 2) sc_step_of.nd rfl (Or.inl rfl) (pe_df D_past_row_lanes (hr.mono (by first | decide | omega)) (by rfl) (pa_cons (pv 0) (pa_cons (pv 3) (pa_cons (pv 2) pa_nil)))))))
    (pss_one (ps_ret (pe_op op_sub (pv 2) (pv 1)))))), ?_⟩
    obtain ⟨dx, u, hp, _⟩ := id R
    have hl62 : (ls.length : Int) < 2 ^ 62 := by omega
    walk_at "rd"
    refine ⟨p, dx, _, rfl, hp, p, ls, rfl, R, ?_⟩
    walk_at "rd"
    refine for_range (lo := 0) (n := ls.length) (fun i σ H' => ∃ o, σ = [some (.ref p), some (.int q), some (.int (wkZ ls q i)), o] ∧ H = H') ⟨none, rfl, rfl⟩ ?_ ?_
    · rintro i σ _ hi ⟨o, rfl, rfl⟩
      walk_at "rd"
      rw [Int.zero_add]
      refine ⟨p, _, i, n, ls, rfl, R, W, hn, ?_⟩
      exact ⟨_, rfl, rfl⟩
    · rintro σ _ ⟨o, rfl, rfl⟩
      rw [wkZ_round]
      walk_at "rd"
      exact k
end
abbrev s_steps_of : Stmt := top 39
abbrev N_steps_of : List Str := ["rule", "rest"]
theorem sc_steps_of : FnScope N_steps_of ["rule"] (defScope s_steps_of) := ⟨rfl, rfl, rfl, by decide +kernel, rfl, by decide +kernel, by decide +kernel⟩
section
variable {P : Program} {w : World} {K : PySem.W.Frag} {mg : Str → Option Value} {base : Heap}
def stepsL (ls : List Str) (n : Nat) : List Int := (List.range n).map fun j : Nat => goZ ls (j : Int) - (j : Int)
theorem steps_len {ls : List Str} {n : Nat} : (stepsL ls n).length = n := by rw [stepsL, List.length_map, List.length_range]
theorem steps_at {ls : List Str} {n : Nat} (W : Rows n ls) (y : Int) : atI ((stepsL ls n).map V.int) (y % (n : Int)) = some (V.int (goZ ls y - y)) := by
  have pn : (0 : Int) < (n : Int) := by have := W.pos; omega
  have h0 := Int.emod_nonneg y (show (n : Int) ≠ 0 by omega)
  have h1 := Int.emod_lt_of_pos y pn
  obtain ⟨j, hj⟩ := Int.eq_ofNat_of_zero_le h0
  refine atI_k' j (by rw [hj]) ?_
  have e : goZ ls (y % (n : Int)) - y % (n : Int) = goZ ls y - y := by
    have := (goZ_perM W).int (y % (n : Int)) (y / (n : Int))
    have q := Int.emod_add_mul_ediv y (n : Int)
    rw [q] at this
    omega
  rw [stepsL, List.map_map, List.getElem?_map, List.getElem?_range (by omega)]
  show some (V.int (goZ ls (j : Int) - (j : Int))) = _
  have hj' : y % (n : Int) = (j : Int) := hj
  rw [← hj', e]
def spStepsOf (C : Addr) : Sp := fun vs H Q _ => ∃ (p : Addr) (n : Nat) (ls : List Str), vs = [.ref p] ∧ RuleAt C H p ls ∧ Rows n ls ∧ n ≤ 5000 ∧ ls.length ≤ 5000 ∧
  ∀ (t : Addr) (H' : Hp), Same H H' → H t = none → H' t = some (.lst ((stepsL ls n).map V.int)) → Q (.ref t) H'
theorem ok_steps_of {f C : Addr} {fd : FuncData} (F : Fun K "steps_of" "steps_of" s_steps_of f fd) (B : Bi mg) (D_step_of : Df P w K mg base "step_of" 6 ["rule", "post"] (spStepOf C)) (P_width : Pr P w K mg base C "width" 2 (spWidth C)) : FnOk P w K mg base CX0 7 f fd ["rule"] (spStepsOf C) := by
  refine F.ok sc_steps_of (fun vs H Q E h => ?_) (fun cdv A outer s0 H vs Q E hr h => ?_)
  · obtain ⟨p, n, ls, rfl, _⟩ := h
    rfl
  · obtain ⟨p, n, ls, rfl, R, W, hn, hl, k⟩ := h
    refine ⟨_, (pss_one (ps_ret (pe_lc (own := [("rest", 1)]) (g := gName 1) (tt := tYes) rfl sc_steps_of.nd (pi_range1 (by rfl) B.range_ (pa_cons (pe_pr (pv 0) P_width (hr.mono (by first | decide | omega)) rfl) pa_nil)) (blkOk_by (N := N_steps_of) (sc := defScope s_steps_of) (by decide +kernel)) (fun _ _ _ _ _ => pg_name (i := 1) sc_steps_of.nd rfl (Or.inl rfl)) (fun _ _ _ _ _ => pts_nil) (fun _ _ _ _ _ => (pe_df D_step_of (hr.mono (by first | decide | omega)) (by rfl) (pa_cons (pv 0) (pa_cons (pv 1) pa_nil))))))), ?_⟩
    have hn62 : (n : Int) < 2 ^ 62 := by omega
    obtain ⟨dx, u, hp, _⟩ := id R
    walk_at "rx"
    refine ⟨p, dx, _, rfl, hp, p, ls, n, rfl, R, W, hn, ?_⟩
    walk_at "rx"
    intro D zD
    refine lc_range (lo := 0) (n := n) (fun i H' => Same H H' ∧ H' D = some (.lst (((List.range i).map fun j : Nat => goZ ls (j : Int) - (j : Int)).map V.int))) ⟨L2.Same.upd zD, upd_same⟩ ?_ ?_
    · rintro i H' hi ⟨s2, hD⟩
      refine ⟨rfl, ?_⟩
      walk_at "rx"
      rw [Int.zero_add]
      refine ⟨p, (i : Int), n, ls, rfl, R.same s2, W, hn, hl, ?_⟩
      walk_at "rx"
      refine ⟨_, hD, by rw [List.length_map, List.length_map, List.length_range]; exact Nat.lt_of_lt_of_le hi (Nat.le_trans hn (by decide)), s2.put zD, ?_⟩
      rw [upd_same, List.range_succ, List.map_append, List.map_append]
      rfl
    · rintro H2 ⟨s2, hD⟩
      exact k D H2 s2 zD hD
end
abbrev s_lane_with : Stmt := top 40
abbrev N_lane_with : List Str := ["steps", "post", "rests", "at"]
theorem sc_lane_with : FnScope N_lane_with ["steps", "post"] (defScope s_lane_with) := ⟨rfl, rfl, rfl, by decide +kernel, rfl, by decide +kernel, by decide +kernel⟩
section
variable {P : Program} {w : World} {K : PySem.W.Frag} {mg : Str → Option Value} {base : Heap}
def spLaneWith (_C : Addr) : Sp := fun vs H Q _ => ∃ (st : Addr) (q : Int) (n : Nat) (ls : List Str), vs = [.ref st, .int q] ∧ H st = some (.lst ((stepsL ls n).map V.int)) ∧ Rows n ls ∧ n ≤ 5000 ∧ ls.length ≤ 5000 ∧
  ∀ (t r : Addr) (H' : Hp), Same H H' → H t = none → H r = none → t ≠ r → H' t = some (.tup [.ref r, .int (shiftZ ls n q)]) → H' r = some (.lst ((orb ls n q).map V.int)) → Q (.ref t) H'
theorem ok_lane_with {f : Addr} {fd : FuncData} (C : Addr) (F : Fun K "lane_with" "lane_with" s_lane_with f fd) (B : Bi mg) : FnOk P w K mg base CX0 2 f fd ["steps", "post"] (spLaneWith C) := by
  refine F.ok sc_lane_with (fun vs H Q E h => ?_) (fun cdv A outer s0 H vs Q E hr h => ?_)
  · obtain ⟨st, q, n, ls, rfl, _⟩ := h
    rfl
  · obtain ⟨p, q, n, ls, rfl, R, W, hn, hl, k⟩ := h
    refine ⟨_, (pss_cons (ps_set (i := 2) sc_lane_with.nd rfl (Or.inl rfl) (pe_lst pa_nil))
    (pss_cons (ps_set (i := 3) sc_lane_with.nd rfl (Or.inl rfl) (pv 1))
    (pss_cons (ps_while PassesOwn.never (pt_cmpR op_notIn_seq (pe_op op_mod (pv 3) (pe_callB call_len_seq (by rfl) B.len_ PySem.boot_len (pa_cons (pv 0) pa_nil))) (pv 2) (by rfl))
    (pss_cons (ps_expr (pe_bm PySem.F.plainAttrs_list PySem.F.slot_list_append PySem.F.type_list_append mt_append (pv 2) (pa_cons (pe_op op_mod (pv 3) (pe_callB call_len_seq (by rfl) B.len_ PySem.boot_len (pa_cons (pv 0) pa_nil))) pa_nil)))
    (pss_one (ps_set (i := 3) sc_lane_with.nd rfl (Or.inl rfl) (pe_op op_add (pv 3) (pe_ix ix_list (pv 0) (pe_op op_mod (pv 3) (pe_callB call_len_seq (by rfl) B.len_ PySem.boot_len (pa_cons (pv 0) pa_nil))) (fun _ _ => rfl)))))))
    (pss_one (ps_ret (pe_tup (pa_cons (pv 2) (pa_cons (pe_op op_sub (pv 3) (pv 1)) pa_nil)))))))), ?_⟩
    have pn : (0 : Int) < (n : Int) := by have := W.pos; omega
    obtain ⟨l0, l1⟩ := lane_pos W q
    have hsl : (((stepsL ls n).map V.int).length : Int) = (n : Int) := by rw [List.length_map, steps_len]
    walk_at "rx"
    intro D zD
    generalize eD : upd _ D _ = H1
    obtain ⟨s1, hD⟩ := nw eD zD
    walk_at "rx"
    refine ⟨fun m σ H' => ∃ k : Nat, m = laneLen ls n q - k ∧ k ≤ laneLen ls n q ∧ σ = [some (.ref p), some (.int q), some (.ref D), some (.int (itG (goZ ls) k q))] ∧ Same H H' ∧ H' D = some (.lst (((orb ls n q).take k).map V.int)), ⟨_, 0, rfl, Nat.zero_le _, rfl, s1, hD⟩, ?_⟩
    rintro m σ H' ⟨i, rfl, hi, rfl, s2, hD'⟩
    have R' := s2 _ _ R
    have hlen : ((orb ls n q).take i).length = i := by rw [List.length_take, orb_len]; omega
    walk_at "rx"
    rw [hsl]
    refine ⟨flat_ints _, ?_⟩
    refine ⟨_, rfl, ?_⟩
    refine wq_ite (fun hc => ?_) (fun hc => ?_)
    · have hlt : i < laneLen ls n q := by
        refine Nat.lt_of_le_of_ne hi fun e => ?_
        subst e
        rw [inV_yes (orb_take_in W q)] at hc
        cases hc
      walk_at "rx"
      rw [hsl]
      refine ⟨D, _, _, rfl, rfl, hD', by rw [List.length_map, hlen]; exact Nat.lt_of_lt_of_le hlt (Nat.le_trans l1 (Nat.le_trans hn (by decide))), ?_⟩
      have R2 := (s2.put zD (o := .lst (((orb ls n q).take i).map V.int ++ [V.int (itG (goZ ls) i q % (n : Int))]))) _ _ R
      walk_at "rx"
      rw [hsl]
      refine ⟨p, _, _, _, rfl, rfl, SqL.of R2, steps_at W _, ?_⟩
      walk_at "rx"
      refine ⟨_, ?_, i + 1, rfl, hlt, ?_, s2.put zD, ?_⟩
      · omega
      · have e : itG (goZ ls) i q + (goZ ls (itG (goZ ls) i q) - itG (goZ ls) i q) = itG (goZ ls) (i + 1) q := by
          show _ = goZ ls (itG (goZ ls) i q)
          omega
        rw [← e]
        rfl
      · rw [upd_same, orb_take_succ hlt, List.map_append]
        rfl
    · have he : i = laneLen ls n q := by
        refine Nat.le_antisymm hi (Nat.le_of_not_lt fun hlt => ?_)
        rw [inV_no (orb_take_no W q hlt)] at hc
        cases hc
      subst he
      rw [List.take_of_length_le (by rw [orb_len]; exact Nat.le_refl _)] at hD'
      walk_at "rx"
      intro t zt
      generalize et : upd _ t _ = H3
      obtain ⟨s3, ht⟩ := nw et zt
      exact k t D H3 (s2.trans s3) (s2.free zt) zD (ne_of_none hD' zt).symm ht (s3 _ _ hD')
end
abbrev s_inner_after : Stmt := top 41
abbrev N_inner_after : List Str := ["rule", "post", "rounds", "steps", "rests", "shift", "at", "_"]
theorem sc_inner_after : FnScope N_inner_after ["rule", "post", "rounds"] (defScope s_inner_after) := ⟨rfl, rfl, rfl, by decide +kernel, rfl, by decide +kernel, by decide +kernel⟩
section
variable {P : Program} {w : World} {K : PySem.W.Frag} {mg : Str → Option Value} {base : Heap}
def spInner (C : Addr) : Sp := fun vs H Q _ => ∃ (p : Addr) (q t : Int) (n : Nat) (ls : List Str), vs = [.ref p, .int q, .int t] ∧ RuleAt C H p ls ∧ Rows n ls ∧ n ≤ 5000 ∧ ls.length ≤ 5000 ∧ 0 ≤ t ∧ ∀ H', Same H H' → Q (.int (itG (goZ ls) t.toNat q)) H'
theorem ok_inner_after {f C : Addr} {fd : FuncData} (F : Fun K "inner_after" "inner_after" s_inner_after f fd) (B : Bi mg) (D_check_number : Df P w K mg base "check_number" 2 ["number"] spCheckNumber) (D_steps_of : Df P w K mg base "steps_of" 7 ["rule"] (spStepsOf C)) (D_lane_with : Df P w K mg base "lane_with" 2 ["steps", "post"] (spLaneWith C)) : FnOk P w K mg base CX0 8 f fd ["rule", "post", "rounds"] (spInner C) := by
  refine F.ok sc_inner_after (fun vs H Q E h => ?_) (fun cdv A outer s0 H vs Q E hr h => ?_)
  · obtain ⟨p, q, t, n, ls, rfl, _⟩ := h
    rfl
  · obtain ⟨p, q, t, n, ls, rfl, R, W, hn, hl, ht0, k⟩ := h
    refine ⟨_, (pss_cons (ps_expr (pe_df D_check_number (hr.mono (by first | decide | omega)) (by rfl) (pa_cons (pv 2) pa_nil)))
    (pss_cons (ps_set (i := 3) sc_inner_after.nd rfl (Or.inl rfl) (pe_df D_steps_of (hr.mono (by first | decide | omega)) (by rfl) (pa_cons (pv 0) pa_nil)))
    (pss_cons (ps_asg (pe_df D_lane_with (hr.mono (by first | decide | omega)) (by rfl) (pa_cons (pv 3) (pa_cons (pv 1) pa_nil))) (pg_tup rfl (pgs_cons (pg_name (i := 4) sc_inner_after.nd rfl (Or.inl rfl)) (pgs_cons (pg_name (i := 5) sc_inner_after.nd rfl (Or.inl rfl)) pgs_nil))))
    (pss_cons (ps_set (i := 6) sc_inner_after.nd rfl (Or.inl rfl) (pe_op op_add (pv 1) (pe_op op_mul (pe_op op_fdiv (pv 2) (pe_callB call_len_seq (by rfl) B.len_ PySem.boot_len (pa_cons (pv 4) pa_nil))) (pv 5))))
    (pss_cons (ps_for PassesOwn.never rfl (pi_range1 (by rfl) B.range_ (pa_cons (pe_op op_mod (pv 2) (pe_callB call_len_seq (by rfl) B.len_ PySem.boot_len (pa_cons (pv 4) pa_nil))) pa_nil)) (pg_name (i := 7) sc_inner_after.nd rfl (Or.inl rfl))
    (pss_one (ps_set (i := 6) sc_inner_after.nd rfl (Or.inl rfl) (pe_op op_add (pv 6) (pe_ix ix_list (pv 3) (pe_op op_mod (pv 6) (pe_callB call_len_seq (by rfl) B.len_ PySem.boot_len (pa_cons (pv 3) pa_nil))) (fun _ _ => rfl))))))
    (pss_one (ps_ret (pv 6)))))))), ?_⟩
    have lp := lane_pos W q
    have hlm : (((orb ls n q).map V.int).length : Int) = (laneLen ls n q : Int) := by rw [List.length_map, orb_len]
    have p1 : (0 : Int) < (((orb ls n q).map V.int).length : Nat) := by omega
    have p2 : (((orb ls n q).map V.int).length : Int) < 1073741824 := by omega
    have hb := shiftZ_near W q
    have hnl : n * ls.length ≤ 5000 * 5000 := Nat.mul_le_mul hn hl
    have m1 := Int.emod_nonneg t (show (((orb ls n q).map V.int).length : Int) ≠ 0 by omega)
    have m2 := Int.emod_lt_of_pos t p1
    have m62 : t % (((orb ls n q).map V.int).length : Int) < 2 ^ 62 := by omega
    walk_at "rx"
    try (refine ⟨t, rfl, ht0, ?_⟩; walk_at "rx")
    refine ⟨p, n, ls, rfl, R, W, hn, hl, fun st Hs ss zst hst => ?_⟩
    walk_at "rx"
    refine ⟨st, q, n, ls, rfl, hst, W, hn, hl, fun tp r H1 s1 zt zr _ ht hr1 => ?_⟩
    have hst1 := s1 _ _ hst
    have hsl : ((((stepsL ls n).map V.int).length : Nat) : Int) = (n : Int) := by rw [List.length_map, steps_len]
    have pn : (0 : Int) < (n : Int) := by have := W.pos; omega
    have s1 := ss.trans s1
    walk_at "rx"
    refine ⟨tp, _, rfl, SqT.of ht, rfl, _, _, rfl, _, _, rfl, rfl, ?_⟩
    walk_at "rx"
    have R1 := R.same s1
    have hmul := shiftZ_mul W q
    have hX : ∀ y : Int, goZ ls (y + t / (((orb ls n q).map V.int).length : Int) * shiftZ ls n q) = goZ ls y + t / (((orb ls n q).map V.int).length : Int) * shiftZ ls n q := fun y => by
      obtain ⟨m, hm⟩ := Int.dvd_of_emod_eq_zero hmul
      rw [hm, show t / (((orb ls n q).map V.int).length : Int) * ((n : Int) * m) = (n : Int) * (t / (((orb ls n q).map V.int).length : Int) * m) by rw [← Int.mul_assoc, Int.mul_comm _ (n : Int), Int.mul_assoc]]
      exact (goZ_perM W).int y _
    refine for_range (lo := 0) (n := (t % (((orb ls n q).map V.int).length : Int)).toNat) (fun i σ H' => H1 = H' ∧ ∃ o, σ = [some (.ref p), some (.int q), some (.int t), some (.ref st), some (.ref r), some (.int (shiftZ ls n q)), some (.int (itG (goZ ls) i q + t / (((orb ls n q).map V.int).length : Int) * shiftZ ls n q)), o]) ⟨rfl, _, rfl⟩ ?_ ?_
    · rintro i σ _ hi ⟨rfl, o, rfl⟩
      walk_at "rx"
      rw [hsl]
      refine ⟨st, _, _, _, rfl, rfl, SqL.of hst1, steps_at W _, ?_⟩
      walk_at "rx"
      have e : itG (goZ ls) i q + t / (((orb ls n q).map V.int).length : Int) * shiftZ ls n q + (goZ ls (itG (goZ ls) i q + t / (((orb ls n q).map V.int).length : Int) * shiftZ ls n q) - (itG (goZ ls) i q + t / (((orb ls n q).map V.int).length : Int) * shiftZ ls n q)) = itG (goZ ls) (i + 1) q + t / (((orb ls n q).map V.int).length : Int) * shiftZ ls n q := by
        rw [hX]
        show _ = goZ ls (itG (goZ ls) i q) + _
        omega
      exact ⟨_, by rw [← e]; rfl⟩
    · rintro σ _ ⟨rfl, o, rfl⟩
      walk_at "rx"
      have e : itG (goZ ls) (t % (((orb ls n q).map V.int).length : Int)).toNat q + t / (((orb ls n q).map V.int).length : Int) * shiftZ ls n q = itG (goZ ls) t.toNat q := by
        rw [hlm, after_lane W q t.toNat]
        obtain ⟨T, rfl⟩ := Int.eq_ofNat_of_zero_le ht0
        rfl
      rw [e]
      exact k _ s1
end
abbrev s__law_source : Stmt := top 43
abbrev N__law_source : List Str := ["script", "great", "small", "cell"]
theorem sc__law_source : FnScope N__law_source ["script"] (defScope s__law_source) := ⟨rfl, rfl, rfl, by decide +kernel, rfl, by decide +kernel, by decide +kernel⟩
section
variable {P : Program} {w : World} {K : PySem.W.Frag} {mg : Str → Option Value} {base : Heap}
def spSource (K : PySem.W.Frag) : Sp := fun vs H Q _ => ∃ (a : Addr) (ns : List Int), vs = [.ref a] ∧ SqL K H a (ns.map V.int) ∧ ns.length ≤ 63 ∧ ∀ (s g r : Addr) (H' : Hp), Same H H' → H s = none → H g = none → H r = none → Src H' s g r 0 → Q (.ref s) H'
theorem ok__law_source {f : Addr} {fd : FuncData} (F : Fun K "_law_source" "_law_source" s__law_source f fd) (B : Bi mg) : FnOk P w K mg base CX0 2 f fd ["script"] (spSource K) := by
  refine F.ok sc__law_source (fun vs H Q E h => ?_) (fun cdv A outer s H vs Q E hr h => ?_)
  · obtain ⟨a, ns, rfl, _⟩ := h
    rfl
  · obtain ⟨a, ns, rfl, hS, hl, k⟩ := h
    refine ⟨_, (pss_cons (ps_setLc (i := 1) (own := [("cell", 3)]) (g := gName 3) (tt := _) rfl sc__law_source.nd rfl rfl (sw_true rfl rfl rfl (by decide +kernel)) (pi_list (pv 0)) (blkOk_by (N := N__law_source) (sc := defScope s__law_source) (by decide +kernel)) (fun _ _ _ _ _ => pg_name (i := 3) sc__law_source.nd rfl (Or.inl rfl)) (fun _ _ _ _ _ => pts_one (pt_cmpR op_ge (pe_callB call_abs (by rfl) B.abs_ (by decide +kernel) (pa_cons (pv 3) pa_nil)) (pe_op op_pow pe_int pe_int) (nomark _))) (fun _ _ _ _ _ => (pe_callB call_abs (by rfl) B.abs_ (by decide +kernel) (pa_cons (pv 3) pa_nil))))
    (pss_cons (ps_setLc (i := 2) (own := [("cell", 3)]) (g := gName 3) (tt := _) rfl sc__law_source.nd rfl rfl (sw_true rfl rfl rfl (by decide +kernel)) (pi_list (pv 0)) (blkOk_by (N := N__law_source) (sc := defScope s__law_source) (by decide +kernel)) (fun _ _ _ _ _ => pg_name (i := 3) sc__law_source.nd rfl (Or.inl rfl)) (fun _ _ _ _ _ => pts_one (pt_cmpR op_lt (pe_callB call_abs (by rfl) B.abs_ (by decide +kernel) (pa_cons (pv 3) pa_nil)) (pe_op op_pow pe_int pe_int) (nomark _))) (fun _ _ _ _ _ => (pv 3)))
    (pss_one (ps_ret (pe_lst (pa_cons (pv 1) (pa_cons (pv 2) (pa_cons pe_int (pa_cons pe_int pa_nil))))))))), ?_⟩
    have hcp := cp18
    have e18 : (10 : Int) ^ (18 : Int).toNat = 10 ^ 18 := rfl
    refine ⟨_, rfl, a, rfl, ⟨_, hS⟩, fun D hD => ?_⟩
    refine lc_list (K := K) (a := a) (xs := ns.map V.int) (fun i H' => Same H H' ∧ ∃ gs : List Int, gs.length ≤ i ∧ H' D = some (.lst (gs.map V.int))) ⟨L2.Same.upd hD, [], Nat.le_refl _, upd_same⟩ (fun i H' _ h => h.1.seq hS) ?_ ?_
    · rintro i x H' hi ⟨sm, gs, hgs, hD'⟩
      have hil : i < ns.length := by
        have := (List.getElem?_eq_some_iff.mp hi).1
        rw [List.length_map] at this
        exact this
      rw [getV hil] at hi
      obtain rfl := Option.some.inj hi
      refine ⟨rfl, ?_⟩
      walk_at "rd"
      refine ite2 (fun hc => ?_) (fun hc => ?_)
      · walk_at "rd"
        refine ⟨_, hD', by rw [List.length_map]; exact Nat.lt_of_le_of_lt hgs (Nat.lt_of_lt_of_le hil (Nat.le_trans hl (by decide))), sm.put hD, gs ++ [if ns[i] < 0 then -ns[i] else ns[i]], by rw [List.length_append]; exact Nat.add_le_add_right hgs 1, ?_⟩
        rw [upd_same, List.map_append]
        rfl
      · exact ⟨sm, gs, Nat.le_succ_of_le hgs, hD'⟩
    · rintro H' ⟨sm, gs, hgs, hD'⟩
      rw [List.length_map] at hgs
      walk_at "rd"
      refine ⟨⟨_, sm.seq hS⟩, fun D2 hD2 => ?_⟩
      refine lc_list (K := K) (a := a) (xs := ns.map V.int) (fun i H2 => Same H' H2 ∧ ∃ ss : List Int, ss.length ≤ i ∧ (∀ z ∈ ss, -(10 ^ 18) < z ∧ z < 10 ^ 18) ∧ H2 D2 = some (.lst (ss.map V.int))) ⟨L2.Same.upd hD2, [], Nat.le_refl _, (fun _ h => nomatch h), upd_same⟩ (fun i H2 _ h => (sm.trans h.1).seq hS) ?_ ?_
      · rintro i x H2 hi ⟨sm2, ss, hss, hb, hD2'⟩
        have hil : i < ns.length := by
          have := (List.getElem?_eq_some_iff.mp hi).1
          rw [List.length_map] at this
          exact this
        rw [getV hil] at hi
        obtain rfl := Option.some.inj hi
        refine ⟨rfl, ?_⟩
        walk_at "rd"
        refine ite2 (fun hc => ?_) (fun hc => ?_)
        · walk_at "rd"
          refine ⟨_, hD2', by rw [List.length_map]; exact Nat.lt_of_le_of_lt hss (Nat.lt_of_lt_of_le hil (Nat.le_trans hl (by decide))), sm2.put hD2, ss ++ [ns[i]], by rw [List.length_append]; exact Nat.add_le_add_right hss 1, fun z hz => ?_, ?_⟩
          · rcases List.mem_append.mp hz with h | h
            · exact hb z h
            · rw [List.mem_singleton.mp h]
              have := of_decide_eq_true hc
              rw [e18] at this
              split at this <;> omega
          · rw [upd_same, List.map_append]
            rfl
        · exact ⟨sm2, ss, Nat.le_succ_of_le hss, hb, hD2'⟩
      · rintro H2 ⟨sm2, ss, hss, hb, hD2'⟩
        rw [List.length_map] at hss
        walk_at "rd"
        intro s hs
        have ng : D ≠ s := ne_of_none (sm2 _ _ hD') hs
        have n2 : D2 ≠ s := ne_of_none hD2' hs
        have n3 : D2 ≠ D := fun e => by rw [e, hD'] at hD2; cases hD2
        refine k s D D2 _ ((sm.trans sm2).up hs) ((sm.trans sm2).free hs) hD (sm.free hD2) ⟨gs, ss, 0, 1, upd_same, ?_, ?_, n3, by omega, by omega, hb, by omega, by omega, by omega, by omega⟩
        · rw [upd_ne ng]
          exact sm2 _ _ hD'
        · rw [upd_ne n2]
          exact hD2'
end
abbrev s__law_draw : Stmt := top 44
abbrev N__law_draw : List Str := ["source", "limit", "great", "digit", "small", "place", "cell", "state"]
theorem sc__law_draw : FnScope N__law_draw ["source", "limit"] (defScope s__law_draw) := ⟨rfl, rfl, rfl, by decide +kernel, rfl, by decide +kernel, by decide +kernel⟩
section
variable {P : Program} {w : World} {K : PySem.W.Frag} {mg : Str → Option Value} {base : Heap}
def spDraw : Sp := fun vs H Q _ => ∃ (s g sm : Addr) (m : Nat) (b : Int), vs = [.ref s, .int b] ∧ Src H s g sm m ∧ m ≤ 2 ^ 40 ∧ 0 < b ∧ b < 1073741824 ∧ ∀ (c : Int) (H' : Hp), 0 ≤ c → c < b → Src H' s g sm (m + 1) → Same (out s g H) (out s g H') → Q (.int c) H'
theorem dp_ints {K : PySem.W.Frag} {H : Hp} : ∀ ns : List Int, DpAll K H (ns.map V.int) (ns.map PyData.int)
  | [] => .nil
  | z :: ns => .cons (.int z) (dp_ints ns)
theorem lay_ints : ∀ ns : List Int, PyData.canLayAll0 (ns.map PyData.int) = true
  | [] => rfl
  | z :: ns => by
    show (true && PyData.canLayAll0 (ns.map PyData.int)) = true
    rw [lay_ints ns]
    rfl
theorem depth_ints : ∀ ns : List Int, PyData.depthAll (ns.map PyData.int) ≤ 1
  | [] => Nat.zero_le _
  | z :: ns => by
    have ih := depth_ints ns
    simp only [List.map_cons, PyData.depthAll, PyData.depth]
    omega
theorem shaped_ints (ns : List Int) : SeqAt.shaped (.list (ns.map PyData.int)) = true := by
  have h1 := lay_ints ns
  have h2 := depth_ints ns
  show (PyData.canLayAll0 (ns.map PyData.int) && decide (PyData.depth (.list (ns.map PyData.int)) ≤ 64)) = true
  rw [h1, Bool.true_and, decide_eq_true_eq]
  simp only [PyData.depth]
  omega
/-- is a list of numbers empty? -/
theorem rd_some {K : PySem.W.Frag} {H : Hp} {p q : Addr} {ns : List Int} {Q : VK} (hp : H p = some (.lst (ns.map V.int))) (hq : H q = some (.lst [])) (k : Q (.bl (!decide (ns = []))) H) : rNeD K (.ref p) (.ref q) H Q := by
  refine ⟨_, _, .lst (SqL.of hp) (dp_ints ns), .lst (SqL.of hq) .nil, shaped_ints ns, shaped_ints [], ?_⟩
  cases ns with
  | nil => exact k
  | cons z ns => exact k
theorem ok__law_draw {f : Addr} {fd : FuncData} (F : Fun K "_law_draw" "_law_draw" s__law_draw f fd) (B : Bi mg) : FnOk P w K mg base CX0 2 f fd ["source", "limit"] spDraw := by
  refine F.ok sc__law_draw (fun vs H Q E h => ?_) (fun cdv A outer s0 H vs Q E hr h => ?_)
  · obtain ⟨s, g, sm, m, b, rfl, _⟩ := h
    rfl
  · obtain ⟨s, g, sm, m, b, rfl, S, hm, hb0, hb1, k⟩ := h
    refine ⟨_, (pss_cons (ps_set (i := 2) sc__law_draw.nd rfl (Or.inl rfl) (pe_ix ix_list (pv 0) pe_int (fun _ _ => rfl)))
    (pss_cons (ps_if (pt_cmpR (op_neD hr.units) (pv 2) (pe_lst pa_nil) (nomark _))
    (pss_cons (ps_set (i := 3) sc__law_draw.nd rfl (Or.inl rfl) (pe_op op_mod (pe_callTy call_int1 (by rfl) B.int_ (by decide +kernel) (pa_cons (pe_ix ix_list (pv 2) pe_int (fun _ _ => rfl)) pa_nil)) (pv 1)))
    (pss_cons (ps_asg (pe_op op_fdiv (pe_ix ix_list (pv 2) pe_int (fun _ _ => rfl)) (pv 1)) (pg_sub (pv 2) pe_int set_list))
    (pss_cons (ps_if (pt_cmpR op_eq (pe_ix ix_list (pv 2) pe_int (fun _ _ => rfl)) pe_int (nomark _))
    (pss_one (ps_expr (pe_bm PySem.F.plainAttrs_list PySem.F.slot_list_pop PySem.F.type_list_pop mt_popAt (pv 2) (pa_cons pe_int pa_nil))))
    pss_nil)
    (pss_one (ps_ret (pv 3))))))
    pss_nil)
    (pss_cons (ps_set (i := 4) sc__law_draw.nd rfl (Or.inl rfl) (pe_ix ix_list (pv 0) pe_int (fun _ _ => rfl)))
    (pss_cons (ps_set (i := 5) sc__law_draw.nd rfl (Or.inl rfl) (pe_ix ix_list (pv 0) pe_int (fun _ _ => rfl)))
    (pss_cons (ps_set (i := 6) sc__law_draw.nd rfl (Or.inl rfl) pe_int)
    (pss_cons (ps_if (pt_cmpR (op_neD hr.units) (pv 4) (pe_lst pa_nil) (nomark _))
    (pss_one (ps_set (i := 6) sc__law_draw.nd rfl (Or.inl rfl) (pe_ix ix_list (pv 4) (pe_op op_mod (pe_callTy call_int1 (by rfl) B.int_ (by decide +kernel) (pa_cons (pv 5) pa_nil)) (pe_callB call_len_seq (by rfl) B.len_ PySem.boot_len (pa_cons (pv 4) pa_nil))) (fun _ _ => rfl))))
    pss_nil)
    (pss_cons (ps_set (i := 7) sc__law_draw.nd rfl (Or.inl rfl) (pe_op op_mod (pe_callTy call_int1 (by rfl) B.int_ (by decide +kernel) (pa_cons (pe_op op_add (pe_op op_add (pe_op op_powW (pe_op op_add (pe_op op_add (pe_ix ix_list (pv 0) pe_int (fun _ _ => rfl)) (pv 6)) (pe_op op_mul pe_int (pv 5))) pe_int) (pe_op op_mul pe_int (pv 6))) pe_int) pa_nil)) pe_int))
    (pss_cons (ps_asg (pe_op op_add (pv 5) pe_int) (pg_sub (pv 0) pe_int set_list))
    (pss_cons (ps_asg (pv 7) (pg_sub (pv 0) pe_int set_list))
    (pss_one (ps_ret (pe_op op_mod (pe_callTy call_int1 (by rfl) B.int_ (by decide +kernel) (pa_cons (pe_op op_fdiv (pv 7) pe_int) pa_nil)) (pv 1))))))))))))), ?_⟩
    obtain ⟨gs, ss, pl, st, h1, h2, h3, nsg, hgl, hsl, hss, p0, p1, t0, t1⟩ := S.ex
    have nG : g ≠ s := fun e => by
      rw [e, h1] at h2
      cases gs with
      | nil => cases h2
      | cons => cases h2
    have nM : sm ≠ s := fun e => by
      rw [e, h1] at h3
      cases ss with
      | nil => cases h3
      | cons => cases h3
    have i0 : atI [V.ref g, V.ref sm, V.int pl, V.int st] 0 = some (V.ref g) := rfl
    have i1 : atI [V.ref g, V.ref sm, V.int pl, V.int st] 1 = some (V.ref sm) := rfl
    have i2 : atI [V.ref g, V.ref sm, V.int pl, V.int st] 2 = some (V.int pl) := rfl
    have i3 : atI [V.ref g, V.ref sm, V.int pl, V.int st] 3 = some (V.int st) := rfl
    walk_at "rd"
    intro e1 ze1
    generalize ee1 : upd _ e1 _ = H1
    obtain ⟨s1, he1⟩ := nw ee1 ze1
    have h1' := s1 _ _ h1
    have h2' := s1 _ _ h2
    have h3' := s1 _ _ h3
    refine rd_some h2' he1 ?_
    walk_at "rd"
    refine ite2 (fun hc => ?_) (fun hc => ?_)
    · obtain ⟨x, xs, rfl⟩ : ∃ x xs, gs = x :: xs := by
        cases gs with
        | nil => cases hc
        | cons x xs => exact ⟨x, xs, rfl⟩
      have j0 : atI ((x :: xs).map V.int) 0 = some (V.int x) := atI_k' (i := 0) 0 rfl rfl
      walk_at "rd"
      refine ⟨g, _, 0, 0, rfl, rfl, h2', ixN_nat (p := 0) (by rw [List.length_map]; exact Nat.succ_pos _), ?_⟩
      generalize eA : upd _ g _ = HA
      have hAg : HA g = some (.lst ((x / b :: xs).map V.int)) := by rw [← eA]; exact upd_same
      have hAs : HA s = some (.lst [V.ref g, V.ref sm, V.int pl, V.int st]) := by rw [← eA, upd_ne nG.symm]; exact h1'
      have hAm : HA sm = some (.lst (ss.map V.int)) := by rw [← eA, upd_ne nsg]; exact h3'
      have sA : Same (out s g H) (out s g HA) := s1.out.trans (eA ▸ out_put (.inr rfl))
      have j1 : atI ((x / b :: xs).map V.int) 0 = some (V.int (x / b)) := atI_k' (i := 0) 0 rfl rfl
      have c0 := Int.emod_nonneg x (show b ≠ 0 by omega)
      have c1 := Int.emod_lt_of_pos x hb0
      walk_at "rd"
      refine cutIf (fun σ H' => (∃ o, σ = [some (.ref s), some (.int b), some (.ref g), some (.int (x % b)), none, none, none, o]) ∧ Src H' s g sm (m + 1) ∧ Same (out s g H) (out s g H')) ?_ ?_ (fun _ => ⟨⟨_, rfl⟩, ⟨x / b :: xs, ss, pl, st, hAs, hAg, hAm, nsg, hgl, hsl, hss, p0, by omega, t0, t1⟩, sA⟩)
      · rintro σ H' ⟨⟨o, rfl⟩, S', s'⟩
        walk_at "rd"
        exact k _ _ c0 c1 S' s'
      · intro hT hc2
        walk_at "rd"
        refine ⟨g, _, 0, 0, _, rfl, rfl, hAg, by decide, by decide, seq0 (by rw [List.length_map]; exact Nat.succ_pos _), rfl, ?_⟩
        refine hT _ _ ⟨⟨_, rfl⟩, ⟨xs, ss, pl, st, ?_, ?_, ?_, nsg, Nat.le_of_succ_le hgl, hsl, hss, p0, by omega, t0, t1⟩, sA.trans (out_put (.inr rfl))⟩
        · rw [upd_ne nG.symm]; exact hAs
        · exact upd_same
        · rw [upd_ne nsg]; exact hAm
    · have hn : gs = [] := by
        cases gs with
        | nil => rfl
        | cons x xs => exact absurd rfl hc
      subst hn
      walk_at "rd"
      intro e2 ze2
      generalize ee2 : upd _ e2 _ = H2
      obtain ⟨s2, he2⟩ := nw ee2 ze2
      refine rd_some (s2 _ _ h3') he2 ?_
      walk_at "rd"
      have s02 := s1.trans s2
      have h12 := s02 _ _ h1
      have h22 := s02 _ _ h2
      have h32 := s02 _ _ h3
      refine cutIf (fun σ H' => H2 = H' ∧ ∃ c : Int, -(10 ^ 18) < c ∧ c < 10 ^ 18 ∧ σ = [some (.ref s), some (.int b), some (.ref g), none, some (.ref sm), some (.int pl), some (.int c), none]) ?_ ?_ (fun _ => ⟨rfl, 0, by omega, by omega, rfl⟩)
      rotate_left
      · intro hT hc2
        have hs0 : 0 < ss.length := by
          cases ss with
          | nil => cases hc2
          | cons => exact Nat.succ_pos _
        have hlv : ((ss.map V.int).length : Int) = (ss.length : Int) := by rw [List.length_map]
        have hp : (pl % ((ss.map V.int).length : Int)).toNat < ss.length := by
          rw [hlv]
          have q1 := Int.emod_nonneg pl (show (ss.length : Int) ≠ 0 by omega)
          have q2 := Int.emod_lt_of_pos pl (show (0 : Int) < (ss.length : Int) by omega)
          omega
        have iz : atI (ss.map V.int) (pl % ((ss.map V.int).length : Int)) = some (V.int (ss[(pl % ((ss.map V.int).length : Int)).toNat]'hp)) :=
          atI_k' _ (Int.toNat_of_nonneg (Int.emod_nonneg pl (by rw [hlv]; omega))).symm (getV hp)
        have hb := hss _ (List.getElem_mem hp)
        have pp : (0 : Int) < ((ss.map V.int).length : Int) := by rw [hlv]; omega
        repeat (first | exact hT _ _ ⟨rfl, _, hb.1, hb.2, rfl⟩ | walk_at "r")
      rintro σ _ ⟨rfl, c, c0, c1, rfl⟩
      have hpw : CPowW (st + c + 7919 * pl) 3 := ⟨by decide, 64, by omega, by decide⟩
      walk_at "rd"
      refine ⟨s, _, 2, 2, rfl, rfl, h12, rfl, ?_⟩
      generalize eA : upd _ s _ = HA
      have hAs : HA s = some (.lst [V.ref g, V.ref sm, V.int (pl + 1), V.int st]) := by rw [← eA]; exact upd_same
      have hAg : HA g = some (.lst (([] : List Int).map V.int)) := by rw [← eA, upd_ne nG]; exact h22
      have hAm : HA sm = some (.lst (ss.map V.int)) := by rw [← eA, upd_ne nM]; exact h32
      have sA : Same (out s g H) (out s g HA) := s02.out.trans (eA ▸ out_put (.inl rfl))
      walk_at "rd"
      refine ⟨s, _, 3, 3, rfl, rfl, hAs, rfl, ?_⟩
      have z0 := Int.emod_nonneg ((st + c + 7919 * pl) ^ (3 : Int).toNat + 48271 * c + 12345) (show (2147483629 : Int) ≠ 0 by decide)
      have z1 := Int.emod_lt_of_pos ((st + c + 7919 * pl) ^ (3 : Int).toNat + 48271 * c + 12345) (show (0 : Int) < 2147483629 by decide)
      walk_at "rd"
      refine k _ _ (Int.emod_nonneg _ (by omega)) (Int.emod_lt_of_pos _ hb0) ⟨[], ss, pl + 1, _, upd_same, ?_, ?_, nsg, by decide, hsl, hss, by omega, by omega, z0, z1⟩ (sA.trans (out_put (.inl rfl)))
      · rw [upd_ne nG]; exact hAg
      · rw [upd_ne nM]; exact hAm
end
abbrev s__law_number : Stmt := top 45
abbrev N__law_number : List Str := ["source", "limit", "parts", "number", "k"]
theorem sc__law_number : FnScope N__law_number ["source", "limit", "parts"] (defScope s__law_number) := ⟨rfl, rfl, rfl, by decide +kernel, rfl, by decide +kernel, by decide +kernel⟩
section
variable {P : Program} {w : World} {K : PySem.W.Frag} {mg : Str → Option Value} {base : Heap}
def spNumber : Sp := fun vs H Q _ => ∃ (s g sm : Addr) (m p : Nat) (b : Int), vs = [.ref s, .int b, .int p] ∧ Src H s g sm m ∧ m + p ≤ 2 ^ 40 ∧ 0 < b ∧ ∀ (c : Int) (H' : Hp), 0 ≤ c → c < b → Src H' s g sm (m + p) → Same (out s g H) (out s g H') → Q (.int c) H'
theorem ok__law_number {f : Addr} {fd : FuncData} (F : Fun K "_law_number" "_law_number" s__law_number f fd) (B : Bi mg) (D_law_draw : Df P w K mg base "_law_draw" 2 ["source", "limit"] spDraw) : FnOk P w K mg base CX0 3 f fd ["source", "limit", "parts"] spNumber := by
  refine F.ok sc__law_number (fun vs H Q E h => ?_) (fun cdv A outer s0 H vs Q E hr h => ?_)
  · obtain ⟨s, g, sm, m, p, b, rfl, _⟩ := h
    rfl
  · obtain ⟨s, g, sm, m, p, b, rfl, S, hm, hb, k⟩ := h
    refine ⟨_, (pss_cons (ps_set (i := 3) sc__law_number.nd rfl (Or.inl rfl) pe_int)
    (pss_cons (ps_for PassesOwn.never rfl (pi_range1 (by rfl) B.range_ (pa_cons (pv 2) pa_nil)) (pg_name (i := 4) sc__law_number.nd rfl (Or.inl rfl))
    (pss_one (ps_set (i := 3) sc__law_number.nd rfl (Or.inl rfl) (pe_op op_add (pe_op op_mul (pv 3) pe_int) (pe_df D_law_draw (hr.mono (by first | decide | omega)) (by rfl) (pa_cons (pv 0) (pa_cons pe_int pa_nil)))))))
    (pss_one (ps_ret (pe_op op_mod (pe_callTy call_int1 (by rfl) B.int_ (by decide +kernel) (pa_cons (pv 3) pa_nil)) (pv 1)))))), ?_⟩
    have hp62 : (p : Int) < 2 ^ 62 := by omega
    walk_at "rd"
    refine for_range (lo := 0) (n := (p : Int).toNat) (fun i σ H' => ∃ (c : Int) (o : Option V), σ = [some (.ref s), some (.int b), some (.int p), some (.int c), o] ∧ Src H' s g sm (m + i) ∧ Same (out s g H) (out s g H')) ⟨0, none, rfl, S, Same.refl _⟩ ?_ ?_
    · rintro i σ H' hi ⟨c, o, rfl, S', s1⟩
      walk_at "rd"
      refine ⟨s, g, sm, m + i, _, rfl, S', by omega, by decide, by decide, fun c2 H2 _ _ S2 s2 => ?_⟩
      walk_at "rd"
      exact ⟨_, _, rfl, S2, s1.trans s2⟩
    · rintro σ H' ⟨c, o, rfl, S', s1⟩
      walk_at "rd"
      exact k _ _ (Int.emod_nonneg _ (by omega)) (Int.emod_lt_of_pos _ hb) S' s1
end
abbrev s__law_lines : Stmt := top 46
abbrev N__law_lines : List Str := ["span", "lines", "k", "longer", "line"]
theorem sc__law_lines : FnScope N__law_lines ["span"] (defScope s__law_lines) := ⟨rfl, rfl, rfl, by decide +kernel, rfl, by decide +kernel, by decide +kernel⟩
section
variable {P : Program} {w : World} {K : PySem.W.Frag} {mg : Str → Option Value} {base : Heap}
/-- a part of a row: no two strokes side by side -/
def Half (k : Nat) (l : List Nat) : Prop := l.length = k ∧ Signs l ∧ ∀ i : Nat, ¬ (l[i]? = some 45 ∧ l[i + 1]? = some 45)
theorem Half.add {k c : Nat} {l : List Nat} (h : Half k l) (hc : c = 45 ∨ c = 46) (h1 : c = 45 → l.getLast? ≠ some 45) : Half (k + 1) (l ++ [c]) := by
  obtain ⟨h2, h3, h4⟩ := h
  refine ⟨by rw [List.length_append, h2]; rfl, fun x hx => ?_, fun i ⟨g1, g2⟩ => ?_⟩
  · rcases List.mem_append.mp hx with h | h
    · exact h3 x h
    · rw [List.mem_singleton.mp h]
      exact hc
  · have hi := (List.getElem?_eq_some_iff.mp g2).1
    rw [List.length_append, List.length_singleton] at hi
    by_cases hl : i + 1 < l.length
    · rw [List.getElem?_append_left (by omega)] at g1
      rw [List.getElem?_append_left hl] at g2
      exact h4 i ⟨g1, g2⟩
    · have e : i + 1 = l.length := by omega
      rw [List.getElem?_append_left (by omega)] at g1
      rw [e, List.getElem?_append_right (Nat.le_refl _), Nat.sub_self] at g2
      have ec : c = 45 := by simpa using g2
      refine h1 ec ?_
      rw [List.getLast?_eq_getElem?, show l.length - 1 = i by omega]
      exact g1
theorem Half.row {k : Nat} {l : List Nat} (h : Half k l) (h0 : 0 < k) (he : l[0]? = some 46 ∨ l[k - 1]? = some 46) : Row l := by
  obtain ⟨rfl, h3, h4⟩ := h
  exact Part.row (n := l.length) ⟨h3, h4, fun _ ⟨g1, g2⟩ => by rcases he with e | e <;> simp_all⟩ rfl h0
def dots (k : Nat) : Str := ⟨(List.replicate k 46).toArray⟩
theorem tl_dots (k : Nat) : tl (dots k) = List.replicate k 46 := rfl
theorem dots_add (k : Nat) : dots k ++ Str.ofString "." = dots (k + 1) := ext_tl (by
  rw [tl_append, tl_dots, tl_dots, show tl (Str.ofString ".") = [46] by decide +kernel, List.replicate_succ'])
theorem is_dot {c : Nat} (h : decide (V.str (⟨#[c]⟩ : Str) = V.str (Str.ofString ".")) = true) : c = 46 := by
  have e := of_decide_eq_true h
  injection e with e
  have e2 := congrArg tl e
  rw [show tl (Str.ofString ".") = [46] by decide +kernel] at e2
  injection e2
theorem no_dot {z : Str} {k : Nat} (h : z = dots k) {i c : Nat} (e : (tl z)[i]? = some c) : c = 46 := by
  rw [h, tl_dots, List.getElem?_replicate] at e
  split at e
  · exact (Option.some.inj e).symm
  · cases e
def spLinesSpan : Sp := fun vs H Q _ => ∃ n : Nat, vs = [.int n] ∧ 0 < n ∧ n ≤ 6 ∧ ∀ (ls : List Str) (q : Addr) (H' : Hp), Rows n ls → ls.length ≤ 64 → Same H H' → H q = none → H' q = some (.lst (ls.map V.str)) → Q (.ref q) H'
theorem ok__law_lines {f : Addr} {fd : FuncData} (F : Fun K "_law_lines" "_law_lines" s__law_lines f fd) (B : Bi mg) : FnOk P w K mg base CX0 2 f fd ["span"] spLinesSpan := by
  refine F.ok sc__law_lines (fun vs H Q E h => ?_) (fun cdv A outer s0 H vs Q E hr h => ?_)
  · obtain ⟨n, rfl, _⟩ := h
    rfl
  · obtain ⟨n, rfl, hn0, hn6, k⟩ := h
    refine ⟨_, (pss_cons (ps_set (i := 1) sc__law_lines.nd rfl (Or.inl rfl) (pe_lst (pa_cons pe_str pa_nil)))
    (pss_cons (ps_for PassesOwn.never rfl (pi_range1 (by rfl) B.range_ (pa_cons (pv 0) pa_nil)) (pg_name (i := 2) sc__law_lines.nd rfl (Or.inl rfl))
    (pss_cons (ps_set (i := 3) sc__law_lines.nd rfl (Or.inl rfl) (pe_lst pa_nil))
    (pss_cons (ps_for PassesOwn.never rfl (pi_list (pv 1)) (pg_name (i := 4) sc__law_lines.nd rfl (Or.inl rfl))
    (pss_cons (ps_expr (pe_bm PySem.F.plainAttrs_list PySem.F.slot_list_append PySem.F.type_list_append mt_append (pv 3) (pa_cons (pe_op op_add_str (pv 4) pe_str) pa_nil)))
    (pss_one (ps_if (pt_cmpR op_ne (pe_slice sl_str (pv 4) (po_some (pe_un un_neg pe_int)) po_none) pe_str (nomark _))
    (pss_one (ps_expr (pe_bm PySem.F.plainAttrs_list PySem.F.slot_list_append PySem.F.type_list_append mt_append (pv 3) (pa_cons (pe_op op_add_str (pv 4) pe_str) pa_nil))))
    pss_nil))))
    (pss_one (ps_set (i := 1) sc__law_lines.nd rfl (Or.inl rfl) (pv 3))))))
    (pss_one (ps_ret (pe_lc (own := [("line", 4)]) (g := gName 4) (tt := _) rfl sc__law_lines.nd (pi_list (pv 1)) (blkOk_by (N := N__law_lines) (sc := defScope s__law_lines) (by decide +kernel)) (fun _ _ _ _ _ => pg_name (i := 4) sc__law_lines.nd rfl (Or.inl rfl)) (fun _ _ _ _ _ => pts_one (PW.pt (pw_or (pt_cmpR op_eq (pe_ix ix_str (pv 4) pe_int (fun _ _ => rfl)) pe_str (nomark _)) (pw_or1 (pt_cmpR op_eq (pe_ix ix_str (pv 4) (pe_un un_neg pe_int) (fun _ _ => rfl)) pe_str (nomark _)))))) (fun _ _ _ _ _ => (pv 4))))))), ?_⟩
    have hn62 : (n : Int) < 2 ^ 62 := by omega
    have e45 : tl (Str.ofString "-") = [45] := by decide +kernel
    have e46 : tl (Str.ofString ".") = [46] := by decide +kernel
    walk_at "rd"
    intro l0 zl0
    generalize el0 : upd _ l0 _ = H1
    obtain ⟨s1, hl0⟩ := nw el0 zl0
    walk_at "rd"
    refine for_range (lo := 0) (n := (n : Int).toNat) (fun i σ H' => ∃ (ls : List Str) (q : Addr) (o2 o3 o4 : Option V), σ = [some (.int n), some (.ref q), o2, o3, o4] ∧ Same H H' ∧ H q = none ∧ H' q = some (.lst (ls.map V.str)) ∧ (∀ z ∈ ls, Half i (tl z)) ∧ dots i ∈ ls ∧ ls.length ≤ 2 ^ i)
      ⟨[Str.ofString ""], l0, none, none, none, rfl, s1, zl0, hl0, fun z hz => ?_, ?_, Nat.le_refl _⟩ ?_ ?_
    · rw [List.mem_singleton.mp hz, show tl (Str.ofString "") = [] by decide +kernel]
      exact ⟨rfl, (fun _ h => by cases h), fun i h => by simp at h⟩
    · exact List.mem_singleton.mpr (ext_tl (by rw [tl_dots]; decide +kernel))
    · rintro i σ H' hi ⟨ls, q, o2, o3, o4, rfl, s2, zq, hq, hH, hd, hl⟩
      have hi6 : i < 6 := by omega
      have hl64 : ls.length ≤ 32 := Nat.le_trans hl (by have := Nat.pow_le_pow_right (show 0 < 2 by decide) (show i ≤ 5 by omega); omega)
      walk_at "rd"
      intro D zD
      generalize eD : upd _ D _ = H2
      obtain ⟨s3, hD⟩ := nw eD zD
      have nqD : q ≠ D := ne_of_none hq zD
      walk_at "rd"
      refine ⟨⟨_, SqL.of (s3 _ _ hq)⟩, ?_⟩
      refine for_list (K := K) (a := q) (xs := ls.map V.str) (fun j σ H3 => ∃ (ms : List Str) (o4 : Option V), σ = [some (.int n), some (.ref q), some (.int (0 + (i : Int))), some (.ref D), o4] ∧ Same H' H3 ∧ H3 D = some (.lst (ms.map V.str)) ∧ (∀ z ∈ ms, Half (i + 1) (tl z)) ∧ (dots i ∈ ls.take j → dots (i + 1) ∈ ms) ∧ ms.length ≤ 2 * j)
        ⟨[], _, rfl, s3, hD, (fun _ h => nomatch h), (fun h => by simp at h), Nat.le_refl _⟩ (fun j σ H3 _ h => by
          obtain ⟨_, _, _, s, _⟩ := h
          exact SqL.of (s _ _ hq)) ?_ ?_
      · rintro j x σ H3 hj ⟨ms, o4, rfl, s4, hD3, hM, hdm, hml⟩
        have hjl : j < ls.length := by
          have := (List.getElem?_eq_some_iff.mp hj).1
          rw [List.length_map] at this
          exact this
        rw [getS hjl] at hj
        obtain rfl := Option.some.inj hj
        have hz := hH _ (List.getElem_mem hjl)
        have hzl : (ls[j]'hjl).length = i := by rw [len_tl]; exact hz.1
        have hs46 : (ls[j]'hjl).length + (Str.ofString ".").length ≤ sizeLine := by
          rw [hzl, show (Str.ofString ".").length = 1 by decide +kernel]
          exact Nat.le_trans (show i + 1 ≤ 7 by omega) (by decide)
        have hs45 : (ls[j]'hjl).length + (Str.ofString "-").length ≤ sizeLine := by
          rw [hzl, show (Str.ofString "-").length = 1 by decide +kernel]
          exact Nat.le_trans (show i + 1 ≤ 7 by omega) (by decide)
        have hzs : (ls[j]'hjl).length ≤ sizeLine := by rw [hzl]; exact Nat.le_trans (show i ≤ 7 by omega) (by decide)
        have hms : ∀ x : Nat, x ≤ 2 * 32 + 2 → x < sizeLine := fun x hx => Nat.lt_of_le_of_lt hx (by decide)
        walk_at "rd"
        refine ⟨D, _, _, rfl, rfl, hD3, by rw [List.length_map]; exact hms _ (by omega), ?_⟩
        generalize eA : upd _ D _ = HA
        have hA : HA D = some (.lst ((ms ++ [ls[j]'hjl ++ Str.ofString "."]).map V.str)) := by rw [← eA, upd_same, List.map_append]; rfl
        have sA : Same H' HA := by rw [← eA]; exact s4.put zD
        have mA : ∀ z ∈ ms ++ [ls[j]'hjl ++ Str.ofString "."], Half (i + 1) (tl z) := fun z hz2 => by
          rcases List.mem_append.mp hz2 with h | h
          · exact hM z h
          · rw [List.mem_singleton.mp h, tl_append, e46]
            exact hz.add (.inr rfl) (fun h => by cases h)
        have dA : dots i ∈ ls.take (j + 1) → dots (i + 1) ∈ ms ++ [ls[j]'hjl ++ Str.ofString "."] := fun h => by
          rw [List.take_add_one, List.getElem?_eq_getElem hjl] at h
          rcases List.mem_append.mp h with h | h
          · exact List.mem_append_left _ (hdm h)
          · rw [← dots_add, show dots i = ls[j]'hjl by simpa using h]
            exact List.mem_append_right _ (List.mem_singleton.mpr rfl)
        walk_at "rd"
        refine ite2 (fun hc => ?_) (fun hc => ?_)
        · have hm : (tl (ls[j]'hjl)).getLast? ≠ some 45 := fun h2 => by
            rw [cut_last h2] at hc
            exact absurd hc (by decide +kernel)
          walk_at "rd"
          refine ⟨D, _, _, rfl, rfl, hA, by rw [List.length_map, List.length_append]; exact hms _ (by simp; omega), ?_⟩
          refine ⟨(ms ++ [ls[j]'hjl ++ Str.ofString "."]) ++ [ls[j]'hjl ++ Str.ofString "-"], _, rfl, sA.put zD, by rw [upd_same]; simp, fun z hz2 => ?_, fun h => List.mem_append_left _ (dA h), by rw [List.length_append, List.length_append]; simp; omega⟩
          rcases List.mem_append.mp hz2 with h | h
          · exact mA z h
          · rw [List.mem_singleton.mp h, tl_append, e45]
            exact hz.add (.inl rfl) (fun _ => hm)
        · exact ⟨_, _, rfl, sA, hA, mA, dA, by rw [List.length_append]; simp; omega⟩
      · rintro σ H3 ⟨ms, o4, rfl, s4, hD3, hM, hdm, hml⟩
        rw [List.length_map] at hml hdm
        walk_at "rd"
        refine ⟨ms, D, _, _, _, rfl, s2.trans s4, s2.free zD, hD3, hM, hdm (by rw [List.take_length]; exact hd), ?_⟩
        rw [Nat.pow_succ]
        omega
    · rintro σ H' ⟨ls, q, o2, o3, o4, rfl, s2, zq, hq, hH, hd, hl⟩
      rw [show (n : Int).toNat = n from rfl] at hH hd hl
      have hl64 : ls.length ≤ 64 := Nat.le_trans hl (by have := Nat.pow_le_pow_right (show 0 < 2 by decide) (show n ≤ 6 by omega); omega)
      walk_at "rd"
      refine ⟨⟨_, SqL.of hq⟩, fun D hD => ?_⟩
      refine lc_list (K := K) (a := q) (xs := ls.map V.str) (fun j H3 => ∃ ms : List Str, Same H' H3 ∧ H3 D = some (.lst (ms.map V.str)) ∧ (∀ z ∈ ms, (tl z).length = n ∧ Row (tl z)) ∧ (dots n ∈ ls.take j → dots n ∈ ms) ∧ ms.length ≤ j)
        ⟨[], L2.Same.upd hD, upd_same, (fun _ h => by cases h), (fun h => by simp at h), Nat.le_refl _⟩ (fun j H3 _ h => by
          obtain ⟨_, s, _⟩ := h
          exact SqL.of (s _ _ hq)) ?_ ?_
      · rintro j x H3 hj ⟨ms, s4, hD3, hM, hdm, hml⟩
        have hjl : j < ls.length := by
          have := (List.getElem?_eq_some_iff.mp hj).1
          rw [List.length_map] at this
          exact this
        rw [getS hjl] at hj
        obtain rfl := Option.some.inj hj
        have hz := hH _ (List.getElem_mem hjl)
        have hz1 : (tl (ls[j]'hjl)).length = n := hz.1
        have hzl : (ls[j]'hjl).length ≤ sizeLine := by rw [len_tl, hz1]; exact Nat.le_trans hn6 (by decide)
        have ia : atI (tl (ls[j]'hjl)) 0 = some ((tl (ls[j]'hjl))[0]'(by omega)) := atI_k' (i := 0) 0 rfl (List.getElem?_eq_getElem (by omega))
        have ib : atI (tl (ls[j]'hjl)) (-1) = some ((tl (ls[j]'hjl))[n - 1]'(by omega)) := atI_back ((congrArg (fun m => (tl (ls[j]'hjl))[m - 1]?) hz1).trans (List.getElem?_eq_getElem (by omega)))
        have hdk : ∀ ms' : List Str, (∀ z ∈ ms, z ∈ ms') → (ls[j]'hjl = dots n → dots n ∈ ms') → dots n ∈ ls.take (j + 1) → dots n ∈ ms' := fun ms' h1 h2 h => by
          rw [List.take_add_one, List.getElem?_eq_getElem hjl] at h
          rcases List.mem_append.mp h with h | h
          · exact h1 _ (hdm h)
          · exact h2 (List.mem_singleton.mp (show dots n ∈ [ls[j]'hjl] from h)).symm
        refine ⟨rfl, ?_⟩
        walk_at "rd"
        have take : ((tl (ls[j]'hjl))[0]? = some 46 ∨ (tl (ls[j]'hjl))[n - 1]? = some 46) → ∃ acc : List V, H3 D = some (.lst acc) ∧ acc.length < sizeLine ∧ (fun j H3 => ∃ ms : List Str, Same H' H3 ∧ H3 D = some (.lst (ms.map V.str)) ∧ (∀ z ∈ ms, (tl z).length = n ∧ Row (tl z)) ∧ (dots n ∈ ls.take j → dots n ∈ ms) ∧ ms.length ≤ j) (j + 1) (upd H3 D (.lst (acc ++ [V.str (ls[j]'hjl)]))) := fun he =>
          ⟨_, hD3, by rw [List.length_map]; exact Nat.lt_of_le_of_lt (show ms.length ≤ 64 by omega) (by decide), ms ++ [ls[j]'hjl], s4.put hD, by rw [upd_same, List.map_append]; rfl, fun z hz2 => by
            rcases List.mem_append.mp hz2 with h | h
            · exact hM z h
            · rw [List.mem_singleton.mp h]
              exact ⟨hz1, hz.row hn0 he⟩, hdk _ (fun z h => List.mem_append_left _ h) (fun h => h ▸ List.mem_append_right _ (List.mem_singleton.mpr rfl)), by rw [List.length_append]; simp; omega⟩
        have q0 : (tl (ls[j]'hjl))[0]? = some _ := List.getElem?_eq_getElem (by omega)
        have qn : (tl (ls[j]'hjl))[n - 1]? = some _ := List.getElem?_eq_getElem (by omega)
        refine ⟨_, _, _, rfl, rfl, hzl, ia, ?_⟩
        walk_at "rd"
        refine ite2 (fun hc => ?_) (fun hc => ?_)
        · walk_at "rd"
          exact take (.inl (q0.trans (congrArg some (is_dot hc))))
        walk_at "rd"
        refine ⟨_, _, _, rfl, rfl, hzl, ib, ?_⟩
        walk_at "rd"
        refine ite2 (fun hc2 => ?_) (fun hc2 => ?_)
        · walk_at "rd"
          exact take (.inr (qn.trans (congrArg some (is_dot hc2))))
        · refine ⟨ms, s4, hD3, hM, hdk ms (fun z h => h) (fun h => ?_), by omega⟩
          have e := no_dot h qn
          rw [e] at hc2
          exact absurd (show decide (V.str (⟨#[46]⟩ : Str) = V.str (Str.ofString ".")) = true by decide +kernel) hc2
      · rintro H3 ⟨ms, s4, hD3, hM, hdm, hml⟩
        rw [List.length_map] at hml hdm
        rw [List.take_length] at hdm
        refine k ms D H3 ⟨List.length_pos_of_mem (hdm hd), fun z hz => (hM z hz).1, fun z hz => (hM z hz).2⟩ (by omega) (s2.trans s4) (s2.free hD) hD3
end
abbrev s__law_texts : Stmt := top 47
abbrev N__law_texts : List Str := ["source", "most", "way", "span", "lines", "texts", "k", "last"]
theorem sc__law_texts : FnScope N__law_texts ["source", "most"] (defScope s__law_texts) := ⟨rfl, rfl, rfl, by decide +kernel, rfl, by decide +kernel, by decide +kernel⟩
section
variable {P : Program} {w : World} {K : PySem.W.Frag} {mg : Str → Option Value} {base : Heap}
theorem sIx_back {n d : Nat} (h : 0 < n) : HT.sIx n d (some (-1)) = n - 1 := by
  show (if (-1 : Int) < 0 then ((-1 : Int) + (n : Int)).toNat else min (-1 : Int).toNat n) = _
  rw [if_pos (by decide)]
  omega
theorem tl_cut (z : Str) (i j : Option Int) : tl (cutS z i j) = ((tl z).drop (HT.sIx z.length 0 i)).take (HT.sIx z.length z.length j - HT.sIx z.length 0 i) := rfl
theorem tl_back {z : Str} (h : 0 < (tl z).length) : tl (cutS z (some (-1)) none) = (tl z).drop ((tl z).length - 1) := by
  rw [tl_cut, sIx_back (by rw [len_tl]; exact h)]
  show ((tl z).drop (z.length - 1)).take (z.length - (z.length - 1)) = _
  rw [len_tl, List.take_of_length_le (by rw [List.length_drop]; omega)]
theorem tl_front {z : Str} (h : 0 < (tl z).length) : tl (cutS z none (some (-1))) = (tl z).take ((tl z).length - 1) := by
  rw [tl_cut, sIx_back (by rw [len_tl]; exact h)]
  show ((tl z).drop 0).take (z.length - 1 - 0) = _
  rw [List.drop_zero, Nat.sub_zero, len_tl]
theorem tl_from {z : Str} (c : Nat) : tl (cutS z (some (c : Int)) none) = (tl z).drop c := by
  rw [tl_cut, sIx_nat]
  show ((tl z).drop (min c z.length)).take (z.length - min c z.length) = _
  rw [len_tl]
  by_cases h : c ≤ (tl z).length
  · rw [Nat.min_eq_left h, List.take_of_length_le (by rw [List.length_drop]; exact Nat.le_refl _)]
  · rw [Nat.min_eq_right (by omega), Nat.sub_self, List.take_zero, List.drop_of_length_le (by omega)]
theorem tl_to {z : Str} (c : Nat) : tl (cutS z none (some (c : Int))) = (tl z).take c := by
  rw [tl_cut, sIx_nat]
  show ((tl z).drop 0).take (min c z.length - 0) = _
  rw [List.drop_zero, Nat.sub_zero, len_tl]
  by_cases h : c ≤ (tl z).length
  · rw [Nat.min_eq_left h]
  · rw [Nat.min_eq_right (by omega), List.take_of_length_le (Nat.le_refl _), List.take_of_length_le (by omega)]
theorem sg_turn {l : List Nat} (h : 0 < l.length) {c : Nat} (hc : c ≤ l.length) : ∀ k : Nat, k < (l.drop c ++ l.take c).length → (l.drop c ++ l.take c)[k]? = some (sg l ((k : Int) + (c : Int))) := fun k hk => by
  have hlen : (l.drop c ++ l.take c).length = l.length := by rw [List.length_append, List.length_drop, List.length_take, Nat.min_eq_left hc]; omega
  rw [hlen] at hk
  by_cases h1 : k < l.length - c
  · rw [List.getElem?_append_left (by rw [List.length_drop]; exact h1), List.getElem?_drop]
    have e : (k : Int) + (c : Int) = ((c + k : Nat) : Int) := by omega
    rw [e]
    exact sg_nat (by omega)
  · rw [List.getElem?_append_right (by rw [List.length_drop]; omega), List.length_drop, List.getElem?_take_of_lt (by omega)]
    have e : (k : Int) + (c : Int) = ((k - (l.length - c) : Nat) : Int) + (l.length : Int) := by omega
    rw [e, sg_add]
    exact sg_nat (by omega)
theorem Row.turn {l : List Nat} (R : Row l) {c : Nat} (hc : c ≤ l.length) : Row (l.drop c ++ l.take c) := by
  have hlen : (l.drop c ++ l.take c).length = l.length := by rw [List.length_append, List.length_drop, List.length_take, Nat.min_eq_left hc]; omega
  refine R.move (f := fun i => i + (c : Int)) (by rw [hlen]; exact R.ne) (sg_turn R.ne hc) (fun i => sg_congr ?_) (fun i => .inl (by show i + 1 + (c : Int) = i + (c : Int) + 1; omega))
  show (i % _ + (c : Int)) % _ = (i + (c : Int)) % _
  rw [hlen, Int.emod_add_emod]
theorem at_lt {ls : List Str} {c : Int} (h0 : 0 ≤ c) (h : c < ((ls.map V.str).length : Nat)) : ∃ z, z ∈ ls ∧ atI (ls.map V.str) c = some (V.str z) := by
  rw [List.length_map] at h
  have hc : c.toNat < ls.length := by omega
  exact ⟨ls[c.toNat], List.getElem_mem hc, atI_k' c.toNat (by omega) (getS hc)⟩
def spTexts : Sp := fun vs H Q _ => ∃ (s g sm : Addr) (m : Nat) (mo : Int), vs = [.ref s, .int mo] ∧ Src H s g sm m ∧ m + 30 ≤ 2 ^ 40 ∧ 6 ≤ mo ∧
  ∀ (n : Nat) (ls : List Str) (q : Addr) (H' : Hp), Rows n ls → n ≤ 6 → ls.length ≤ 9 → Src H' s g sm (m + 30) → Same (out s g H) (out s g H') → H q = none → out s g H' q = some (.lst (ls.map V.str)) → Q (.ref q) H'
theorem or_go {c : Bool} {H' : Hp} {σ : St} {K : Bool → Hp → Prop} {t : TT} (W : Hp → Prop) (hK : ∀ b H2, W H2 → K b H2) (h0 : W H') (ht : (∀ b H2, W H2 → K b H2) → t σ H' K) : if c = true then K true H' else t σ H' K := by
  cases c with
  | true => exact hK true H' h0
  | false => exact ht hK
structure TxAt (H : Hp) (s g sm L D : Addr) (sp m i : Nat) (ls ms : List Str) (H' : Hp) : Prop where
  d : H' D = some (.lst (ms.map V.str))
  w : Rows sp ms
  l : ms.length ≤ 1 + i
  src : Src H' s g sm (m + 4 + 2 * i)
  fr : Same (out s g H) (out s g H')
  o : out s g H' L = some (.lst (ls.map V.str))
theorem TxAt.add {H : Hp} {s g sm L D : Addr} {sp m i j m2 r : Nat} {ls ms : List Str} {H' H2 : Hp} {y : Str} (T : TxAt H s g sm L D sp m i ls ms H') (S0 : Src H s g sm r) (zD : H D = none) (nLD : L ≠ D) (hd : H2 D = some (.lst (ms.map V.str))) (S2 : Src H2 s g sm m2) (hm : m2 ≤ m + 4 + 2 * (i + 1)) (t2 : Same (out s g H) (out s g H2)) (o2 : out s g H2 L = some (.lst (ls.map V.str)))
    (hy : (tl y).length = sp) (ry : Row (tl y)) (hj : j = i + 1) : TxAt H s g sm L D sp m j ls (ms ++ [y]) (upd H2 D (.lst (ms.map V.str ++ [V.str y]))) := by
  subst hj
  refine ⟨by rw [upd_same, List.map_append]; rfl, ⟨by rw [List.length_append]; exact Nat.succ_pos _, fun z hz => ?_, fun z hz => ?_⟩, by rw [List.length_append]; exact Nat.succ_le_succ T.l, (S2.put S0 zD).mono hm, out_set t2 zD, by rw [out_ne nLD]; exact o2⟩
  · rcases List.mem_append.mp hz with h | h
    · exact T.w.len z h
    · rw [List.mem_singleton.mp h]; exact hy
  · rcases List.mem_append.mp hz with h | h
    · exact T.w.row z h
    · rw [List.mem_singleton.mp h]; exact ry
theorem ok__law_texts {f : Addr} {fd : FuncData} (F : Fun K "_law_texts" "_law_texts" s__law_texts f fd) (B : Bi mg) (D_law_draw : Df P w K mg base "_law_draw" 2 ["source", "limit"] spDraw) (D_law_lines : Df P w K mg base "_law_lines" 2 ["span"] spLinesSpan) : FnOk P w K mg base CX0 3 f fd ["source", "most"] spTexts := by
  refine F.ok sc__law_texts (fun vs H Q E h => ?_) (fun cdv A outer s0 H vs Q E hr h => ?_)
  · obtain ⟨s, g, sm, m, mo, rfl, _⟩ := h
    rfl
  · obtain ⟨s, g, sm, m, mo, rfl, S, hm, hmo, k⟩ := h
    refine ⟨_, (pss_cons (ps_set (i := 2) sc__law_texts.nd rfl (Or.inl rfl) (pe_df D_law_draw (hr.mono (by first | decide | omega)) (by rfl) (pa_cons (pv 0) (pa_cons pe_int pa_nil))))
    (pss_cons (ps_set (i := 3) sc__law_texts.nd rfl (Or.inl rfl) (pe_ix ix_list (pe_lst (pa_cons pe_int (pa_cons pe_int (pa_cons pe_int (pa_cons pe_int (pa_cons pe_int (pa_cons pe_int (pa_cons pe_int (pa_cons pe_int (pa_cons pe_int pa_nil)))))))))) (pe_df D_law_draw (hr.mono (by first | decide | omega)) (by rfl) (pa_cons (pv 0) (pa_cons pe_int pa_nil))) (fun _ _ => rfl)))
    (pss_cons (ps_set (i := 4) sc__law_texts.nd rfl (Or.inl rfl) (pe_df D_law_lines (hr.mono (by first | decide | omega)) (by rfl) (pa_cons (pv 3) pa_nil)))
    (pss_cons (ps_set (i := 5) sc__law_texts.nd rfl (Or.inl rfl) (pe_lst (pa_cons (pe_ix ix_list (pv 4) (pe_df D_law_draw (hr.mono (by first | decide | omega)) (by rfl) (pa_cons (pv 0) (pa_cons (pe_callB call_len_seq (by rfl) B.len_ PySem.boot_len (pa_cons (pv 4) pa_nil)) pa_nil))) (fun _ _ => rfl)) pa_nil)))
    (pss_cons (ps_for PassesOwn.never rfl (pi_range1 (by rfl) B.range_ (pa_cons (pe_df D_law_draw (hr.mono (by first | decide | omega)) (by rfl) (pa_cons (pv 0) (pa_cons (pe_callB (call_min2 rfl) (by rfl) B.min_ (by decide +kernel) (pa_cons pe_int (pa_cons (pe_op op_fdiv (pv 1) (pv 3)) pa_nil))) pa_nil))) pa_nil)) (pg_name (i := 6) sc__law_texts.nd rfl (Or.inl rfl))
    (pss_cons (ps_set (i := 7) sc__law_texts.nd rfl (Or.inl rfl) (pe_ix ix_list (pv 5) (pe_un un_neg pe_int) (fun _ _ => rfl)))
    (pss_one (ps_if (PW.pt (pw_or (pt_cmpR op_eq (pv 2) pe_int (nomark _)) (pw_or1 (PW.pt (pw_and (pt_cmpR op_eq (pv 2) pe_int (nomark _)) (pw_and1 (pt_cmpR op_eq (pe_df D_law_draw (hr.mono (by first | decide | omega)) (by rfl) (pa_cons (pv 0) (pa_cons pe_int pa_nil))) pe_int (nomark _))))))))
    (pss_one (ps_expr (pe_bm PySem.F.plainAttrs_list PySem.F.slot_list_append PySem.F.type_list_append mt_append (pv 5) (pa_cons (pe_op op_add_str (pe_slice sl_str (pv 7) (po_some (pe_un un_neg pe_int)) po_none) (pe_slice sl_str (pv 7) po_none (po_some (pe_un un_neg pe_int)))) pa_nil))))
    (pss_one (ps_if (pt_cmpR op_eq (pv 2) pe_int (nomark _))
    (pss_one (ps_expr (pe_bm PySem.F.plainAttrs_list PySem.F.slot_list_append PySem.F.type_list_append mt_append (pv 5) (pa_cons (pe_op op_add_str (pe_slice sl_str (pv 7) (po_some pe_int) po_none) (pe_slice sl_str (pv 7) po_none (po_some pe_int))) pa_nil))))
    (pss_one (ps_expr (pe_bm PySem.F.plainAttrs_list PySem.F.slot_list_append PySem.F.type_list_append mt_append (pv 5) (pa_cons (pe_ix ix_list (pv 4) (pe_df D_law_draw (hr.mono (by first | decide | omega)) (by rfl) (pa_cons (pv 0) (pa_cons (pe_callB call_len_seq (by rfl) B.len_ PySem.boot_len (pa_cons (pv 4) pa_nil)) pa_nil))) (fun _ _ => rfl)) pa_nil))))))))))
    (pss_one (ps_ret (pv 5)))))))), ?_⟩
    walk_at "rd"
    refine ⟨s, g, sm, m, _, rfl, S, by omega, by decide, by decide, fun way H1 w0 w1 S1 t1 => ?_⟩
    walk_at "rd"
    intro p1 zp1
    generalize ep1 : upd _ p1 _ = H2
    obtain ⟨s2, hp1⟩ := nw ep1 zp1
    have S2 := S1.same s2
    walk_at "rd"
    refine ⟨s, g, sm, m + 1, _, rfl, S2, by omega, by decide, by decide, fun c H3 c0 c1 S3 t3 => ?_⟩
    have hp13 : H3 p1 = some _ := out_same _ _ (t3 _ _ (S1.keep zp1 hp1))
    obtain ⟨sp, ic, sp0, sp6⟩ : ∃ sp : Nat, atI [V.int 1, V.int 2, V.int 2, V.int 3, V.int 3, V.int 4, V.int 4, V.int 5, V.int 6] c = some (V.int sp) ∧ 0 < sp ∧ sp ≤ 6 := by
      have hc : c = 0 ∨ c = 1 ∨ c = 2 ∨ c = 3 ∨ c = 4 ∨ c = 5 ∨ c = 6 ∨ c = 7 ∨ c = 8 := by omega
      rcases hc with rfl | rfl | rfl | rfl | rfl | rfl | rfl | rfl | rfl
      · exact ⟨1, rfl, by decide, by decide⟩
      · exact ⟨2, rfl, by decide, by decide⟩
      · exact ⟨2, rfl, by decide, by decide⟩
      · exact ⟨3, rfl, by decide, by decide⟩
      · exact ⟨3, rfl, by decide, by decide⟩
      · exact ⟨4, rfl, by decide, by decide⟩
      · exact ⟨4, rfl, by decide, by decide⟩
      · exact ⟨5, rfl, by decide, by decide⟩
      · exact ⟨6, rfl, by decide, by decide⟩
    walk_at "rd"
    intro ls L H4 W hl64 s4 zL hL
    have S4 := S3.same s4
    have hl0 := W.ne
    walk_at "rd"
    have pL : (0 : Int) < ((ls.map V.str).length : Nat) := by rw [List.length_map]; omega
    have pL2 : ((ls.map V.str).length : Int) < 1073741824 := by rw [List.length_map]; omega
    refine ⟨s, g, sm, m + 2, _, rfl, S4, by omega, pL, pL2, fun c2 H5 c20 c21 S5 t5 => ?_⟩
    have tt : Same (out s g H) (out s g H5) := t1.trans (s2.out.trans (t3.trans (s4.out.trans t5)))
    have oL : out s g H5 L = some (.lst (ls.map V.str)) := t5 _ _ (S3.keep zL hL)
    have hL5 := out_same _ _ oL
    obtain ⟨z0, hz0, iz0⟩ := at_lt c20 c21
    walk_at "rd"
    intro D zD
    generalize eD : upd _ D _ = H6
    obtain ⟨s6, hD⟩ := nw eD zD
    have S6 := S5.same s6
    have oL6 := s6.out _ _ oL
    have zDH : H D = none := S5.free tt zD
    have hsp : (0 : Int) < (sp : Int) := by omega
    have hdv : 1 ≤ mo / (sp : Int) := by
      rw [Int.le_ediv_iff_mul_le hsp]
      omega
    walk_at "rd"
    refine ⟨_, _, rfl, ?_⟩
    generalize elim : (if mo / (sp : Int) < 9 then mo / (sp : Int) else 9) = lim
    have hlim : 1 ≤ lim ∧ lim ≤ 9 := by
      rw [← elim]
      split <;> omega
    walk_at "rd"
    refine ⟨s, g, sm, m + 3, _, rfl, S6, by omega, by omega, by omega, fun c3 H7 c30 c31 S7 t7 => ?_⟩
    have nLD : L ≠ D := fun e => by rw [e] at hL5; rw [hL5] at zD; cases zD
    have oD7 : H7 D = some (.lst [V.str z0]) := out_same _ _ (t7 _ _ (S5.keep zD hD))
    walk_at "rd"
    refine for_range (lo := 0) (n := c3.toNat) (fun i σ H' => ∃ (ms : List Str) (o6 o7 : Option V), σ = [some (.ref s), some (.int mo), some (.int way), some (.int sp), some (.ref L), some (.ref D), o6, o7] ∧ TxAt H s g sm L D sp m i ls ms H')
      ⟨[z0], none, none, rfl, oD7, ⟨Nat.succ_pos 0, fun z hz => by rw [List.mem_singleton.mp hz]; exact W.len _ hz0, fun z hz => by rw [List.mem_singleton.mp hz]; exact W.row _ hz0⟩, Nat.le_refl _, S7, (tt.trans s6.out).trans t7, t7 _ _ oL6⟩ ?_ ?_
    · rintro i σ H' hi ⟨ms, o6, o7, rfl, TX⟩
      have hi8 : i < 9 := by omega
      have hm0 := TX.w.ne
      have hml := TX.l
      have hlast : ms[ms.length - 1]'(by omega) ∈ ms := List.getElem_mem (by omega)
      generalize ez : ms[ms.length - 1]'(by omega) = z at hlast
      have iz : atI (ms.map V.str) (-1) = some (V.str z) := atI_back (by rw [List.length_map, List.getElem?_map, List.getElem?_eq_getElem (by omega), ez]; rfl)
      have hzn : (tl z).length = sp := TX.w.len _ hlast
      have hzr := TX.w.row _ hlast
      have hz0' : 0 < (tl z).length := by omega
      have big : ∀ x : Nat, x ≤ 100 → x < sizeLine := fun x hx => Nat.lt_of_le_of_lt hx (by decide)
      have hzl : z.length ≤ sizeLine := Nat.le_of_lt (big _ (by rw [len_tl]; omega))
      have hdl : (ms.map V.str).length < sizeLine := big _ (by rw [List.length_map]; omega)
      have hD' := TX.d
      have hL' := out_same _ _ TX.o
      have hyl1 : (cutS z (some (-1)) none).length + (cutS z none (some (-1))).length ≤ sizeLine := Nat.le_of_lt (big _ (by rw [len_tl, len_tl, tl_back hz0', tl_front hz0', List.length_drop, List.length_take]; omega))
      have e1 : tl (cutS z (some (-1)) none ++ cutS z none (some (-1))) = (tl z).drop ((tl z).length - 1) ++ (tl z).take ((tl z).length - 1) := by rw [tl_append, tl_back hz0', tl_front hz0']
      have r1 := hzr.turn (c := (tl z).length - 1) (by omega)
      have n1 : ((tl z).drop ((tl z).length - 1) ++ (tl z).take ((tl z).length - 1)).length = sp := by rw [List.length_append, List.length_drop, List.length_take]; omega
      rw [← e1] at r1 n1
      have hyl2 : (cutS z (some 1) none).length + (cutS z none (some 1)).length ≤ sizeLine := Nat.le_of_lt (big _ (by
        have a1 := tl_from (z := z) 1
        have a2 := tl_to (z := z) 1
        rw [len_tl, len_tl]
        rw [show ((1 : Nat) : Int) = 1 from rfl] at a1 a2
        rw [a1, a2, List.length_drop, List.length_take]; omega))
      have e2 : tl (cutS z (some 1) none ++ cutS z none (some 1)) = (tl z).drop 1 ++ (tl z).take 1 := by
        have a1 := tl_from (z := z) 1
        have a2 := tl_to (z := z) 1
        rw [show ((1 : Nat) : Int) = 1 from rfl] at a1 a2
        rw [tl_append, a1, a2]
      have r2 := hzr.turn (c := 1) (by omega)
      have n2 : ((tl z).drop 1 ++ (tl z).take 1).length = sp := by rw [List.length_append, List.length_drop, List.length_take]; omega
      rw [← e2] at r2 n2
      walk_at "rd"
      refine or_go (fun H2 => ∃ m2, m2 ≤ m + 4 + 2 * i + 1 ∧ Src H2 s g sm m2 ∧ Same (out s g H) (out s g H2) ∧ H2 D = some (.lst (ms.map V.str)) ∧ out s g H2 L = some (.lst (ls.map V.str))) ?_ ⟨_, by omega, TX.src, TX.fr, TX.d, TX.o⟩ ?_
      · rintro b H2 ⟨m2, hm2, S2', f2, hd2, ho2⟩
        have hL2 := out_same _ _ ho2
        refine ite2 (fun hb => ?_) (fun hb => ?_)
        · walk_at "rd"
          refine ⟨D, _, _, rfl, rfl, hd2, hdl, ?_⟩
          exact ⟨_, _, _, rfl, TX.add S zDH nLD hd2 S2' (by omega) f2 ho2 n1 r1 rfl⟩
        · walk_at "rd"
          refine ite2 (fun hw => ?_) (fun hw => ?_)
          · walk_at "rd"
            refine ⟨D, _, _, rfl, rfl, hd2, hdl, ?_⟩
            exact ⟨_, _, _, rfl, TX.add S zDH nLD hd2 S2' (by omega) f2 ho2 n2 r2 rfl⟩
          · walk_at "rd"
            refine ⟨s, g, sm, m2, _, rfl, S2', by omega, pL, pL2, fun c4 H8 c40 c41 S8 t8 => ?_⟩
            obtain ⟨z4, hz4, iz4⟩ := at_lt c40 c41
            have oD8 : H8 D = some (.lst (ms.map V.str)) := by
              obtain ⟨q1, q2, _⟩ := S.new zDH
              have : out s g H2 D = some (.lst (ms.map V.str)) := by rw [out_at q1 q2]; exact hd2
              exact out_same _ _ (t8 _ _ this)
            have hL8 := out_same _ _ (t8 _ _ ho2)
            walk_at "rd"
            refine ⟨D, _, _, rfl, rfl, oD8, hdl, ?_⟩
            exact ⟨_, _, _, rfl, TX.add S zDH nLD oD8 S8 (by omega) (f2.trans t8) (t8 _ _ ho2) (W.len _ hz4) (W.row _ hz4) rfl⟩
      · intro hK
        walk_at "rd"
        refine ite2 (fun _ => ?_) (fun _ => ?_)
        · walk_at "rd"
          refine ⟨s, g, sm, m + 4 + 2 * i, _, rfl, TX.src, by omega, by decide, by decide, fun c5 H9 _ _ S9 t9 => ?_⟩
          walk_at "rd"
          have oD9 : H9 D = some (.lst (ms.map V.str)) := by
            obtain ⟨q1, q2, _⟩ := S.new zDH
            have : out s g H' D = some (.lst (ms.map V.str)) := by rw [out_at q1 q2]; exact TX.d
            exact out_same _ _ (t9 _ _ this)
          exact hK _ _ ⟨_, Nat.le_refl _, S9, TX.fr.trans t9, oD9, t9 _ _ TX.o⟩
        · exact hK _ _ ⟨_, by omega, TX.src, TX.fr, TX.d, TX.o⟩
    · rintro σ H' ⟨ms, o6, o7, rfl, TX⟩
      walk_at "rd"
      have hD2 : out s g H' D = some (.lst (ms.map V.str)) := by
        obtain ⟨n1, n2, _⟩ := S.new zDH
        rw [out_at n1 n2]
        exact TX.d
      have hml := TX.l
      exact k sp ms D H' TX.w sp6 (by omega) (TX.src.mono (by omega)) TX.fr zDH hD2
end
abbrev s_check_size_x : Stmt := top 9
abbrev N_check_size_x : List Str := ["n"]
theorem sc_check_size_x : FnScope N_check_size_x ["n"] (defScope s_check_size_x) := ⟨rfl, rfl, rfl, by decide +kernel, rfl, by decide +kernel, by decide +kernel⟩
section
variable {P : Program} {w : World} {K : PySem.W.Frag} {mg : Str → Option Value} {base : Heap}
theorem ok_check_size_x {f C_InvalidSize : Addr} {fd : FuncData} (F : Fun K "check_size" "check_size" s_check_size_x f fd) (B : Bi mg) (X_InvalidSize : Er P w K mg base "InvalidSize" C_InvalidSize) : FnOk P w K mg base (L2.CX P w) 4 f fd ["n"] (spChk C_InvalidSize 1) := by
  refine F.okX sc_check_size_x (fun vs H Q E h => ?_) (fun cdv A outer s H vs Q E hr h => ?_)
  · obtain ⟨n, rfl, _⟩ := h
    rfl
  · obtain ⟨n, rfl, k1, k2⟩ := h
    refine ⟨_, (pss_one (ps_if (pt_cmpR op_lt (pv 0) pe_int (nomark _))
    (pss_one (ps_raise rfl (takes_of rfl rfl rfl rfl) (pmk_er X_InvalidSize (hr.mono (by first | decide | omega)) (by rfl) (pa_cons (pv 0) pa_nil))))
    pss_nil)), ?_⟩
    walk_at "rd"
    refine ite2 (fun hc => ?_) (fun hc => ?_)
    · refine ⟨_, rfl, rd_er X_InvalidSize fun d hd => k2 (of_decide_eq_true hc) d hd⟩
    · exact k1 (Int.not_lt.mp fun z => hc (decide_eq_true z))
end
abbrev s_round_of_x : Stmt := top 22
abbrev N_round_of_x : List Str := ["rule", "n", "post"]
theorem sc_round_of_x : FnScope N_round_of_x ["rule", "n"] (defScope s_round_of_x) := ⟨rfl, rfl, rfl, by decide +kernel, rfl, by decide +kernel, by decide +kernel⟩
section
variable {P : Program} {w : World} {K : PySem.W.Frag} {mg : Str → Option Value} {base : Heap}
def spRoundX (C CS : Addr) : Sp := fun vs H Q E => ∃ (p : Addr) (sz : Int) (n : Nat) (ls : List Str), vs = [.ref p, .int sz] ∧ RuleAt C H p ls ∧ Rows n ls ∧ n ≤ 5000 ∧ ls.length ≤ 5000 ∧ sz ≤ 5000 ∧ (sz < 1 → Bad E H CS sz) ∧ (1 ≤ sz → ∀ v H', Same H H' → Q v H')
theorem ok_round_of_x {f C C_InvalidSize : Addr} {fd : FuncData} (F : Fun K "round_of" "round_of" s_round_of_x f fd) (B : Bi mg) (DX_check_size : DfX P w K mg base "check_size" 4 ["n"] (spChk C_InvalidSize 1)) (D_way : Df P w K mg base "_way" 6 ["rule", "n", "post", "rows"] (spWay C)) (P_height : Pr P w K mg base C "height" 2 (spHeight C)) : FnOk P w K mg base (L2.CX P w) 7 f fd ["rule", "n"] (spRoundX C C_InvalidSize) := by
  refine F.okX sc_round_of_x (fun vs H Q E h => ?_) (fun cdv A outer s0 H vs Q E hr h => ?_)
  · obtain ⟨p, sz, n, ls, rfl, _⟩ := h
    rfl
  · obtain ⟨p, sz, n, ls, rfl, R, W, hn, hl, hz, kS, k⟩ := h
    refine ⟨_, (pss_cons (ps_expr (pe_dfS DX_check_size (hr.mono (by first | decide | omega)) (by rfl) (takes_of rfl rfl rfl rfl) (pa_cons (pv 1) pa_nil)))
    (pss_one (ps_ret (pe_lc (own := [("post", 2)]) (g := gName 2) (tt := tYes) rfl sc_round_of_x.nd (pi_range1 (by rfl) B.range_ (pa_cons (pv 1) pa_nil)) (blkOk_by (N := N_round_of_x) (sc := defScope s_round_of_x) (by decide +kernel)) (fun _ _ _ _ _ => pg_name (i := 2) sc_round_of_x.nd rfl (Or.inl rfl)) (fun _ _ _ _ _ => pts_nil) (fun _ _ _ _ _ => (pe_ix (show IxR _ (rIxL K) from ix_list) (pe_df D_way (hr.mono (by first | decide | omega)) (by rfl) (pa_cons (pv 0) (pa_cons (pv 1) (pa_cons (pv 2) (pa_cons (pe_pr (pv 0) P_height (hr.mono (by first | decide | omega)) rfl) pa_nil))))) (pe_un un_neg pe_int) (fun _ _ => rfl))))))), ?_⟩
    walk_at "rd"
    refine ⟨fun hs => ?_, fun h d hd => kS h d hd⟩
    obtain ⟨N, rfl⟩ := Int.eq_ofNat_of_zero_le (show 0 ≤ sz by omega)
    walk_at "rd"
    intro D hD
    refine lc_range (lo := 0) (n := N) (fun i H' => Same H H' ∧ H' D = some (.lst (((List.range i).map fun j : Nat => wk ls (N : Int) (j : Int) ls.length).map V.int))) ⟨L2.Same.upd hD, upd_same⟩ ?_ ?_
    · rintro i H' hi ⟨sm, hD'⟩
      refine ⟨rfl, ?_⟩
      have R' := R.same sm
      obtain ⟨dx, u, hp, _⟩ := id R'
      walk_at "rd"
      refine ⟨p, dx, _, rfl, hp, p, ls, rfl, R', ?_⟩
      walk_at "rd"
      refine ⟨p, N, 0 + (i : Int), ls.length, n, ls, rfl, R', W, hn, by omega, by omega, by omega, fun t H2 s2 zt ht => ?_⟩
      have it : atI ((way ls (N : Int) (0 + (i : Int)) (ls.length + 1)).map V.int) (-1) = some (V.int (wk ls (N : Int) (i : Int) ls.length)) := atI_back (by
        rw [List.length_map, way_len, Nat.add_sub_cancel, List.getElem?_map, way_get (Nat.lt_succ_self _), Int.zero_add]
        rfl)
      walk_at "rd"
      refine ⟨_, s2 _ _ hD', by rw [List.length_map, List.length_map, List.length_range]; exact Nat.lt_of_lt_of_le hi (Nat.le_trans (show N ≤ 5000 by omega) (by decide)), (sm.trans s2).put hD, ?_⟩
      rw [upd_same, List.range_succ, List.map_append, List.map_append]
      rfl
    · rintro H' ⟨sm, hD'⟩
      exact k hs _ H' sm
end
abbrev s_rings_of_x : Stmt := top 25
abbrev N_rings_of_x : List Str := ["rule", "n", "after", "rings", "seen", "post", "ring", "at"]
theorem sc_rings_of_x : FnScope N_rings_of_x ["rule", "n"] (defScope s_rings_of_x) := ⟨rfl, rfl, rfl, by decide +kernel, rfl, by decide +kernel, by decide +kernel⟩
section
variable {P : Program} {w : World} {K : PySem.W.Frag} {mg : Str → Option Value} {base : Heap}
def spRingsX (C CS : Addr) : Sp := fun vs H _ E => ∃ (p : Addr) (sz : Int) (n : Nat) (ls : List Str), vs = [.ref p, .int sz] ∧ RuleAt C H p ls ∧ Rows n ls ∧ n ≤ 5000 ∧ ls.length ≤ 5000 ∧ sz < 1 ∧ Bad E H CS sz
theorem ok_rings_of_x {f C C_InvalidSize : Addr} {fd : FuncData} (F : Fun K "rings_of" "rings_of" s_rings_of_x f fd) (B : Bi mg) (DX_round_of : DfX P w K mg base "round_of" 7 ["rule", "n"] (spRoundX C C_InvalidSize)) (D_ring_from : Df P w K mg base "_ring_from" 2 ["after", "post"] spRingFrom) : FnOk P w K mg base (L2.CX P w) 8 f fd ["rule", "n"] (spRingsX C C_InvalidSize) := by
  refine F.okX sc_rings_of_x (fun vs H Q E h => ?_) (fun cdv A outer s0 H vs Q E hr h => ?_)
  · obtain ⟨p, sz, n, ls, rfl, _⟩ := h
    rfl
  · obtain ⟨p, sz, n, ls, rfl, R, W, hn, hl, hz, k⟩ := h
    refine ⟨_, (pss_cons (ps_set (i := 2) sc_rings_of_x.nd rfl (Or.inl rfl) (pe_dfS DX_round_of (hr.mono (by first | decide | omega)) (by rfl) (takes_of rfl rfl rfl rfl) (pa_cons (pv 0) (pa_cons (pv 1) pa_nil))))
    (pss_cons (ps_set (i := 3) sc_rings_of_x.nd rfl (Or.inl rfl) (pe_lst pa_nil))
    (pss_cons (ps_set (i := 4) sc_rings_of_x.nd rfl (Or.inl rfl) (pe_callTy0 cr_set0 (by rfl) B.set_ (by decide +kernel)))
    (pss_cons (ps_for (passes_of rfl) rfl (pi_range1 (by rfl) B.range_ (pa_cons (pv 1) pa_nil)) (pg_name (i := 5) sc_rings_of_x.nd rfl (Or.inl rfl))
    (pss_one (ps_if (pt_cmpR or_snotin (pv 5) (pv 4) (by rfl))
    (pss_cons (ps_set (i := 6) sc_rings_of_x.nd rfl (Or.inl rfl) (pe_df D_ring_from (hr.mono (by first | decide | omega)) (by rfl) (pa_cons (pv 2) (pa_cons (pv 5) pa_nil))))
    (pss_cons (ps_for (passes_of rfl) rfl (pi_list (pv 6)) (pg_name (i := 7) sc_rings_of_x.nd rfl (Or.inl rfl))
    (pss_one (ps_expr (pe_sadd (pv 4) (pa_cons (pv 7) pa_nil)))))
    (pss_one (ps_expr (pe_bm PySem.F.plainAttrs_list PySem.F.slot_list_append PySem.F.type_list_append mt_append (pv 3) (pa_cons (pv 6) pa_nil))))))
    pss_nil)))
    (pss_one (ps_ret (pv 3))))))), ?_⟩
    walk_at "rd"
    exact ⟨p, sz, n, ls, rfl, R, W, hn, hl, by omega, fun _ d hd => k d hd, fun h => absurd h (by omega)⟩
end
abbrev s_check_post_x : Stmt := top 10
abbrev N_check_post_x : List Str := ["post", "n"]
theorem sc_check_post_x : FnScope N_check_post_x ["post", "n"] (defScope s_check_post_x) := ⟨rfl, rfl, rfl, by decide +kernel, rfl, by decide +kernel, by decide +kernel⟩
section
variable {P : Program} {w : World} {K : PySem.W.Frag} {mg : Str → Option Value} {base : Heap}
theorem ok_check_post_x {f C_InvalidPost : Addr} {fd : FuncData} (F : Fun K "check_post" "check_post" s_check_post_x f fd) (B : Bi mg) (X_InvalidPost : Er P w K mg base "InvalidPost" C_InvalidPost) : FnOk P w K mg base (L2.CX P w) 4 f fd ["post", "n"] (spChkP C_InvalidPost) := by
  refine F.okX sc_check_post_x (fun vs H Q E h => ?_) (fun cdv A outer s H vs Q E hr h => ?_)
  · obtain ⟨q, n, rfl, _⟩ := h
    rfl
  · obtain ⟨q, n, rfl, k1, k2⟩ := h
    refine ⟨_, (pss_one (ps_if (PW.pt (pw_or (pt_cmpR op_lt (pv 0) pe_int (nomark _)) (pw_or1 (pt_cmpR op_ge (pv 0) (pv 1) (nomark _)))))
    (pss_one (ps_raise rfl (takes_of rfl rfl rfl rfl) (pmk_er X_InvalidPost (hr.mono (by first | decide | omega)) (by rfl) (pa_cons (pv 0) pa_nil))))
    pss_nil)), ?_⟩
    walk_at "rd"
    refine ite2 (fun hc => ?_) (fun hc => ?_)
    · exact ⟨_, rfl, rd_er X_InvalidPost fun d hd => k2 (.inl (of_decide_eq_true hc)) d hd⟩
    walk_at "rd"
    refine ite2 (fun hc2 => ?_) (fun hc2 => ?_)
    · exact ⟨_, rfl, rd_er X_InvalidPost fun d hd => k2 (.inr (of_decide_eq_true hc2)) d hd⟩
    exact k1 (Int.not_lt.mp fun z => hc (decide_eq_true z)) (Int.not_le.mp fun z => hc2 (decide_eq_true z))
end
abbrev s_ring_of_x : Stmt := top 26
abbrev N_ring_of_x : List Str := ["rule", "n", "post"]
theorem sc_ring_of_x : FnScope N_ring_of_x ["rule", "n", "post"] (defScope s_ring_of_x) := ⟨rfl, rfl, rfl, by decide +kernel, rfl, by decide +kernel, by decide +kernel⟩
section
variable {P : Program} {w : World} {K : PySem.W.Frag} {mg : Str → Option Value} {base : Heap}
def spRingX (C CS CP : Addr) : Sp := fun vs H _ E => ∃ (p : Addr) (sz q : Int) (n : Nat) (ls : List Str), vs = [.ref p, .int sz, .int q] ∧ RuleAt C H p ls ∧ Rows n ls ∧ n ≤ 5000 ∧ ls.length ≤ 5000 ∧ (sz < 1 ∨ q < 0 ∨ sz ≤ q) ∧ (sz < 1 → Bad E H CS sz) ∧ (1 ≤ sz → Bad E H CP q)
theorem ok_ring_of_x {f C C_InvalidSize C_InvalidPost : Addr} {fd : FuncData} (F : Fun K "ring_of" "ring_of" s_ring_of_x f fd) (B : Bi mg) (DX_check_size : DfX P w K mg base "check_size" 4 ["n"] (spChk C_InvalidSize 1)) (DX_check_post : DfX P w K mg base "check_post" 4 ["post", "n"] (spChkP C_InvalidPost)) (DX_round_of : DfX P w K mg base "round_of" 7 ["rule", "n"] (spRoundX C C_InvalidSize)) (D_ring_from : Df P w K mg base "_ring_from" 2 ["after", "post"] spRingFrom) : FnOk P w K mg base (L2.CX P w) 8 f fd ["rule", "n", "post"] (spRingX C C_InvalidSize C_InvalidPost) := by
  refine F.okX sc_ring_of_x (fun vs H Q E h => ?_) (fun cdv A outer s0 H vs Q E hr h => ?_)
  · obtain ⟨p, sz, q, n, ls, rfl, _⟩ := h
    rfl
  · obtain ⟨p, sz, q, n, ls, rfl, R, W, hn, hl, hz, kS, kP⟩ := h
    refine ⟨_, (pss_cons (ps_expr (pe_dfS DX_check_size (hr.mono (by first | decide | omega)) (by rfl) (takes_of rfl rfl rfl rfl) (pa_cons (pv 1) pa_nil)))
    (pss_cons (ps_expr (pe_dfS DX_check_post (hr.mono (by first | decide | omega)) (by rfl) (takes_of rfl rfl rfl rfl) (pa_cons (pv 2) (pa_cons (pv 1) pa_nil))))
    (pss_one (ps_ret (pe_df D_ring_from (hr.mono (by first | decide | omega)) (by rfl) (pa_cons (pe_dfS DX_round_of (hr.mono (by first | decide | omega)) (by rfl) (takes_of rfl rfl rfl rfl) (pa_cons (pv 0) (pa_cons (pv 1) pa_nil))) (pa_cons (pv 2) pa_nil))))))), ?_⟩
    walk_at "rd"
    try refine ⟨sz, rfl, ?_⟩
    refine ⟨fun h1 => ?_, fun h d hd => kS h d hd⟩
    walk_at "rd"
    exact ⟨q, sz, rfl, fun a b => absurd hz (by omega), fun h d hd => kP h1 d hd⟩
end
abbrev s_sizes_of_x : Stmt := top 27
abbrev N_sizes_of_x : List Str := ["rule", "n", "ring"]
theorem sc_sizes_of_x : FnScope N_sizes_of_x ["rule", "n"] (defScope s_sizes_of_x) := ⟨rfl, rfl, rfl, by decide +kernel, rfl, by decide +kernel, by decide +kernel⟩
section
variable {P : Program} {w : World} {K : PySem.W.Frag} {mg : Str → Option Value} {base : Heap}
theorem ok_sizes_of_x {f C C_InvalidSize : Addr} {fd : FuncData} (F : Fun K "sizes_of" "sizes_of" s_sizes_of_x f fd) (B : Bi mg) (DX_rings_of : DfX P w K mg base "rings_of" 8 ["rule", "n"] (spRingsX C C_InvalidSize)) (D_sizes_from : Df P w K mg base "sizes_from" 2 ["counted"] spSizesFrom) : FnOk P w K mg base (L2.CX P w) 9 f fd ["rule", "n"] (spRingsX C C_InvalidSize) := by
  refine F.okX sc_sizes_of_x (fun vs H Q E h => ?_) (fun cdv A outer s0 H vs Q E hr h => ?_)
  · obtain ⟨p, sz, n, ls, rfl, _⟩ := h
    rfl
  · obtain ⟨p, sz, n, ls, rfl, R, W, hn, hl, hz, k⟩ := h
    refine ⟨_, (pss_one (ps_ret (pe_df D_sizes_from (hr.mono (by first | decide | omega)) (by rfl) (pa_cons (pe_lc (own := [("ring", 2)]) (g := gName 2) (tt := tYes) rfl sc_sizes_of_x.nd (pi_list (pe_dfS DX_rings_of (hr.mono (by first | decide | omega)) (by rfl) (takes_of rfl rfl rfl rfl) (pa_cons (pv 0) (pa_cons (pv 1) pa_nil)))) (blkOk_by (N := N_sizes_of_x) (sc := defScope s_sizes_of_x) (by decide +kernel)) (fun _ _ _ _ _ => pg_name (i := 2) sc_sizes_of_x.nd rfl (Or.inl rfl)) (fun _ _ _ _ _ => pts_nil) (fun _ _ _ _ _ => (pe_tup (pa_cons (pe_callB (show CallR _ _ (rLenSeq K) from call_len_seq) (by rfl) B.len_ PySem.boot_len (pa_cons (pv 2) pa_nil)) (pa_cons pe_int pa_nil))))) pa_nil)))), ?_⟩
    walk_at "rd"
    exact ⟨p, sz, n, ls, rfl, R, W, hn, hl, hz, k⟩
end
abbrev s_home_of_x : Stmt := top 28
abbrev N_home_of_x : List Str := ["rule", "n"]
theorem sc_home_of_x : FnScope N_home_of_x ["rule", "n"] (defScope s_home_of_x) := ⟨rfl, rfl, rfl, by decide +kernel, rfl, by decide +kernel, by decide +kernel⟩
section
variable {P : Program} {w : World} {K : PySem.W.Frag} {mg : Str → Option Value} {base : Heap}
theorem ok_home_of_x {f C C_InvalidSize : Addr} {fd : FuncData} (F : Fun K "home_of" "home_of" s_home_of_x f fd) (B : Bi mg) (DX_sizes_of : DfX P w K mg base "sizes_of" 9 ["rule", "n"] (spRingsX C C_InvalidSize)) (D_home_with : Df P w K mg base "home_with" 2 ["sizes"] spHomeWith) : FnOk P w K mg base (L2.CX P w) 10 f fd ["rule", "n"] (spRingsX C C_InvalidSize) := by
  refine F.okX sc_home_of_x (fun vs H Q E h => ?_) (fun cdv A outer s0 H vs Q E hr h => ?_)
  · obtain ⟨p, sz, n, ls, rfl, _⟩ := h
    rfl
  · obtain ⟨p, sz, n, ls, rfl, R, W, hn, hl, hz, k⟩ := h
    refine ⟨_, (pss_one (ps_ret (pe_df D_home_with (hr.mono (by first | decide | omega)) (by rfl) (pa_cons (pe_dfS DX_sizes_of (hr.mono (by first | decide | omega)) (by rfl) (takes_of rfl rfl rfl rfl) (pa_cons (pv 0) (pa_cons (pv 1) pa_nil))) pa_nil)))), ?_⟩
    walk_at "rd"
    exact ⟨p, sz, n, ls, rfl, R, W, hn, hl, hz, k⟩
end
abbrev s_judge_rings_x : Stmt := top 29
abbrev N_judge_rings_x : List Str := ["rule", "n", "told", "ring"]
theorem sc_judge_rings_x : FnScope N_judge_rings_x ["rule", "n", "told"] (defScope s_judge_rings_x) := ⟨rfl, rfl, rfl, by decide +kernel, rfl, by decide +kernel, by decide +kernel⟩
section
variable {P : Program} {w : World} {K : PySem.W.Frag} {mg : Str → Option Value} {base : Heap}
def spJudgeRingsX (C CS : Addr) : Sp := fun vs H _ E => ∃ (p t : Addr) (sz : Int) (n : Nat) (ls : List Str), vs = [.ref p, .int sz, .ref t] ∧ RuleAt C H p ls ∧ Rows n ls ∧ n ≤ 5000 ∧ ls.length ≤ 5000 ∧ H t = some (.lst []) ∧ sz < 1 ∧ ∀ H', Same H H' → Bad E H' CS sz
theorem ok_judge_rings_x {f C C_InvalidSize : Addr} {fd : FuncData} (F : Fun K "judge_rings" "judge_rings" s_judge_rings_x f fd) (B : Bi mg) (D_from_least : Df P w K mg base "from_least" 2 ["entries"] spFromLeast) (DX_rings_of : DfX P w K mg base "rings_of" 8 ["rule", "n"] (spRingsX C C_InvalidSize)) : FnOk P w K mg base (L2.CX P w) 9 f fd ["rule", "n", "told"] (spJudgeRingsX C C_InvalidSize) := by
  refine F.okX sc_judge_rings_x (fun vs H Q E h => ?_) (fun cdv A outer s0 H vs Q E hr h => ?_)
  · obtain ⟨p, t, sz, n, ls, rfl, _⟩ := h
    rfl
  · obtain ⟨p, t, sz, n, ls, rfl, R, W, hn, hl, ht, hz, k⟩ := h
    refine ⟨_, (pss_one (ps_ret (pe_cmpR (op_eqD hr.units) (pe_callB (cr_sortedD hr.units) (by rfl) B.sorted_ (by decide +kernel) (pa_cons (pe_lc (own := [("ring", 3)]) (g := gName 3) (tt := tYes) rfl sc_judge_rings_x.nd (pi_list (pv 2)) (blkOk_by (N := N_judge_rings_x) (sc := defScope s_judge_rings_x) (by decide +kernel)) (fun _ _ _ _ _ => pg_name (i := 3) sc_judge_rings_x.nd rfl (Or.inl rfl)) (fun _ _ _ _ _ => pts_nil) (fun _ _ _ _ _ => (pe_df D_from_least (hr.mono (by first | decide | omega)) (by rfl) (pa_cons (pv 3) pa_nil)))) pa_nil)) (pe_dfS DX_rings_of (hr.mono (by first | decide | omega)) (by rfl) (takes_of rfl rfl rfl rfl) (pa_cons (pv 0) (pa_cons (pv 1) pa_nil))) (nomark _)))), ?_⟩
    walk_at "rd"
    refine ⟨⟨_, SqL.of ht⟩, fun D zD => ?_⟩
    refine lc_list (K := K) (a := t) (xs := []) (fun i H' => Same H H' ∧ H' D = some (.lst [])) ⟨L2.Same.upd zD, upd_same⟩ (fun i H' _ h => SqL.of (h.1 _ _ ht)) ?_ ?_
    · rintro i v H' hv _
      cases hv
    rintro H2 ⟨s2, hD2⟩
    have RI : RgsIn H2 D [] := ⟨[], hD2, Fa2.nil⟩
    walk_at "rd"
    unfold tNil
    refine rd_sortLL RI fun q H3 s3 zq RQ => ?_
    have s23 := s2.trans s3
    walk_at "rd"
    exact ⟨p, sz, n, ls, rfl, R.same s23, W, hn, hl, hz, k _ s23⟩
end
abbrev s_check_number_x : Stmt := top 12
abbrev N_check_number_x : List Str := ["number"]
theorem sc_check_number_x : FnScope N_check_number_x ["number"] (defScope s_check_number_x) := ⟨rfl, rfl, rfl, by decide +kernel, rfl, by decide +kernel, by decide +kernel⟩
section
variable {P : Program} {w : World} {K : PySem.W.Frag} {mg : Str → Option Value} {base : Heap}
theorem ok_check_number_x {f C_InvalidNumber : Addr} {fd : FuncData} (F : Fun K "check_number" "check_number" s_check_number_x f fd) (B : Bi mg) (X_InvalidNumber : Er P w K mg base "InvalidNumber" C_InvalidNumber) : FnOk P w K mg base (L2.CX P w) 4 f fd ["number"] (spChk C_InvalidNumber 0) := by
  refine F.okX sc_check_number_x (fun vs H Q E h => ?_) (fun cdv A outer s H vs Q E hr h => ?_)
  · obtain ⟨n, rfl, _⟩ := h
    rfl
  · obtain ⟨n, rfl, k1, k2⟩ := h
    refine ⟨_, (pss_one (ps_if (pt_cmpR op_lt (pv 0) pe_int (nomark _))
    (pss_one (ps_raise rfl (takes_of rfl rfl rfl rfl) (pmk_er X_InvalidNumber (hr.mono (by first | decide | omega)) (by rfl) (pa_cons (pv 0) pa_nil))))
    pss_nil)), ?_⟩
    walk_at "rd"
    refine ite2 (fun hc => ?_) (fun hc => ?_)
    · refine ⟨_, rfl, rd_er X_InvalidNumber fun d hd => k2 (of_decide_eq_true hc) d hd⟩
    · exact k1 (Int.not_lt.mp fun z => hc (decide_eq_true z))
end
abbrev s_inner_after_x : Stmt := top 41
abbrev N_inner_after_x : List Str := ["rule", "post", "rounds", "steps", "rests", "shift", "at", "_"]
theorem sc_inner_after_x : FnScope N_inner_after_x ["rule", "post", "rounds"] (defScope s_inner_after_x) := ⟨rfl, rfl, rfl, by decide +kernel, rfl, by decide +kernel, by decide +kernel⟩
section
variable {P : Program} {w : World} {K : PySem.W.Frag} {mg : Str → Option Value} {base : Heap}
def spInnerBad (C CN : Addr) : Sp := fun vs H _ E => ∃ (p : Addr) (q t : Int), vs = [.ref p, .int q, .int t] ∧ t < 0 ∧ ∀ d, H d = none → E (.ref CN) (some d) (upd H d (.xd [("value", .int t)]))
theorem ok_inner_after_x {f C C_InvalidNumber : Addr} {fd : FuncData} (F : Fun K "inner_after" "inner_after" s_inner_after_x f fd) (B : Bi mg) (DX_check_number : DfX P w K mg base "check_number" 4 ["number"] (spChk C_InvalidNumber 0)) (D_steps_of : Df P w K mg base "steps_of" 7 ["rule"] (spStepsOf C)) (D_lane_with : Df P w K mg base "lane_with" 2 ["steps", "post"] (spLaneWith C)) : FnOk P w K mg base (L2.CX P w) 8 f fd ["rule", "post", "rounds"] (spInnerBad C C_InvalidNumber) := by
  refine F.okX sc_inner_after_x (fun vs H Q E h => ?_) (fun cdv A outer s H vs Q E hr h => ?_)
  · obtain ⟨p, q, t, rfl, _⟩ := h
    rfl
  · obtain ⟨p, q, t, rfl, ht, k⟩ := h
    refine ⟨_, (pss_cons (ps_expr (pe_dfS DX_check_number (hr.mono (by first | decide | omega)) (by rfl) (takes_of rfl rfl rfl rfl) (pa_cons (pv 2) pa_nil)))
    (pss_cons (ps_set (i := 3) sc_inner_after_x.nd rfl (Or.inl rfl) (pe_df D_steps_of (hr.mono (by first | decide | omega)) (by rfl) (pa_cons (pv 0) pa_nil)))
    (pss_cons (ps_asg (pe_df D_lane_with (hr.mono (by first | decide | omega)) (by rfl) (pa_cons (pv 3) (pa_cons (pv 1) pa_nil))) (pg_tup rfl (pgs_cons (pg_name (i := 4) sc_inner_after_x.nd rfl (Or.inl rfl)) (pgs_cons (pg_name (i := 5) sc_inner_after_x.nd rfl (Or.inl rfl)) pgs_nil))))
    (pss_cons (ps_set (i := 6) sc_inner_after_x.nd rfl (Or.inl rfl) (pe_op op_add (pv 1) (pe_op op_mul (pe_op op_fdiv (pv 2) (pe_callB call_len_seq (by rfl) B.len_ PySem.boot_len (pa_cons (pv 4) pa_nil))) (pv 5))))
    (pss_cons (ps_for (passes_of rfl) rfl (pi_range1 (by rfl) B.range_ (pa_cons (pe_op op_mod (pv 2) (pe_callB call_len_seq (by rfl) B.len_ PySem.boot_len (pa_cons (pv 4) pa_nil))) pa_nil)) (pg_name (i := 7) sc_inner_after_x.nd rfl (Or.inl rfl))
    (pss_one (ps_set (i := 6) sc_inner_after_x.nd rfl (Or.inl rfl) (pe_op op_add (pv 6) (pe_ix ix_list (pv 3) (pe_op op_mod (pv 6) (pe_callB call_len_seq (by rfl) B.len_ PySem.boot_len (pa_cons (pv 3) pa_nil))) (fun _ _ => rfl))))))
    (pss_one (ps_ret (pv 6)))))))), ?_⟩
    refine ⟨_, rfl, t, rfl, fun h => absurd h (by omega), fun _ d hd => k d hd⟩
end
abbrev s__law_called : Stmt := top 48
abbrev N__law_called : List Str := ["which", "made", "total", "start", "times", "error", "e"]
theorem sc__law_called : FnScope N__law_called ["which", "made", "total", "start", "times"] (defScope s__law_called) := ⟨rfl, rfl, rfl, by decide +kernel, rfl, by decide +kernel, by decide +kernel⟩
section
variable {P : Program} {w : World} {K : PySem.W.Frag} {mg : Str → Option Value} {base : Heap}
/-- what is due: a word and a number -/
def dueR (wh tot st ti : Int) : Str × Int := if wh = 5 then (if ti < 0 then ("number", ti) else ("none", 0)) else if tot < 1 then ("size", tot) else if wh = 1 ∧ (st < 0 ∨ tot ≤ st) then ("post", st) else ("none", 0)
def spCalledR (C : Addr) : Sp := fun vs H Q _ => ∃ (p : Addr) (wh tot st ti : Int) (n : Nat) (ls : List Str), vs = [.int wh, .ref p, .int tot, .int st, .int ti] ∧ RuleAt C H p ls ∧ Rows n ls ∧ n ≤ 60 ∧ ls.length ≤ 60 ∧ tot ≤ 60 ∧ 0 ≤ wh ∧ wh ≤ 5 ∧
  ∀ (t : Addr) (H' : Hp), Same H H' → H t = none → H' t = some (.tup [.str (dueR wh tot st ti).1, .int (dueR wh tot st ti).2]) → Q (.ref t) H'
theorem ok__law_called {f C C_InvalidSize C_InvalidPost C_InvalidNumber : Addr} {fd : FuncData} (F : Fun K "_law_called" "_law_called" s__law_called f fd) (B : Bi mg)
    (D_rings_of : Df P w K mg base "rings_of" 8 ["rule", "n"] (spRingsOf C)) (D_ring_of : Df P w K mg base "ring_of" 8 ["rule", "n", "post"] (spRingOf C)) (D_sizes_of : Df P w K mg base "sizes_of" 9 ["rule", "n"] (spSizesOf C)) (D_home_of : Df P w K mg base "home_of" 10 ["rule", "n"] (spHomeOf C)) (D_judge_rings : Df P w K mg base "judge_rings" 9 ["rule", "n", "told"] (spJudgeRings C)) (D_inner_after : Df P w K mg base "inner_after" 8 ["rule", "post", "rounds"] (spInner C))
    (DX_rings_of : DfX P w K mg base "rings_of" 8 ["rule", "n"] (spRingsX C C_InvalidSize)) (DX_ring_of : DfX P w K mg base "ring_of" 8 ["rule", "n", "post"] (spRingX C C_InvalidSize C_InvalidPost)) (DX_sizes_of : DfX P w K mg base "sizes_of" 9 ["rule", "n"] (spRingsX C C_InvalidSize)) (DX_home_of : DfX P w K mg base "home_of" 10 ["rule", "n"] (spRingsX C C_InvalidSize)) (DX_judge_rings : DfX P w K mg base "judge_rings" 9 ["rule", "n", "told"] (spJudgeRingsX C C_InvalidSize)) (DX_inner_after : DfX P w K mg base "inner_after" 8 ["rule", "post", "rounds"] (spInnerBad C C_InvalidNumber))
    (X_InvalidSize : Er P w K mg base "InvalidSize" C_InvalidSize) (X_InvalidPost : Er P w K mg base "InvalidPost" C_InvalidPost) (X_InvalidNumber : Er P w K mg base "InvalidNumber" C_InvalidNumber)
    (S_InvalidSize_InvalidSize : PySem.W.subIn K (.ref C_InvalidSize) (.ref C_InvalidSize) = some true) (S_InvalidPost_InvalidSize : PySem.W.subIn K (.ref C_InvalidPost) (.ref C_InvalidSize) = some false) (S_InvalidPost_InvalidPost : PySem.W.subIn K (.ref C_InvalidPost) (.ref C_InvalidPost) = some true)
    (S_InvalidNumber_InvalidSize : PySem.W.subIn K (.ref C_InvalidNumber) (.ref C_InvalidSize) = some false) (S_InvalidNumber_InvalidPost : PySem.W.subIn K (.ref C_InvalidNumber) (.ref C_InvalidPost) = some false) (S_InvalidNumber_InvalidNumber : PySem.W.subIn K (.ref C_InvalidNumber) (.ref C_InvalidNumber) = some true) : FnOk P w K mg base CX0 12 f fd ["which", "made", "total", "start", "times"] (spCalledR C) := by
  have G_InvalidSize := X_InvalidSize.g
  have G_InvalidPost := X_InvalidPost.g
  have G_InvalidNumber := X_InvalidNumber.g
  refine F.ok sc__law_called (fun vs H Q E h => ?_) (fun cdv A outer s H vs Q E hr h => ?_)
  · obtain ⟨p, wh, tot, st, ti, n, ls, rfl, _⟩ := h
    rfl
  · obtain ⟨p, wh, tot, st, ti, n, ls, rfl, R, W, hn, hl, htot, w0, w5, k⟩ := h
    by_cases hbad : (wh = 5 ∧ 0 ≤ ti) ∨ (wh ≠ 5 ∧ 1 ≤ tot ∧ ¬ (wh = 1 ∧ (st < 0 ∨ tot ≤ st)))
    · have hd : dueR wh tot st ti = (("none" : Str), (0 : Int)) := by
        unfold dueR
        rcases hbad with ⟨h1, h2⟩ | ⟨h1, h2, h3⟩
        · rw [if_pos h1, if_neg (by omega)]
        · rw [if_neg h1, if_neg (by omega), if_neg h3]
      refine ⟨_, (pss_cons (ps_set (i := 5) sc__law_called.nd rfl (Or.inl rfl) (pe_tup (pa_cons pe_str (pa_cons pe_int pa_nil))))
    (pss_cons (ps_tryAll rfl rfl sc__law_called.nd takes0 (fun _ _ _ tk _ => (pss_one (ps_if (pt_cmpR op_eq (pv 0) pe_int (nomark _))
    (pss_one (ps_expr (pe_df D_rings_of (hr.mono (by first | decide | omega)) (by rfl) (pa_cons (pv 1) (pa_cons (pv 2) pa_nil)))))
    (pss_one (ps_if (pt_cmpR op_eq (pv 0) pe_int (nomark _))
    (pss_one (ps_expr (pe_df D_ring_of (hr.mono (by first | decide | omega)) (by rfl) (pa_cons (pv 1) (pa_cons (pv 2) (pa_cons (pv 3) pa_nil))))))
    (pss_one (ps_if (pt_cmpR op_eq (pv 0) pe_int (nomark _))
    (pss_one (ps_expr (pe_df D_sizes_of (hr.mono (by first | decide | omega)) (by rfl) (pa_cons (pv 1) (pa_cons (pv 2) pa_nil)))))
    (pss_one (ps_if (pt_cmpR op_eq (pv 0) pe_int (nomark _))
    (pss_one (ps_expr (pe_df D_home_of (hr.mono (by first | decide | omega)) (by rfl) (pa_cons (pv 1) (pa_cons (pv 2) pa_nil)))))
    (pss_one (ps_if (pt_cmpR op_eq (pv 0) pe_int (nomark _))
    (pss_one (ps_expr (pe_df D_judge_rings (hr.mono (by first | decide | omega)) (by rfl) (pa_cons (pv 1) (pa_cons (pv 2) (pa_cons (pe_lst pa_nil) pa_nil))))))
    (pss_one (ps_expr (pe_df D_inner_after (hr.mono (by first | decide | omega)) (by rfl) (pa_cons (pv 1) (pa_cons (pv 3) (pa_cons (pv 4) pa_nil)))))))))))))))))
    (Clauses.cons (i := 6) ⟨rfl, by decide, .inl G_InvalidSize⟩ rfl rfl (fun _ _ _ _ _ hz hf => (pss_one (ps_set (i := 5) sc__law_called.nd rfl (Or.inl rfl) (pe_tup (pa_cons pe_str (pa_cons (pe_xfA hz hf (pv 6)) pa_nil))))))
    (Clauses.cons (i := 6) ⟨rfl, by decide, .inl G_InvalidPost⟩ rfl rfl (fun _ _ _ _ _ hz hf => (pss_one (ps_set (i := 5) sc__law_called.nd rfl (Or.inl rfl) (pe_tup (pa_cons pe_str (pa_cons (pe_xfA hz hf (pv 6)) pa_nil))))))
    (Clauses.cons (i := 6) ⟨rfl, by decide, .inl G_InvalidNumber⟩ rfl rfl (fun _ _ _ _ _ hz hf => (pss_one (ps_set (i := 5) sc__law_called.nd rfl (Or.inl rfl) (pe_tup (pa_cons pe_str (pa_cons (pe_xfA hz hf (pv 6)) pa_nil))))))
    Clauses.nil))))
    (pss_one (ps_ret (pv 5))))), ?_⟩
      walk_at "rd"
      intro t0 z0
      generalize e0 : upd _ t0 _ = H1
      obtain ⟨s1, ht0⟩ := nw e0 z0
      have R1 := R.same s1
      have good : ∀ H', Same H1 H' → Q (.ref t0) H' := fun H' s' => by
        refine k t0 H' (s1.trans s') z0 ?_
        rw [hd]
        exact s' _ _ ht0
      walk_at "rd"
      refine ite2 (fun hc => ?_) (fun hc => ?_)
      · have ew : wh = 0 := by
          have e := of_decide_eq_true hc
          injection e
        obtain ⟨N, rfl⟩ := Int.eq_ofNat_of_zero_le (show 0 ≤ tot by omega)
        walk_at "rd"
        refine ⟨p, N, n, ls, rfl, R1, W, by omega, by omega, by omega, by omega, fun t H2 s2 _ => ?_⟩
        repeat (first | exact good _ s2 | walk_at "r")
      have nw0 : wh ≠ 0 := fun e => hc (decide_eq_true (congrArg V.int e))
      walk_at "rd"
      refine ite2 (fun hc => ?_) (fun hc => ?_)
      · have ew : wh = 1 := by
          have e := of_decide_eq_true hc
          injection e
        obtain ⟨N, rfl⟩ := Int.eq_ofNat_of_zero_le (show 0 ≤ tot by omega)
        walk_at "rd"
        have hq : 0 ≤ st ∧ st < (N : Int) := by omega
        refine ⟨p, N, n, st, ls, rfl, R1, W, by omega, by omega, by omega, by omega, hq.1, hq.2, fun t H2 s2 _ _ => ?_⟩
        repeat (first | exact good _ s2 | walk_at "r")
      have nw1 : wh ≠ 1 := fun e => hc (decide_eq_true (congrArg V.int e))
      walk_at "rd"
      refine ite2 (fun hc => ?_) (fun hc => ?_)
      · have ew : wh = 2 := by
          have e := of_decide_eq_true hc
          injection e
        obtain ⟨N, rfl⟩ := Int.eq_ofNat_of_zero_le (show 0 ≤ tot by omega)
        walk_at "rd"
        refine ⟨p, N, n, ls, rfl, R1, W, by omega, by omega, by omega, by omega, fun t H2 L s2 _ _ => ?_⟩
        repeat (first | exact good _ s2 | walk_at "r")
      have nw2 : wh ≠ 2 := fun e => hc (decide_eq_true (congrArg V.int e))
      walk_at "rd"
      refine ite2 (fun hc => ?_) (fun hc => ?_)
      · have ew : wh = 3 := by
          have e := of_decide_eq_true hc
          injection e
        obtain ⟨N, rfl⟩ := Int.eq_ofNat_of_zero_le (show 0 ≤ tot by omega)
        walk_at "rd"
        refine ⟨p, N, n, ls, rfl, R1, W, by omega, by omega, by omega, by omega, fun H2 s2 => ?_⟩
        repeat (first | exact good _ s2 | walk_at "r")
      have nw3 : wh ≠ 3 := fun e => hc (decide_eq_true (congrArg V.int e))
      walk_at "rd"
      refine ite2 (fun hc => ?_) (fun hc => ?_)
      · have ew : wh = 4 := by
          have e := of_decide_eq_true hc
          injection e
        obtain ⟨N, rfl⟩ := Int.eq_ofNat_of_zero_le (show 0 ≤ tot by omega)
        walk_at "rd"
        intro tl zl
        generalize el : upd _ tl _ = H2
        obtain ⟨s2, htl⟩ := nw el zl
        walk_at "rd"
        refine ⟨p, tl, N, n, ls, [], rfl, R1.same s2, W, by omega, by omega, by omega, by omega, ⟨[], htl, Fa2.nil⟩, by decide, (fun e h => by cases h), fun H3 s3 => ?_⟩
        repeat (first | exact good _ (s2.trans s3) | walk_at "r")
      have nw4 : wh ≠ 4 := fun e => hc (decide_eq_true (congrArg V.int e))
      walk_at "rd"
      have ew : wh = 5 := by omega
      refine ⟨p, st, ti, n, ls, rfl, R1, W, by omega, by omega, by omega, fun H2 s2 => ?_⟩
      repeat (first | exact good _ s2 | walk_at "r")
    · refine ⟨_, (pss_cons (ps_set (i := 5) sc__law_called.nd rfl (Or.inl rfl) (pe_tup (pa_cons pe_str (pa_cons pe_int pa_nil))))
    (pss_cons (ps_tryAll rfl rfl sc__law_called.nd takes0 (fun _ _ _ tk _ => (pss_one (ps_if (pt_cmpR op_eq (pv 0) pe_int (nomark _))
    (pss_one (ps_expr (pe_dfS DX_rings_of (hr.mono (by first | decide | omega)) (by rfl) tk (pa_cons (pv 1) (pa_cons (pv 2) pa_nil)))))
    (pss_one (ps_if (pt_cmpR op_eq (pv 0) pe_int (nomark _))
    (pss_one (ps_expr (pe_dfS DX_ring_of (hr.mono (by first | decide | omega)) (by rfl) tk (pa_cons (pv 1) (pa_cons (pv 2) (pa_cons (pv 3) pa_nil))))))
    (pss_one (ps_if (pt_cmpR op_eq (pv 0) pe_int (nomark _))
    (pss_one (ps_expr (pe_dfS DX_sizes_of (hr.mono (by first | decide | omega)) (by rfl) tk (pa_cons (pv 1) (pa_cons (pv 2) pa_nil)))))
    (pss_one (ps_if (pt_cmpR op_eq (pv 0) pe_int (nomark _))
    (pss_one (ps_expr (pe_dfS DX_home_of (hr.mono (by first | decide | omega)) (by rfl) tk (pa_cons (pv 1) (pa_cons (pv 2) pa_nil)))))
    (pss_one (ps_if (pt_cmpR op_eq (pv 0) pe_int (nomark _))
    (pss_one (ps_expr (pe_dfS DX_judge_rings (hr.mono (by first | decide | omega)) (by rfl) tk (pa_cons (pv 1) (pa_cons (pv 2) (pa_cons (pe_lst pa_nil) pa_nil))))))
    (pss_one (ps_expr (pe_dfS DX_inner_after (hr.mono (by first | decide | omega)) (by rfl) tk (pa_cons (pv 1) (pa_cons (pv 3) (pa_cons (pv 4) pa_nil)))))))))))))))))
    (Clauses.cons (i := 6) ⟨rfl, by decide, .inl G_InvalidSize⟩ rfl rfl (fun _ _ _ _ _ hz hf => (pss_one (ps_set (i := 5) sc__law_called.nd rfl (Or.inl rfl) (pe_tup (pa_cons pe_str (pa_cons (pe_xfA hz hf (pv 6)) pa_nil))))))
    (Clauses.cons (i := 6) ⟨rfl, by decide, .inl G_InvalidPost⟩ rfl rfl (fun _ _ _ _ _ hz hf => (pss_one (ps_set (i := 5) sc__law_called.nd rfl (Or.inl rfl) (pe_tup (pa_cons pe_str (pa_cons (pe_xfA hz hf (pv 6)) pa_nil))))))
    (Clauses.cons (i := 6) ⟨rfl, by decide, .inl G_InvalidNumber⟩ rfl rfl (fun _ _ _ _ _ hz hf => (pss_one (ps_set (i := 5) sc__law_called.nd rfl (Or.inl rfl) (pe_tup (pa_cons pe_str (pa_cons (pe_xfA hz hf (pv 6)) pa_nil))))))
    Clauses.nil))))
    (pss_one (ps_ret (pv 5))))), ?_⟩
      walk_at "rd"
      intro t0 z0
      generalize e0 : upd _ t0 _ = H1
      obtain ⟨s1, ht0⟩ := nw e0 z0
      have R1 := R.same s1
      have bad : ∀ (nm : Str) (v : Int), dueR wh tot st ti = (nm, v) → ∀ Hx, Same H1 Hx → ∀ (d t : Addr) (H' : Hp), Hx d = none → upd Hx d (.xd [("value", .int v)]) t = none → upd (upd Hx d (.xd [("value", .int v)])) t (.tup [.str nm, .int v]) = H' → Q (.ref t) H' := fun nm v hg Hx sx d t H' zd zt e => by
        obtain ⟨s', ht⟩ := nw e zt
        refine k t H' (s1.trans (sx.trans ((Same.upd zd).trans s'))) (s1.free (sx.free (upd_none zt))) ?_
        rw [hg]
        exact ht
      walk_at "rd"
      refine ite2 (fun hc => ?_) (fun hc => ?_)
      · have ew : wh = 0 := by
          have e := of_decide_eq_true hc
          injection e
        walk_at "rd"
        refine ⟨p, tot, n, ls, rfl, R1, W, by omega, by omega, by omega, fun d hd => ?_⟩
        refine ⟨true, X_InvalidSize.ex S_InvalidSize_InvalidSize, (fun _ e he => ?_), fun z => nomatch z⟩
        walk_at "rd"
        refine ⟨_, X_InvalidSize.f, X_InvalidSize.nv, ?_⟩
        walk_at "rd"
        refine ⟨d, _, _, rfl, upd_same, rfl, ?_⟩
        walk_at "rd"
        intro t ht
        walk_at "rd"
        exact bad "size" _ (by unfold dueR; rw [if_neg (by omega), if_pos (by omega)]) _ (Same.refl _) d t _ hd ht rfl
      have nw0 : wh ≠ 0 := fun e => hc (decide_eq_true (congrArg V.int e))
      walk_at "rd"
      refine ite2 (fun hc => ?_) (fun hc => ?_)
      · have ew : wh = 1 := by
          have e := of_decide_eq_true hc
          injection e
        walk_at "rd"
        refine ⟨p, tot, st, n, ls, rfl, R1, W, by omega, by omega, by omega, fun hz d hd => ?_, fun hz d hd => ?_⟩
        · refine ⟨true, X_InvalidSize.ex S_InvalidSize_InvalidSize, (fun _ e he => ?_), fun z => nomatch z⟩
          walk_at "rd"
          refine ⟨_, X_InvalidSize.f, X_InvalidSize.nv, ?_⟩
          walk_at "rd"
          refine ⟨d, _, _, rfl, upd_same, rfl, ?_⟩
          walk_at "rd"
          intro t ht
          walk_at "rd"
          exact bad "size" _ (by unfold dueR; rw [if_neg (by omega), if_pos (by omega)]) _ (Same.refl _) d t _ hd ht rfl
        · refine ⟨false, X_InvalidSize.ex S_InvalidPost_InvalidSize, (fun z => nomatch z), fun _ => ⟨true, X_InvalidPost.ex S_InvalidPost_InvalidPost, (fun _ e he => ?_), fun z => nomatch z⟩⟩
          walk_at "rd"
          refine ⟨_, X_InvalidPost.f, X_InvalidPost.nv, ?_⟩
          walk_at "rd"
          refine ⟨d, _, _, rfl, upd_same, rfl, ?_⟩
          walk_at "rd"
          intro t ht
          walk_at "rd"
          exact bad "post" _ (by unfold dueR; rw [if_neg (by omega), if_neg (by omega), if_pos (by omega)]) _ (Same.refl _) d t _ hd ht rfl
      have nw1 : wh ≠ 1 := fun e => hc (decide_eq_true (congrArg V.int e))
      walk_at "rd"
      refine ite2 (fun hc => ?_) (fun hc => ?_)
      · have ew : wh = 2 := by
          have e := of_decide_eq_true hc
          injection e
        walk_at "rd"
        refine ⟨p, tot, n, ls, rfl, R1, W, by omega, by omega, by omega, fun d hd => ?_⟩
        refine ⟨true, X_InvalidSize.ex S_InvalidSize_InvalidSize, (fun _ e he => ?_), fun z => nomatch z⟩
        walk_at "rd"
        refine ⟨_, X_InvalidSize.f, X_InvalidSize.nv, ?_⟩
        walk_at "rd"
        refine ⟨d, _, _, rfl, upd_same, rfl, ?_⟩
        walk_at "rd"
        intro t ht
        walk_at "rd"
        exact bad "size" _ (by unfold dueR; rw [if_neg (by omega), if_pos (by omega)]) _ (Same.refl _) d t _ hd ht rfl
      have nw2 : wh ≠ 2 := fun e => hc (decide_eq_true (congrArg V.int e))
      walk_at "rd"
      refine ite2 (fun hc => ?_) (fun hc => ?_)
      · have ew : wh = 3 := by
          have e := of_decide_eq_true hc
          injection e
        walk_at "rd"
        refine ⟨p, tot, n, ls, rfl, R1, W, by omega, by omega, by omega, fun d hd => ?_⟩
        refine ⟨true, X_InvalidSize.ex S_InvalidSize_InvalidSize, (fun _ e he => ?_), fun z => nomatch z⟩
        walk_at "rd"
        refine ⟨_, X_InvalidSize.f, X_InvalidSize.nv, ?_⟩
        walk_at "rd"
        refine ⟨d, _, _, rfl, upd_same, rfl, ?_⟩
        walk_at "rd"
        intro t ht
        walk_at "rd"
        exact bad "size" _ (by unfold dueR; rw [if_neg (by omega), if_pos (by omega)]) _ (Same.refl _) d t _ hd ht rfl
      have nw3 : wh ≠ 3 := fun e => hc (decide_eq_true (congrArg V.int e))
      walk_at "rd"
      refine ite2 (fun hc => ?_) (fun hc => ?_)
      · have ew : wh = 4 := by
          have e := of_decide_eq_true hc
          injection e
        walk_at "rd"
        intro tl zl
        generalize el : upd _ tl _ = H2
        obtain ⟨s2, htl⟩ := nw el zl
        walk_at "rd"
        refine ⟨p, tl, tot, n, ls, rfl, R1.same s2, W, by omega, by omega, htl, by omega, fun H3 s3 d hd => ?_⟩
        refine ⟨true, X_InvalidSize.ex S_InvalidSize_InvalidSize, (fun _ e he => ?_), fun z => nomatch z⟩
        walk_at "rd"
        refine ⟨_, X_InvalidSize.f, X_InvalidSize.nv, ?_⟩
        walk_at "rd"
        refine ⟨d, _, _, rfl, upd_same, rfl, ?_⟩
        walk_at "rd"
        intro t ht
        walk_at "rd"
        exact bad "size" _ (by unfold dueR; rw [if_neg (by omega), if_pos (by omega)]) _ (s2.trans s3) d t _ hd ht rfl
      have nw4 : wh ≠ 4 := fun e => hc (decide_eq_true (congrArg V.int e))
      walk_at "rd"
      have ew : wh = 5 := by omega
      refine ⟨p, st, ti, rfl, by omega, fun d hd => ?_⟩
      refine ⟨false, X_InvalidSize.ex S_InvalidNumber_InvalidSize, (fun z => nomatch z), fun _ => ⟨false, X_InvalidPost.ex S_InvalidNumber_InvalidPost, (fun z => nomatch z), fun _ => ⟨true, X_InvalidNumber.ex S_InvalidNumber_InvalidNumber, (fun _ e he => ?_), fun z => nomatch z⟩⟩⟩
      walk_at "rd"
      refine ⟨_, X_InvalidNumber.f, X_InvalidNumber.nv, ?_⟩
      walk_at "rd"
      refine ⟨d, _, _, rfl, upd_same, rfl, ?_⟩
      walk_at "rd"
      intro t ht
      walk_at "rd"
      exact bad "number" _ (by unfold dueR; rw [if_pos ew, if_pos (by omega)]) _ (Same.refl _) d t _ hd ht rfl
end
abbrev s__law_due : Stmt := top 49
abbrev N__law_due : List Str := ["which", "total", "start", "times"]
theorem sc__law_due : FnScope N__law_due ["which", "total", "start", "times"] (defScope s__law_due) := ⟨rfl, rfl, rfl, by decide +kernel, rfl, by decide +kernel, by decide +kernel⟩
section
variable {P : Program} {w : World} {K : PySem.W.Frag} {mg : Str → Option Value} {base : Heap}
def spDueR : Sp := fun vs H Q _ => ∃ wh tot st ti : Int, vs = [.int wh, .int tot, .int st, .int ti] ∧ ∀ (t : Addr) (H' : Hp), Same H H' → H t = none → H' t = some (.tup [.str (dueR wh tot st ti).1, .int (dueR wh tot st ti).2]) → Q (.ref t) H'
theorem ok__law_due {f : Addr} {fd : FuncData} (F : Fun K "_law_due" "_law_due" s__law_due f fd) (B : Bi mg) : FnOk P w K mg base CX0 2 f fd ["which", "total", "start", "times"] spDueR := by
  refine F.ok sc__law_due (fun vs H Q E h => ?_) (fun cdv A outer s H vs Q E hr h => ?_)
  · obtain ⟨wh, tot, st, ti, rfl, _⟩ := h
    rfl
  · obtain ⟨wh, tot, st, ti, rfl, k⟩ := h
    refine ⟨_, (pss_cons (ps_if (pt_cmpR op_eq (pv 0) pe_int (nomark _))
    (pss_cons (ps_if (pt_cmpR op_lt (pv 3) pe_int (nomark _))
    (pss_one (ps_ret (pe_tup (pa_cons pe_str (pa_cons (pv 3) pa_nil)))))
    pss_nil)
    (pss_one (ps_ret (pe_tup (pa_cons pe_str (pa_cons pe_int pa_nil))))))
    pss_nil)
    (pss_cons (ps_if (pt_cmpR op_lt (pv 1) pe_int (nomark _))
    (pss_one (ps_ret (pe_tup (pa_cons pe_str (pa_cons (pv 1) pa_nil)))))
    pss_nil)
    (pss_cons (ps_if (PW.pt (pw_and (pt_cmpR op_eq (pv 0) pe_int (nomark _)) (pw_and1 (PW.pt (pw_or (pt_cmpR op_lt (pv 2) pe_int (nomark _)) (pw_or1 (pt_cmpR op_ge (pv 2) (pv 1) (nomark _))))))))
    (pss_one (ps_ret (pe_tup (pa_cons pe_str (pa_cons (pv 2) pa_nil)))))
    pss_nil)
    (pss_one (ps_ret (pe_tup (pa_cons pe_str (pa_cons pe_int pa_nil)))))))), ?_⟩
    have fin : ∀ (nm : Str) (v : Int), dueR wh tot st ti = (nm, v) → ∀ t, H t = none → Q (.ref t) (upd H t (.tup [.str nm, .int v])) := fun nm v e t zt => by
      refine k t _ (Same.upd zt) zt ?_
      rw [e]
      exact upd_same
    walk_at "rd"
    refine ite2 (fun hc => ?_) (fun hc => ?_)
    · have h : wh = 5 := by
        have e := of_decide_eq_true hc
        injection e
      walk_at "rd"
      refine ite2 (fun hc => ?_) (fun hc => ?_)
      · have h2 := of_decide_eq_true hc
        walk_at "rd"
        intro t zt
        exact fin "number" _ (by unfold dueR; rw [if_pos h, if_pos h2]) t zt
      have h2 : ¬ ti < 0 := fun h => hc (decide_eq_true h)
      walk_at "rd"
      intro t zt
      exact fin "none" _ (by unfold dueR; rw [if_pos h, if_neg h2]) t zt
    have n1 : ¬ wh = 5 := fun e => hc (decide_eq_true (congrArg V.int e))
    walk_at "rd"
    refine ite2 (fun hc => ?_) (fun hc => ?_)
    · have h := of_decide_eq_true hc
      walk_at "rd"
      intro t zt
      exact fin "size" _ (by unfold dueR; rw [if_neg n1, if_pos h]) t zt
    have n2 : ¬ tot < 1 := fun h => hc (decide_eq_true h)
    have post : ∀ t, H t = none → wh = 1 → (st < 0 ∨ tot ≤ st) → Q (.ref t) (upd H t (.tup [.str "post", .int st])) := fun t zt h h2 =>
      fin "post" _ (by unfold dueR; rw [if_neg n1, if_neg n2, if_pos ⟨h, h2⟩]) t zt
    walk_at "rd"
    refine cutAnd (fun σ H' => H = H' ∧ σ = [some (.int wh), some (.int tot), some (.int st), some (.int ti)] ∧ ¬ (wh = 1 ∧ (st < 0 ∨ tot ≤ st))) ?_ ?_ (fun hc => ⟨rfl, rfl, fun h => by rw [h.1, decide_eq_true rfl] at hc; cases hc⟩)
    rotate_left
    · intro hT hc
      have h3 : wh = 1 := by
        have e := of_decide_eq_true hc
        injection e
      walk_at "rd"
      refine ite2 (fun hb => ?_) (fun hb => ?_)
      · have h := of_decide_eq_true hb
        walk_at "rd"
        intro t zt
        exact post t zt h3 (.inl h)
      have m1 : ¬ st < 0 := fun h => hb (decide_eq_true h)
      walk_at "rd"
      refine ite2 (fun hb => ?_) (fun hb => ?_)
      · have h := of_decide_eq_true hb
        walk_at "rd"
        intro t zt
        exact post t zt h3 (.inr h)
      have m2 : ¬ tot ≤ st := fun h => hb (decide_eq_true h)
      exact hT _ _ ⟨rfl, rfl, fun h => h.2.elim m1 m2⟩
    rintro σ _ ⟨rfl, rfl, hno⟩
    walk_at "rd"
    intro t zt
    exact fin "none" _ (by unfold dueR; rw [if_neg n1, if_neg n2, if_neg hno]) t zt
end
abbrev s_law : Stmt := top 50
abbrev N_law : List Str := ["script", "source", "which", "above", "total", "start", "kind", "far", "times", "texts", "made", "error", "due", "seen", "ring", "at"]
theorem sc_law : FnScope N_law ["script"] (defScope s_law) := ⟨rfl, rfl, rfl, by decide +kernel, rfl, by decide +kernel, by decide +kernel⟩
section
variable {P : Program} {w : World} {K : PySem.W.Frag} {mg : Str → Option Value} {base : Heap}
def spLaw (K : PySem.W.Frag) : Sp := fun vs H Q _ => ∃ (a : Addr) (ns : List Int), vs = [.ref a] ∧ SqL K H a (ns.map V.int) ∧ ns.length ≤ 63 ∧ ∀ H', Q (.bl true) H'
theorem ok_law {f C : Addr} {fd : FuncData} (F : Fun K "law" "law" s_law f fd) (B : Bi mg) (T : Rl K C) (G_Rule : mg "Rule" = some (.ref C)) (D_law_source : Df P w K mg base "_law_source" 2 ["script"] (spSource K)) (D_law_draw : Df P w K mg base "_law_draw" 2 ["source", "limit"] spDraw) (D_law_number : Df P w K mg base "_law_number" 3 ["source", "limit", "parts"] spNumber)
    (D_law_texts : Df P w K mg base "_law_texts" 3 ["source", "most"] spTexts) (D_law_called : Df P w K mg base "_law_called" 12 ["which", "made", "total", "start", "times"] (spCalledR C)) (D_law_due : Df P w K mg base "_law_due" 2 ["which", "total", "start", "times"] spDueR)
    (D_rings_of : Df P w K mg base "rings_of" 8 ["rule", "n"] (spRingsOf C)) (M_Rule : Mkr P w K mg base "Rule" C 3 ["self", "texts"] (spInit C)) : FnOk P w K mg base CX0 13 f fd ["script"] (spLaw K) := by
  refine F.ok sc_law (fun vs H Q E h => ?_) (fun cdv A outer s0 H vs Q E hr h => ?_)
  · obtain ⟨a, ns, rfl, _⟩ := h
    rfl
  · obtain ⟨a, ns, rfl, hS, hlen, k⟩ := h
    refine ⟨_, (pss_cons (ps_set (i := 1) sc_law.nd rfl (Or.inl rfl) (pe_df D_law_source (hr.mono (by first | decide | omega)) (by rfl) (pa_cons (pv 0) pa_nil)))
    (pss_cons (ps_set (i := 2) sc_law.nd rfl (Or.inl rfl) (pe_ix ix_list (pe_lst (pa_cons pe_int (pa_cons pe_int (pa_cons pe_int (pa_cons pe_int (pa_cons pe_int (pa_cons pe_int (pa_cons pe_int (pa_cons pe_int (pa_cons pe_int pa_nil)))))))))) (pe_df D_law_draw (hr.mono (by first | decide | omega)) (by rfl) (pa_cons (pv 1) (pa_cons pe_int pa_nil))) (fun _ _ => rfl)))
    (pss_cons (ps_set (i := 3) sc_law.nd rfl (Or.inl rfl) (pe_op op_add pe_int (pe_df D_law_draw (hr.mono (by first | decide | omega)) (by rfl) (pa_cons (pv 1) (pa_cons pe_int pa_nil)))))
    (pss_cons (ps_set (i := 4) sc_law.nd rfl (Or.inl rfl) (pv 3))
    (pss_cons (ps_if (pt_cmpR op_eq (pe_df D_law_draw (hr.mono (by first | decide | omega)) (by rfl) (pa_cons (pv 1) (pa_cons pe_int pa_nil))) pe_int (nomark _))
    (pss_cons (ps_set (i := 4) sc_law.nd rfl (Or.inl rfl) (pe_un un_neg (pe_df D_law_draw (hr.mono (by first | decide | omega)) (by rfl) (pa_cons (pv 1) (pa_cons pe_int pa_nil)))))
    (pss_one (ps_if (pt_cmpR op_eq (pe_df D_law_draw (hr.mono (by first | decide | omega)) (by rfl) (pa_cons (pv 1) (pa_cons pe_int pa_nil))) pe_int (nomark _))
    (pss_one (ps_set (i := 4) sc_law.nd rfl (Or.inl rfl) (pe_un un_neg (pe_df D_law_number (hr.mono (by first | decide | omega)) (by rfl) (pa_cons (pv 1) (pa_cons (pe_op op_pow pe_int pe_int) (pa_cons pe_int pa_nil)))))))
    pss_nil)))
    pss_nil)
    (pss_cons (ps_set (i := 5) sc_law.nd rfl (Or.inl rfl) (pe_df D_law_draw (hr.mono (by first | decide | omega)) (by rfl) (pa_cons (pv 1) (pa_cons (pv 3) pa_nil))))
    (pss_cons (ps_set (i := 6) sc_law.nd rfl (Or.inl rfl) (pe_df D_law_draw (hr.mono (by first | decide | omega)) (by rfl) (pa_cons (pv 1) (pa_cons pe_int pa_nil))))
    (pss_cons (ps_set (i := 7) sc_law.nd rfl (Or.inl rfl) (pe_df D_law_number (hr.mono (by first | decide | omega)) (by rfl) (pa_cons (pv 1) (pa_cons (pe_op op_pow pe_int pe_int) (pa_cons pe_int pa_nil)))))
    (pss_cons (ps_if (pt_cmpR op_lt (pv 6) pe_int (nomark _))
    (pss_one (ps_set (i := 5) sc_law.nd rfl (Or.inl rfl) (pe_ix ix_list (pe_lst (pa_cons (pe_un un_neg pe_int) (pa_cons (pv 3) pa_nil))) (pv 6) (fun _ _ => rfl))))
    pss_nil)
    (pss_cons (ps_if (pt_cmpR op_eq (pv 6) pe_int (nomark _))
    (pss_one (ps_set (i := 5) sc_law.nd rfl (Or.inl rfl) (pe_op op_sub (pe_un un_neg pe_int) (pv 7))))
    pss_nil)
    (pss_cons (ps_if (pt_cmpR op_eq (pv 6) pe_int (nomark _))
    (pss_one (ps_set (i := 5) sc_law.nd rfl (Or.inl rfl) (pe_op op_add (pv 3) (pv 7))))
    pss_nil)
    (pss_cons (ps_set (i := 8) sc_law.nd rfl (Or.inl rfl) (pe_ix ix_list (pe_lst (pa_cons pe_int (pa_cons (pe_un un_neg pe_int) (pa_cons (pe_df D_law_number (hr.mono (by first | decide | omega)) (by rfl) (pa_cons (pv 1) (pa_cons (pe_op op_pow pe_int pe_int) (pa_cons pe_int pa_nil)))) (pa_cons (pe_op op_sub (pe_un un_neg pe_int) (pv 7)) pa_nil))))) (pe_df D_law_draw (hr.mono (by first | decide | omega)) (by rfl) (pa_cons (pv 1) (pa_cons pe_int pa_nil))) (fun _ _ => rfl)))
    (pss_cons (ps_set (i := 9) sc_law.nd rfl (Or.inl rfl) (pe_df D_law_texts (hr.mono (by first | decide | omega)) (by rfl) (pa_cons (pv 1) (pa_cons pe_int pa_nil))))
    (pss_cons (ps_set (i := 10) sc_law.nd rfl (Or.inl rfl) (pe_mk M_Rule (hr.mono (by first | decide | omega)) (by rfl) (pa_cons (pe_callTy call_list_of (by rfl) B.list_ (by decide +kernel) (pa_cons (pv 9) pa_nil)) pa_nil)))
    (pss_cons (ps_set (i := 11) sc_law.nd rfl (Or.inl rfl) (pe_df D_law_called (hr.mono (by first | decide | omega)) (by rfl) (pa_cons (pv 2) (pa_cons (pv 10) (pa_cons (pv 4) (pa_cons (pv 5) (pa_cons (pv 8) pa_nil)))))))
    (pss_cons (ps_set (i := 12) sc_law.nd rfl (Or.inl rfl) (pe_df D_law_due (hr.mono (by first | decide | omega)) (by rfl) (pa_cons (pv 2) (pa_cons (pv 4) (pa_cons (pv 5) (pa_cons (pv 8) pa_nil))))))
    (pss_cons (ps_if (PW.pt (pw_or (pt_cmpR op_ne (pe_ix ix_tup (pv 11) pe_int (fun _ _ => rfl)) (pe_ix ix_tup (pv 12) pe_int (fun _ _ => rfl)) (nomark _)) (pw_or (pt_val (pe_callB call_isi (by rfl) B.isinstance_ (by decide +kernel) (pa_cons (pe_ix ix_tup (pv 11) pe_int (fun _ _ => rfl)) (pa_cons (pe_bltn (v := .ty "bool") (u := .type "bool") (by rfl) B.bool_ (by decide +kernel) rfl) pa_nil)))) (pw_or (pt_not (pt_val (pe_callB call_isi (by rfl) B.isinstance_ (by decide +kernel) (pa_cons (pe_ix ix_tup (pv 11) pe_int (fun _ _ => rfl)) (pa_cons (pe_bltn (v := .ty "int") (u := .type "int") (by rfl) B.int_ (by decide +kernel) rfl) pa_nil))))) (pw_or1 (pt_cmpR op_ne (pe_ix ix_tup (pv 11) pe_int (fun _ _ => rfl)) (pe_ix ix_tup (pv 12) pe_int (fun _ _ => rfl)) (nomark _)))))))
    (pss_one (ps_ret pe_bl))
    pss_nil)
    (pss_cons (ps_set (i := 13) sc_law.nd rfl (Or.inl rfl) (pe_lst pa_nil))
    (pss_cons (ps_for PassesOwn.never rfl (pi_list (pe_df D_rings_of (hr.mono (by first | decide | omega)) (by rfl) (pa_cons (pv 10) (pa_cons (pv 3) pa_nil)))) (pg_name (i := 14) sc_law.nd rfl (Or.inl rfl))
    (pss_one (ps_set (i := 13) sc_law.nd rfl (Or.inl rfl) (pe_op op_cat (pv 13) (pe_callTy call_list_of (by rfl) B.list_ (by decide +kernel) (pa_cons (pv 14) pa_nil))))))
    (pss_one (ps_ret (pe_cmpR (op_eqD hr.units) (pe_callB cr_sortedI (by rfl) B.sorted_ (by decide +kernel) (pa_cons (pv 13) pa_nil)) (pe_lc (own := [("at", 15)]) (g := gName 15) (tt := tYes) rfl sc_law.nd (pi_range1 (by rfl) B.range_ (pa_cons (pv 3) pa_nil)) (blkOk_by (N := N_law) (sc := defScope s_law) (by decide +kernel)) (fun _ _ _ _ _ => pg_name (i := 15) sc_law.nd rfl (Or.inl rfl)) (fun _ _ _ _ _ => pts_nil) (fun _ _ _ _ _ => (pv 15))) (nomark _))))))))))))))))))))))), ?_⟩
    have hcp := cp30
    have hcp6 := cp60
    walk_at "rx"
    refine ⟨a, ns, rfl, hS, hlen, fun s g sm H1 s1 _ _ _ S1 => ?_⟩
    clear s1
    walk_at "rx"
    intro p zp
    generalize ep : upd _ p _ = HA
    obtain ⟨sA, hp⟩ := nw ep zp
    have op := S1.keep zp hp
    walk_at "rx"
    refine ⟨s, g, sm, 0, _, rfl, S1.same sA, by decide, by decide, by decide, fun c0 H2 c00 c01 S2 t2 => ?_⟩
    have hp2 := out_same _ _ (t2 _ _ op)
    obtain ⟨wh, ew, w0, w5⟩ : ∃ wh : Int, atI [V.int 0, V.int 1, V.int 1, V.int 1, V.int 2, V.int 3, V.int 4, V.int 5, V.int 5] c0 = some (V.int wh) ∧ 0 ≤ wh ∧ wh ≤ 5 := by
      obtain ⟨j, rfl⟩ := Int.eq_ofNat_of_zero_le c00
      have : j = 0 ∨ j = 1 ∨ j = 2 ∨ j = 3 ∨ j = 4 ∨ j = 5 ∨ j = 6 ∨ j = 7 ∨ j = 8 := by omega
      rcases this with rfl | rfl | rfl | rfl | rfl | rfl | rfl | rfl | rfl <;> exact ⟨_, rfl, by decide, by decide⟩
    clear t2 op S1 sA hp zp ep c00 c01
    walk_at "rx"
    refine ⟨s, g, sm, _, _, rfl, S2, by decide, by decide, by decide, fun c1 H3 c10 c11 S3 t3 => ?_⟩
    clear t3 hp2 ew
    obtain ⟨N0, rfl⟩ := Int.eq_ofNat_of_zero_le c10
    obtain ⟨N, eN⟩ : ∃ N, N = 1 + N0 := ⟨_, rfl⟩
    have hN1 : 1 ≤ N := by omega
    have hN : N ≤ 20 := by omega
    walk_at "rx"
    refine ⟨s, g, sm, _, _, rfl, S3, by decide, by decide, by decide, fun c2 H4 _ _ S4 t4 => ?_⟩
    clear t4
    walk_at "rx"
    refine cutIf (fun σ H7 => ∃ tot : Int, σ = [some (.ref a), some (.ref s), some (.int wh), some (.int (N : Int)), some (.int tot), none, none, none, none, none, none, none, none, none, none, none] ∧ tot ≤ 20 ∧ Src H7 s g sm 40) ?_ ?_ (fun _ => ⟨(N : Int), by rw [eN]; rfl, by omega, S4.mono (by decide)⟩)
    rotate_left
    · intro hT hc
      walk_at "rx"
      refine ⟨s, g, sm, _, _, rfl, S4, by decide, by decide, by decide, fun c3 H7 d0 _ S7 t7 => ?_⟩
      walk_at "rx"
      refine ⟨s, g, sm, _, _, rfl, S7, by decide, by decide, by decide, fun c4 H8 _ _ S8 t8 => ?_⟩
      walk_at "rx"
      refine ite2 (fun hb => ?_) (fun hb => ?_)
      · walk_at "rx"
        refine ⟨s, g, sm, _, 5, _, rfl, S8, by decide, by decide, fun c H9 e0 e1 S9 t9 => ?_⟩
        repeat (first | exact hT _ _ ⟨-c, by rw [eN]; rfl, by omega, S9.mono (by decide)⟩ | walk_at "x")
      · exact hT _ _ ⟨-c3, by rw [eN]; rfl, by omega, S8.mono (by decide)⟩
    rintro σ H7 ⟨tot, rfl, htot, S7⟩
    clear S2 S3 S4 eN c10 c11
    walk_at "rx"
    refine ⟨s, g, sm, _, _, rfl, S7, by decide, by omega, by omega, fun c5 H8 _ _ S8 t8 => ?_⟩
    clear t8
    walk_at "rx"
    refine ⟨s, g, sm, _, _, rfl, S8, by decide, by decide, by decide, fun ki H9 ki0 ki1 S9 t9 => ?_⟩
    clear t9
    walk_at "rx"
    refine ⟨s, g, sm, _, 5, _, rfl, S9, by decide, by decide, fun far HB far0 far1 SB tB => ?_⟩
    clear tB S7 S8 S9
    walk_at "rx"
    refine cutIf (fun σ HC => ∃ st : Int, σ = [some (.ref a), some (.ref s), some (.int wh), some (.int (N : Int)), some (.int tot), some (.int st), some (.int ki), some (.int far), none, none, none, none, none, none, none, none] ∧ Src HC s g sm 60) ?_ ?_ (fun _ => ⟨_, rfl, SB.mono (by decide)⟩)
    rotate_left
    · intro hT hc
      have hk2 := of_decide_eq_true hc
      walk_at "rx"
      intro p zp
      generalize ep : upd _ p _ = HC
      obtain ⟨sC, hp⟩ := nw ep zp
      obtain ⟨v, ev⟩ : ∃ v : Int, atI [V.int (-1), V.int (N : Int)] ki = some (V.int v) := by
        obtain ⟨j, rfl⟩ := Int.eq_ofNat_of_zero_le ki0
        have : j = 0 ∨ j = 1 := by omega
        rcases this with rfl | rfl <;> exact ⟨_, rfl⟩
      repeat (first | exact hT _ _ ⟨_, rfl, (SB.same sC).mono (by decide)⟩ | walk_at "x")
    rintro σ HC ⟨st, rfl, SC⟩
    clear SB
    walk_at "rx"
    refine cutIf (fun σ HD => ∃ st : Int, σ = [some (.ref a), some (.ref s), some (.int wh), some (.int (N : Int)), some (.int tot), some (.int st), some (.int ki), some (.int far), none, none, none, none, none, none, none, none] ∧ Src HD s g sm 60) ?_ ?_ (fun _ => ⟨_, rfl, SC⟩)
    rotate_left
    · intro hT hc
      repeat (first | exact hT _ _ ⟨_, rfl, SC⟩ | walk_at "x")
    rintro σ HD ⟨st, rfl, SD⟩
    clear SC
    walk_at "rx"
    refine cutIf (fun σ HE => ∃ st : Int, σ = [some (.ref a), some (.ref s), some (.int wh), some (.int (N : Int)), some (.int tot), some (.int st), some (.int ki), some (.int far), none, none, none, none, none, none, none, none] ∧ Src HE s g sm 60) ?_ ?_ (fun _ => ⟨_, rfl, SD⟩)
    rotate_left
    · intro hT hc
      repeat (first | exact hT _ _ ⟨_, rfl, SD⟩ | walk_at "x")
    rintro σ HE ⟨st, rfl, SE⟩
    clear SD
    walk_at "rx"
    refine ⟨s, g, sm, _, 8, _, rfl, SE, by decide, by decide, fun big HF _ _ SF tF => ?_⟩
    clear tF
    walk_at "rx"
    intro p zp
    generalize ep : upd _ p _ = HG
    obtain ⟨sG, hp⟩ := nw ep zp
    have op := SF.keep zp hp
    walk_at "rx"
    refine ⟨s, g, sm, _, _, rfl, SF.same sG, by decide, by decide, by decide, fun c6 HH c60 c61 SH tH => ?_⟩
    have hp2 := out_same _ _ (tH _ _ op)
    obtain ⟨ti, et⟩ : ∃ ti : Int, atI [V.int 0, V.int (-1), V.int big, V.int (-1 - far)] c6 = some (V.int ti) := by
      obtain ⟨j, rfl⟩ := Int.eq_ofNat_of_zero_le c60
      have : j = 0 ∨ j = 1 ∨ j = 2 ∨ j = 3 := by omega
      rcases this with rfl | rfl | rfl | rfl <;> exact ⟨_, rfl⟩
    clear tH op SE SF sG hp zp ep c60 c61
    walk_at "rx"
    refine ⟨s, g, sm, _, _, rfl, SH, by decide, by decide, fun n ls tx HI W hn hl SI tI _ otx => ?_⟩
    have htx := out_same _ _ otx
    clear tI otx SH SI hp2 et
    walk_at "rx"
    intro h1 zh1
    generalize eh1 : upd _ h1 _ = HJ
    obtain ⟨sJ, hh1⟩ := nw eh1 zh1
    walk_at "rx"
    intro x dx nx ndx _
    refine mk_at hh1 W (by omega) nx ndx fun HK sK RX => ⟨rfl, ?_⟩
    refine norm_g (σ' := [some (.ref a), some (.ref s), some (.int wh), some (.int (N : Int)), some (.int tot), some (.int st), some (.int ki), some (.int far), some (.int ti), some (.ref tx), some (.ref x), none, none, none, none, none]) rfl ?_
    clear htx sJ sK hh1 eh1 zh1 nx ndx
    walk_at "rx"
    refine ⟨x, wh, tot, st, ti, n, ls, rfl, RX, W, by omega, by omega, by omega, w0, w5, fun er HL sL zer her => ?_⟩
    walk_at "rx"
    refine ⟨wh, tot, st, ti, rfl, fun du HM sM zdu hdu => ?_⟩
    have herM := sM _ _ her
    have RXM := RX.same (sL.trans sM)
    generalize dueR wh tot st ti = pr at herM hdu
    obtain ⟨nm, v⟩ := pr
    have j0 : atI [V.str nm, V.int v] 0 = some (V.str nm) := rfl
    have j1 : atI [V.str nm, V.int v] 1 = some (V.int v) := rfl
    refine norm_g (σ' := [some (.ref a), some (.ref s), some (.int wh), some (.int (N : Int)), some (.int tot), some (.int st), some (.int ki), some (.int far), some (.int ti), some (.ref tx), some (.ref x), some (.ref er), some (.ref du), none, none, none]) rfl ?_
    clear RX her sL sM
    walk_at "rd"
    refine ⟨_, _, _, _, rfl, rfl, SqT.of herM, j0, ?_⟩
    walk_at "rd"
    refine ⟨_, _, _, _, rfl, rfl, SqT.of hdu, j0, ?_⟩
    walk_at "rd"
    refine iteNS rfl ?_
    walk_at "rd"
    refine ⟨_, _, _, _, rfl, rfl, SqT.of herM, j1, ?_⟩
    walk_at "rd"
    refine ⟨_, _, _, _, false, rfl, .ty _, .base (.int _), kit_ty (by decide +kernel), ?_⟩
    walk_at "rd"
    refine ⟨_, _, _, _, rfl, rfl, SqT.of herM, j1, ?_⟩
    walk_at "rd"
    refine ⟨_, _, _, _, true, rfl, .ty _, .base (.int _), kit_ty (by decide +kernel), ?_⟩
    walk_at "rd"
    refine ⟨_, _, _, _, rfl, rfl, SqT.of herM, j1, ?_⟩
    walk_at "rd"
    refine ⟨_, _, _, _, rfl, rfl, SqT.of hdu, j1, ?_⟩
    walk_at "rd"
    refine iteNS rfl ?_
    have CY := round_cyc W N
    have ok := CY.rings_ok
    have bigL : ∀ y : Nat, y ≤ 10000 → y ≤ sizeLine := fun y hy => Nat.le_trans hy (by decide)
    walk_at "rx"
    intro D zD
    generalize eD : upd _ D _ = HN
    obtain ⟨sN, hD⟩ := nw eD zD
    walk_at "rx"
    refine ⟨x, N, n, ls, rfl, RXM.same sN, W, by omega, by omega, hN1, by omega, fun rg HO' sO LR => ?_⟩
    obtain ⟨ws, hws0, hws⟩ := LR.in_
    generalize roundF ls (N : Int) = fn at CY ok hws
    walk_at "rx"
    refine ⟨⟨_, SqL.of hws0⟩, ?_⟩
    refine for_list (K := K) (a := rg) (xs := ws) (fun i σ H' => ∃ (D' : Addr) (o14 : Option V), σ = [some (.ref a), some (.ref s), some (.int wh), some (.int (N : Int)), some (.int tot), some (.int st), some (.int ki), some (.int far), some (.int ti), some (.ref tx), some (.ref x), some (.ref er), some (.ref du), some (.ref D'), o14, none] ∧ Same HO' H' ∧ H' D' = some (.lst ((((ringsL fn N).take i).flatten).map V.int)))
      ⟨D, _, rfl, Same.refl _, sO _ _ hD⟩ (fun i σ H' _ h => by
        obtain ⟨_, _, _, h, _⟩ := h
        exact SqL.of (h _ _ hws0)) ?_ ?_
    · rintro i v σ H' hv ⟨D', o14, rfl, s', hD'⟩
      obtain ⟨e, he, r, rfl, hr0⟩ := hws.of hv
      have hr1 := s' _ _ hr0
      walk_at "rx"
      intro q zq
      generalize eq : upd _ q _ = H2
      obtain ⟨s2, hq⟩ := nw eq zq
      have hD2 := s2 _ _ hD'
      have hle : (((ringsL fn N).take i).flatten).length + e.length ≤ 20 := by
        have e1 : ((ringsL fn N).take (i + 1)).flatten = ((ringsL fn N).take i).flatten ++ e := by
          rw [List.take_add_one, he, List.flatten_append]
          simp
        have e2 : (ringsL fn N).flatten = ((ringsL fn N).take (i + 1)).flatten ++ ((ringsL fn N).drop (i + 1)).flatten := by
          rw [← List.flatten_append, List.take_append_drop]
        have l1 := congrArg List.length e1
        have l2 := congrArg List.length e2
        rw [List.length_append] at l1 l2
        omega
      walk_at "rx"
      refine ⟨D', q, _, _, rfl, rfl, hD2, hq, bigL _ (by rw [List.length_map, List.length_map]; omega), fun u zu => ?_⟩
      refine ⟨u, _, rfl, s'.trans (s2.trans (Same.upd zu)), ?_⟩
      rw [upd_same, ← List.map_append, List.take_add_one, he, List.flatten_append]
      simp
    rintro σ HP ⟨D', o14, rfl, sP, hDP⟩
    rw [List.take_of_length_le (by rw [hws.1]; exact Nat.le_refl _)] at hDP
    walk_at "rx"
    refine ⟨D', _, rfl, SqL.of hDP, fun ns p1 hperm hsort zp1 => ?_⟩
    generalize ep1 : upd HP p1 _ = H5
    obtain ⟨s5, hp1⟩ := nw ep1 zp1
    walk_at "rx"
    intro p2 zp2
    refine lc_range (lo := 0) (n := N) (fun j H2 => Same H5 H2 ∧ H2 p2 = some (.lst (((List.range j).map fun k : Nat => (k : Int)).map V.int))) ⟨L2.Same.upd zp2, upd_same⟩ ?_ ?_
    · rintro j H6 hj ⟨s6, h6⟩
      refine ⟨rfl, ?_⟩
      walk_at "rx"
      rw [Int.zero_add]
      refine ⟨_, h6, by rw [List.length_map, List.length_map, List.length_range]; exact Nat.lt_of_lt_of_le (show j < 20 by omega) (by decide), s6.put zp2, ?_⟩
      rw [upd_same, List.range_succ, List.map_append, List.map_append]
      rfl
    rintro H6 ⟨s6, h6⟩
    have ens : ns = (List.range N).map fun k : Nat => (k : Int) := by
      refine pw_eqI hsort ?_ (hperm.trans CY.perm)
      rw [List.pairwise_map]
      exact List.Pairwise.imp (fun {a b} h => by omega) List.pairwise_lt_range
    refine rd_eqI (s6 _ _ hp1) h6 ?_
    rw [decide_eq_true ens]
    exact k _
end
theorem all_mk {l : PySem.W.OpenLaw} {w : World} {K : PySem.W.Frag} {h : Heap} {mg : Str → Option Value} {fa : Addr} (X : K.In h) (G : h.Ns mainGlobals mg) (hfa : mg "law" = some (.ref fa))
    {C_InvalidNumber : Addr} {nmInvalidNumber qInvalidNumber : Str} {NInvalidNumber : Addr} {bsInvalidNumber : List Value} {snInvalidNumber : List Str} {subInvalidNumber : List Value} {abInvalidNumber : Bool} {colInvalidNumber : Option Bool} {ddInvalidNumber : Option Addr} {m0InvalidNumber m1InvalidNumber m2InvalidNumber m3InvalidNumber m5InvalidNumber : Option Value}
    {C_InvalidPost : Addr} {nmInvalidPost qInvalidPost : Str} {NInvalidPost : Addr} {bsInvalidPost : List Value} {snInvalidPost : List Str} {subInvalidPost : List Value} {abInvalidPost : Bool} {colInvalidPost : Option Bool} {ddInvalidPost : Option Addr} {m0InvalidPost m1InvalidPost m2InvalidPost m3InvalidPost m5InvalidPost : Option Value}
    {C_InvalidSize : Addr} {nmInvalidSize qInvalidSize : Str} {NInvalidSize : Addr} {bsInvalidSize : List Value} {snInvalidSize : List Str} {subInvalidSize : List Value} {abInvalidSize : Bool} {colInvalidSize : Option Bool} {ddInvalidSize : Option Addr} {m0InvalidSize m1InvalidSize m2InvalidSize m3InvalidSize m5InvalidSize : Option Value}
    {C_RungError : Addr} {nmRungError qRungError : Str} {NRungError : Addr} {bsRungError : List Value} {snRungError : List Str} {subRungError : List Value} {abRungError : Bool} {colRungError : Option Bool} {ddRungError : Option Addr} {m0RungError m1RungError m2RungError m3RungError m5RungError : Option Value}
    {C : Addr}
    {f1 : Addr} {od1 an1 : Option Addr} {sl1 : Array (Option Value)} {oc1 kV1 dc1 pm1 cd1 ct1 : Value}
    {f2 : Addr} {od2 an2 : Option Addr} {sl2 : Array (Option Value)} {oc2 kV2 dc2 pm2 cd2 ct2 : Value}
    {f3 : Addr} {od3 an3 : Option Addr} {sl3 : Array (Option Value)} {oc3 kV3 dc3 pm3 cd3 ct3 : Value}
    {f4 : Addr} {od4 an4 : Option Addr} {sl4 : Array (Option Value)} {oc4 kV4 dc4 pm4 cd4 ct4 : Value}
    {f5 : Addr} {od5 an5 : Option Addr} {sl5 : Array (Option Value)} {oc5 kV5 dc5 pm5 cd5 ct5 : Value}
    {f6 : Addr} {od6 an6 : Option Addr} {sl6 : Array (Option Value)} {oc6 kV6 dc6 pm6 cd6 ct6 : Value}
    {f7 : Addr} {od7 an7 : Option Addr} {sl7 : Array (Option Value)} {oc7 kV7 dc7 pm7 cd7 ct7 : Value}
    {f8 : Addr} {od8 an8 : Option Addr} {sl8 : Array (Option Value)} {oc8 kV8 dc8 pm8 cd8 ct8 : Value}
    {f9 : Addr} {od9 an9 : Option Addr} {sl9 : Array (Option Value)} {oc9 kV9 dc9 pm9 cd9 ct9 : Value}
    {f10 : Addr} {od10 an10 : Option Addr} {sl10 : Array (Option Value)} {oc10 kV10 dc10 pm10 cd10 ct10 : Value}
    {f11 : Addr} {od11 an11 : Option Addr} {sl11 : Array (Option Value)} {oc11 kV11 dc11 pm11 cd11 ct11 : Value}
    {f12 : Addr} {od12 an12 : Option Addr} {sl12 : Array (Option Value)} {oc12 kV12 dc12 pm12 cd12 ct12 : Value}
    {p12 : Addr} {re12 : List Value}
    {f13 : Addr} {od13 an13 : Option Addr} {sl13 : Array (Option Value)} {oc13 kV13 dc13 pm13 cd13 ct13 : Value}
    {p13 : Addr} {re13 : List Value}
    {f14 : Addr} {od14 an14 : Option Addr} {sl14 : Array (Option Value)} {oc14 kV14 dc14 pm14 cd14 ct14 : Value}
    {f15 : Addr} {od15 an15 : Option Addr} {sl15 : Array (Option Value)} {oc15 kV15 dc15 pm15 cd15 ct15 : Value}
    {f16 : Addr} {od16 an16 : Option Addr} {sl16 : Array (Option Value)} {oc16 kV16 dc16 pm16 cd16 ct16 : Value}
    {f17 : Addr} {od17 an17 : Option Addr} {sl17 : Array (Option Value)} {oc17 kV17 dc17 pm17 cd17 ct17 : Value}
    {f18 : Addr} {od18 an18 : Option Addr} {sl18 : Array (Option Value)} {oc18 kV18 dc18 pm18 cd18 ct18 : Value}
    {f19 : Addr} {od19 an19 : Option Addr} {sl19 : Array (Option Value)} {oc19 kV19 dc19 pm19 cd19 ct19 : Value}
    {f20 : Addr} {od20 an20 : Option Addr} {sl20 : Array (Option Value)} {oc20 kV20 dc20 pm20 cd20 ct20 : Value}
    {f21 : Addr} {od21 an21 : Option Addr} {sl21 : Array (Option Value)} {oc21 kV21 dc21 pm21 cd21 ct21 : Value}
    {f22 : Addr} {od22 an22 : Option Addr} {sl22 : Array (Option Value)} {oc22 kV22 dc22 pm22 cd22 ct22 : Value}
    {f23 : Addr} {od23 an23 : Option Addr} {sl23 : Array (Option Value)} {oc23 kV23 dc23 pm23 cd23 ct23 : Value}
    {f24 : Addr} {od24 an24 : Option Addr} {sl24 : Array (Option Value)} {oc24 kV24 dc24 pm24 cd24 ct24 : Value}
    {f25 : Addr} {od25 an25 : Option Addr} {sl25 : Array (Option Value)} {oc25 kV25 dc25 pm25 cd25 ct25 : Value}
    {f26 : Addr} {od26 an26 : Option Addr} {sl26 : Array (Option Value)} {oc26 kV26 dc26 pm26 cd26 ct26 : Value}
    {f27 : Addr} {od27 an27 : Option Addr} {sl27 : Array (Option Value)} {oc27 kV27 dc27 pm27 cd27 ct27 : Value}
    {f28 : Addr} {od28 an28 : Option Addr} {sl28 : Array (Option Value)} {oc28 kV28 dc28 pm28 cd28 ct28 : Value}
    {f29 : Addr} {od29 an29 : Option Addr} {sl29 : Array (Option Value)} {oc29 kV29 dc29 pm29 cd29 ct29 : Value}
    {f30 : Addr} {od30 an30 : Option Addr} {sl30 : Array (Option Value)} {oc30 kV30 dc30 pm30 cd30 ct30 : Value}
    {f31 : Addr} {od31 an31 : Option Addr} {sl31 : Array (Option Value)} {oc31 kV31 dc31 pm31 cd31 ct31 : Value}
    {f32 : Addr} {od32 an32 : Option Addr} {sl32 : Array (Option Value)} {oc32 kV32 dc32 pm32 cd32 ct32 : Value}
    {f33 : Addr} {od33 an33 : Option Addr} {sl33 : Array (Option Value)} {oc33 kV33 dc33 pm33 cd33 ct33 : Value}
    {f34 : Addr} {od34 an34 : Option Addr} {sl34 : Array (Option Value)} {oc34 kV34 dc34 pm34 cd34 ct34 : Value}
    {f35 : Addr} {od35 an35 : Option Addr} {sl35 : Array (Option Value)} {oc35 kV35 dc35 pm35 cd35 ct35 : Value}
    {f36 : Addr} {od36 an36 : Option Addr} {sl36 : Array (Option Value)} {oc36 kV36 dc36 pm36 cd36 ct36 : Value}
    {f37 : Addr} {od37 an37 : Option Addr} {sl37 : Array (Option Value)} {oc37 kV37 dc37 pm37 cd37 ct37 : Value}
    {f38 : Addr} {od38 an38 : Option Addr} {sl38 : Array (Option Value)} {oc38 kV38 dc38 pm38 cd38 ct38 : Value}
    {f39 : Addr} {od39 an39 : Option Addr} {sl39 : Array (Option Value)} {oc39 kV39 dc39 pm39 cd39 ct39 : Value}
    {f40 : Addr} {od40 an40 : Option Addr} {sl40 : Array (Option Value)} {oc40 kV40 dc40 pm40 cd40 ct40 : Value}
    {f41 : Addr} {od41 an41 : Option Addr} {sl41 : Array (Option Value)} {oc41 kV41 dc41 pm41 cd41 ct41 : Value}
    {f42 : Addr} {od42 an42 : Option Addr} {sl42 : Array (Option Value)} {oc42 kV42 dc42 pm42 cd42 ct42 : Value}
    {f43 : Addr} {od43 an43 : Option Addr} {sl43 : Array (Option Value)} {oc43 kV43 dc43 pm43 cd43 ct43 : Value}
    {f44 : Addr} {od44 an44 : Option Addr} {sl44 : Array (Option Value)} {oc44 kV44 dc44 pm44 cd44 ct44 : Value}
    {f45 : Addr} {od45 an45 : Option Addr} {sl45 : Array (Option Value)} {oc45 kV45 dc45 pm45 cd45 ct45 : Value}
    {f46 : Addr} {od46 an46 : Option Addr} {sl46 : Array (Option Value)} {oc46 kV46 dc46 pm46 cd46 ct46 : Value}
    (aCRungError : PySem.W.nsIn K mainGlobals "RungError" = some (some (.ref C_RungError)))
    (xLRungError : K.lookup C_RungError = some (PySem.excClassObj nmRungError qRungError C_RungError NRungError bsRungError [.type "ValueError", .type "Exception", .type "BaseException", .type "object"] true snRungError subRungError abRungError colRungError ddRungError m0RungError m1RungError m2RungError m3RungError m5RungError "ValueError.__new__"))
    (saRungError : PySem.W.findIn K (.ref C_RungError) "__setattr__" = some (some (.builtin "object.__setattr__")))
    (gaRungError : PySem.W.findIn K (.ref C_RungError) "__getattribute__" = some (some (.builtin "BaseException.__getattribute__")))
    (ggRungError : PySem.W.findIn K (.ref C_RungError) "__getattr__" = some none)
    (nvRungError : PySem.W.findIn K (.ref C_RungError) "value" = some none)
    (kCRungError : PySem.W.keepIn K (.ref C_RungError) = true)
    (eCRungError : PySem.W.subIn K (.ref C_RungError) (.type "BaseException") = some true)
    (tCRungError : PySem.W.typeIn K (.ref C_RungError) = some (.type "type"))
    (hCRungError : PySem.W.hasDictIn K C_RungError = true)
    (haRungError : PySem.W.findIn K (.ref C_RungError) "__class__" = some (some (.builtin "object.__class__")))
    (hmRungError : PySem.W.mroIn K C_RungError (.type "object") = some true)
    (aCInvalidSize : PySem.W.nsIn K mainGlobals "InvalidSize" = some (some (.ref C_InvalidSize)))
    (xLInvalidSize : K.lookup C_InvalidSize = some (PySem.excClassObj nmInvalidSize qInvalidSize C_InvalidSize NInvalidSize bsInvalidSize [.ref C_RungError, .type "ValueError", .type "Exception", .type "BaseException", .type "object"] true snInvalidSize subInvalidSize abInvalidSize colInvalidSize ddInvalidSize m0InvalidSize m1InvalidSize m2InvalidSize m3InvalidSize m5InvalidSize "ValueError.__new__"))
    (saInvalidSize : PySem.W.findIn K (.ref C_InvalidSize) "__setattr__" = some (some (.builtin "object.__setattr__")))
    (gaInvalidSize : PySem.W.findIn K (.ref C_InvalidSize) "__getattribute__" = some (some (.builtin "BaseException.__getattribute__")))
    (ggInvalidSize : PySem.W.findIn K (.ref C_InvalidSize) "__getattr__" = some none)
    (nvInvalidSize : PySem.W.findIn K (.ref C_InvalidSize) "value" = some none)
    (kCInvalidSize : PySem.W.keepIn K (.ref C_InvalidSize) = true)
    (eCInvalidSize : PySem.W.subIn K (.ref C_InvalidSize) (.type "BaseException") = some true)
    (tCInvalidSize : PySem.W.typeIn K (.ref C_InvalidSize) = some (.type "type"))
    (hCInvalidSize : PySem.W.hasDictIn K C_InvalidSize = true)
    (haInvalidSize : PySem.W.findIn K (.ref C_InvalidSize) "__class__" = some (some (.builtin "object.__class__")))
    (hmInvalidSize : PySem.W.mroIn K C_InvalidSize (.type "object") = some true)
    (aCInvalidPost : PySem.W.nsIn K mainGlobals "InvalidPost" = some (some (.ref C_InvalidPost)))
    (xLInvalidPost : K.lookup C_InvalidPost = some (PySem.excClassObj nmInvalidPost qInvalidPost C_InvalidPost NInvalidPost bsInvalidPost [.ref C_RungError, .type "ValueError", .type "Exception", .type "BaseException", .type "object"] true snInvalidPost subInvalidPost abInvalidPost colInvalidPost ddInvalidPost m0InvalidPost m1InvalidPost m2InvalidPost m3InvalidPost m5InvalidPost "ValueError.__new__"))
    (saInvalidPost : PySem.W.findIn K (.ref C_InvalidPost) "__setattr__" = some (some (.builtin "object.__setattr__")))
    (gaInvalidPost : PySem.W.findIn K (.ref C_InvalidPost) "__getattribute__" = some (some (.builtin "BaseException.__getattribute__")))
    (ggInvalidPost : PySem.W.findIn K (.ref C_InvalidPost) "__getattr__" = some none)
    (nvInvalidPost : PySem.W.findIn K (.ref C_InvalidPost) "value" = some none)
    (kCInvalidPost : PySem.W.keepIn K (.ref C_InvalidPost) = true)
    (eCInvalidPost : PySem.W.subIn K (.ref C_InvalidPost) (.type "BaseException") = some true)
    (tCInvalidPost : PySem.W.typeIn K (.ref C_InvalidPost) = some (.type "type"))
    (hCInvalidPost : PySem.W.hasDictIn K C_InvalidPost = true)
    (haInvalidPost : PySem.W.findIn K (.ref C_InvalidPost) "__class__" = some (some (.builtin "object.__class__")))
    (hmInvalidPost : PySem.W.mroIn K C_InvalidPost (.type "object") = some true)
    (aCInvalidNumber : PySem.W.nsIn K mainGlobals "InvalidNumber" = some (some (.ref C_InvalidNumber)))
    (xLInvalidNumber : K.lookup C_InvalidNumber = some (PySem.excClassObj nmInvalidNumber qInvalidNumber C_InvalidNumber NInvalidNumber bsInvalidNumber [.ref C_RungError, .type "ValueError", .type "Exception", .type "BaseException", .type "object"] true snInvalidNumber subInvalidNumber abInvalidNumber colInvalidNumber ddInvalidNumber m0InvalidNumber m1InvalidNumber m2InvalidNumber m3InvalidNumber m5InvalidNumber "ValueError.__new__"))
    (saInvalidNumber : PySem.W.findIn K (.ref C_InvalidNumber) "__setattr__" = some (some (.builtin "object.__setattr__")))
    (gaInvalidNumber : PySem.W.findIn K (.ref C_InvalidNumber) "__getattribute__" = some (some (.builtin "BaseException.__getattribute__")))
    (ggInvalidNumber : PySem.W.findIn K (.ref C_InvalidNumber) "__getattr__" = some none)
    (nvInvalidNumber : PySem.W.findIn K (.ref C_InvalidNumber) "value" = some none)
    (kCInvalidNumber : PySem.W.keepIn K (.ref C_InvalidNumber) = true)
    (eCInvalidNumber : PySem.W.subIn K (.ref C_InvalidNumber) (.type "BaseException") = some true)
    (tCInvalidNumber : PySem.W.typeIn K (.ref C_InvalidNumber) = some (.type "type"))
    (hCInvalidNumber : PySem.W.hasDictIn K C_InvalidNumber = true)
    (haInvalidNumber : PySem.W.findIn K (.ref C_InvalidNumber) "__class__" = some (some (.builtin "object.__class__")))
    (hmInvalidNumber : PySem.W.mroIn K C_InvalidNumber (.type "object") = some true)
    (aCRule : PySem.W.nsIn K mainGlobals "Rule" = some (some (.ref C)))
    (inRungError : PySem.W.findIn K (.ref C_RungError) "__init__" = some (some (.ref f1)))
    (inInvalidSize : PySem.W.findIn K (.ref C_InvalidSize) "__init__" = some (some (.ref f1)))
    (inInvalidPost : PySem.W.findIn K (.ref C_InvalidPost) "__init__" = some (some (.ref f1)))
    (inInvalidNumber : PySem.W.findIn K (.ref C_InvalidNumber) "__init__" = some (some (.ref f1)))
    (i1 : PySem.W.typeIn K (.ref f1) = some (.type "function"))
    (l1 : K.lookup f1 = some ⟨oc1, od1, .func (PySem.W.fnOf "__init__" "RungError.__init__" (defArgs s_RungError_u__init_u_) (defBody s_RungError_u__init_u_) (defScope s_RungError_u__init_u_) .none kV1 dc1 pm1 an1 cd1 ct1), sl1⟩)
    (c1 : PySem.W.codeIn K cd1 "RungError.__init__" = true)
    (k1 : PySem.W.keepIn K (.ref f1) = true)
    (a2 : PySem.W.nsIn K mainGlobals "check_size" = some (some (.ref f2)))
    (l2 : K.lookup f2 = some ⟨oc2, od2, .func (PySem.W.fnOf "check_size" "check_size" (defArgs s_check_size) (defBody s_check_size) (defScope s_check_size) .none kV2 dc2 pm2 an2 cd2 ct2), sl2⟩)
    (c2 : PySem.W.codeIn K cd2 "check_size" = true)
    (k2 : PySem.W.keepIn K (.ref f2) = true)
    (a3 : PySem.W.nsIn K mainGlobals "check_post" = some (some (.ref f3)))
    (l3 : K.lookup f3 = some ⟨oc3, od3, .func (PySem.W.fnOf "check_post" "check_post" (defArgs s_check_post) (defBody s_check_post) (defScope s_check_post) .none kV3 dc3 pm3 an3 cd3 ct3), sl3⟩)
    (c3 : PySem.W.codeIn K cd3 "check_post" = true)
    (k3 : PySem.W.keepIn K (.ref f3) = true)
    (a4 : PySem.W.nsIn K mainGlobals "check_half_post" = some (some (.ref f4)))
    (l4 : K.lookup f4 = some ⟨oc4, od4, .func (PySem.W.fnOf "check_half_post" "check_half_post" (defArgs s_check_half_post) (defBody s_check_half_post) (defScope s_check_half_post) .none kV4 dc4 pm4 an4 cd4 ct4), sl4⟩)
    (c4 : PySem.W.codeIn K cd4 "check_half_post" = true)
    (k4 : PySem.W.keepIn K (.ref f4) = true)
    (a5 : PySem.W.nsIn K mainGlobals "check_number" = some (some (.ref f5)))
    (l5 : K.lookup f5 = some ⟨oc5, od5, .func (PySem.W.fnOf "check_number" "check_number" (defArgs s_check_number) (defBody s_check_number) (defScope s_check_number) .none kV5 dc5 pm5 an5 cd5 ct5), sl5⟩)
    (c5 : PySem.W.codeIn K cd5 "check_number" = true)
    (k5 : PySem.W.keepIn K (.ref f5) = true)
    (a6 : PySem.W.nsIn K mainGlobals "from_least" = some (some (.ref f6)))
    (l6 : K.lookup f6 = some ⟨oc6, od6, .func (PySem.W.fnOf "from_least" "from_least" (defArgs s_from_least) (defBody s_from_least) (defScope s_from_least) .none kV6 dc6 pm6 an6 cd6 ct6), sl6⟩)
    (c6 : PySem.W.codeIn K cd6 "from_least" = true)
    (k6 : PySem.W.keepIn K (.ref f6) = true)
    (a7 : PySem.W.nsIn K mainGlobals "is_marked" = some (some (.ref f7)))
    (l7 : K.lookup f7 = some ⟨oc7, od7, .func (PySem.W.fnOf "is_marked" "is_marked" (defArgs s_is_marked) (defBody s_is_marked) (defScope s_is_marked) .none kV7 dc7 pm7 an7 cd7 ct7), sl7⟩)
    (c7 : PySem.W.codeIn K cd7 "is_marked" = true)
    (k7 : PySem.W.keepIn K (.ref f7) = true)
    (a8 : PySem.W.nsIn K mainGlobals "is_row" = some (some (.ref f8)))
    (l8 : K.lookup f8 = some ⟨oc8, od8, .func (PySem.W.fnOf "is_row" "is_row" (defArgs s_is_row) (defBody s_is_row) (defScope s_is_row) .none kV8 dc8 pm8 an8 cd8 ct8), sl8⟩)
    (c8 : PySem.W.codeIn K cd8 "is_row" = true)
    (k8 : PySem.W.keepIn K (.ref f8) = true)
    (a9 : PySem.W.findIn K (.ref C) "__init__" = some (some (.ref f9)))
    (i9 : PySem.W.isFn K (.ref f9) = true)
    (l9 : K.lookup f9 = some ⟨oc9, od9, .func (PySem.W.fnOf "__init__" "Rule.__init__" (defArgs s_Rule_u__init_u_) (defBody s_Rule_u__init_u_) (defScope s_Rule_u__init_u_) .none kV9 dc9 pm9 an9 cd9 ct9), sl9⟩)
    (c9 : PySem.W.codeIn K cd9 "Rule.__init__" = true)
    (k9 : PySem.W.keepIn K (.ref f9) = true)
    (a10 : PySem.W.nsIn K mainGlobals "sizes_from" = some (some (.ref f10)))
    (l10 : K.lookup f10 = some ⟨oc10, od10, .func (PySem.W.fnOf "sizes_from" "sizes_from" (defArgs s_sizes_from) (defBody s_sizes_from) (defScope s_sizes_from) .none kV10 dc10 pm10 an10 cd10 ct10), sl10⟩)
    (c10 : PySem.W.codeIn K cd10 "sizes_from" = true)
    (k10 : PySem.W.keepIn K (.ref f10) = true)
    (a11 : PySem.W.nsIn K mainGlobals "home_with" = some (some (.ref f11)))
    (l11 : K.lookup f11 = some ⟨oc11, od11, .func (PySem.W.fnOf "home_with" "home_with" (defArgs s_home_with) (defBody s_home_with) (defScope s_home_with) .none kV11 dc11 pm11 an11 cd11 ct11), sl11⟩)
    (c11 : PySem.W.codeIn K cd11 "home_with" = true)
    (k11 : PySem.W.keepIn K (.ref f11) = true)
    (a12 : PySem.W.findIn K (.ref C) "width" = some (some (.ref p12)))
    (g12 : PySem.W.specialIn K (.ref p12) "__get__" = some (some (.builtin "property.__get__")))
    (t12 : PySem.W.takesIn K (.ref p12) = some true)
    (r12 : PySem.W.recIn K p12 "property" = some (.ref f12 :: re12))
    (l12 : K.lookup f12 = some ⟨oc12, od12, .func (PySem.W.fnOf "width" "Rule.width" (defArgs s_Rule_width) (defBody s_Rule_width) (defScope s_Rule_width) .none kV12 dc12 pm12 an12 cd12 ct12), sl12⟩)
    (c12 : PySem.W.codeIn K cd12 "Rule.width" = true)
    (k12 : PySem.W.keepIn K (.ref f12) = true)
    (a13 : PySem.W.findIn K (.ref C) "height" = some (some (.ref p13)))
    (g13 : PySem.W.specialIn K (.ref p13) "__get__" = some (some (.builtin "property.__get__")))
    (t13 : PySem.W.takesIn K (.ref p13) = some true)
    (r13 : PySem.W.recIn K p13 "property" = some (.ref f13 :: re13))
    (l13 : K.lookup f13 = some ⟨oc13, od13, .func (PySem.W.fnOf "height" "Rule.height" (defArgs s_Rule_height) (defBody s_Rule_height) (defScope s_Rule_height) .none kV13 dc13 pm13 an13 cd13 ct13), sl13⟩)
    (c13 : PySem.W.codeIn K cd13 "Rule.height" = true)
    (k13 : PySem.W.keepIn K (.ref f13) = true)
    (a14 : PySem.W.findIn K (.ref C) "has_rung" = some (some (.ref f14)))
    (i14 : PySem.W.isFn K (.ref f14) = true)
    (l14 : K.lookup f14 = some ⟨oc14, od14, .func (PySem.W.fnOf "has_rung" "Rule.has_rung" (defArgs s_Rule_has_rung) (defBody s_Rule_has_rung) (defScope s_Rule_has_rung) .none kV14 dc14 pm14 an14 cd14 ct14), sl14⟩)
    (c14 : PySem.W.codeIn K cd14 "Rule.has_rung" = true)
    (k14 : PySem.W.keepIn K (.ref f14) = true)
    (a15 : PySem.W.nsIn K mainGlobals "past_row_walks" = some (some (.ref f15)))
    (l15 : K.lookup f15 = some ⟨oc15, od15, .func (PySem.W.fnOf "_past_row" "_past_row" (defArgs s_past_row_walks) (defBody s_past_row_walks) (defScope s_past_row_walks) .none kV15 dc15 pm15 an15 cd15 ct15), sl15⟩)
    (c15 : PySem.W.codeIn K cd15 "_past_row" = true)
    (k15 : PySem.W.keepIn K (.ref f15) = true)
    (a16 : PySem.W.nsIn K mainGlobals "_way" = some (some (.ref f16)))
    (l16 : K.lookup f16 = some ⟨oc16, od16, .func (PySem.W.fnOf "_way" "_way" (defArgs s__way) (defBody s__way) (defScope s__way) .none kV16 dc16 pm16 an16 cd16 ct16), sl16⟩)
    (c16 : PySem.W.codeIn K cd16 "_way" = true)
    (k16 : PySem.W.keepIn K (.ref f16) = true)
    (a17 : PySem.W.nsIn K mainGlobals "round_of" = some (some (.ref f17)))
    (l17 : K.lookup f17 = some ⟨oc17, od17, .func (PySem.W.fnOf "round_of" "round_of" (defArgs s_round_of) (defBody s_round_of) (defScope s_round_of) .none kV17 dc17 pm17 an17 cd17 ct17), sl17⟩)
    (c17 : PySem.W.codeIn K cd17 "round_of" = true)
    (k17 : PySem.W.keepIn K (.ref f17) = true)
    (a18 : PySem.W.nsIn K mainGlobals "_ring_from" = some (some (.ref f18)))
    (l18 : K.lookup f18 = some ⟨oc18, od18, .func (PySem.W.fnOf "_ring_from" "_ring_from" (defArgs s__ring_from) (defBody s__ring_from) (defScope s__ring_from) .none kV18 dc18 pm18 an18 cd18 ct18), sl18⟩)
    (c18 : PySem.W.codeIn K cd18 "_ring_from" = true)
    (k18 : PySem.W.keepIn K (.ref f18) = true)
    (a19 : PySem.W.nsIn K mainGlobals "rings_of" = some (some (.ref f19)))
    (l19 : K.lookup f19 = some ⟨oc19, od19, .func (PySem.W.fnOf "rings_of" "rings_of" (defArgs s_rings_of) (defBody s_rings_of) (defScope s_rings_of) .none kV19 dc19 pm19 an19 cd19 ct19), sl19⟩)
    (c19 : PySem.W.codeIn K cd19 "rings_of" = true)
    (k19 : PySem.W.keepIn K (.ref f19) = true)
    (a20 : PySem.W.nsIn K mainGlobals "ring_of" = some (some (.ref f20)))
    (l20 : K.lookup f20 = some ⟨oc20, od20, .func (PySem.W.fnOf "ring_of" "ring_of" (defArgs s_ring_of) (defBody s_ring_of) (defScope s_ring_of) .none kV20 dc20 pm20 an20 cd20 ct20), sl20⟩)
    (c20 : PySem.W.codeIn K cd20 "ring_of" = true)
    (k20 : PySem.W.keepIn K (.ref f20) = true)
    (a21 : PySem.W.nsIn K mainGlobals "sizes_of" = some (some (.ref f21)))
    (l21 : K.lookup f21 = some ⟨oc21, od21, .func (PySem.W.fnOf "sizes_of" "sizes_of" (defArgs s_sizes_of) (defBody s_sizes_of) (defScope s_sizes_of) .none kV21 dc21 pm21 an21 cd21 ct21), sl21⟩)
    (c21 : PySem.W.codeIn K cd21 "sizes_of" = true)
    (k21 : PySem.W.keepIn K (.ref f21) = true)
    (a22 : PySem.W.nsIn K mainGlobals "home_of" = some (some (.ref f22)))
    (l22 : K.lookup f22 = some ⟨oc22, od22, .func (PySem.W.fnOf "home_of" "home_of" (defArgs s_home_of) (defBody s_home_of) (defScope s_home_of) .none kV22 dc22 pm22 an22 cd22 ct22), sl22⟩)
    (c22 : PySem.W.codeIn K cd22 "home_of" = true)
    (k22 : PySem.W.keepIn K (.ref f22) = true)
    (a23 : PySem.W.nsIn K mainGlobals "judge_rings" = some (some (.ref f23)))
    (l23 : K.lookup f23 = some ⟨oc23, od23, .func (PySem.W.fnOf "judge_rings" "judge_rings" (defArgs s_judge_rings) (defBody s_judge_rings) (defScope s_judge_rings) .none kV23 dc23 pm23 an23 cd23 ct23), sl23⟩)
    (c23 : PySem.W.codeIn K cd23 "judge_rings" = true)
    (k23 : PySem.W.keepIn K (.ref f23) = true)
    (a24 : PySem.W.nsIn K mainGlobals "past_row_lanes" = some (some (.ref f24)))
    (l24 : K.lookup f24 = some ⟨oc24, od24, .func (PySem.W.fnOf "_past_row" "_past_row" (defArgs s_past_row_lanes) (defBody s_past_row_lanes) (defScope s_past_row_lanes) .none kV24 dc24 pm24 an24 cd24 ct24), sl24⟩)
    (c24 : PySem.W.codeIn K cd24 "_past_row" = true)
    (k24 : PySem.W.keepIn K (.ref f24) = true)
    (a25 : PySem.W.nsIn K mainGlobals "step_of" = some (some (.ref f25)))
    (l25 : K.lookup f25 = some ⟨oc25, od25, .func (PySem.W.fnOf "step_of" "step_of" (defArgs s_step_of) (defBody s_step_of) (defScope s_step_of) .none kV25 dc25 pm25 an25 cd25 ct25), sl25⟩)
    (c25 : PySem.W.codeIn K cd25 "step_of" = true)
    (k25 : PySem.W.keepIn K (.ref f25) = true)
    (a26 : PySem.W.nsIn K mainGlobals "steps_of" = some (some (.ref f26)))
    (l26 : K.lookup f26 = some ⟨oc26, od26, .func (PySem.W.fnOf "steps_of" "steps_of" (defArgs s_steps_of) (defBody s_steps_of) (defScope s_steps_of) .none kV26 dc26 pm26 an26 cd26 ct26), sl26⟩)
    (c26 : PySem.W.codeIn K cd26 "steps_of" = true)
    (k26 : PySem.W.keepIn K (.ref f26) = true)
    (a27 : PySem.W.nsIn K mainGlobals "lane_with" = some (some (.ref f27)))
    (l27 : K.lookup f27 = some ⟨oc27, od27, .func (PySem.W.fnOf "lane_with" "lane_with" (defArgs s_lane_with) (defBody s_lane_with) (defScope s_lane_with) .none kV27 dc27 pm27 an27 cd27 ct27), sl27⟩)
    (c27 : PySem.W.codeIn K cd27 "lane_with" = true)
    (k27 : PySem.W.keepIn K (.ref f27) = true)
    (a28 : PySem.W.nsIn K mainGlobals "inner_after" = some (some (.ref f28)))
    (l28 : K.lookup f28 = some ⟨oc28, od28, .func (PySem.W.fnOf "inner_after" "inner_after" (defArgs s_inner_after) (defBody s_inner_after) (defScope s_inner_after) .none kV28 dc28 pm28 an28 cd28 ct28), sl28⟩)
    (c28 : PySem.W.codeIn K cd28 "inner_after" = true)
    (k28 : PySem.W.keepIn K (.ref f28) = true)
    (a29 : PySem.W.nsIn K mainGlobals "_law_source" = some (some (.ref f29)))
    (l29 : K.lookup f29 = some ⟨oc29, od29, .func (PySem.W.fnOf "_law_source" "_law_source" (defArgs s__law_source) (defBody s__law_source) (defScope s__law_source) .none kV29 dc29 pm29 an29 cd29 ct29), sl29⟩)
    (c29 : PySem.W.codeIn K cd29 "_law_source" = true)
    (k29 : PySem.W.keepIn K (.ref f29) = true)
    (a30 : PySem.W.nsIn K mainGlobals "_law_draw" = some (some (.ref f30)))
    (l30 : K.lookup f30 = some ⟨oc30, od30, .func (PySem.W.fnOf "_law_draw" "_law_draw" (defArgs s__law_draw) (defBody s__law_draw) (defScope s__law_draw) .none kV30 dc30 pm30 an30 cd30 ct30), sl30⟩)
    (c30 : PySem.W.codeIn K cd30 "_law_draw" = true)
    (k30 : PySem.W.keepIn K (.ref f30) = true)
    (a31 : PySem.W.nsIn K mainGlobals "_law_number" = some (some (.ref f31)))
    (l31 : K.lookup f31 = some ⟨oc31, od31, .func (PySem.W.fnOf "_law_number" "_law_number" (defArgs s__law_number) (defBody s__law_number) (defScope s__law_number) .none kV31 dc31 pm31 an31 cd31 ct31), sl31⟩)
    (c31 : PySem.W.codeIn K cd31 "_law_number" = true)
    (k31 : PySem.W.keepIn K (.ref f31) = true)
    (a32 : PySem.W.nsIn K mainGlobals "_law_lines" = some (some (.ref f32)))
    (l32 : K.lookup f32 = some ⟨oc32, od32, .func (PySem.W.fnOf "_law_lines" "_law_lines" (defArgs s__law_lines) (defBody s__law_lines) (defScope s__law_lines) .none kV32 dc32 pm32 an32 cd32 ct32), sl32⟩)
    (c32 : PySem.W.codeIn K cd32 "_law_lines" = true)
    (k32 : PySem.W.keepIn K (.ref f32) = true)
    (a33 : PySem.W.nsIn K mainGlobals "_law_texts" = some (some (.ref f33)))
    (l33 : K.lookup f33 = some ⟨oc33, od33, .func (PySem.W.fnOf "_law_texts" "_law_texts" (defArgs s__law_texts) (defBody s__law_texts) (defScope s__law_texts) .none kV33 dc33 pm33 an33 cd33 ct33), sl33⟩)
    (c33 : PySem.W.codeIn K cd33 "_law_texts" = true)
    (k33 : PySem.W.keepIn K (.ref f33) = true)
    (a34 : PySem.W.nsIn K mainGlobals "check_size" = some (some (.ref f34)))
    (l34 : K.lookup f34 = some ⟨oc34, od34, .func (PySem.W.fnOf "check_size" "check_size" (defArgs s_check_size_x) (defBody s_check_size_x) (defScope s_check_size_x) .none kV34 dc34 pm34 an34 cd34 ct34), sl34⟩)
    (c34 : PySem.W.codeIn K cd34 "check_size" = true)
    (k34 : PySem.W.keepIn K (.ref f34) = true)
    (a35 : PySem.W.nsIn K mainGlobals "round_of" = some (some (.ref f35)))
    (l35 : K.lookup f35 = some ⟨oc35, od35, .func (PySem.W.fnOf "round_of" "round_of" (defArgs s_round_of_x) (defBody s_round_of_x) (defScope s_round_of_x) .none kV35 dc35 pm35 an35 cd35 ct35), sl35⟩)
    (c35 : PySem.W.codeIn K cd35 "round_of" = true)
    (k35 : PySem.W.keepIn K (.ref f35) = true)
    (a36 : PySem.W.nsIn K mainGlobals "rings_of" = some (some (.ref f36)))
    (l36 : K.lookup f36 = some ⟨oc36, od36, .func (PySem.W.fnOf "rings_of" "rings_of" (defArgs s_rings_of_x) (defBody s_rings_of_x) (defScope s_rings_of_x) .none kV36 dc36 pm36 an36 cd36 ct36), sl36⟩)
    (c36 : PySem.W.codeIn K cd36 "rings_of" = true)
    (k36 : PySem.W.keepIn K (.ref f36) = true)
    (a37 : PySem.W.nsIn K mainGlobals "check_post" = some (some (.ref f37)))
    (l37 : K.lookup f37 = some ⟨oc37, od37, .func (PySem.W.fnOf "check_post" "check_post" (defArgs s_check_post_x) (defBody s_check_post_x) (defScope s_check_post_x) .none kV37 dc37 pm37 an37 cd37 ct37), sl37⟩)
    (c37 : PySem.W.codeIn K cd37 "check_post" = true)
    (k37 : PySem.W.keepIn K (.ref f37) = true)
    (a38 : PySem.W.nsIn K mainGlobals "ring_of" = some (some (.ref f38)))
    (l38 : K.lookup f38 = some ⟨oc38, od38, .func (PySem.W.fnOf "ring_of" "ring_of" (defArgs s_ring_of_x) (defBody s_ring_of_x) (defScope s_ring_of_x) .none kV38 dc38 pm38 an38 cd38 ct38), sl38⟩)
    (c38 : PySem.W.codeIn K cd38 "ring_of" = true)
    (k38 : PySem.W.keepIn K (.ref f38) = true)
    (a39 : PySem.W.nsIn K mainGlobals "sizes_of" = some (some (.ref f39)))
    (l39 : K.lookup f39 = some ⟨oc39, od39, .func (PySem.W.fnOf "sizes_of" "sizes_of" (defArgs s_sizes_of_x) (defBody s_sizes_of_x) (defScope s_sizes_of_x) .none kV39 dc39 pm39 an39 cd39 ct39), sl39⟩)
    (c39 : PySem.W.codeIn K cd39 "sizes_of" = true)
    (k39 : PySem.W.keepIn K (.ref f39) = true)
    (a40 : PySem.W.nsIn K mainGlobals "home_of" = some (some (.ref f40)))
    (l40 : K.lookup f40 = some ⟨oc40, od40, .func (PySem.W.fnOf "home_of" "home_of" (defArgs s_home_of_x) (defBody s_home_of_x) (defScope s_home_of_x) .none kV40 dc40 pm40 an40 cd40 ct40), sl40⟩)
    (c40 : PySem.W.codeIn K cd40 "home_of" = true)
    (k40 : PySem.W.keepIn K (.ref f40) = true)
    (a41 : PySem.W.nsIn K mainGlobals "judge_rings" = some (some (.ref f41)))
    (l41 : K.lookup f41 = some ⟨oc41, od41, .func (PySem.W.fnOf "judge_rings" "judge_rings" (defArgs s_judge_rings_x) (defBody s_judge_rings_x) (defScope s_judge_rings_x) .none kV41 dc41 pm41 an41 cd41 ct41), sl41⟩)
    (c41 : PySem.W.codeIn K cd41 "judge_rings" = true)
    (k41 : PySem.W.keepIn K (.ref f41) = true)
    (a42 : PySem.W.nsIn K mainGlobals "check_number" = some (some (.ref f42)))
    (l42 : K.lookup f42 = some ⟨oc42, od42, .func (PySem.W.fnOf "check_number" "check_number" (defArgs s_check_number_x) (defBody s_check_number_x) (defScope s_check_number_x) .none kV42 dc42 pm42 an42 cd42 ct42), sl42⟩)
    (c42 : PySem.W.codeIn K cd42 "check_number" = true)
    (k42 : PySem.W.keepIn K (.ref f42) = true)
    (a43 : PySem.W.nsIn K mainGlobals "inner_after" = some (some (.ref f43)))
    (l43 : K.lookup f43 = some ⟨oc43, od43, .func (PySem.W.fnOf "inner_after" "inner_after" (defArgs s_inner_after_x) (defBody s_inner_after_x) (defScope s_inner_after_x) .none kV43 dc43 pm43 an43 cd43 ct43), sl43⟩)
    (c43 : PySem.W.codeIn K cd43 "inner_after" = true)
    (k43 : PySem.W.keepIn K (.ref f43) = true)
    (a44 : PySem.W.nsIn K mainGlobals "_law_called" = some (some (.ref f44)))
    (l44 : K.lookup f44 = some ⟨oc44, od44, .func (PySem.W.fnOf "_law_called" "_law_called" (defArgs s__law_called) (defBody s__law_called) (defScope s__law_called) .none kV44 dc44 pm44 an44 cd44 ct44), sl44⟩)
    (c44 : PySem.W.codeIn K cd44 "_law_called" = true)
    (k44 : PySem.W.keepIn K (.ref f44) = true)
    (a45 : PySem.W.nsIn K mainGlobals "_law_due" = some (some (.ref f45)))
    (l45 : K.lookup f45 = some ⟨oc45, od45, .func (PySem.W.fnOf "_law_due" "_law_due" (defArgs s__law_due) (defBody s__law_due) (defScope s__law_due) .none kV45 dc45 pm45 an45 cd45 ct45), sl45⟩)
    (c45 : PySem.W.codeIn K cd45 "_law_due" = true)
    (k45 : PySem.W.keepIn K (.ref f45) = true)
    (a46 : PySem.W.nsIn K mainGlobals "law" = some (some (.ref f46)))
    (l46 : K.lookup f46 = some ⟨oc46, od46, .func (PySem.W.fnOf "law" "law" (defArgs s_law) (defBody s_law) (defScope s_law) .none kV46 dc46 pm46 an46 cd46 ct46), sl46⟩)
    (c46 : PySem.W.codeIn K cd46 "law" = true)
    (k46 : PySem.W.keepIn K (.ref f46) = true)
    (pg : PySem.W.plainGet K C Str.empty = true)
    (hd : PySem.W.hasDictIn K C = true)
    (po : PySem.W.plainOver K C = true)
    (sa : PySem.W.findIn K (.ref C) "__setattr__" = some (some (.builtin "object.__setattr__")))
    (mk : PySem.W.makesIn K C = true)
    (kc : PySem.W.keepIn K (.ref C) = true)
    (nR : PySem.W.findIn K (.ref C) "_rows" = some none)
    (cl1 : PySem.W.findIn K (.ref C) "__class__" = some (some (.builtin "object.__class__")))
    (cl2 : PySem.W.specialIn K (.builtin "object.__class__") "__get__" = some (some (.builtin "getset_descriptor.__get__")))
    (cl3 : PySem.W.takesIn K (.builtin "object.__class__") = some true)
    (cl4 : PySem.W.mroIn K C (.type "object") = some true)
    (sf : PySem.W.selfFirst K C = true)
    (S_InvalidNumber_InvalidNumber : PySem.W.subIn K (.ref C_InvalidNumber) (.ref C_InvalidNumber) = some true)
    (S_InvalidNumber_InvalidPost : PySem.W.subIn K (.ref C_InvalidNumber) (.ref C_InvalidPost) = some false)
    (S_InvalidNumber_InvalidSize : PySem.W.subIn K (.ref C_InvalidNumber) (.ref C_InvalidSize) = some false)
    (S_InvalidPost_InvalidPost : PySem.W.subIn K (.ref C_InvalidPost) (.ref C_InvalidPost) = some true)
    (S_InvalidPost_InvalidSize : PySem.W.subIn K (.ref C_InvalidPost) (.ref C_InvalidSize) = some false)
    (S_InvalidSize_InvalidSize : PySem.W.subIn K (.ref C_InvalidSize) (.ref C_InvalidSize) = some true)
    (zlen : PySem.W.nsIn K mainGlobals "len" = some none)
    (zint : PySem.W.nsIn K mainGlobals "int" = some none)
    (zrange : PySem.W.nsIn K mainGlobals "range" = some none)
    (zlist : PySem.W.nsIn K mainGlobals "list" = some none)
    (ztuple : PySem.W.nsIn K mainGlobals "tuple" = some none)
    (zisinstance : PySem.W.nsIn K mainGlobals "isinstance" = some none)
    (zall : PySem.W.nsIn K mainGlobals "all" = some none)
    (zany : PySem.W.nsIn K mainGlobals "any" = some none)
    (zbool : PySem.W.nsIn K mainGlobals "bool" = some none)
    (zstr : PySem.W.nsIn K mainGlobals "str" = some none)
    (zmin : PySem.W.nsIn K mainGlobals "min" = some none)
    (zmax : PySem.W.nsIn K mainGlobals "max" = some none)
    (zabs : PySem.W.nsIn K mainGlobals "abs" = some none)
    (zsum : PySem.W.nsIn K mainGlobals "sum" = some none)
    (zsorted : PySem.W.nsIn K mainGlobals "sorted" = some none)
    (zset : PySem.W.nsIn K mainGlobals "set" = some none)
    (zValueError : PySem.W.nsIn K mainGlobals "ValueError" = some none)
    (zlcm : PySem.W.nsIn K mainGlobals "lcm" = some (some (.builtin "math.lcm"))) :
    ∃ fd : FuncData, (∀ (s : Shared) (v : Value), BindsTo s fd ⟨[v], []⟩ [("script", v)]) ∧ ∀ base : Heap, K.In base → base.Ns mainGlobals mg → FnOk l.prog w K mg base CX0 13 fa fd ["script"] (spLaw K) := by
  have e := hfa.symm.trans (PySem.W.mg_of X G a46)
  cases e
  have B : Bi mg := ⟨PySem.W.mg_none_of X G zlen, PySem.W.mg_none_of X G zint, PySem.W.mg_none_of X G zrange, PySem.W.mg_none_of X G zlist, PySem.W.mg_none_of X G ztuple, PySem.W.mg_none_of X G zisinstance, PySem.W.mg_none_of X G zall, PySem.W.mg_none_of X G zany, PySem.W.mg_none_of X G zbool, PySem.W.mg_none_of X G zstr, PySem.W.mg_none_of X G zmin, PySem.W.mg_none_of X G zmax, PySem.W.mg_none_of X G zabs, PySem.W.mg_none_of X G zsum, PySem.W.mg_none_of X G zsorted, PySem.W.mg_none_of X G zset, PySem.W.mg_none_of X G zValueError⟩
  have G_Rule := PySem.W.mg_of X G aCRule
  have T : Rl K C := ⟨⟨pg, hd, po, sa⟩, nR, cl1, cl2, cl3, cl4, sf⟩
  have F1 := fun_mk (st := s_RungError_u__init_u_) l1 c1 k1
  have b1 := F1.binds (ps := ["self", "value"]) fun _ _ _ _ _ _ us hl => match us, hl with | [_, _], _ => rfl
  have F2 := fun_mk (st := s_check_size) l2 c2 k2
  have b2 := F2.binds (ps := ["n"]) fun _ _ _ _ _ _ us hl => match us, hl with | [_], _ => rfl
  have F3 := fun_mk (st := s_check_post) l3 c3 k3
  have b3 := F3.binds (ps := ["post", "n"]) fun _ _ _ _ _ _ us hl => match us, hl with | [_, _], _ => rfl
  have F4 := fun_mk (st := s_check_half_post) l4 c4 k4
  have b4 := F4.binds (ps := ["post"]) fun _ _ _ _ _ _ us hl => match us, hl with | [_], _ => rfl
  have F5 := fun_mk (st := s_check_number) l5 c5 k5
  have b5 := F5.binds (ps := ["number"]) fun _ _ _ _ _ _ us hl => match us, hl with | [_], _ => rfl
  have F6 := fun_mk (st := s_from_least) l6 c6 k6
  have b6 := F6.binds (ps := ["entries"]) fun _ _ _ _ _ _ us hl => match us, hl with | [_], _ => rfl
  have F7 := fun_mk (st := s_is_marked) l7 c7 k7
  have b7 := F7.binds (ps := ["text"]) fun _ _ _ _ _ _ us hl => match us, hl with | [_], _ => rfl
  have F8 := fun_mk (st := s_is_row) l8 c8 k8
  have b8 := F8.binds (ps := ["text"]) fun _ _ _ _ _ _ us hl => match us, hl with | [_], _ => rfl
  have F9 := fun_mk (st := s_Rule_u__init_u_) l9 c9 k9
  have b9 := F9.binds (ps := ["self", "texts"]) fun _ _ _ _ _ _ us hl => match us, hl with | [_, _], _ => rfl
  have F10 := fun_mk (st := s_sizes_from) l10 c10 k10
  have b10 := F10.binds (ps := ["counted"]) fun _ _ _ _ _ _ us hl => match us, hl with | [_], _ => rfl
  have F11 := fun_mk (st := s_home_with) l11 c11 k11
  have b11 := F11.binds (ps := ["sizes"]) fun _ _ _ _ _ _ us hl => match us, hl with | [_], _ => rfl
  have F12 := fun_mk (st := s_Rule_width) l12 c12 k12
  have b12 := F12.binds (ps := ["self"]) fun _ _ _ _ _ _ us hl => match us, hl with | [_], _ => rfl
  have F13 := fun_mk (st := s_Rule_height) l13 c13 k13
  have b13 := F13.binds (ps := ["self"]) fun _ _ _ _ _ _ us hl => match us, hl with | [_], _ => rfl
  have F14 := fun_mk (st := s_Rule_has_rung) l14 c14 k14
  have b14 := F14.binds (ps := ["self", "row", "post"]) fun _ _ _ _ _ _ us hl => match us, hl with | [_, _, _], _ => rfl
  have F15 := fun_mk (st := s_past_row_walks) l15 c15 k15
  have b15 := F15.binds (ps := ["rule", "n", "row", "post"]) fun _ _ _ _ _ _ us hl => match us, hl with | [_, _, _, _], _ => rfl
  have F16 := fun_mk (st := s__way) l16 c16 k16
  have b16 := F16.binds (ps := ["rule", "n", "post", "rows"]) fun _ _ _ _ _ _ us hl => match us, hl with | [_, _, _, _], _ => rfl
  have F17 := fun_mk (st := s_round_of) l17 c17 k17
  have b17 := F17.binds (ps := ["rule", "n"]) fun _ _ _ _ _ _ us hl => match us, hl with | [_, _], _ => rfl
  have F18 := fun_mk (st := s__ring_from) l18 c18 k18
  have b18 := F18.binds (ps := ["after", "post"]) fun _ _ _ _ _ _ us hl => match us, hl with | [_, _], _ => rfl
  have F19 := fun_mk (st := s_rings_of) l19 c19 k19
  have b19 := F19.binds (ps := ["rule", "n"]) fun _ _ _ _ _ _ us hl => match us, hl with | [_, _], _ => rfl
  have F20 := fun_mk (st := s_ring_of) l20 c20 k20
  have b20 := F20.binds (ps := ["rule", "n", "post"]) fun _ _ _ _ _ _ us hl => match us, hl with | [_, _, _], _ => rfl
  have F21 := fun_mk (st := s_sizes_of) l21 c21 k21
  have b21 := F21.binds (ps := ["rule", "n"]) fun _ _ _ _ _ _ us hl => match us, hl with | [_, _], _ => rfl
  have F22 := fun_mk (st := s_home_of) l22 c22 k22
  have b22 := F22.binds (ps := ["rule", "n"]) fun _ _ _ _ _ _ us hl => match us, hl with | [_, _], _ => rfl
  have F23 := fun_mk (st := s_judge_rings) l23 c23 k23
  have b23 := F23.binds (ps := ["rule", "n", "told"]) fun _ _ _ _ _ _ us hl => match us, hl with | [_, _, _], _ => rfl
  have F24 := fun_mk (st := s_past_row_lanes) l24 c24 k24
  have b24 := F24.binds (ps := ["rule", "row", "post"]) fun _ _ _ _ _ _ us hl => match us, hl with | [_, _, _], _ => rfl
  have F25 := fun_mk (st := s_step_of) l25 c25 k25
  have b25 := F25.binds (ps := ["rule", "post"]) fun _ _ _ _ _ _ us hl => match us, hl with | [_, _], _ => rfl
  have F26 := fun_mk (st := s_steps_of) l26 c26 k26
  have b26 := F26.binds (ps := ["rule"]) fun _ _ _ _ _ _ us hl => match us, hl with | [_], _ => rfl
  have F27 := fun_mk (st := s_lane_with) l27 c27 k27
  have b27 := F27.binds (ps := ["steps", "post"]) fun _ _ _ _ _ _ us hl => match us, hl with | [_, _], _ => rfl
  have F28 := fun_mk (st := s_inner_after) l28 c28 k28
  have b28 := F28.binds (ps := ["rule", "post", "rounds"]) fun _ _ _ _ _ _ us hl => match us, hl with | [_, _, _], _ => rfl
  have F29 := fun_mk (st := s__law_source) l29 c29 k29
  have b29 := F29.binds (ps := ["script"]) fun _ _ _ _ _ _ us hl => match us, hl with | [_], _ => rfl
  have F30 := fun_mk (st := s__law_draw) l30 c30 k30
  have b30 := F30.binds (ps := ["source", "limit"]) fun _ _ _ _ _ _ us hl => match us, hl with | [_, _], _ => rfl
  have F31 := fun_mk (st := s__law_number) l31 c31 k31
  have b31 := F31.binds (ps := ["source", "limit", "parts"]) fun _ _ _ _ _ _ us hl => match us, hl with | [_, _, _], _ => rfl
  have F32 := fun_mk (st := s__law_lines) l32 c32 k32
  have b32 := F32.binds (ps := ["span"]) fun _ _ _ _ _ _ us hl => match us, hl with | [_], _ => rfl
  have F33 := fun_mk (st := s__law_texts) l33 c33 k33
  have b33 := F33.binds (ps := ["source", "most"]) fun _ _ _ _ _ _ us hl => match us, hl with | [_, _], _ => rfl
  have F34 := fun_mk (st := s_check_size_x) l34 c34 k34
  have b34 := F34.binds (ps := ["n"]) fun _ _ _ _ _ _ us hl => match us, hl with | [_], _ => rfl
  have F35 := fun_mk (st := s_round_of_x) l35 c35 k35
  have b35 := F35.binds (ps := ["rule", "n"]) fun _ _ _ _ _ _ us hl => match us, hl with | [_, _], _ => rfl
  have F36 := fun_mk (st := s_rings_of_x) l36 c36 k36
  have b36 := F36.binds (ps := ["rule", "n"]) fun _ _ _ _ _ _ us hl => match us, hl with | [_, _], _ => rfl
  have F37 := fun_mk (st := s_check_post_x) l37 c37 k37
  have b37 := F37.binds (ps := ["post", "n"]) fun _ _ _ _ _ _ us hl => match us, hl with | [_, _], _ => rfl
  have F38 := fun_mk (st := s_ring_of_x) l38 c38 k38
  have b38 := F38.binds (ps := ["rule", "n", "post"]) fun _ _ _ _ _ _ us hl => match us, hl with | [_, _, _], _ => rfl
  have F39 := fun_mk (st := s_sizes_of_x) l39 c39 k39
  have b39 := F39.binds (ps := ["rule", "n"]) fun _ _ _ _ _ _ us hl => match us, hl with | [_, _], _ => rfl
  have F40 := fun_mk (st := s_home_of_x) l40 c40 k40
  have b40 := F40.binds (ps := ["rule", "n"]) fun _ _ _ _ _ _ us hl => match us, hl with | [_, _], _ => rfl
  have F41 := fun_mk (st := s_judge_rings_x) l41 c41 k41
  have b41 := F41.binds (ps := ["rule", "n", "told"]) fun _ _ _ _ _ _ us hl => match us, hl with | [_, _, _], _ => rfl
  have F42 := fun_mk (st := s_check_number_x) l42 c42 k42
  have b42 := F42.binds (ps := ["number"]) fun _ _ _ _ _ _ us hl => match us, hl with | [_], _ => rfl
  have F43 := fun_mk (st := s_inner_after_x) l43 c43 k43
  have b43 := F43.binds (ps := ["rule", "post", "rounds"]) fun _ _ _ _ _ _ us hl => match us, hl with | [_, _, _], _ => rfl
  have F44 := fun_mk (st := s__law_called) l44 c44 k44
  have b44 := F44.binds (ps := ["which", "made", "total", "start", "times"]) fun _ _ _ _ _ _ us hl => match us, hl with | [_, _, _, _, _], _ => rfl
  have F45 := fun_mk (st := s__law_due) l45 c45 k45
  have b45 := F45.binds (ps := ["which", "total", "start", "times"]) fun _ _ _ _ _ _ us hl => match us, hl with | [_, _, _, _], _ => rfl
  have F46 := fun_mk (st := s_law) l46 c46 k46
  have b46 := F46.binds (ps := ["script"]) fun _ _ _ _ _ _ us hl => match us, hl with | [_], _ => rfl
  have G_lcm := PySem.W.mg_of X G zlcm
  refine ⟨PySem.W.fnOf "law" "law" (defArgs s_law) (defBody s_law) (defScope s_law) .none kV46 dc46 pm46 an46 cd46 ct46, fun s v => .of_eq rfl, fun base _ _ => ?_⟩
  have G1 : FnOk l.prog w K mg base CX0 1 f1 _ ["self", "value"] (spErr K) := ok_RungError_init F1 B
  have X_RungError : Er l.prog w K mg base "RungError" C_RungError := ⟨PySem.W.mg_of X G aCRungError, ⟨⟨_, _, _, _, _, _, _, _, _, _, _, _, _, _, _, xLRungError, refs_tail⟩, saRungError, eCRungError, tCRungError, kCRungError⟩, ⟨gaRungError, ggRungError, eCRungError, hCRungError⟩, ⟨gaRungError, ggRungError, eCRungError, hCRungError, haRungError, cl2, cl3, hmRungError⟩, nvRungError, ⟨_, _, inRungError, i1, G1, b1⟩⟩
  have X_InvalidSize : Er l.prog w K mg base "InvalidSize" C_InvalidSize := ⟨PySem.W.mg_of X G aCInvalidSize, ⟨⟨_, _, _, _, _, _, _, _, _, _, _, _, _, _, _, xLInvalidSize, refs_one⟩, saInvalidSize, eCInvalidSize, tCInvalidSize, kCInvalidSize⟩, ⟨gaInvalidSize, ggInvalidSize, eCInvalidSize, hCInvalidSize⟩, ⟨gaInvalidSize, ggInvalidSize, eCInvalidSize, hCInvalidSize, haInvalidSize, cl2, cl3, hmInvalidSize⟩, nvInvalidSize, ⟨_, _, inInvalidSize, i1, G1, b1⟩⟩
  have X_InvalidPost : Er l.prog w K mg base "InvalidPost" C_InvalidPost := ⟨PySem.W.mg_of X G aCInvalidPost, ⟨⟨_, _, _, _, _, _, _, _, _, _, _, _, _, _, _, xLInvalidPost, refs_one⟩, saInvalidPost, eCInvalidPost, tCInvalidPost, kCInvalidPost⟩, ⟨gaInvalidPost, ggInvalidPost, eCInvalidPost, hCInvalidPost⟩, ⟨gaInvalidPost, ggInvalidPost, eCInvalidPost, hCInvalidPost, haInvalidPost, cl2, cl3, hmInvalidPost⟩, nvInvalidPost, ⟨_, _, inInvalidPost, i1, G1, b1⟩⟩
  have X_InvalidNumber : Er l.prog w K mg base "InvalidNumber" C_InvalidNumber := ⟨PySem.W.mg_of X G aCInvalidNumber, ⟨⟨_, _, _, _, _, _, _, _, _, _, _, _, _, _, _, xLInvalidNumber, refs_one⟩, saInvalidNumber, eCInvalidNumber, tCInvalidNumber, kCInvalidNumber⟩, ⟨gaInvalidNumber, ggInvalidNumber, eCInvalidNumber, hCInvalidNumber⟩, ⟨gaInvalidNumber, ggInvalidNumber, eCInvalidNumber, hCInvalidNumber, haInvalidNumber, cl2, cl3, hmInvalidNumber⟩, nvInvalidNumber, ⟨_, _, inInvalidNumber, i1, G1, b1⟩⟩
  have G2 : FnOk l.prog w K mg base CX0 2 f2 _ ["n"] spCheckSize := ok_check_size F2 B
  have D_check_size := Df.mk' F2 G2 (PySem.W.mg_of X G a2) b2
  have G3 : FnOk l.prog w K mg base CX0 2 f3 _ ["post", "n"] spCheckPost := ok_check_post F3 B
  have D_check_post := Df.mk' F3 G3 (PySem.W.mg_of X G a3) b3
  have G4 : FnOk l.prog w K mg base CX0 2 f4 _ ["post"] spCheckHalf := ok_check_half_post F4 B
  have D_check_half_post := Df.mk' F4 G4 (PySem.W.mg_of X G a4) b4
  have G5 : FnOk l.prog w K mg base CX0 2 f5 _ ["number"] spCheckNumber := ok_check_number F5 B
  have D_check_number := Df.mk' F5 G5 (PySem.W.mg_of X G a5) b5
  have G6 : FnOk l.prog w K mg base CX0 2 f6 _ ["entries"] spFromLeast := ok_from_least F6 B
  have D_from_least := Df.mk' F6 G6 (PySem.W.mg_of X G a6) b6
  have G7 : FnOk l.prog w K mg base CX0 1 f7 _ ["text"] spIsMarked := ok_is_marked F7 B
  have D_is_marked := Df.mk' F7 G7 (PySem.W.mg_of X G a7) b7
  have G8 : FnOk l.prog w K mg base CX0 2 f8 _ ["text"] spIsRow := ok_is_row F8 B D_is_marked
  have D_is_row := Df.mk' F8 G8 (PySem.W.mg_of X G a8) b8
  have G9 : FnOk l.prog w K mg base CX0 3 f9 _ ["self", "texts"] (spInit C) := ok_Rule_init F9 B T D_is_row
  have M_Rule : Mkr l.prog w K mg base "Rule" C 3 ["self", "texts"] (spInit C) := ⟨_, _, PySem.W.mg_of X G aCRule, ⟨mk, a9, i9, kc⟩, G9, b9⟩
  have G10 : FnOk l.prog w K mg base CX0 2 f10 _ ["counted"] spSizesFrom := ok_sizes_from F10 B
  have D_sizes_from := Df.mk' F10 G10 (PySem.W.mg_of X G a10) b10
  have G11 : FnOk l.prog w K mg base CX0 2 f11 _ ["sizes"] spHomeWith := ok_home_with F11 B G_lcm
  have D_home_with := Df.mk' F11 G11 (PySem.W.mg_of X G a11) b11
  have G12 : FnOk l.prog w K mg base CX0 2 f12 _ ["self"] (spWidth C) := ok_Rule_width F12 B T
  have P_width : Pr l.prog w K mg base C "width" 2 (spWidth C) := ⟨_, _, _, T.cl, ⟨a12, g12, t12, _, r12⟩, G12, b12⟩
  have G13 : FnOk l.prog w K mg base CX0 2 f13 _ ["self"] (spHeight C) := ok_Rule_height F13 B T
  have P_height : Pr l.prog w K mg base C "height" 2 (spHeight C) := ⟨_, _, _, T.cl, ⟨a13, g13, t13, _, r13⟩, G13, b13⟩
  have G14 : FnOk l.prog w K mg base CX0 4 f14 _ ["self", "row", "post"] (spHasRung C) := ok_Rule_has_rung F14 B T D_check_number D_check_half_post P_width P_height
  have E_has_rung : Me l.prog w K mg base C "has_rung" 4 ["self", "row", "post"] (spHasRung C) := ⟨_, _, T.cl, ⟨a14, i14, k14⟩, G14, b14⟩
  have G15 : FnOk l.prog w K mg base CX0 5 f15 _ ["rule", "n", "row", "post"] (spPast C) := ok_past_row_walks F15 B E_has_rung
  have D_past_row_walks : Df l.prog w K mg base "past_row_walks" 5 ["rule", "n", "row", "post"] (spPast C) := ⟨_, _, PySem.W.mg_of X G a15, G15, F15.kp, b15⟩
  have G16 : FnOk l.prog w K mg base CX0 6 f16 _ ["rule", "n", "post", "rows"] (spWay C) := ok__way F16 B D_past_row_walks
  have D_way := Df.mk' F16 G16 (PySem.W.mg_of X G a16) b16
  have G17 : FnOk l.prog w K mg base CX0 7 f17 _ ["rule", "n"] (spRound C) := ok_round_of F17 B D_check_size D_way P_height
  have D_round_of := Df.mk' F17 G17 (PySem.W.mg_of X G a17) b17
  have G18 : FnOk l.prog w K mg base CX0 2 f18 _ ["after", "post"] spRingFrom := ok__ring_from F18 B
  have D_ring_from := Df.mk' F18 G18 (PySem.W.mg_of X G a18) b18
  have G19 : FnOk l.prog w K mg base CX0 8 f19 _ ["rule", "n"] (spRingsOf C) := ok_rings_of F19 B D_round_of D_ring_from
  have D_rings_of := Df.mk' F19 G19 (PySem.W.mg_of X G a19) b19
  have G20 : FnOk l.prog w K mg base CX0 8 f20 _ ["rule", "n", "post"] (spRingOf C) := ok_ring_of F20 B D_check_size D_check_post D_round_of D_ring_from
  have D_ring_of := Df.mk' F20 G20 (PySem.W.mg_of X G a20) b20
  have G21 : FnOk l.prog w K mg base CX0 9 f21 _ ["rule", "n"] (spSizesOf C) := ok_sizes_of F21 B D_rings_of D_sizes_from
  have D_sizes_of := Df.mk' F21 G21 (PySem.W.mg_of X G a21) b21
  have G22 : FnOk l.prog w K mg base CX0 10 f22 _ ["rule", "n"] (spHomeOf C) := ok_home_of F22 B D_sizes_of D_home_with
  have D_home_of := Df.mk' F22 G22 (PySem.W.mg_of X G a22) b22
  have G23 : FnOk l.prog w K mg base CX0 9 f23 _ ["rule", "n", "told"] (spJudgeRings C) := ok_judge_rings F23 B D_from_least D_rings_of
  have D_judge_rings := Df.mk' F23 G23 (PySem.W.mg_of X G a23) b23
  have G24 : FnOk l.prog w K mg base CX0 5 f24 _ ["rule", "row", "post"] (spPastZ C) := ok_past_row_lanes F24 B E_has_rung P_width
  have D_past_row_lanes : Df l.prog w K mg base "past_row_lanes" 5 ["rule", "row", "post"] (spPastZ C) := ⟨_, _, PySem.W.mg_of X G a24, G24, F24.kp, b24⟩
  have G25 : FnOk l.prog w K mg base CX0 6 f25 _ ["rule", "post"] (spStepOf C) := ok_step_of F25 B D_past_row_lanes P_height
  have D_step_of := Df.mk' F25 G25 (PySem.W.mg_of X G a25) b25
  have G26 : FnOk l.prog w K mg base CX0 7 f26 _ ["rule"] (spStepsOf C) := ok_steps_of F26 B D_step_of P_width
  have D_steps_of := Df.mk' F26 G26 (PySem.W.mg_of X G a26) b26
  have G27 : FnOk l.prog w K mg base CX0 2 f27 _ ["steps", "post"] (spLaneWith C) := ok_lane_with C F27 B
  have D_lane_with := Df.mk' F27 G27 (PySem.W.mg_of X G a27) b27
  have G28 : FnOk l.prog w K mg base CX0 8 f28 _ ["rule", "post", "rounds"] (spInner C) := ok_inner_after F28 B D_check_number D_steps_of D_lane_with
  have D_inner_after := Df.mk' F28 G28 (PySem.W.mg_of X G a28) b28
  have G29 : FnOk l.prog w K mg base CX0 2 f29 _ ["script"] (spSource K) := ok__law_source F29 B
  have D_law_source := Df.mk' F29 G29 (PySem.W.mg_of X G a29) b29
  have G30 : FnOk l.prog w K mg base CX0 2 f30 _ ["source", "limit"] spDraw := ok__law_draw F30 B
  have D_law_draw := Df.mk' F30 G30 (PySem.W.mg_of X G a30) b30
  have G31 : FnOk l.prog w K mg base CX0 3 f31 _ ["source", "limit", "parts"] spNumber := ok__law_number F31 B D_law_draw
  have D_law_number := Df.mk' F31 G31 (PySem.W.mg_of X G a31) b31
  have G32 : FnOk l.prog w K mg base CX0 2 f32 _ ["span"] spLinesSpan := ok__law_lines F32 B
  have D_law_lines := Df.mk' F32 G32 (PySem.W.mg_of X G a32) b32
  have G33 : FnOk l.prog w K mg base CX0 3 f33 _ ["source", "most"] spTexts := ok__law_texts F33 B D_law_draw D_law_lines
  have D_law_texts := Df.mk' F33 G33 (PySem.W.mg_of X G a33) b33
  have G34 : FnOk l.prog w K mg base (L2.CX l.prog w) 4 f34 _ ["n"] (spChk C_InvalidSize 1) := ok_check_size_x F34 B X_InvalidSize
  have DX_check_size : DfX l.prog w K mg base "check_size" 4 ["n"] (spChk C_InvalidSize 1) := ⟨_, _, PySem.W.mg_of X G a34, G34, k34, b34⟩
  have G35 : FnOk l.prog w K mg base (L2.CX l.prog w) 7 f35 _ ["rule", "n"] (spRoundX C C_InvalidSize) := ok_round_of_x F35 B DX_check_size D_way P_height
  have DX_round_of : DfX l.prog w K mg base "round_of" 7 ["rule", "n"] (spRoundX C C_InvalidSize) := ⟨_, _, PySem.W.mg_of X G a35, G35, k35, b35⟩
  have G36 : FnOk l.prog w K mg base (L2.CX l.prog w) 8 f36 _ ["rule", "n"] (spRingsX C C_InvalidSize) := ok_rings_of_x F36 B DX_round_of D_ring_from
  have DX_rings_of : DfX l.prog w K mg base "rings_of" 8 ["rule", "n"] (spRingsX C C_InvalidSize) := ⟨_, _, PySem.W.mg_of X G a36, G36, k36, b36⟩
  have G37 : FnOk l.prog w K mg base (L2.CX l.prog w) 4 f37 _ ["post", "n"] (spChkP C_InvalidPost) := ok_check_post_x F37 B X_InvalidPost
  have DX_check_post : DfX l.prog w K mg base "check_post" 4 ["post", "n"] (spChkP C_InvalidPost) := ⟨_, _, PySem.W.mg_of X G a37, G37, k37, b37⟩
  have G38 : FnOk l.prog w K mg base (L2.CX l.prog w) 8 f38 _ ["rule", "n", "post"] (spRingX C C_InvalidSize C_InvalidPost) := ok_ring_of_x F38 B DX_check_size DX_check_post DX_round_of D_ring_from
  have DX_ring_of : DfX l.prog w K mg base "ring_of" 8 ["rule", "n", "post"] (spRingX C C_InvalidSize C_InvalidPost) := ⟨_, _, PySem.W.mg_of X G a38, G38, k38, b38⟩
  have G39 : FnOk l.prog w K mg base (L2.CX l.prog w) 9 f39 _ ["rule", "n"] (spRingsX C C_InvalidSize) := ok_sizes_of_x F39 B DX_rings_of D_sizes_from
  have DX_sizes_of : DfX l.prog w K mg base "sizes_of" 9 ["rule", "n"] (spRingsX C C_InvalidSize) := ⟨_, _, PySem.W.mg_of X G a39, G39, k39, b39⟩
  have G40 : FnOk l.prog w K mg base (L2.CX l.prog w) 10 f40 _ ["rule", "n"] (spRingsX C C_InvalidSize) := ok_home_of_x F40 B DX_sizes_of D_home_with
  have DX_home_of : DfX l.prog w K mg base "home_of" 10 ["rule", "n"] (spRingsX C C_InvalidSize) := ⟨_, _, PySem.W.mg_of X G a40, G40, k40, b40⟩
  have G41 : FnOk l.prog w K mg base (L2.CX l.prog w) 9 f41 _ ["rule", "n", "told"] (spJudgeRingsX C C_InvalidSize) := ok_judge_rings_x F41 B D_from_least DX_rings_of
  have DX_judge_rings : DfX l.prog w K mg base "judge_rings" 9 ["rule", "n", "told"] (spJudgeRingsX C C_InvalidSize) := ⟨_, _, PySem.W.mg_of X G a41, G41, k41, b41⟩
  have G42 : FnOk l.prog w K mg base (L2.CX l.prog w) 4 f42 _ ["number"] (spChk C_InvalidNumber 0) := ok_check_number_x F42 B X_InvalidNumber
  have DX_check_number : DfX l.prog w K mg base "check_number" 4 ["number"] (spChk C_InvalidNumber 0) := ⟨_, _, PySem.W.mg_of X G a42, G42, k42, b42⟩
  have G43 : FnOk l.prog w K mg base (L2.CX l.prog w) 8 f43 _ ["rule", "post", "rounds"] (spInnerBad C C_InvalidNumber) := ok_inner_after_x F43 B DX_check_number D_steps_of D_lane_with
  have DX_inner_after : DfX l.prog w K mg base "inner_after" 8 ["rule", "post", "rounds"] (spInnerBad C C_InvalidNumber) := ⟨_, _, PySem.W.mg_of X G a43, G43, k43, b43⟩
  have G44 : FnOk l.prog w K mg base CX0 12 f44 _ ["which", "made", "total", "start", "times"] (spCalledR C) := ok__law_called F44 B D_rings_of D_ring_of D_sizes_of D_home_of D_judge_rings D_inner_after DX_rings_of DX_ring_of DX_sizes_of DX_home_of DX_judge_rings DX_inner_after X_InvalidSize X_InvalidPost X_InvalidNumber S_InvalidSize_InvalidSize S_InvalidPost_InvalidSize S_InvalidPost_InvalidPost S_InvalidNumber_InvalidSize S_InvalidNumber_InvalidPost S_InvalidNumber_InvalidNumber
  have D_law_called := Df.mk' F44 G44 (PySem.W.mg_of X G a44) b44
  have G45 : FnOk l.prog w K mg base CX0 2 f45 _ ["which", "total", "start", "times"] spDueR := ok__law_due F45 B
  have D_law_due := Df.mk' F45 G45 (PySem.W.mg_of X G a45) b45
  exact ok_law F46 B T G_Rule D_law_source D_law_draw D_law_number D_law_texts D_law_called D_law_due D_rings_of M_Rule
theorem walk {l : PySem.W.OpenLaw} {q : Program} {loose : List Str} {XP : (Str → Option Value) → Heap → Prop} {YP : World → Heap → Prop} {d : DefRec} {K : Params → PySem.W.Frag} (hn : l.most = some 63) (hdf : d.params.defaults = [])
    (hY : ∀ (w : World) (h : Heap), YP w h → (K w.params).In h)
    (F : ∀ (w : World) (mg : Str → Option Value) (fa : Addr) (h : Heap), (K w.params).In h → h.Ns mainGlobals mg → mg d.name = some (.ref fa) →
      ∃ fd : FuncData, (∀ (s : Shared) (u : Value), BindsTo s fd ⟨[u], []⟩ [("script", u)]) ∧ ∀ base : Heap, (K w.params).In base → base.Ns mainGlobals mg → FnOk l.prog w (K w.params) mg base CX0 13 fa fd ["script"] (spLaw (K w.params))) :
    PySem.W.WalkO q loose XP YP l.row.toRowW d [] (fun f vs => PySem.call f vs) :=
  L2.walk_of (n := 63) (k := 13) (x := "script") (CX := fun _ => CX0) (sp := fun w => spLaw (K w.params)) hn (by decide) hdf ⟨rfl, by decide, by decide⟩ hY F (fun _ _ a ns hl _ hS => ⟨a, ns, rfl, hS, hl, fun _ => rfl⟩) fun _ _ _ _ _ z => z
end Rg
open PySem PySem.W PyProof.Rows
set_option maxRecDepth 100000 in
set_option maxHeartbeats 0 in
theorem PySem.Challenge.cw_rungrepeats_k29_errors_of_lanes_and_ring_holds : PySem.Challenge.rw_rungrepeats_k29_errors_of_lanes_and_ring.Holds := by
  w_on; o_law; k_head; (case hw => w_witness2)
  k_fill
  refine Rg.walk (l := PySem.Challenge.rw_rungrepeats_k29_errors_of_lanes_and_ring) rfl rfl (fun w h Y => PySem.W.kIn_of Y) ?F
  case F =>
    intro w mg fa h KX G hmg
    refine' Rg.all_mk KX G hmg ?aCRungError ?xLRungError ?saRungError ?gaRungError ?ggRungError ?nvRungError ?kCRungError ?eCRungError ?tCRungError ?hCRungError ?haRungError ?hmRungError ?aCInvalidSize ?xLInvalidSize ?saInvalidSize ?gaInvalidSize ?ggInvalidSize ?nvInvalidSize ?kCInvalidSize ?eCInvalidSize ?tCInvalidSize ?hCInvalidSize ?haInvalidSize ?hmInvalidSize ?aCInvalidPost ?xLInvalidPost ?saInvalidPost ?gaInvalidPost ?ggInvalidPost ?nvInvalidPost ?kCInvalidPost ?eCInvalidPost ?tCInvalidPost ?hCInvalidPost ?haInvalidPost ?hmInvalidPost ?aCInvalidNumber ?xLInvalidNumber ?saInvalidNumber ?gaInvalidNumber ?ggInvalidNumber ?nvInvalidNumber ?kCInvalidNumber ?eCInvalidNumber ?tCInvalidNumber ?hCInvalidNumber ?haInvalidNumber ?hmInvalidNumber ?aCRule ?inRungError ?inInvalidSize ?inInvalidPost ?inInvalidNumber ?i1 ?l1 ?c1 ?k1 ?a2 ?l2 ?c2 ?k2 ?a3 ?l3 ?c3 ?k3 ?a4 ?l4 ?c4 ?k4 ?a5 ?l5 ?c5 ?k5 ?a6 ?l6 ?c6 ?k6 ?a7 ?l7 ?c7 ?k7 ?a8 ?l8 ?c8 ?k8 ?a9 ?i9 ?l9 ?c9 ?k9 ?a10 ?l10 ?c10 ?k10 ?a11 ?l11 ?c11 ?k11 ?a12 ?g12 ?t12 ?r12 ?l12 ?c12 ?k12 ?a13 ?g13 ?t13 ?r13 ?l13 ?c13 ?k13 ?a14 ?i14 ?l14 ?c14 ?k14 ?a15 ?l15 ?c15 ?k15 ?a16 ?l16 ?c16 ?k16 ?a17 ?l17 ?c17 ?k17 ?a18 ?l18 ?c18 ?k18 ?a19 ?l19 ?c19 ?k19 ?a20 ?l20 ?c20 ?k20 ?a21 ?l21 ?c21 ?k21 ?a22 ?l22 ?c22 ?k22 ?a23 ?l23 ?c23 ?k23 ?a24 ?l24 ?c24 ?k24 ?a25 ?l25 ?c25 ?k25 ?a26 ?l26 ?c26 ?k26 ?a27 ?l27 ?c27 ?k27 ?a28 ?l28 ?c28 ?k28 ?a29 ?l29 ?c29 ?k29 ?a30 ?l30 ?c30 ?k30 ?a31 ?l31 ?c31 ?k31 ?a32 ?l32 ?c32 ?k32 ?a33 ?l33 ?c33 ?k33 ?a34 ?l34 ?c34 ?k34 ?a35 ?l35 ?c35 ?k35 ?a36 ?l36 ?c36 ?k36 ?a37 ?l37 ?c37 ?k37 ?a38 ?l38 ?c38 ?k38 ?a39 ?l39 ?c39 ?k39 ?a40 ?l40 ?c40 ?k40 ?a41 ?l41 ?c41 ?k41 ?a42 ?l42 ?c42 ?k42 ?a43 ?l43 ?c43 ?k43 ?a44 ?l44 ?c44 ?k44 ?a45 ?l45 ?c45 ?k45 ?a46 ?l46 ?c46 ?k46 ?pg ?hd ?po ?sa ?mk ?kc ?nR ?cl1 ?cl2 ?cl3 ?cl4 ?sf ?S_InvalidNumber_InvalidNumber ?S_InvalidNumber_InvalidPost ?S_InvalidNumber_InvalidSize ?S_InvalidPost_InvalidPost ?S_InvalidPost_InvalidSize ?S_InvalidSize_InvalidSize ?zlen ?zint ?zrange ?zlist ?ztuple ?zisinstance ?zall ?zany ?zbool ?zstr ?zmin ?zmax ?zabs ?zsum ?zsorted ?zset ?zValueError ?zlcm
    (case aCRungError => k_is)
    (case xLRungError => k_is)
    (case saRungError => k_is)
    (case gaRungError => k_is)
    (case ggRungError => k_is)
    (case nvRungError => k_is)
    (case kCRungError => k_is)
    (case eCRungError => k_is)
    (case tCRungError => k_is)
    (case hCRungError => k_is)
    (case haRungError => k_is)
    (case hmRungError => k_is)
    (case aCInvalidSize => k_is)
    (case xLInvalidSize => k_is)
    (case saInvalidSize => k_is)
    (case gaInvalidSize => k_is)
    (case ggInvalidSize => k_is)
    (case nvInvalidSize => k_is)
    (case kCInvalidSize => k_is)
    (case eCInvalidSize => k_is)
    (case tCInvalidSize => k_is)
    (case hCInvalidSize => k_is)
    (case haInvalidSize => k_is)
    (case hmInvalidSize => k_is)
    (case aCInvalidPost => k_is)
    (case xLInvalidPost => k_is)
    (case saInvalidPost => k_is)
    (case gaInvalidPost => k_is)
    (case ggInvalidPost => k_is)
    (case nvInvalidPost => k_is)
    (case kCInvalidPost => k_is)
    (case eCInvalidPost => k_is)
    (case tCInvalidPost => k_is)
    (case hCInvalidPost => k_is)
    (case haInvalidPost => k_is)
    (case hmInvalidPost => k_is)
    (case aCInvalidNumber => k_is)
    (case xLInvalidNumber => k_is)
    (case saInvalidNumber => k_is)
    (case gaInvalidNumber => k_is)
    (case ggInvalidNumber => k_is)
    (case nvInvalidNumber => k_is)
    (case kCInvalidNumber => k_is)
    (case eCInvalidNumber => k_is)
    (case tCInvalidNumber => k_is)
    (case hCInvalidNumber => k_is)
    (case haInvalidNumber => k_is)
    (case hmInvalidNumber => k_is)
    (case aCRule => k_is)
    (case inRungError => k_is)
    (case inInvalidSize => k_is)
    (case inInvalidPost => k_is)
    (case inInvalidNumber => k_is)
    (case i1 => k_is)
    (case l1 => k_is)
    (case c1 => k_is)
    (case k1 => k_is)
    (case a2 => k_is)
    (case l2 => k_is)
    (case c2 => k_is)
    (case k2 => k_is)
    (case a3 => k_is)
    (case l3 => k_is)
    (case c3 => k_is)
    (case k3 => k_is)
    (case a4 => k_is)
    (case l4 => k_is)
    (case c4 => k_is)
    (case k4 => k_is)
    (case a5 => k_is)
    (case l5 => k_is)
    (case c5 => k_is)
    (case k5 => k_is)
    (case a6 => k_is)
    (case l6 => k_is)
    (case c6 => k_is)
    (case k6 => k_is)
    (case a7 => k_is)
    (case l7 => k_is)
    (case c7 => k_is)
    (case k7 => k_is)
    (case a8 => k_is)
    (case l8 => k_is)
    (case c8 => k_is)
    (case k8 => k_is)
    (case a9 => k_is)
    (case i9 => k_is)
    (case l9 => k_is)
    (case c9 => k_is)
    (case k9 => k_is)
    (case a10 => k_is)
    (case l10 => k_is)
    (case c10 => k_is)
    (case k10 => k_is)
    (case a11 => k_is)
    (case l11 => k_is)
    (case c11 => k_is)
    (case k11 => k_is)
    (case a12 => k_is)
    (case g12 => k_is)
    (case t12 => k_is)
    (case r12 => k_is)
    (case l12 => k_is)
    (case c12 => k_is)
    (case k12 => k_is)
    (case a13 => k_is)
    (case g13 => k_is)
    (case t13 => k_is)
    (case r13 => k_is)
    (case l13 => k_is)
    (case c13 => k_is)
    (case k13 => k_is)
    (case a14 => k_is)
    (case i14 => k_is)
    (case l14 => k_is)
    (case c14 => k_is)
    (case k14 => k_is)
    (case a15 => k_is)
    (case l15 => k_is)
    (case c15 => k_is)
    (case k15 => k_is)
    (case a16 => k_is)
    (case l16 => k_is)
    (case c16 => k_is)
    (case k16 => k_is)
    (case a17 => k_is)
    (case l17 => k_is)
    (case c17 => k_is)
    (case k17 => k_is)
    (case a18 => k_is)
    (case l18 => k_is)
    (case c18 => k_is)
    (case k18 => k_is)
    (case a19 => k_is)
    (case l19 => k_is)
    (case c19 => k_is)
    (case k19 => k_is)
    (case a20 => k_is)
    (case l20 => k_is)
    (case c20 => k_is)
    (case k20 => k_is)
    (case a21 => k_is)
    (case l21 => k_is)
    (case c21 => k_is)
    (case k21 => k_is)
    (case a22 => k_is)
    (case l22 => k_is)
    (case c22 => k_is)
    (case k22 => k_is)
    (case a23 => k_is)
    (case l23 => k_is)
    (case c23 => k_is)
    (case k23 => k_is)
    (case a24 => k_is)
    (case l24 => k_is)
    (case c24 => k_is)
    (case k24 => k_is)
    (case a25 => k_is)
    (case l25 => k_is)
    (case c25 => k_is)
    (case k25 => k_is)
    (case a26 => k_is)
    (case l26 => k_is)
    (case c26 => k_is)
    (case k26 => k_is)
    (case a27 => k_is)
    (case l27 => k_is)
    (case c27 => k_is)
    (case k27 => k_is)
    (case a28 => k_is)
    (case l28 => k_is)
    (case c28 => k_is)
    (case k28 => k_is)
    (case a29 => k_is)
    (case l29 => k_is)
    (case c29 => k_is)
    (case k29 => k_is)
    (case a30 => k_is)
    (case l30 => k_is)
    (case c30 => k_is)
    (case k30 => k_is)
    (case a31 => k_is)
    (case l31 => k_is)
    (case c31 => k_is)
    (case k31 => k_is)
    (case a32 => k_is)
    (case l32 => k_is)
    (case c32 => k_is)
    (case k32 => k_is)
    (case a33 => k_is)
    (case l33 => k_is)
    (case c33 => k_is)
    (case k33 => k_is)
    (case a34 => k_is)
    (case l34 => k_is)
    (case c34 => k_is)
    (case k34 => k_is)
    (case a35 => k_is)
    (case l35 => k_is)
    (case c35 => k_is)
    (case k35 => k_is)
    (case a36 => k_is)
    (case l36 => k_is)
    (case c36 => k_is)
    (case k36 => k_is)
    (case a37 => k_is)
    (case l37 => k_is)
    (case c37 => k_is)
    (case k37 => k_is)
    (case a38 => k_is)
    (case l38 => k_is)
    (case c38 => k_is)
    (case k38 => k_is)
    (case a39 => k_is)
    (case l39 => k_is)
    (case c39 => k_is)
    (case k39 => k_is)
    (case a40 => k_is)
    (case l40 => k_is)
    (case c40 => k_is)
    (case k40 => k_is)
    (case a41 => k_is)
    (case l41 => k_is)
    (case c41 => k_is)
    (case k41 => k_is)
    (case a42 => k_is)
    (case l42 => k_is)
    (case c42 => k_is)
    (case k42 => k_is)
    (case a43 => k_is)
    (case l43 => k_is)
    (case c43 => k_is)
    (case k43 => k_is)
    (case a44 => k_is)
    (case l44 => k_is)
    (case c44 => k_is)
    (case k44 => k_is)
    (case a45 => k_is)
    (case l45 => k_is)
    (case c45 => k_is)
    (case k45 => k_is)
    (case a46 => k_is)
    (case l46 => k_is)
    (case c46 => k_is)
    (case k46 => k_is)
    (case pg => k_is)
    (case hd => k_is)
    (case po => k_is)
    (case sa => k_is)
    (case mk => k_is)
    (case kc => k_is)
    (case nR => k_is)
    (case cl1 => k_is)
    (case cl2 => k_is)
    (case cl3 => k_is)
    (case cl4 => k_is)
    (case sf => k_is)
    (case S_InvalidNumber_InvalidNumber => k_is)
    (case S_InvalidNumber_InvalidPost => k_is)
    (case S_InvalidNumber_InvalidSize => k_is)
    (case S_InvalidPost_InvalidPost => k_is)
    (case S_InvalidPost_InvalidSize => k_is)
    (case S_InvalidSize_InvalidSize => k_is)
    (case zlen => k_is)
    (case zint => k_is)
    (case zrange => k_is)
    (case zlist => k_is)
    (case ztuple => k_is)
    (case zisinstance => k_is)
    (case zall => k_is)
    (case zany => k_is)
    (case zbool => k_is)
    (case zstr => k_is)
    (case zmin => k_is)
    (case zmax => k_is)
    (case zabs => k_is)
    (case zsum => k_is)
    (case zsorted => k_is)
    (case zset => k_is)
    (case zValueError => k_is)
    (case zlcm => k_is)
