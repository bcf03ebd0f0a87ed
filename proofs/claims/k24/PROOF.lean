import PyProof.Rows.All
import Wide.All
import OpenK.AllK
import Wide.FinOn
import HandS.ForMost
import HandS.IsInst
import HandS.Property
import HandS.Wide
import HandS.Gcd
import HandS.More
import HandS.OwnEq
import HandS.Style
import KE.KMathGC
import HandS.Defaults
import HandS.MakeKwOnly
import HandS.SortInts
import HandS.Strs
import HandS.Conv
import HandS.DictTup
import HandS.SortRule
import KE.KMathG
import HandS.SetFor
import KE.SortData
import PySem.Challenge.RW_rungrepeats_k24_lanes_judged
set_option Elab.async false
set_option maxRecDepth 100000
set_option maxHeartbeats 4000000
set_option linter.unusedVariables false
/-! own words, shared by the proofs of this program's laws -/
namespace Rg
open PySem L2 TL

/-- the built-ins that are read are not shadowed -/
structure Bi (mg : Str → Option Value) : Prop where
  len_ : mg "len" = none
  int_ : mg "int" = none
  range_ : mg "range" = none
  list_ : mg "list" = none
  tuple_ : mg "tuple" = none
  isinstance_ : mg "isinstance" = none
  all_ : mg "all" = none
  any_ : mg "any" = none
  bool_ : mg "bool" = none
  str_ : mg "str" = none
  min_ : mg "min" = none
  max_ : mg "max" = none
  abs_ : mg "abs" = none
  sum_ : mg "sum" = none
  sorted_ : mg "sorted" = none
  set_ : mg "set" = none
  ValueError_ : mg "ValueError" = none

/-- a def of the module that keeps a promise -/
structure Df (P : Program) (w : World) (K : PySem.W.Frag) (mg : Str → Option Value) (base : Heap) (x : Str) (k : Nat) (ps : List Str) (sp : Sp) : Prop where
  ex : ∃ f fd, mg x = some (.ref f) ∧ FnOk P w K mg base CX0 k f fd ps sp ∧ PySem.W.keepIn K (.ref f) = true ∧ Binds K fd ps []
section
variable {X : Cx} {x : Str} {k : Nat} {ps : List Str} {sp : Sp} {e : Expr} {es : List Expr} {t : TA} {p pos : Pos}
theorem pe_df (D : Df X.prog X.w X.K X.mg X.base x k ps sp) (hr : Room k X.A) (hg : Gl X x) (ha : PA X (e :: es) t) (hdb : (x == ("__debug__" : Str)) = false := by decide)
    (he : starEach (e :: es) X.env = (false, eval e X.env) :: starEach es X.env := by rfl) (hpl : (backTo pos (starEach es X.env)).any (·.1) = false := by rfl) :
    PE X (.Call (.Name x p) (e :: es) [] pos) (tCall sp [] E0 t) := by
  obtain ⟨f, fd, hm, F, hk, hb⟩ := D.ex
  exact pe_call F hr hg hm hk hb .nil pass0 ha hdb he hpl
end
theorem Df.mk' {P : Program} {w : World} {K : PySem.W.Frag} {mg : Str → Option Value} {base : Heap} {x q : Str} {st : Stmt} {k : Nat} {ps : List Str} {sp : Sp} {f : Addr} {fd : FuncData} (F : Fun K x q st f fd) (G : FnOk P w K mg base CX0 k f fd ps sp)
    (hm : mg x = some (.ref f)) (hb : Binds K fd ps []) : Df P w K mg base x k ps sp := ⟨f, fd, hm, G, F.kp, hb⟩

/-- an own class: made by an __init__ that keeps sp -/
structure Mkr (P : Program) (w : World) (K : PySem.W.Frag) (mg : Str → Option Value) (base : Heap) (x : Str) (C : Addr) (k : Nat) (ps : List Str) (sp : Sp) : Prop where
  ex : ∃ f fd, mg x = some (.ref C) ∧ Mk K C f ∧ FnOk P w K mg base CX0 k f fd ps sp ∧ Binds K fd ps []
/-- a property of the class at C -/
structure Pr (P : Program) (w : World) (K : PySem.W.Frag) (mg : Str → Option Value) (base : Heap) (C : Addr) (x : Str) (k : Nat) (sp : Sp) : Prop where
  ex : ∃ p g fd, Cls K C ∧ PropOf K C x p g ∧ FnOk P w K mg base CX0 k g fd ["self"] sp ∧ Binds K fd ["self"] []
/-- a method of the class at C -/
structure Me (P : Program) (w : World) (K : PySem.W.Frag) (mg : Str → Option Value) (base : Heap) (C : Addr) (x : Str) (k : Nat) (ps : List Str) (sp : Sp) : Prop where
  ex : ∃ f fd, Cls K C ∧ Meth K C x f ∧ FnOk P w K mg base CX0 k f fd ps sp ∧ Binds K fd ps []
section
variable {X : Cx} {x m : Str} {k : Nat} {C : Addr} {ps : List Str} {sp : Sp} {o e : Expr} {es : List Expr} {ta : TE} {t : TA} {p pos apos : Pos}
theorem pe_mk (M : Mkr X.prog X.w X.K X.mg X.base x C k ps sp) (hr : Room (k + 1) X.A) (hg : Gl X x) (ha : PA X (e :: es) t) (hdb : (x == ("__debug__" : Str)) = false := by decide)
    (he : starEach (e :: es) X.env = (false, eval e X.env) :: starEach es X.env := by rfl) (hpl : (backTo pos (starEach es X.env)).any (·.1) = false := by rfl) :
    PE X (.Call (.Name x p) (e :: es) [] pos) (tMake C sp [] E0 t) := by
  obtain ⟨f, fd, hm, M, F, hb⟩ := M.ex
  exact pe_make M F hr hg hm hb .nil pass0 ha hdb he hpl
theorem pe_pr (he : PE X o ta) (D : Pr X.prog X.w X.K X.mg X.base C x k sp) (hr : Room (k + 1) X.A) (hab : attributeBase o x X.env (eval o X.env) = eval o X.env) : PE X (.Attribute o x pos) (tProp C sp [] E0 ta) := by
  obtain ⟨p, g, fd, c, hp, F, hb⟩ := D.ex
  exact pe_prop he c hp F hr hb .nil pass0 hab
theorem pe_me {pl : Sem Bool} (he : PE X o ta) (D : Me X.prog X.w X.K X.mg X.base C m k ps sp) (hr : Room k X.A) (ha : PA X (e :: es) t)
    (hst : starEach (e :: es) X.env = (false, eval e X.env) :: starEach es X.env := by rfl) (hpl : (backTo pos (starEach es X.env)).any (·.1) = false := by rfl)
    (ht : eval (.Call (.Attribute o m apos) (e :: es) [] pos) X.env = (do
      let ov ← eval o X.env
      standAt apos.atName
      let (f, first) ← holding [ov] (getMethod ov m pl)
      callWith pos f first (backTo pos (starEach (e :: es) X.env)) (backToKw pos (keywordEach [] X.env))) := by rfl) :
    PE X (.Call (.Attribute o m apos) (e :: es) [] pos) (tMeth C m sp [] E0 ta t) := by
  obtain ⟨f, fd, c, hm, F, hb⟩ := D.ex
  exact pe_meth he c hm F hr hb .nil pass0 ha hst hpl ht
theorem pe_me0 {pl : Sem Bool} (he : PE X o ta) (D : Me X.prog X.w X.K X.mg X.base C m k ps sp) (hr : Room k X.A)
    (ht : eval (.Call (.Attribute o m apos) [] [] pos) X.env = (do
      let ov ← eval o X.env
      standAt apos.atName
      let (f, first) ← holding [ov] (getMethod ov m pl)
      callWith pos f first (backTo pos (starEach [] X.env)) (backToKw pos (keywordEach [] X.env))) := by rfl) :
    PE X (.Call (.Attribute o m apos) [] [] pos) (tMeth C m sp [] E0 ta tNil) := by
  obtain ⟨f, fd, c, hm, F, hb⟩ := D.ex
  exact pe_meth0 he c hm F hr hb .nil pass0 ht
end

/-! ### a text many times -/
theorem foldl_nat (items : Array Nat) : ∀ (k : Nat) (acc : Array Nat), List.foldl (fun x1 x2 => x1 ++ x2) acc (List.replicate k items) = (acc.toList ++ (List.replicate k items.toList).flatten).toArray
  | 0, acc => by simp
  | k + 1, acc => by simp [List.replicate_succ, foldl_nat items k, List.append_assoc]
theorem mul_tl (z : Str) (n : Int) (h : 1 ≤ n) : Txt.mul z n = ⟨((List.replicate n.toNat (tl z)).flatten).toArray⟩ := by
  unfold Txt.mul
  rw [if_neg (by omega)]
  by_cases h1 : (n == 1 || z.length == 0) = true
  · rw [if_pos h1]
    refine ext_tl ?_
    show tl z = (List.replicate n.toNat (tl z)).flatten
    rw [Bool.or_eq_true, beq_iff_eq, beq_iff_eq] at h1
    rcases h1 with e | e
    · subst e
      simp
    · have e2 : tl z = [] := by
        rw [len_tl] at e
        exact List.length_eq_zero_iff.mp e
      rw [e2]
      simp
  · rw [if_neg h1]
    congr 1
    show List.foldl (fun x1 x2 => x1 ++ x2) #[] (List.replicate n.toNat z.cps) = _
    rw [foldl_nat]
    simp [tl]
def rRepS : R2 := fun x y H Q => ∃ z n, x = .str z ∧ y = .int n ∧ 1 ≤ n ∧ n < 2 ^ 63 ∧ z.length * n.toNat ≤ sizeLine ∧ Q (.str ⟨((List.replicate n.toNat (tl z)).flatten).toArray⟩) H
theorem op_rep_str {X : Cx} : OpR X (binaryOp .Mult) rRepS := by
  intro pins s σ H x y v u Q I rx ry h
  obtain ⟨z, n, rfl, rfl, h1, h63, hz, q⟩ := h
  obtain ⟨t, rfl⟩ := rx
  obtain ⟨t', rfl⟩ := ry
  have hp : ((z.length : Int)) * n ≤ 2 ^ 24 := by
    have e : ((z.length * n.toNat : Nat) : Int) ≤ ((2 ^ 24 : Nat) : Int) := Int.ofNat_le.mpr hz
    rw [Int.natCast_mul, Int.toNat_of_nonneg (by omega)] at e
    exact e
  refine SB.mul ⟨?_, fun _ _ => ?_, fun _ _ => ?_⟩ fun t2 k => ?_
  · rw [decide_eq_false (by omega), decide_eq_false (by omega)]
    rfl
  · have := (Int.le_ediv_iff_mul_le (a := (z.length : Int)) (b := 2 ^ 63 - 1) (c := n) (by omega)).mpr (by omega)
    omega
  · exact decide_eq_false (by omega)
  · rw [mul_tl z n h1]
    exact ⟨.str _, H, I.tok _, ⟨_, rfl⟩, q⟩

abbrev rLenSeq (K : PySem.W.Frag) : List V → Hp → VK → Prop := fun xs H Q => ∃ p ys, xs = [.ref p] ∧ (SqL K H p ys ∨ SqT K H p ys) ∧ Q (.int ys.length) H
abbrev rJoin (K : PySem.W.Frag) : V → List V → Hp → VK → Prop := fun x xs H Q => ∃ a p, ∃ ys : List Str, x = .str a ∧ xs = [.ref p] ∧ (SqL K H p (ys.map V.str) ∨ SqT K H p (ys.map V.str)) ∧
    (ys.map (·.length)).sum + ys.length * a.length ≤ 16777216 ∧ Q (.str (Txt.join a ys)) H
/-! ### sides -/
theorem cp60 : CPow 10 60 := ⟨by decide, by decide, by decide⟩
theorem cp18 : CPow 10 18 := ⟨by decide, by decide, by decide⟩
theorem cp61 : CPow 10 61 := ⟨by decide, by decide, by decide⟩
theorem cp20 : CPow 10 20 := ⟨by decide, by decide, by decide⟩
theorem cp30 : CPow 10 30 := ⟨by decide, by decide, by decide⟩
theorem cm60 : CMulW ((10 : Int) ^ (60 : Int).toNat) ((10 : Int) ^ (60 : Int).toNat) := by
  show _ < _
  decide +kernel
theorem ps60 : (0 : Int) < (10 : Int) ^ (60 : Int).toNat * (10 : Int) ^ (60 : Int).toNat := by decide +kernel
/-- what is drawn: as many as the limits, each from 0 on below its limit -/
def Drawn (ds ls : List Int) : Prop := ds.length = ls.length ∧ ∀ (i : Nat) (d l : Int), ds[i]? = some d → ls[i]? = some l → 0 ≤ d ∧ d < l
theorem Drawn.at {ds ls : List Int} (h : Drawn ds ls) {i : Nat} {l : Int} (e : ls[i]? = some l) : ∃ d, (ds.map V.int)[i]? = some (V.int d) ∧ ds[i]? = some d ∧ 0 ≤ d ∧ d < l := by
  have hi := (List.getElem?_eq_some_iff.mp e).1
  rw [← h.1] at hi
  refine ⟨ds[i], ?_, List.getElem?_eq_getElem hi, h.2 i _ l (List.getElem?_eq_getElem hi) e⟩
  rw [List.getElem?_map, List.getElem?_eq_getElem hi]
  rfl
theorem getV {ns : List Int} {i : Nat} (h : i < ns.length) : (ns.map V.int)[i]? = some (V.int ns[i]) := by
  rw [List.getElem?_map, List.getElem?_eq_getElem h]
  rfl
theorem getS {ns : List Str} {i : Nat} (h : i < ns.length) : (ns.map V.str)[i]? = some (V.str ns[i]) := by
  rw [List.getElem?_map, List.getElem?_eq_getElem h]
  rfl
/-- an index that is a number -/
theorem atI_k {xs : List V} {i : Int} {v : V} (k : Nat) (e : i = (k : Int)) (h : xs[k]? = some v) : atI xs i = some v := by
  subst e
  exact atI_nat h
theorem atI_k' {α : Type} {xs : List α} {i : Int} {v : α} (k : Nat) (e : i = (k : Int)) (h : xs[k]? = some v) : atI xs i = some v := by
  subst e
  exact atI_nat h
theorem ixN_nat {n p : Nat} (h : p < n) : ixN n (p : Int) = some p := by
  unfold ixN
  rw [if_pos (by omega), if_pos (by omega)]
  rfl
theorem _root_.L2.Same.upd {H : Hp} {p : Addr} {o : HO} (h : H p = none) : Same H (upd H p o) := fun b u e => by rw [upd_ne (ne_of_none e h)]; exact e
theorem _root_.L2.Same.up {H H1 : Hp} {p : Addr} {o : HO} (s : Same H H1) (h : H1 p = none) : Same H (L2.upd H1 p o) := s.trans (L2.Same.upd h)
/-- an object that is new with regard to H may be changed -/
theorem _root_.L2.Same.put {H H1 : Hp} {p : Addr} {o : HO} (s : Same H H1) (h : H p = none) : Same H (L2.upd H1 p o) := fun b u e => by rw [upd_ne (ne_of_none e h)]; exact s b u e

/-! ### len of an object with its own __len__ -/
def rLenOwn (C : Addr) (sp : Sp) : List V → Hp → VK → Prop := fun xs H Q => ∃ a dx fs, xs = [.ref a] ∧ H a = some (.ins C dx fs) ∧ sp [.ref a] H (fun v H' => ∃ n : Int, v = .int n ∧ (0 ≤ n ∧ n < 2 ^ 63) ∧ Q (.int n) H') E0
theorem call_lenR {X : Cx} {C : Addr} {k : Nat} {sp : Sp} (D : Me X.prog X.w X.K X.mg X.base C "__len__" k ["self"] sp) (hr : Room (k + 1) X.A) : CallR X (.builtin "len") (rLenOwn C sp) := by
  intro pins s σ H xs us Q I r h
  obtain ⟨a, dx, fs, rfl, ea, q⟩ := h
  obtain ⟨f, fd, c, hm, F, hb⟩ := D.ex
  cases r with
  | cons rv rn =>
    cases rn
    obtain rfl := (show _ = Value.ref a from rv)
    obtain ⟨mA, O, _⟩ := ins_get I.hok ea
    obtain ⟨od, J, _⟩ := O.look
    refine Calls.call_function_entry PySem.kind_len PySem.plain_len PySem.entry_len (PySem.args_len1 _) ?_
    unfold Builtin.«len»
    refine wpAny_bind (m := oneArg "len" _) (wpAny_pure ?_)
    refine wpAny_bind (m := callSpecial? (.ref a) (Str.ofString "__len__")) (PySem.W.special_fn I.kIn J hm.at_ (beq_iff_eq.mp hm.fn) ?_)
    refine wpAny_call (codeAny_mono (F.run X.A.in1 X.stack s H ⟨[.ref a], []⟩ [.ref a] [.ref a] _ E0 hr.in1 I.env0.in1 (hb _ [.ref a] I.kIn rfl) (.cons rfl .nil) q) fun r s' hq => ?_)
    cases r with
    | error e => exact False.elim hq
    | ok fl =>
      cases fl with
      | ret u =>
        obtain ⟨v, H', I3, rv, n, rfl, ⟨h0, h1⟩, q3⟩ := I.after hq
        obtain ⟨t, rfl⟩ := rv
        refine wpAny_bind (wpAny_holding (wpAny_pure ?_))
        refine wpAny_bind (wpAny_letGo ?_)
        show wpAny _ _ (if n < 0 then _ else _) _ _ _
        rw [if_neg (by omega)]
        show wpAny _ _ (if n ≥ 2 ^ 63 then _ else _) _ _ _
        rw [if_neg (by omega)]
        exact wpAny_bind (wpAny_mkInt (wpAny_pure ⟨_, rfl, ⟨.int n, H', I3.tok _, ⟨_, rfl⟩, q3⟩⟩))
      | next => exact False.elim hq
      | brk => exact False.elim hq
      | cont => exact False.elim hq
theorem atI_back {α : Type} {xs : List α} {v : α} (h : xs[xs.length - 1]? = some v) : atI xs (-1) = some v := by
  have hl := (List.getElem?_eq_some_iff.mp h).1
  unfold atI ixN
  rw [if_neg (by omega), if_pos (by omega)]
  show xs[((-1 : Int) + (xs.length : Int)).toNat]? = some v
  rw [show ((-1 : Int) + (xs.length : Int)).toNat = xs.length - 1 by omega]
  exact h
/-- what follows an if is shown once, for all that W says -/
theorem cutIf {b : Bool} {A : Prop} {D : Ends} {σ : St} {H : Hp} (W : St → Hp → Prop) (hT : ∀ σ' H', W σ' H' → D.nx σ' H') (hA : (∀ σ' H', W σ' H' → D.nx σ' H') → b = true → A) (hB : b = false → W σ H) : if b = true then A else tNext D σ H := by
  cases b with
  | true => exact hA hT rfl
  | false => exact hT σ H (hB rfl)
theorem cutIf2 {b : Bool} {A B : Prop} {D : Ends} (W : St → Hp → Prop) (hT : ∀ σ' H', W σ' H' → D.nx σ' H') (hA : (∀ σ' H', W σ' H' → D.nx σ' H') → b = true → A) (hB : (∀ σ' H', W σ' H' → D.nx σ' H') → b = false → B) : if b = true then A else B := by
  cases b with
  | true => exact hA hT rfl
  | false => exact hB hT rfl
/-- a new object -/
theorem nw {H H1 : Hp} {p : Addr} {o : HO} (e : upd H p o = H1) (h : H p = none) : Same H H1 ∧ H1 p = some o := by
  subst e
  exact ⟨L2.Same.upd h, upd_same⟩
theorem cutAnd {b : Bool} {A A2 : Prop} {D : Ends} {σ : St} {H : Hp} (W : St → Hp → Prop) (hT : ∀ σ' H', W σ' H' → D.nx σ' H') (hA : (∀ σ' H', W σ' H' → D.nx σ' H') → b = true → A) (hB : b = false → W σ H) :
    if b = true then A else (if false = true then A2 else tNext D σ H) := by
  cases b with
  | true => exact hA hT rfl
  | false => exact hT σ H (hB rfl)
/-- a power of a great number -/
def CPowW (i j : Int) : Prop := 0 ≤ j ∧ ∃ k : Nat, i.natAbs < 2 ^ k ∧ (k : Int) * j ≤ 2 ^ 27
theorem op_powW {X : Cx} : OpR X (binaryOp .Pow) (rI CPowW fun i j => .int (i ^ j.toNat)) := opI fun _ _ _ _ _ _ _ hc q => by
  obtain ⟨h0, k, hk, hz⟩ := hc
  refine PyProof.Rows.pow_int h0 (Int.le_trans (Int.mul_le_mul_of_nonneg_right (Int.ofNat_le.mpr (PyProof.Rows.intBits_le hk)) h0) hz) q
end Rg
/-! own mathematics: rows -/
namespace Rg
open PySem L2 TL

/-! ### how often one sign stands in a text -/
theorem cnt_run (x : Str) (c limit : Nat) : ∀ (m cur : Nat) (st : Array Nat × Nat), st.snd ≤ cur → st.fst.size + m ≤ limit →
    (forIn (List.range' cur m) st (StrLaws.occBody x ⟨#[c]⟩ x.length limit)).run.fst.size = st.fst.size + (((x.cps.toList).drop cur).take m).count c
  | 0, cur, st, h, _ => by simp
  | m + 1, cur, st, h, hl => by
    rw [List.range'_succ, List.forIn_cons]
    unfold StrLaws.occBody
    by_cases hc : x.cps.toList[cur]? = some c
    · have h2 := (StrLaws.subAt_one x c cur).mpr hc
      rw [if_pos ⟨⟨⟨by omega, h⟩, h2.1⟩, h2.2⟩]
      have ih := cnt_run x c limit m (cur + 1) (st.fst.push cur, cur + 1) (Nat.le_refl _) (by show (st.fst.push cur).size + m ≤ limit; rw [Array.size_push]; omega)
      obtain ⟨hlt, hget⟩ := List.getElem?_eq_some_iff.mp hc
      have e : (x.cps.toList.drop cur).take (m + 1) = c :: (x.cps.toList.drop (cur + 1)).take m := by
        rw [List.drop_eq_getElem_cons hlt, List.take_succ_cons, hget]
      refine Eq.trans ih ?_
      rw [e, List.count_cons_self]
      show (st.fst.push cur).size + _ = _
      rw [Array.size_push]
      omega
    · rw [if_neg fun z => hc ((StrLaws.subAt_one x c cur).mp ⟨z.1.2, z.2⟩)]
      have ih := cnt_run x c limit m (cur + 1) (st.fst, st.snd) (Nat.le_succ_of_le h) (by show st.fst.size + m ≤ limit; omega)
      refine Eq.trans ih ?_
      show st.fst.size + _ = _
      by_cases hlt : cur < x.cps.toList.length
      · have e : (x.cps.toList.drop cur).take (m + 1) = x.cps.toList[cur] :: (x.cps.toList.drop (cur + 1)).take m := by
          rw [List.drop_eq_getElem_cons hlt, List.take_succ_cons]
        have hne : ¬ (x.cps.toList[cur] == c) = true := fun z => hc (by rw [List.getElem?_eq_getElem hlt, beq_iff_eq.mp z])
        rw [e, List.count_cons_of_ne (fun z => hne (beq_iff_eq.mpr z))]
      · rw [List.drop_of_length_le (by omega), List.drop_of_length_le (by omega)]
        simp
theorem count_one (x : Str) (c : Nat) : Txt.count x ⟨#[c]⟩ = ((tl x).count c : Nat) := by
  show (((Builtin.Str.occurrences x ⟨#[c]⟩ 0 x.length (x.length + 1)).length : Nat) : Int) = _
  rw [StrLaws.occ_eq]
  have h := cnt_run x c (x.length + 1) (x.length + 1 - 0) 0 ((#[] : Array Nat), 0) (Nat.le_refl _) (by simp)
  rw [Array.length_toList, h]
  have e : ((x.cps.toList.drop 0).take (x.length + 1 - 0)) = x.cps.toList := by
    rw [List.drop_zero, List.take_of_length_le]
    show x.cps.toList.length ≤ x.cps.size + 1
    simp
  rw [e]
  simp [tl]

/-! ### rows -/
/-- the sign number i, modulo the length -/
def sg (l : List Nat) (i : Int) : Nat := l.getD (i % (l.length : Int)).toNat 0
def Signs (l : List Nat) : Prop := ∀ c ∈ l, c = 45 ∨ c = 46
structure Row (l : List Nat) : Prop where
  ne : 0 < l.length
  sgn : Signs l
  gap : ∀ i : Int, ¬ (sg l i = 45 ∧ sg l (i + 1) = 45)
theorem place_lt {l : List Nat} (h : 0 < l.length) (i : Int) : (i % (l.length : Int)).toNat < l.length := by
  have h1 := Int.emod_nonneg i (show (l.length : Int) ≠ 0 by omega)
  have h2 := Int.emod_lt_of_pos i (show (0 : Int) < l.length by omega)
  omega
theorem sg_get {l : List Nat} (h : 0 < l.length) (i : Int) : l[(i % (l.length : Int)).toNat]? = some (sg l i) := by
  unfold sg
  rw [List.getD_eq_getElem?_getD, List.getElem?_eq_getElem (place_lt h i)]
  rfl
theorem sg_nat {l : List Nat} {k : Nat} (h : k < l.length) : l[k]? = some (sg l (k : Int)) := by
  have e : ((k : Int) % (l.length : Int)).toNat = k := by
    rw [Int.emod_eq_of_lt (by omega) (by omega)]
    omega
  have q := sg_get (l := l) (by omega) (k : Int)
  rw [e] at q
  exact q
theorem sg_mem {l : List Nat} (h : 0 < l.length) (i : Int) : sg l i ∈ l := List.mem_of_getElem? (sg_get h i)
theorem sg_congr {l : List Nat} {i j : Int} (h : i % (l.length : Int) = j % (l.length : Int)) : sg l i = sg l j := by
  unfold sg
  rw [h]
theorem sg_add {l : List Nat} (i : Int) : sg l (i + (l.length : Int)) = sg l i := sg_congr (Int.add_emod_right i _)
theorem sg_first {l : List Nat} (h : 0 < l.length) : l[0]? = some (sg l 0) := sg_nat h
/-- what the program looks at: the signs and the first one behind them -/
theorem gap_iff {l : List Nat} (h : 0 < l.length) : (∀ i : Int, ¬ (sg l i = 45 ∧ sg l (i + 1) = 45)) ↔ ∀ i : Nat, ¬ ((l ++ l.take 1)[i]? = some 45 ∧ (l ++ l.take 1)[i + 1]? = some 45) := by
  have hn : ∀ k : Nat, k ≤ l.length → (l ++ l.take 1)[k]? = some (sg l (k : Int)) := fun k hk => by
    by_cases h1 : k < l.length
    · rw [List.getElem?_append_left h1]
      exact sg_nat h1
    · have e : k = l.length := by omega
      subst e
      rw [List.getElem?_append_right (Nat.le_refl _), Nat.sub_self, List.getElem?_take_of_lt (by omega), sg_first h]
      have q := sg_add (l := l) 0
      rw [Int.zero_add] at q
      rw [q]
  have hlen : (l ++ l.take 1).length = l.length + 1 := by
    rw [List.length_append, List.length_take]
    omega
  constructor
  · rintro g i ⟨h1, h2⟩
    have hi := (List.getElem?_eq_some_iff.mp h2).1
    rw [hlen] at hi
    rw [hn i (by omega)] at h1
    rw [hn (i + 1) (by omega)] at h2
    exact g (i : Int) ⟨Option.some.inj h1, by simpa using h2⟩
  · rintro g i ⟨h1, h2⟩
    have hp := place_lt h i
    have h0 := Int.emod_nonneg i (show (l.length : Int) ≠ 0 by omega)
    have e : (((i % (l.length : Int)).toNat : Nat) : Int) = i % (l.length : Int) := Int.toNat_of_nonneg h0
    have a1 : sg l (((i % (l.length : Int)).toNat : Nat) : Int) = sg l i := sg_congr (by rw [e, Int.emod_emod])
    have a2 : sg l ((((i % (l.length : Int)).toNat + 1 : Nat) : Nat) : Int) = sg l (i + 1) := sg_congr (by
      rw [Int.natCast_add, e]
      show (i % (l.length : Int) + 1) % (l.length : Int) = (i + 1) % (l.length : Int)
      rw [Int.emod_add_emod])
    refine g (i % (l.length : Int)).toNat ⟨?_, ?_⟩
    · rw [hn _ (by omega), a1, h1]
    · rw [hn _ (by omega), a2, h2]
theorem signs_count : ∀ l : List Nat, l.count 45 + l.count 46 ≤ l.length ∧ (l.count 45 + l.count 46 = l.length ↔ Signs l)
  | [] => ⟨by simp, by simp [Signs]⟩
  | a :: l => by
    obtain ⟨h1, h2⟩ := signs_count l
    by_cases e : a = 45
    · subst e
      rw [List.count_cons_self, List.count_cons_of_ne (by decide)]
      refine ⟨by simp; omega, ⟨fun h c hc => ?_, fun h => ?_⟩⟩
      · rcases List.mem_cons.mp hc with rfl | hc
        · exact .inl rfl
        · exact h2.mp (by simp at h; omega) c hc
      · have := h2.mpr fun c hc => h c (List.mem_cons_of_mem _ hc)
        simp; omega
    · by_cases e2 : a = 46
      · subst e2
        rw [List.count_cons_self, List.count_cons_of_ne (by decide)]
        refine ⟨by simp; omega, ⟨fun h c hc => ?_, fun h => ?_⟩⟩
        · rcases List.mem_cons.mp hc with rfl | hc
          · exact .inr rfl
          · exact h2.mp (by simp at h; omega) c hc
        · have := h2.mpr fun c hc => h c (List.mem_cons_of_mem _ hc)
          simp; omega
      · rw [List.count_cons_of_ne (fun z => e z), List.count_cons_of_ne (fun z => e2 z)]
        refine ⟨by simp; omega, ⟨fun h => ?_, fun h => ?_⟩⟩
        · simp at h; omega
        · rcases h a List.mem_cons_self with q | q
          · exact absurd q e
          · exact absurd q e2
/-- a list whose signs are those of a row, one after the other, at other places -/
theorem Row.move {l m : List Nat} (R : Row l) (hm : 0 < m.length) (f : Int → Int) (h : ∀ k : Nat, k < m.length → m[k]? = some (sg l (f k))) (hp : ∀ i : Int, sg l (f (i % (m.length : Int))) = sg l (f i)) (hs : ∀ i : Int, f (i + 1) = f i + 1 ∨ f (i + 1) = f i - 1) : Row m := by
  have key : ∀ i : Int, sg m i = sg l (f i) := fun i => by
    have h1 := sg_get hm i
    rw [h _ (place_lt hm i)] at h1
    have e : (((i % (m.length : Int)).toNat : Nat) : Int) = i % (m.length : Int) := Int.toNat_of_nonneg (Int.emod_nonneg i (by omega))
    rw [e, hp] at h1
    exact (Option.some.inj h1).symm
  refine ⟨hm, fun c hc => ?_, fun i ⟨h1, h2⟩ => ?_⟩
  · obtain ⟨k, hk, e⟩ := List.mem_iff_getElem.mp hc
    have q := h k hk
    rw [List.getElem?_eq_getElem hk, e] at q
    rw [Option.some.inj q]
    exact R.sgn _ (sg_mem R.ne _)
  · rw [key] at h1 h2
    rcases hs i with e | e
    · rw [e] at h2
      exact R.gap (f i) ⟨h1, h2⟩
    · rw [e] at h2
      exact R.gap (f i - 1) ⟨h2, by rw [Int.sub_add_cancel]; exact h1⟩
theorem rep_length (n : Nat) (l : List Nat) : ((List.replicate n l).flatten).length = n * l.length := by simp
theorem rep_get {l : List Nat} (hl : 0 < l.length) : ∀ (n k : Nat), k < n * l.length → ((List.replicate n l).flatten)[k]? = some (sg l (k : Int))
  | 0, k, h => by omega
  | n + 1, k, h => by
    rw [List.replicate_succ, List.flatten_cons]
    by_cases h1 : k < l.length
    · rw [List.getElem?_append_left h1]
      exact sg_nat h1
    · rw [List.getElem?_append_right (by omega), rep_get hl n (k - l.length) (by rw [Nat.succ_mul] at h; omega)]
      have e : ((k : Int)) = ((k - l.length : Nat) : Int) + (l.length : Int) := by omega
      rw [e, sg_add]
theorem Row.rep {l : List Nat} (R : Row l) {n : Nat} (hn : 0 < n) : Row (List.replicate n l).flatten := by
  have hlen := rep_length n l
  refine R.move (f := id) (by rw [hlen]; exact Nat.mul_pos hn R.ne) (fun k hk => rep_get R.ne n k (by rw [← hlen]; exact hk)) (fun i => sg_congr ?_) (fun i => .inl rfl)
  show (i % _) % _ = i % _
  rw [hlen]
  refine Int.emod_emod_of_dvd i ?_
  exact ⟨(n : Int), by rw [Int.natCast_mul, Int.mul_comm]⟩
/-- one sign becomes a point -/
theorem Row.dot {l : List Nat} (R : Row l) (p : Nat) : Row (l.set p 46) := by
  have hlen : (l.set p 46).length = l.length := List.length_set
  have key : ∀ i : Int, sg (l.set p 46) i = 46 ∨ sg (l.set p 46) i = sg l i := fun i => by
    unfold sg
    rw [hlen, List.getD_eq_getElem?_getD, List.getD_eq_getElem?_getD, List.getElem?_set]
    by_cases e : p = (i % (l.length : Int)).toNat
    · rw [if_pos e]
      by_cases h2 : p < l.length
      · rw [if_pos h2]
        exact .inl rfl
      · have := place_lt R.ne i
        omega
    · rw [if_neg e]
      exact .inr rfl
  refine ⟨by rw [hlen]; exact R.ne, fun c hc => ?_, fun i ⟨h1, h2⟩ => ?_⟩
  · rcases List.mem_or_eq_of_mem_set hc with h | h
    · exact R.sgn c h
    · exact .inr h
  · rcases key i with e | e
    · omega
    · rcases key (i + 1) with e2 | e2
      · omega
      · exact R.gap i ⟨by omega, by omega⟩
end Rg
namespace Rg
open PySem L2 TL
theorem take2_drop {l : List Nat} {a b i : Nat} : ((l.drop i).take 2 == [a, b]) = true ↔ l[i]? = some a ∧ l[i + 1]? = some b := by
  have e0 : l[i]? = (l.drop i)[0]? := by rw [List.getElem?_drop]; rfl
  have e1 : l[i + 1]? = (l.drop i)[1]? := by rw [List.getElem?_drop]
  rw [e0, e1, beq_iff_eq]
  cases l.drop i with
  | nil => simp
  | cons x r =>
    cases r with
    | nil => simp
    | cons y r => simp
theorem tl_dd : tl (Str.ofString "--") = [45, 45] := by decide +kernel
theorem dd_iff (y : Str) : (!(Builtin.Str.occurrences y (Str.ofString "--") 0 y.length 1).isEmpty) = true ↔ ∃ i, (tl y)[i]? = some 45 ∧ (tl y)[i + 1]? = some 45 := by
  rw [StrLaws.found_iff]
  have hl : (Str.ofString "--").length = 2 := by decide +kernel
  constructor
  · rintro ⟨i, _, h⟩
    rw [StrLaws.subAt_eq, hl, show (Str.ofString "--").cps.toList = [45, 45] from tl_dd] at h
    exact ⟨i, take2_drop.mp h⟩
  · rintro ⟨i, h⟩
    refine ⟨i, ?_, ?_⟩
    · have := (List.getElem?_eq_some_iff.mp h.2).1
      rw [hl, len_tl]
      omega
    · rw [StrLaws.subAt_eq, hl, show (Str.ofString "--").cps.toList = [45, 45] from tl_dd]
      exact take2_drop.mpr h
/-- what the program asks of a text is that it be a row -/
theorem row_asked {z : Str} {c : Nat} (h0 : 0 < (tl z).length) (hs : (tl z).count 45 + (tl z).count 46 = (tl z).length) (hc : (tl z)[0]? = some c) :
    (!(!(Builtin.Str.occurrences (z ++ (⟨#[c]⟩ : Str)) (Str.ofString "--") 0 (z ++ (⟨#[c]⟩ : Str)).length 1).isEmpty)) = true ↔ Row (tl z) := by
  have e : tl (z ++ (⟨#[c]⟩ : Str)) = tl z ++ (tl z).take 1 := by
    rw [tl_append]
    congr 1
    cases h : tl z with
    | nil => rw [h] at h0; simp at h0
    | cons x r =>
      rw [h] at hc
      have : x = c := by simpa using hc
      subst this
      rfl
  have d := dd_iff (z ++ (⟨#[c]⟩ : Str))
  rw [e] at d
  have g := gap_iff h0
  constructor
  · intro h
    refine ⟨h0, (signs_count _).2.mp hs, g.mpr fun i q => ?_⟩
    have := d.mpr ⟨i, q⟩
    rw [this] at h
    exact absurd h (by decide)
  · intro R
    cases q : (!(Builtin.Str.occurrences (z ++ (⟨#[c]⟩ : Str)) (Str.ofString "--") 0 (z ++ (⟨#[c]⟩ : Str)).length 1).isEmpty) with
    | false => rfl
    | true =>
      obtain ⟨i, hi⟩ := d.mp q
      exact absurd hi (g.mp R.gap i)
end Rg
namespace Rg
open PySem L2 TL
/-! ### a row that grows sign by sign -/
structure Part (n : Nat) (l : List Nat) : Prop where
  sgn : Signs l
  gap : ∀ i : Nat, ¬ (l[i]? = some 45 ∧ l[i + 1]? = some 45)
  fin : l.length = n → ¬ (l[n - 1]? = some 45 ∧ l[0]? = some 45)
theorem Part.nil {n : Nat} (h : 0 < n) : Part n [] := ⟨fun _ h => (nomatch h), fun i h => by simp at h, fun e => by simp at e; omega⟩
theorem Part.add {n : Nat} {l : List Nat} {c : Nat} (p : Part n l) (hc : c = 45 ∨ c = 46) (h1 : c = 45 → l.getLast? ≠ some 45) (h2 : c = 45 → l.length + 1 = n → n ≠ 1 ∧ l[0]? ≠ some 45) : Part n (l ++ [c]) := by
  refine ⟨fun x hx => ?_, fun i ⟨g1, g2⟩ => ?_, fun e ⟨g1, g2⟩ => ?_⟩
  · rcases List.mem_append.mp hx with h | h
    · exact p.sgn x h
    · rw [List.mem_singleton.mp h]
      exact hc
  · have hi := (List.getElem?_eq_some_iff.mp g2).1
    rw [List.length_append, List.length_singleton] at hi
    by_cases hl : i + 1 < l.length
    · rw [List.getElem?_append_left (by omega)] at g1
      rw [List.getElem?_append_left hl] at g2
      exact p.gap i ⟨g1, g2⟩
    · have e : i + 1 = l.length := by omega
      rw [List.getElem?_append_left (by omega)] at g1
      rw [e, List.getElem?_append_right (Nat.le_refl _), Nat.sub_self] at g2
      have ec : c = 45 := by simpa using g2
      refine h1 ec ?_
      rw [List.getLast?_eq_getElem?, show l.length - 1 = i by omega]
      exact g1
  · rw [List.length_append, List.length_singleton] at e
    rw [List.getElem?_append_right (by omega), show n - 1 - l.length = 0 by omega] at g1
    have ec : c = 45 := by simpa using g1
    obtain ⟨a1, a2⟩ := h2 ec e
    rw [List.getElem?_append_left (by omega)] at g2
    exact a2 g2
theorem Part.row {n : Nat} {l : List Nat} (p : Part n l) (e : l.length = n) (h : 0 < n) : Row l := by
  subst e
  refine ⟨h, p.sgn, (gap_iff h).mpr fun i ⟨g1, g2⟩ => ?_⟩
  have hi := (List.getElem?_eq_some_iff.mp g2).1
  rw [List.length_append, List.length_take] at hi
  rw [List.getElem?_append_left (by omega)] at g1
  by_cases hl : i + 1 < l.length
  · rw [List.getElem?_append_left hl] at g2
    exact p.gap i ⟨g1, g2⟩
  · have e : i + 1 = l.length := by omega
    rw [e, List.getElem?_append_right (Nat.le_refl _), Nat.sub_self, List.getElem?_take_of_lt (by omega)] at g2
    exact p.fin rfl ⟨by rw [show l.length - 1 = i by omega]; exact g1, g2⟩
theorem cut_last {z : Str} {c : Nat} (h : (tl z).getLast? = some c) : cutS z (some (-1)) none = ⟨#[c]⟩ := by
  refine ext_tl ?_
  show ((tl z).drop (HT.sIx z.length 0 (some (-1)))).take (HT.sIx z.length z.length none - HT.sIx z.length 0 (some (-1))) = [c]
  have e1 : HT.sIx z.length 0 (some (-1)) = z.length - 1 := by
    show (if (-1 : Int) < 0 then ((-1 : Int) + (z.length : Int)).toNat else min (-1 : Int).toNat z.length) = _
    rw [if_pos (by decide)]
    omega
  have e2 : HT.sIx z.length z.length none = z.length := rfl
  rw [e1, e2, len_tl]
  rw [List.getLast?_eq_getElem?] at h
  obtain ⟨hl, hg⟩ := List.getElem?_eq_some_iff.mp h
  rw [List.drop_eq_getElem_cons hl, hg, show (tl z).length - ((tl z).length - 1) = 1 by omega]
  rfl
/-- the rows of a rule, n signs each -/
structure Rows (n : Nat) (ls : List Str) : Prop where
  ne : 0 < ls.length
  len : ∀ z ∈ ls, (tl z).length = n
  row : ∀ z ∈ ls, Row (tl z)
theorem Rows.pos {n : Nat} {ls : List Str} (h : Rows n ls) : 0 < n := by
  have e := List.getElem_mem h.ne
  rw [← h.len _ e]
  exact (h.row _ e).ne
end Rg
namespace Rg
open PySem L2 TL
/-- a text k times -/
def repS (k : Nat) (z : Str) : Str := ⟨((List.replicate k (tl z)).flatten).toArray⟩
theorem tl_repS (k : Nat) (z : Str) : tl (repS k z) = (List.replicate k (tl z)).flatten := rfl
theorem Rows.mapRep {n k : Nat} {ls : List Str} (R : Rows n ls) (hk : 0 < k) : Rows (k * n) (ls.map (repS k)) := by
  refine ⟨by rw [List.length_map]; exact R.ne, fun z hz => ?_, fun z hz => ?_⟩
  all_goals obtain ⟨y, hy, rfl⟩ := List.mem_map.mp hz
  · rw [tl_repS, rep_length, R.len y hy]
  · rw [tl_repS]
    exact (R.row y hy).rep hk
theorem mem_rep {α : Type} {k : Nat} {l : List α} {x : α} (h : x ∈ (List.replicate k l).flatten) : x ∈ l := by
  rw [List.mem_flatten] at h
  obtain ⟨m, h1, h2⟩ := h
  rw [(List.mem_replicate.mp h1).2] at h2
  exact h2
theorem Rows.many {n k : Nat} {ls : List Str} (R : Rows n ls) (hk : 0 < k) : Rows n (List.replicate k ls).flatten :=
  ⟨by rw [show (List.replicate k ls).flatten.length = k * ls.length by simp]; exact Nat.mul_pos hk R.ne, fun z hz => R.len z (mem_rep hz), fun z hz => R.row z (mem_rep hz)⟩
theorem Rows.set {n : Nat} {ls : List Str} (R : Rows n ls) (p : Nat) {z : Str} (h : (tl z).length = n) (hr : Row (tl z)) : Rows n (ls.set p z) :=
  ⟨by rw [List.length_set]; exact R.ne, fun y hy => (List.mem_or_eq_of_mem_set hy).elim (R.len y) fun e => by rw [e]; exact h, fun y hy => (List.mem_or_eq_of_mem_set hy).elim (R.row y) fun e => by rw [e]; exact hr⟩
theorem rep_map {α β : Type} (f : α → β) (k : Nat) (l : List α) : (List.replicate k (l.map f)).flatten = (List.replicate k l).flatten.map f := by
  rw [List.map_flatten, List.map_replicate]
theorem rep_len' {α : Type} (k : Nat) (l : List α) : (List.replicate k l).flatten.length = k * l.length := by simp
theorem sIx_nat {n d p : Nat} : HT.sIx n d (some (p : Int)) = min p n := by
  show (if (p : Int) < 0 then ((p : Int) + (n : Int)).toNat else min (p : Int).toNat n) = _
  rw [if_neg (by omega)]
  rfl
/-- z[:p] + '.' + z[p + 1:] -/
theorem cut_dot {z s : Str} {p : Nat} (hs : tl s = [46]) (h : p < (tl z).length) : tl (cutS z none (some (p : Int)) ++ s ++ cutS z (some ((p : Int) + 1)) none) = (tl z).set p 46 := by
  rw [tl_append, tl_append, hs]
  have e1 : tl (cutS z none (some (p : Int))) = (tl z).take p := by
    show ((tl z).drop (HT.sIx z.length 0 none)).take (HT.sIx z.length z.length (some (p : Int)) - HT.sIx z.length 0 none) = _
    rw [sIx_nat]
    show ((tl z).drop 0).take (min p z.length - 0) = _
    rw [List.drop_zero, Nat.sub_zero, len_tl, Nat.min_eq_left (Nat.le_of_lt h)]
  have e2 : tl (cutS z (some ((p : Int) + 1)) none) = (tl z).drop (p + 1) := by
    show ((tl z).drop (HT.sIx z.length 0 (some ((p : Int) + 1)))).take (HT.sIx z.length z.length none - HT.sIx z.length 0 (some ((p : Int) + 1))) = _
    rw [show ((p : Int) + 1) = ((p + 1 : Nat) : Int) from rfl, sIx_nat]
    show ((tl z).drop (min (p + 1) z.length)).take (z.length - min (p + 1) z.length) = _
    rw [len_tl, Nat.min_eq_left (by omega), List.take_of_length_le (by rw [List.length_drop]; exact Nat.le_refl _)]
  rw [e1, e2, List.set_eq_take_append_cons_drop, if_pos h, List.append_assoc]
  rfl
theorem Rows.lenS {n : Nat} {ls : List Str} (R : Rows n ls) {z : Str} (h : z ∈ ls) : z.length = n := by rw [len_tl]; exact R.len z h
theorem take_snoc {α β : Type} {f : α → β} {ls : List α} {i : Nat} (h : i < ls.length) : (ls.take (i + 1)).map f = (ls.take i).map f ++ [f ls[i]] := by
  rw [List.take_add_one, List.getElem?_eq_getElem h, List.map_append]
  rfl
end Rg
/-! own words: == of own objects and of lists of texts -/
namespace Rg
open PySem L2 TL
theorem dp_strs {K : PySem.W.Frag} {H : Hp} : ∀ ls : List Str, DpAll K H (ls.map V.str) (ls.map PyData.str)
  | [] => .nil
  | z :: ls => .cons (.str z) (dp_strs ls)
theorem eqvAll_strs : ∀ ls ms : List Str, PyData.eqvAll (ls.map PyData.str) (ms.map PyData.str) = decide (ls = ms)
  | [], [] => rfl
  | [], _ :: _ => rfl
  | _ :: _, [] => rfl
  | x :: ls, y :: ms => by
    show (PyData.eqv (.str x) (.str y) && PyData.eqvAll (ls.map PyData.str) (ms.map PyData.str)) = _
    rw [eqvAll_strs ls ms]
    show ((x == y) && decide (ls = ms)) = _
    by_cases h1 : x = y
    · subst h1
      by_cases h2 : ls = ms
      · subst h2
        simp
      · rw [decide_eq_false h2, decide_eq_false fun e => h2 (List.cons.inj e).2]
        simp
    · rw [decide_eq_false fun e => h1 (List.cons.inj e).1, beq_eq_false_iff_ne.mpr h1]
      rfl
theorem eqv_tup (ls ms : List Str) : PyData.eqv (.tuple (ls.map PyData.str)) (.tuple (ms.map PyData.str)) = decide (ls = ms) := eqvAll_strs ls ms
theorem eqv_lst (ls ms : List Str) : PyData.eqv (.list (ls.map PyData.str)) (.list (ms.map PyData.str)) = decide (ls = ms) := eqvAll_strs ls ms
theorem depth_strs : ∀ ls : List Str, PyData.depthAll (ls.map PyData.str) ≤ 1
  | [] => Nat.zero_le _
  | z :: ls => by
    have ih := depth_strs ls
    simp only [List.map_cons, PyData.depthAll, PyData.depth]
    omega
theorem lay_strs : ∀ ls : List Str, (∀ z ∈ ls, Signs (tl z)) → PyData.canLayAll0 (ls.map PyData.str) = true
  | [], _ => rfl
  | z :: ls, h => by
    have ih := lay_strs ls fun y hy => h y (List.mem_cons_of_mem _ hy)
    show (PyData.strOk z && PyData.canLayAll0 (ls.map PyData.str)) = true
    rw [ih, Bool.and_true]
    show (z.cps.all fun x => decide (x < 0x110000)) = true
    rw [← Array.all_toList, List.all_eq_true]
    intro c hc
    rcases h z List.mem_cons_self c hc with e | e
    · rw [e]; rfl
    · rw [e]; rfl
theorem shaped_tup {ls : List Str} (h : ∀ z ∈ ls, Signs (tl z)) : SeqAt.shaped (.tuple (ls.map PyData.str)) = true := by
  have h1 := lay_strs ls h
  have h2 := depth_strs ls
  show (PyData.canLayAll0 (ls.map PyData.str) && decide (PyData.depth (.tuple (ls.map PyData.str)) ≤ 64)) = true
  rw [h1, Bool.true_and, decide_eq_true_eq]
  simp only [PyData.depth]
  omega
theorem shaped_lst {ls : List Str} (h : ∀ z ∈ ls, Signs (tl z)) : SeqAt.shaped (.list (ls.map PyData.str)) = true := by
  have h1 := lay_strs ls h
  have h2 := depth_strs ls
  show (PyData.canLayAll0 (ls.map PyData.str) && decide (PyData.depth (.list (ls.map PyData.str)) ≤ 64)) = true
  rw [h1, Bool.true_and, decide_eq_true_eq]
  simp only [PyData.depth]
  omega
theorem Rows.signs {n : Nat} {ls : List Str} (R : Rows n ls) : ∀ z ∈ ls, Signs (tl z) := fun z hz => (R.row z hz).sgn

/-! ### == of an object with its own __eq__ -/
def rEqOwn (K : PySem.W.Frag) (C : Addr) (sp : Sp) : R2 := fun x y H Q => ∃ a b dx dy fs gs, x = .ref a ∧ y = .ref b ∧ H a = some (.ins C dx fs) ∧ H b = some (.ins C dy gs) ∧ sp [.ref a, .ref b] H (fun v H' => ∃ k : Bool, v = .bl k ∧ Q (.bl k) H') E0
theorem op_eqOwn {X : Cx} {C : Addr} {n : Nat} {sp : Sp} (D : Me X.prog X.w X.K X.mg X.base C "__eq__" n ["self", "other"] sp) (hr : Room n X.A) : OpR X (compareOp .Eq) (rEqOwn X.K C sp) := by
  intro pins s σ H x y v u Q I rx ry h
  obtain ⟨a, b, dx, dy, fs, gs, rfl, rfl, ha, hb', q⟩ := h
  obtain ⟨f, fd, c, hm, F, hb⟩ := D.ex
  cases rx
  cases ry
  show wpAny (model X.prog X.w) X.A (richCompare .Eq (.ref a) (.ref b)) (EP X pins σ Q) X.xe s
  obtain ⟨mA, J, _⟩ := ins_get I.hok ha
  obtain ⟨mB, J', _⟩ := ins_get I.hok hb'
  obtain ⟨od, J, _⟩ := J.look
  obtain ⟨od', J', _⟩ := J'.look
  obtain ⟨m, hF⟩ := I.fr
  refine PySem.W.cmp_K (op := .Eq) (tb := .ref C) hr.units0 hF I.ok.mod.kin J J'.type (by simp [PySem.W.notFirst]) hm.at_ hm.fn ?_
  refine wpAny_call (codeAny_mono (F.run X.A X.stack s H ⟨[.ref a, .ref b], []⟩ [.ref a, .ref b] [.ref a, .ref b] _ E0 hr I.env0 (hb s [.ref a, .ref b] I.kIn rfl) (.cons rfl (.cons rfl .nil)) q) fun r s' hq => ?_)
  cases r with
  | error e => exact False.elim hq
  | ok fl =>
    cases fl with
    | ret w =>
      obtain ⟨z, H', I', rz, k, rfl, q'⟩ := I.after hq
      cases rz
      exact ⟨.bl k, H', I', rfl, q'⟩
    | next => exact False.elim hq
    | brk => exact False.elim hq
    | cont => exact False.elim hq
end Rg
/-! own mathematics: rows moved and mirrored -/
namespace Rg
open PySem L2 TL
/-- the list whose sign number i is the one with the number f i of l -/
def pick (l : List Nat) (f : Int → Int) : List Nat := (List.range l.length).map fun i : Nat => sg l (f (i : Int))
theorem pick_len (l : List Nat) (f : Int → Int) : (pick l f).length = l.length := by unfold pick; simp
theorem pick_get {l : List Nat} {f : Int → Int} {k : Nat} (h : k < l.length) : (pick l f)[k]? = some (sg l (f (k : Int))) := by
  unfold pick
  rw [List.getElem?_map, List.getElem?_range h]
  rfl
theorem pick_eq {l m : List Nat} {f : Int → Int} (hl : m.length = l.length) (h : ∀ k : Nat, k < l.length → m[k]? = some (sg l (f (k : Int)))) : m = pick l f := by
  refine List.ext_getElem? fun k => ?_
  by_cases hk : k < l.length
  · rw [h k hk, pick_get hk]
  · rw [List.getElem?_eq_none (by omega), List.getElem?_eq_none (by rw [pick_len]; omega)]
theorem pick_congr {l : List Nat} {f g : Int → Int} (h : ∀ k : Nat, k < l.length → sg l (f (k : Int)) = sg l (g (k : Int))) : pick l f = pick l g := by
  refine pick_eq (pick_len l f) fun k hk => ?_
  rw [pick_get hk, h k hk]
/-- what is asked of f: a step on is a step on or back, and it goes round with the length -/
structure Mv (n : Nat) (f : Int → Int) : Prop where
  step : ∀ i : Int, f (i + 1) = f i + 1 ∨ f (i + 1) = f i - 1
  round : ∀ i : Int, f (i % (n : Int)) % (n : Int) = f i % (n : Int)
theorem sg_pick {l : List Nat} (h0 : 0 < l.length) {f : Int → Int} (m : Mv l.length f) (i : Int) : sg (pick l f) i = sg l (f i) := by
  have hm : 0 < (pick l f).length := by rw [pick_len]; exact h0
  have h1 := sg_get hm i
  have hp := place_lt hm i
  rw [pick_len] at h1 hp
  rw [pick_get hp] at h1
  have e : (((i % (l.length : Int)).toNat : Nat) : Int) = i % (l.length : Int) := Int.toNat_of_nonneg (Int.emod_nonneg i (by omega))
  rw [e] at h1
  rw [← Option.some.inj h1]
  exact sg_congr (m.round i)
theorem Row.pick {l : List Nat} (R : Row l) {f : Int → Int} (m : Mv l.length f) : Row (pick l f) :=
  R.move (by rw [pick_len]; exact R.ne) f (fun k hk => pick_get (by rw [pick_len] at hk; exact hk)) (fun i => by rw [pick_len]; exact sg_congr (m.round i)) m.step
theorem mv_sub (n : Nat) (b : Int) : Mv n fun i => i - b :=
  ⟨fun i => .inl (by show i + 1 - b = i - b + 1; omega), fun i => by show (i % (n : Int) - b) % (n : Int) = (i - b) % (n : Int); rw [Int.sub_eq_add_neg, Int.emod_add_emod, Int.sub_eq_add_neg]⟩
theorem mv_mir (n : Nat) (b : Int) : Mv n fun i => b - i := by
  refine ⟨fun i => .inr (by show b - (i + 1) = b - i - 1; omega), fun i => ?_⟩
  show (b - i % (n : Int)) % (n : Int) = (b - i) % (n : Int)
  rw [Int.sub_emod, Int.emod_emod, ← Int.sub_emod]
theorem pick_pick {l : List Nat} (h0 : 0 < l.length) {f g : Int → Int} (m : Mv l.length f) : pick (pick l f) g = pick l fun i => f (g i) := by
  refine pick_eq (by rw [pick_len, pick_len]) fun k hk => ?_
  rw [pick_get (by rw [pick_len]; exact hk), sg_pick h0 m]
theorem pick_id {l : List Nat} {f : Int → Int} (h : ∀ i : Int, f i % (l.length : Int) = i % (l.length : Int)) : pick l f = l := by
  refine (pick_eq rfl fun k hk => ?_).symm
  rw [sg_nat hk, sg_congr (h k)]
/-- a row moved to the right -/
def rotS (b : Int) (z : Str) : Str := ⟨(pick (tl z) fun i => i - b).toArray⟩
/-- a row seen from the other side -/
def mirS (b : Int) (z : Str) : Str := ⟨(pick (tl z) fun i => b - i).toArray⟩
theorem tl_rotS (b : Int) (z : Str) : tl (rotS b z) = pick (tl z) fun i => i - b := rfl
theorem tl_mirS (b : Int) (z : Str) : tl (mirS b z) = pick (tl z) fun i => b - i := rfl
theorem Rows.map {n : Nat} {ls : List Str} (R : Rows n ls) {g : Str → Str} (hl : ∀ z, (tl (g z)).length = (tl z).length) (hr : ∀ z, Row (tl z) → Row (tl (g z))) : Rows n (ls.map g) := by
  refine ⟨by rw [List.length_map]; exact R.ne, fun z hz => ?_, fun z hz => ?_⟩
  all_goals obtain ⟨y, hy, rfl⟩ := List.mem_map.mp hz
  · rw [hl, R.len y hy]
  · exact hr y (R.row y hy)
theorem Rows.rot {n : Nat} {ls : List Str} (R : Rows n ls) (b : Int) : Rows n (ls.map (rotS b)) :=
  R.map (g := rotS b) (fun z => by rw [tl_rotS, pick_len]) fun z h => by rw [tl_rotS]; exact h.pick (mv_sub _ b)
theorem Rows.mir {n : Nat} {ls : List Str} (R : Rows n ls) (b : Int) : Rows n (ls.map (mirS b)) :=
  R.map (g := mirS b) (fun z => by rw [tl_mirS, pick_len]) fun z h => by rw [tl_mirS]; exact h.pick (mv_mir _ b)
theorem rot_rot {n : Nat} {ls : List Str} (R : Rows n ls) (a b : Int) : (ls.map (rotS a)).map (rotS b) = ls.map (rotS (a + b)) := by
  rw [List.map_map]
  refine List.map_congr_left fun z hz => ext_tl ?_
  show tl (rotS b (rotS a z)) = _
  rw [tl_rotS, tl_rotS, tl_rotS, pick_pick (R.row z hz).ne (mv_sub _ a)]
  refine pick_congr fun k _ => ?_
  show sg (tl z) ((k : Int) - b - a) = sg (tl z) ((k : Int) - (a + b))
  congr 1
  omega
theorem rot_width {n : Nat} {ls : List Str} (R : Rows n ls) : ls.map (rotS (n : Int)) = ls := by
  refine Eq.trans (List.map_congr_left fun z hz => ?_) (List.map_id ls)
  refine ext_tl ?_
  rw [tl_rotS]
  refine pick_id fun i => ?_
  rw [R.len z hz]
  exact Int.sub_emod_right i _
theorem mir_mir {n : Nat} {ls : List Str} (R : Rows n ls) (a b : Int) : (ls.map (mirS a)).map (mirS b) = ls.map (rotS (b - a)) := by
  rw [List.map_map]
  refine List.map_congr_left fun z hz => ext_tl ?_
  show tl (mirS b (mirS a z)) = _
  rw [tl_mirS, tl_mirS, tl_rotS, pick_pick (R.row z hz).ne (mv_mir _ a)]
  refine pick_congr fun k _ => ?_
  show sg (tl z) (a - (b - (k : Int))) = sg (tl z) ((k : Int) - (b - a))
  congr 1
  omega
/-- what the program does: the part from a cut on, and the part before it -/
theorem cut_rot {z : Str} {b : Int} {c : Nat} (h0 : 0 < (tl z).length) (hc : ((-b) % ((tl z).length : Int)) = (c : Int)) : cutS z (some (c : Int)) none ++ cutS z none (some (c : Int)) = rotS b z := by
  refine ext_tl ?_
  rw [tl_append, tl_rotS]
  have hlt : c < (tl z).length := by
    have := Int.emod_lt_of_pos (-b) (show (0 : Int) < (tl z).length by omega)
    omega
  have e1 : tl (cutS z none (some (c : Int))) = (tl z).take c := by
    show ((tl z).drop (HT.sIx z.length 0 none)).take (HT.sIx z.length z.length (some (c : Int)) - HT.sIx z.length 0 none) = _
    rw [sIx_nat]
    show ((tl z).drop 0).take (min c z.length - 0) = _
    rw [List.drop_zero, Nat.sub_zero, len_tl, Nat.min_eq_left (Nat.le_of_lt hlt)]
  have e2 : tl (cutS z (some (c : Int)) none) = (tl z).drop c := by
    show ((tl z).drop (HT.sIx z.length 0 (some (c : Int)))).take (HT.sIx z.length z.length none - HT.sIx z.length 0 (some (c : Int))) = _
    rw [sIx_nat]
    show ((tl z).drop (min c z.length)).take (z.length - min c z.length) = _
    rw [len_tl, Nat.min_eq_left (by omega), List.take_of_length_le (by rw [List.length_drop]; exact Nat.le_refl _)]
  rw [e1, e2]
  have hb : ∀ k : Int, sg (tl z) (k - b) = sg (tl z) (k + (c : Int)) := fun k => sg_congr (by
    rw [← hc, Int.add_emod_emod, Int.sub_eq_add_neg])
  refine pick_eq (by rw [List.length_append, List.length_drop, List.length_take]; omega) fun k hk => ?_
  rw [hb]
  by_cases h1 : k < (tl z).length - c
  · rw [List.getElem?_append_left (by rw [List.length_drop]; exact h1), List.getElem?_drop, sg_nat (by omega)]
    congr 2
    omega
  · rw [List.getElem?_append_right (by rw [List.length_drop]; omega), List.length_drop, List.getElem?_take_of_lt (by omega), sg_nat (by omega)]
    congr 1
    rw [← sg_add]
    congr 1
    omega
theorem atI_sg {l : List Nat} (h : 0 < l.length) (i : Int) : atI l (i % (l.length : Int)) = some (sg l i) := by
  have e : (((i % (l.length : Int)).toNat : Nat) : Int) = i % (l.length : Int) := Int.toNat_of_nonneg (Int.emod_nonneg i (by omega))
  rw [← e]
  exact atI_nat (sg_get h i)
theorem joinL_flat : ∀ parts : List (List Nat), joinL [] parts = parts.flatten
  | [] => rfl
  | [p] => by show p = [p].flatten; simp
  | p :: q :: r => by
    show p ++ ([] ++ joinL [] (q :: r)) = _
    rw [joinL_flat (q :: r)]
    simp
theorem join_singles (l : List Nat) : Txt.join (Str.ofString "") (l.map fun c => (⟨#[c]⟩ : Str)) = ⟨l.toArray⟩ := by
  refine ext_tl ?_
  rw [join_eq, tl_join, show tl (Str.ofString "") = [] by decide +kernel, joinL_flat, List.map_map]
  show (l.map fun c => [c]).flatten = l
  induction l with
  | nil => rfl
  | cons a l ih => rw [List.map_cons, List.flatten_cons, ih]; rfl
theorem sum_singles (l : List Nat) : ((l.map fun c => (⟨#[c]⟩ : Str)).map (·.length)).sum = l.length := by
  induction l with
  | nil => rfl
  | cons a l ih =>
    rw [List.map_cons, List.map_cons, List.sum_cons, ih, List.length_cons]
    show 1 + l.length = l.length + 1
    omega
/-- whether the sign with this number is a stroke -/
def rungB (z : Str) (q : Int) : Bool := decide (V.str (⟨#[sg (tl z) q]⟩ : Str) = V.str (Str.ofString "-"))
end Rg
/-! own words: rules one after the other, + of own objects, lcm -/
namespace Rg
open PySem L2 TL
/-- a row repeated to a length -/
def strS (L : Nat) (z : Str) : Str := repS (L / (tl z).length) z
theorem str_len {L : Nat} {z : Str} (h : (tl z).length ∣ L) : (tl (strS L z)).length = L := by
  unfold strS
  rw [tl_repS, rep_length]
  exact Nat.div_mul_cancel h
theorem str_row {L : Nat} {z : Str} (R : Row (tl z)) (h : (tl z).length ∣ L) (hL : 0 < L) : Row (tl (strS L z)) :=
  R.rep (Nat.div_pos (Nat.le_of_dvd hL h) R.ne)
theorem rep_rep (a b : Nat) (l : List Nat) : (List.replicate a (List.replicate b l).flatten).flatten = (List.replicate (a * b) l).flatten := by
  induction a with
  | zero => simp
  | succ a ih =>
    rw [List.replicate_succ, List.flatten_cons, ih, Nat.succ_mul, Nat.add_comm, ← List.replicate_append_replicate, List.flatten_append]
theorem str_str {L M : Nat} {z : Str} (h0 : 0 < (tl z).length) (h : (tl z).length ∣ L) (h2 : L ∣ M) (hL : 0 < L) : strS M (strS L z) = strS M z := by
  refine ext_tl ?_
  have e := str_len h
  unfold strS at e ⊢
  rw [tl_repS, e, tl_repS, tl_repS, rep_rep]
  congr 2
  obtain ⟨c, rfl⟩ := h
  obtain ⟨d, rfl⟩ := h2
  rw [Nat.mul_div_cancel_left _ hL, Nat.mul_div_cancel_left _ h0, Nat.mul_assoc, Nat.mul_div_cancel_left _ h0, Nat.mul_comm]
theorem str_self {z : Str} (h0 : 0 < (tl z).length) : strS (tl z).length z = z := by
  refine ext_tl ?_
  unfold strS
  rw [tl_repS, Nat.div_self h0]
  simp
/-- the rows of the one and then of the other, all of one length -/
def joinR (L : Nat) (ls ms : List Str) : List Str := (ls ++ ms).map (strS L)
theorem joinR_rows {n m : Nat} {ls ms : List Str} (R : Rows n ls) (S : Rows m ms) : Rows (Nat.lcm n m) (joinR (Nat.lcm n m) ls ms) := by
  have hL : 0 < Nat.lcm n m := Nat.lcm_pos R.pos S.pos
  have key : ∀ y ∈ ls ++ ms, Row (tl y) ∧ (tl y).length ∣ Nat.lcm n m := fun y hy => by
    rcases List.mem_append.mp hy with h | h
    · exact ⟨R.row y h, by rw [R.len y h]; exact Nat.dvd_lcm_left n m⟩
    · exact ⟨S.row y h, by rw [S.len y h]; exact Nat.dvd_lcm_right n m⟩
  refine ⟨by unfold joinR; rw [List.length_map, List.length_append]; have := R.ne; omega, fun z hz => ?_, fun z hz => ?_⟩
  all_goals
    unfold joinR at hz
    obtain ⟨y, hy, rfl⟩ := List.mem_map.mp hz
  · exact str_len (key y hy).2
  · exact str_row (key y hy).1 (key y hy).2 hL
theorem str_map {n L M : Nat} {ls : List Str} (R : Rows n ls) (h : n ∣ L) (h2 : L ∣ M) (hL : 0 < L) : (ls.map (strS L)).map (strS M) = ls.map (strS M) := by
  rw [List.map_map]
  refine List.map_congr_left fun z hz => ?_
  exact str_str (R.row z hz).ne (by rw [R.len z hz]; exact h) h2 hL
/-- both ways of adding three -/
theorem join_assoc {n m t : Nat} {ls ms ts : List Str} (R : Rows n ls) (S : Rows m ms) (T : Rows t ts) :
    joinR (Nat.lcm (Nat.lcm n m) t) (joinR (Nat.lcm n m) ls ms) ts = joinR (Nat.lcm n (Nat.lcm m t)) ls (joinR (Nat.lcm m t) ms ts) := by
  have e := Nat.lcm_assoc n m t
  unfold joinR
  have h1 : 0 < Nat.lcm n m := Nat.lcm_pos R.pos S.pos
  have h2 : 0 < Nat.lcm m t := Nat.lcm_pos S.pos T.pos
  simp only [List.map_append]
  rw [str_map R (Nat.dvd_lcm_left n m) (Nat.dvd_lcm_left _ t) h1, str_map S (Nat.dvd_lcm_right n m) (Nat.dvd_lcm_left _ t) h1]
  rw [str_map S (Nat.dvd_lcm_left m t) (Nat.dvd_lcm_right n _) h2, str_map T (Nat.dvd_lcm_right m t) (Nat.dvd_lcm_right n _) h2, e, List.append_assoc]

/-! ### lcm -/
def rLcm : List V → Hp → VK → Prop := fun vs H Q => ∃ a b : Nat, vs = [.int a, .int b] ∧ a < 2 ^ 64 ∧ b < 2 ^ 64 ∧ Q (.int ((Nat.lcm a b : Nat) : Int)) H
theorem cr_lcm {X : Cx} : CallR X (.builtin "math.lcm") rLcm := by
  intro pins s σ H vs us Q I r h
  obtain ⟨a, b, rfl, ha, hb, q⟩ := h
  obtain ⟨t, u, rfl⟩ := Vals.int2 r
  exact PySem.W.mc_lcm ha hb fun _ => ⟨.int _, H, I.tok _, ⟨_, rfl⟩, q⟩

/-! ### + of objects with their own __add__ -/
def rAddOwn (C : Addr) (sp : Sp) : R2 := fun x y H Q => ∃ a b dx dy fs gs, x = .ref a ∧ y = .ref b ∧ H a = some (.ins C dx fs) ∧ H b = some (.ins C dy gs) ∧ sp [.ref a, .ref b] H (fun v H' => (∃ c, v = .ref c) ∧ Q v H') E0
theorem op_addOwn {X : Cx} {C : Addr} {n : Nat} {sp : Sp} (D : Me X.prog X.w X.K X.mg X.base C "__add__" n ["self", "other"] sp) (hc : PySem.W.selfFirst X.K C = true) (hr : Room n X.A) : OpR X (binaryOp .Add) (rAddOwn C sp) := by
  intro pins s σ H x y v u Q I rx ry h
  obtain ⟨a, b, dx, dy, fs, gs, rfl, rfl, ha, hb', q⟩ := h
  obtain ⟨f, fd, c, hm, F, hb⟩ := D.ex
  cases rx
  cases ry
  obtain ⟨mA, J, _⟩ := ins_get I.hok ha
  obtain ⟨mB, J', _⟩ := ins_get I.hok hb'
  obtain ⟨od, J, _⟩ := J.look
  obtain ⟨od', J', _⟩ := J'.look
  obtain ⟨m, hF⟩ := I.fr
  refine PySem.W.binop_K (op := .Add) hF I.ok.mod.kin J J'.type hc hm.at_ hm.fn ?_
  refine wpAny_call (codeAny_mono (F.run X.A X.stack s H ⟨[.ref a, .ref b], []⟩ [.ref a, .ref b] [.ref a, .ref b] _ E0 hr I.env0 (hb s [.ref a, .ref b] I.kIn rfl) (.cons rfl (.cons rfl .nil)) q) fun r s' hq => ?_)
  cases r with
  | error e => exact False.elim hq
  | ok fl =>
    cases fl with
    | ret w =>
      obtain ⟨z, H', I', rz, ⟨c, rfl⟩, q'⟩ := I.after hq
      cases rz
      exact ⟨.ref c, H', I', rfl, q'⟩
    | next => exact False.elim hq
    | brk => exact False.elim hq
    | cont => exact False.elim hq

/-! ### the least multiple that is found by going on -/
theorem lcm_found {n m i : Nat} (hn : 0 < n) (hm : 0 < m) (h : m ∣ n * (i + 1)) (hj : ∀ j, 1 ≤ j → j ≤ i → ¬ m ∣ n * j) : n * (i + 1) = Nat.lcm n m := by
  obtain ⟨j, ej⟩ := Nat.dvd_lcm_left n m
  have h1 : Nat.lcm n m ∣ n * (i + 1) := Nat.lcm_dvd (Nat.dvd_mul_right n (i + 1)) h
  have hp : 0 < Nat.lcm n m := Nat.lcm_pos hn hm
  have hle := Nat.le_of_dvd (Nat.mul_pos hn (Nat.succ_pos i)) h1
  rw [ej] at hle hp
  have j1 : 1 ≤ j := Nat.pos_of_mul_pos_left hp |> fun z => by
    rcases Nat.eq_zero_or_pos j with q | q
    · rw [q, Nat.mul_zero] at hp; omega
    · exact q
  have j2 : j ≤ i + 1 := Nat.le_of_mul_le_mul_left hle hn
  by_cases e : j = i + 1
  · rw [ej, e]
  · exact absurd (by rw [← ej]; exact Nat.dvd_lcm_right n m) (hj j j1 (by omega))
theorem lcm_ends {n m : Nat} (hm : 0 < m) (hj : ∀ j, 1 ≤ j → j ≤ m → ¬ m ∣ n * j) : False := hj m hm (Nat.le_refl _) (Nat.dvd_mul_left m n)
theorem lcm60 {n m : Nat} (h1 : n ≤ 12) (h2 : m ≤ 5) : Nat.lcm n m ≤ 60 := Nat.le_trans (PySem.W.mc_lcm_le n m) (Nat.mul_le_mul h1 h2)
theorem join_len {L : Nat} {ls ms : List Str} : (joinR L ls ms).length = ls.length + ms.length := by unfold joinR; rw [List.length_map, List.length_append]
end Rg
/-! own words: methods called with keywords -/
namespace Rg
open PySem L2 TL
/-- o.m(e, .., k = v, ..) -/
def tMethN (C : Addr) (m : Str) (n l : Nat) (sp : Sp) (gV : List V → List V → List V) (E : XK) (ta : TE) (t tk : TA) : TE := fun σ H Q => ta σ H fun x H1 => ∃ a dx fs, x = .ref a ∧ H1 a = some (.ins C dx fs) ∧ fs.lookup m = none ∧
  t σ H1 fun vs H2 => tk σ H2 fun zs H3 => vs.length = n ∧ zs.length = l ∧ sp (gV (.ref a :: vs) zs) H3 Q E
/-- a method that may be called so: ks the keywords -/
structure MeK (P : Program) (w : World) (K : PySem.W.Frag) (mg : Str → Option Value) (base : Heap) (C : Addr) (x : Str) (k : Nat) (ps : List Str) (sp : Sp) (n : Nat) (ks : List Str) (gV : List V → List V → List V) : Prop where
  ex : ∃ f fd g, Cls K C ∧ Meth K C x f ∧ FnOk P w K mg base CX0 k f fd ps sp ∧ KBn K fd ps (n + 1) ks g gV
section
variable {X : Cx} {k n : Nat} {C : Addr} {m : Str} {ps ks : List Str} {sp : Sp} {gV : List V → List V → List V} {o e : Expr} {es : List Expr} {kws : List Keyword} {ta : TE} {t tk : TA} {pos apos : Pos}
theorem pe_methN {pl : Sem Bool} (he : PE X o ta) (D : MeK X.prog X.w X.K X.mg X.base C m k ps sp n ks gV) (hr : Room k X.A) (ha : PA X (e :: es) t) (hkw : PK X kws tk)
    (hall : (backToKw pos (keywordEach kws X.env)).all (·.1.isSome) = true := by rfl) (hks : (backToKw pos (keywordEach kws X.env)).filterMap (·.1) = ks := by rfl)
    (hst : starEach (e :: es) X.env = (false, eval e X.env) :: starEach es X.env := by rfl) (hpl : ((backTo pos (starEach (e :: es) X.env)).any (·.1) || (backToKw pos (keywordEach kws X.env)).any (·.1.isNone)) = false := by rfl)
    (ht : eval (.Call (.Attribute o m apos) (e :: es) kws pos) X.env = (do
      let ov ← eval o X.env
      standAt apos.atName
      let (f, first) ← holding [ov] (getMethod ov m pl)
      callWith pos f first (backTo pos (starEach (e :: es) X.env)) (backToKw pos (keywordEach kws X.env))) := by rfl) :
    PE X (.Call (.Attribute o m apos) (e :: es) kws pos) (tMethN C m n ks.length sp gV E0 ta t tk) := by
  obtain ⟨f, fd, g, c, hm, F, hb⟩ := D.ex
  refine ⟨fun pins s σ H Q I h => ?_⟩
  refine PySem.W.methodCall_KW (pl := pl) (thn (he.run pins s σ H _ I h) fun u s1 ⟨x, H1, I1, rx, a, dx, fs, ex, ea, l, q⟩ => ?_) ht
  subst ex
  obtain rfl : u = Value.ref a := rx
  refine getmeth_ok I1 ea c hm l ?_
  refine PySem.W.callWith_KW (first := [.ref a]) (h₀ := X.base) I.ok.mod.kin hm.kp hall (thn (ha.run pos pins s1 σ H1 _ I1 q) fun us s2 ⟨vs, H2, I2, r, q2⟩ => ?_) hpl hst
  refine thn (hkw.run pos pins s2 σ H2 _ I2 q2) fun ws s3 ⟨zs, H3, I3, rz, l1, l2, q3⟩ => ⟨I3.kIn, ?_⟩
  rw [hks]
  exact run_fnN (us := .ref a :: us) (vs := .ref a :: vs) F hr hb pass0 I3 (.cons rfl r) rz (congrArg Nat.succ l1) l2 q3
theorem pe_methN0 {pl : Sem Bool} (he : PE X o ta) (D : MeK X.prog X.w X.K X.mg X.base C m k ps sp 0 ks gV) (hr : Room k X.A) (hkw : PK X kws tk)
    (hall : (backToKw pos (keywordEach kws X.env)).all (·.1.isSome) = true := by rfl) (hks : (backToKw pos (keywordEach kws X.env)).filterMap (·.1) = ks := by rfl)
    (hpl : ((backTo pos (starEach [] X.env)).any (·.1) || (backToKw pos (keywordEach kws X.env)).any (·.1.isNone)) = false := by rfl)
    (ht : eval (.Call (.Attribute o m apos) [] kws pos) X.env = (do
      let ov ← eval o X.env
      standAt apos.atName
      let (f, first) ← holding [ov] (getMethod ov m pl)
      callWith pos f first (backTo pos (starEach [] X.env)) (backToKw pos (keywordEach kws X.env))) := by rfl) :
    PE X (.Call (.Attribute o m apos) [] kws pos) (tMethN C m 0 ks.length sp gV E0 ta tNil tk) := by
  obtain ⟨f, fd, g, c, hm, F, hb⟩ := D.ex
  refine ⟨fun pins s σ H Q I h => ?_⟩
  refine PySem.W.methodCall_KW (pl := pl) (thn (he.run pins s σ H _ I h) fun u s1 ⟨x, H1, I1, rx, a, dx, fs, ex, ea, l, q⟩ => ?_) ht
  subst ex
  obtain rfl : u = Value.ref a := rx
  refine getmeth_ok I1 ea c hm l ?_
  refine PySem.W.callWith_KW0 (first := [.ref a]) (h₀ := X.base) I.ok.mod.kin hm.kp hall ?_ hpl
  refine thn (hkw.run pos pins s1 σ H1 _ I1 q) fun ws s3 ⟨zs, H3, I3, rz, l1, l2, q3⟩ => ⟨I3.kIn, ?_⟩
  rw [hks]
  exact run_fnN (us := [.ref a]) (vs := [.ref a]) F hr hb pass0 I3 (.cons rfl .nil) rz rfl l2 q3
end
/-- keywords in the parameters' order, and the other way about -/
theorem kb_app {K : PySem.W.Frag} {fd : FuncData} {ps ks : List Str} {n : Nat} (h : ∀ us ws : List Value, us.length = n → ws.length = ks.length → bindArgs fd ⟨us, ks.zip ws⟩ = pure (ps.zip (us ++ ws))) : KBn K fd ps n ks (fun us ws => us ++ ws) (fun vs zs => vs ++ zs) :=
  ⟨fun _ us ws _ l1 l2 => .of_eq (h us ws l1 l2), fun r rz => r.append rz⟩
theorem vals_rev : ∀ {xs : List V} {us : List Value}, Vals xs us → Vals xs.reverse us.reverse
  | _, _, .nil => .nil
  | _, _, .cons r t => by
    rw [List.reverse_cons, List.reverse_cons]
    exact (vals_rev t).append (.cons r .nil)
theorem kb_rev {K : PySem.W.Frag} {fd : FuncData} {ps ks : List Str} {n : Nat} (h : ∀ us ws : List Value, us.length = n → ws.length = ks.length → bindArgs fd ⟨us, ks.zip ws⟩ = pure (ps.zip (us ++ ws.reverse))) : KBn K fd ps n ks (fun us ws => us ++ ws.reverse) (fun vs zs => vs ++ zs.reverse) :=
  ⟨fun _ us ws _ l1 l2 => .of_eq (h us ws l1 l2), fun r rz => r.append (vals_rev rz)⟩
/-- a class that may be called with keywords -/
structure MkrK (P : Program) (w : World) (K : PySem.W.Frag) (mg : Str → Option Value) (base : Heap) (x : Str) (C : Addr) (k : Nat) (ps : List Str) (sp : Sp) (ks : List Str) (gV : List V → List V → List V) : Prop where
  ex : ∃ f fd g, mg x = some (.ref C) ∧ Mk K C f ∧ FnOk P w K mg base CX0 k f fd ps sp ∧ KBn K fd ps 1 ks g gV
theorem pe_mkN0 {X : Cx} {x : Str} {k : Nat} {C : Addr} {ps ks : List Str} {sp : Sp} {gV : List V → List V → List V} {kws : List Keyword} {tk : TA} {p pos : Pos} (M : MkrK X.prog X.w X.K X.mg X.base x C k ps sp ks gV) (hr : Room (k + 1) X.A) (hg : Gl X x) (hkw : PK X kws tk)
    (hall : (backToKw pos (keywordEach kws X.env)).all (·.1.isSome) = true := by rfl) (hks : (backToKw pos (keywordEach kws X.env)).filterMap (·.1) = ks := by rfl) (hdb : (x == ("__debug__" : Str)) = false := by decide)
    (hpl : ((backTo pos (starEach [] X.env)).any (·.1) || (backToKw pos (keywordEach kws X.env)).any (·.1.isNone)) = false := by rfl) :
    PE X (.Call (.Name x p) [] kws pos) (tMakeK C 0 ks.length sp gV E0 tNil tk) := by
  obtain ⟨f, fd, g, hm, M, F, hb⟩ := M.ex
  exact pe_makeK0 M F hr hg hm hb pass0 hkw hall hks hdb hpl
/-- a def that may be called with keywords alone -/
structure DfK (P : Program) (w : World) (K : PySem.W.Frag) (mg : Str → Option Value) (base : Heap) (x : Str) (k : Nat) (ps : List Str) (sp : Sp) (ks : List Str) (gV : List V → List V → List V) : Prop where
  ex : ∃ f fd g, mg x = some (.ref f) ∧ FnOk P w K mg base CX0 k f fd ps sp ∧ PySem.W.keepIn K (.ref f) = true ∧ KBn K fd ps 0 ks g gV
theorem pe_dfN0 {X : Cx} {x : Str} {k : Nat} {ps ks : List Str} {sp : Sp} {gV : List V → List V → List V} {kws : List Keyword} {tk : TA} {p pos : Pos} (D : DfK X.prog X.w X.K X.mg X.base x k ps sp ks gV) (hr : Room k X.A) (hg : Gl X x) (hkw : PK X kws tk)
    (hall : (backToKw pos (keywordEach kws X.env)).all (·.1.isSome) = true := by rfl) (hks : (backToKw pos (keywordEach kws X.env)).filterMap (·.1) = ks := by rfl) (hdb : (x == ("__debug__" : Str)) = false := by decide)
    (hpl : ((backTo pos (starEach [] X.env)).any (·.1) || (backToKw pos (keywordEach kws X.env)).any (·.1.isNone)) = false := by rfl) :
    PE X (.Call (.Name x p) [] kws pos) (tCallN 0 ks.length sp gV E0 tNil tk) := by
  obtain ⟨f, fd, g, hm, F, hk, hb⟩ := D.ex
  refine ⟨fun pins s σ H Q I h => ?_⟩
  refine wpAny_Call_Name_kw (ld_glob I hg hm ?_ hdb)
  refine PySem.W.callWith_KW0 (first := []) (h₀ := X.base) I.ok.mod.kin hk hall ?_ hpl
  refine thn (hkw.run pos pins s σ H _ I h) fun ws s2 ⟨zs, H2, I2, rz, l1, l2, q2⟩ => ⟨I2.kIn, ?_⟩
  rw [hks]
  exact run_fnN F hr hb pass0 I2 .nil rz l1 l2 q2
end Rg
/-! own words: the source that the laws draw from, a list that is changed at each draw -/
namespace Rg
open PySem L2 TL
/-- the heap without the source's two changing lists -/
def out (s g : Addr) (H : Hp) : Hp := fun b => if b = s ∨ b = g then none else H b
theorem out_same {s g : Addr} {H : Hp} : Same (out s g H) H := fun b u e => by
  unfold out at e
  split at e
  · cases e
  · exact e
theorem out_at {s g b : Addr} {H : Hp} (h1 : b ≠ s) (h2 : b ≠ g) : out s g H b = H b := if_neg fun h => h.elim h1 h2
theorem _root_.L2.Same.out {s g : Addr} {H H' : Hp} (e : Same H H') : Same (out s g H) (out s g H') := fun b u q => by
  unfold Rg.out at q ⊢
  split at q
  · cases q
  · rename_i n
    rw [if_neg n]
    exact e _ _ q
/-- the source, drawn from m times at most -/
structure Src (H : Hp) (s g sm : Addr) (m : Nat) : Prop where
  ex : ∃ (gs ss : List Int) (pl st : Int), H s = some (.lst [.ref g, .ref sm, .int pl, .int st]) ∧ H g = some (.lst (gs.map V.int)) ∧ H sm = some (.lst (ss.map V.int)) ∧ sm ≠ g ∧ gs.length ≤ 63 ∧ ss.length ≤ 63 ∧
    (∀ z ∈ ss, -(10 ^ 18) < z ∧ z < 10 ^ 18) ∧ 0 ≤ pl ∧ pl ≤ (m : Int) ∧ 0 ≤ st ∧ st < 2147483629
theorem Src.same {H H' : Hp} {s g r : Addr} {m : Nat} (S : Src H s g r m) (e : Same H H') : Src H' s g r m := by
  obtain ⟨gs, ss, pl, st, h1, h2, h3, r⟩ := S.ex
  exact ⟨gs, ss, pl, st, e _ _ h1, e _ _ h2, e _ _ h3, r⟩
theorem Src.mono {H : Hp} {s g r : Addr} {m n : Nat} (S : Src H s g r m) (h : m ≤ n) : Src H s g r n := by
  obtain ⟨gs, ss, pl, st, h1, h2, h3, h4, h5, h6, h7, h8, h9, r⟩ := S.ex
  exact ⟨gs, ss, pl, st, h1, h2, h3, h4, h5, h6, h7, h8, by omega, r⟩
theorem Src.new {H : Hp} {s g r q : Addr} {m : Nat} (S : Src H s g r m) (h : H q = none) : q ≠ s ∧ q ≠ g ∧ q ≠ r := by
  obtain ⟨gs, ss, pl, st, h1, h2, h3, _⟩ := S.ex
  exact ⟨fun e => (by rw [e, h1] at h; cases h), fun e => (by rw [e, h2] at h; cases h), fun e => (by rw [e, h3] at h; cases h)⟩
theorem Src.put {H H0 : Hp} {s g r q : Addr} {m n : Nat} {o : HO} (S : Src H s g r m) (S0 : Src H0 s g r n) (h : H0 q = none) : Src (upd H q o) s g r m := by
  obtain ⟨n1, n2, n3⟩ := S0.new h
  obtain ⟨gs, ss, pl, st, h1, h2, h3, x⟩ := S.ex
  exact ⟨gs, ss, pl, st, by rw [upd_ne n1.symm]; exact h1, by rw [upd_ne n2.symm]; exact h2, by rw [upd_ne n3.symm]; exact h3, x⟩
theorem Src.keep {H H' : Hp} {s g r q : Addr} {m : Nat} {u : HO} (S : Src H s g r m) (h : H q = none) (e : H' q = some u) : out s g H' q = some u := by
  obtain ⟨h1, h2, _⟩ := S.new h
  rw [out_at h1 h2]
  exact e
theorem Src.free {H H' : Hp} {s g r q : Addr} {m : Nat} (S' : Src H' s g r m) (e : Same (out s g H) (out s g H')) (h : H' q = none) : H q = none := by
  obtain ⟨h1, h2, _⟩ := S'.new h
  cases z : H q with
  | none => rfl
  | some u =>
    have := e q u (by rw [out_at h1 h2]; exact z)
    rw [out_at h1 h2, h] at this
    cases this
theorem seq0 {n : Nat} (h : 0 < n) : seqIndex? 0 n = some 0 := by
  unfold seqIndex?
  simp [h]
theorem out_put {s g b : Addr} {H : Hp} {o : HO} (h : b = s ∨ b = g) : Same (out s g H) (out s g (upd H b o)) := fun c u e => by
  unfold out at e ⊢
  split at e
  · cases e
  · rename_i n
    rw [if_neg n, upd_ne (fun z => n (by rw [z]; exact h))]
    exact e
/-- what is new may be changed -/
theorem out_set {s g D : Addr} {H H' : Hp} {o : HO} (e : Same (out s g H) (out s g H')) (z : H D = none) : Same (out s g H) (out s g (upd H' D o)) := fun b u q => by
  have h := e b u q
  unfold out at q h ⊢
  split at q
  · cases q
  · rename_i n
    rw [if_neg n] at h
    rw [if_neg n, upd_ne (ne_of_none q z)]
    exact h
theorem out_ne {s g b D : Addr} {H : Hp} {o : HO} (n : b ≠ D) : out s g (upd H D o) b = out s g H b := by
  unfold out
  rw [upd_ne n]
theorem mul_tl0 (z : Str) (n : Int) (h : 0 ≤ n) : Txt.mul z n = ⟨((List.replicate n.toNat (tl z)).flatten).toArray⟩ := by
  by_cases h1 : 1 ≤ n
  · exact mul_tl z n h1
  · have e : n = 0 := by omega
    subst e
    rfl
/-- a text many times, or no time -/
def rRepS0 : R2 := fun x y H Q => ∃ z n, x = .str z ∧ y = .int n ∧ 0 ≤ n ∧ n < 2 ^ 63 ∧ z.length * n.toNat ≤ sizeLine ∧ Q (.str ⟨((List.replicate n.toNat (tl z)).flatten).toArray⟩) H
theorem op_rep_str0 {X : Cx} : OpR X (binaryOp .Mult) rRepS0 := by
  intro pins s σ H x y v u Q I rx ry h
  obtain ⟨z, n, rfl, rfl, h1, h63, hz, q⟩ := h
  by_cases h2 : 1 ≤ n
  · exact op_rep_str pins s σ H _ _ v u Q I rx ry ⟨z, n, rfl, rfl, h2, h63, hz, q⟩
  obtain ⟨t, rfl⟩ := rx
  obtain ⟨t', rfl⟩ := ry
  refine SB.mul ⟨?_, fun h => absurd (show n < 1 by omega) h, fun h => absurd (show n < 1 by omega) h⟩ fun t2 k => ?_
  · rw [decide_eq_false (by omega), decide_eq_false (by omega)]
    rfl
  · rw [mul_tl0 z n h1]
    exact ⟨.str _, H, I.tok _, ⟨_, rfl⟩, q⟩
end Rg
/-! own words: walks down the rows -/
namespace Rg
open PySem L2 TL
/-- where a walker goes on one row -/
def cross (z : Str) (n q : Int) : Int := if decide (q + 1 < n) && rungB z q then q + 1 else if decide (0 < q) && rungB z (q - 1) then q - 1 else q
def rowAt (ls : List Str) (r : Nat) : Str := ls.getD (r % ls.length) Str.empty
/-- where it stands behind k rows -/
def wk (ls : List Str) (n a : Int) : Nat → Int
  | 0 => a
  | k + 1 => cross (rowAt ls k) n (wk ls n a k)
def way (ls : List Str) (n a : Int) (d : Nat) : List Int := (List.range d).map (wk ls n a)
theorem way_len (ls : List Str) (n a : Int) (d : Nat) : (way ls n a d).length = d := by unfold way; simp
theorem way_get {ls : List Str} {n a : Int} {d k : Nat} (h : k < d) : (way ls n a d)[k]? = some (wk ls n a k) := by
  unfold way
  rw [List.getElem?_map, List.getElem?_range h]
  rfl
theorem way_add (ls : List Str) (n a : Int) (d : Nat) : way ls n a (d + 1) = way ls n a d ++ [wk ls n a d] := by
  unfold way
  rw [List.range_succ, List.map_append]
  rfl
theorem rowAt_mem {ls : List Str} (h : 0 < ls.length) (r : Nat) : rowAt ls r ∈ ls := by
  unfold rowAt
  have hr := Nat.mod_lt r h
  rw [List.getD_eq_getElem?_getD, List.getElem?_eq_getElem hr]
  exact List.getElem_mem hr
theorem rowAt_get {ls : List Str} (h : 0 < ls.length) (r : Nat) : ls[((r : Int) % (ls.length : Int)).toNat]? = some (rowAt ls r) := by
  unfold rowAt
  have hr := Nat.mod_lt r h
  rw [show ((r : Int) % (ls.length : Int)).toNat = r % ls.length by omega, List.getD_eq_getElem?_getD, List.getElem?_eq_getElem hr]
  rfl
theorem cross_on {z : Str} {n q : Int} (h0 : 0 ≤ q) (h1 : q < n) : 0 ≤ cross z n q ∧ cross z n q < n := by
  unfold cross
  split
  · rename_i h
    rw [Bool.and_eq_true, decide_eq_true_eq] at h
    omega
  · split
    · rename_i h
      rw [Bool.and_eq_true, decide_eq_true_eq] at h
      omega
    · omega
theorem wk_on {ls : List Str} {n a : Int} (h0 : 0 ≤ a) (h1 : a < n) : ∀ k, 0 ≤ wk ls n a k ∧ wk ls n a k < n
  | 0 => ⟨h0, h1⟩
  | k + 1 => cross_on (wk_on h0 h1 k).1 (wk_on h0 h1 k).2
end Rg
/-! own words: == and != of lists of texts, of numbers -/
namespace Rg
open PySem L2 TL
theorem rd_neS {K : PySem.W.Frag} {H : Hp} {p q : Addr} {ls ms : List Str} {Q : VK} (hp : H p = some (.lst (ls.map V.str))) (hq : H q = some (.lst (ms.map V.str))) (h1 : ∀ z ∈ ls, Signs (tl z)) (h2 : ∀ z ∈ ms, Signs (tl z)) (k : Q (.bl (!decide (ls = ms))) H) : rNeD K (.ref p) (.ref q) H Q := by
  refine ⟨_, _, .lst (SqL.of hp) (dp_strs ls), .lst (SqL.of hq) (dp_strs ms), shaped_lst h1, shaped_lst h2, ?_⟩
  rw [eqv_lst]
  exact k
theorem rd_eqS {K : PySem.W.Frag} {H : Hp} {p q : Addr} {ls ms : List Str} {Q : VK} (hp : H p = some (.lst (ls.map V.str))) (hq : H q = some (.lst (ms.map V.str))) (h1 : ∀ z ∈ ls, Signs (tl z)) (h2 : ∀ z ∈ ms, Signs (tl z)) (k : Q (.bl (decide (ls = ms))) H) : rEqD K (.ref p) (.ref q) H Q := by
  refine ⟨_, _, .lst (SqL.of hp) (dp_strs ls), .lst (SqL.of hq) (dp_strs ms), shaped_lst h1, shaped_lst h2, ?_⟩
  rw [eqv_lst]
  exact k
end Rg
/-! own words: who meets whom; sets of numbers -/
namespace Rg
open PySem L2 TL
theorem rung_sg {z : Str} {q : Int} (h : rungB z q = true) : sg (tl z) q = 45 := by
  unfold rungB at h
  have e := of_decide_eq_true h
  injection e with e
  have e2 := congrArg tl e
  rw [show tl (Str.ofString "-") = [45] by decide +kernel] at e2
  injection e2
theorem cross_cross {z : Str} (R : Row (tl z)) {n q : Int} (h0 : 0 ≤ q) (h1 : q < n) : cross z n (cross z n q) = q := by
  have gap : ∀ i : Int, rungB z i = true → rungB z (i + 1) = true → False := fun i g1 g2 => R.gap i ⟨rung_sg g1, rung_sg g2⟩
  by_cases c1 : q + 1 < n ∧ rungB z q = true
  · have e : cross z n q = q + 1 := by
      unfold cross
      rw [if_pos (by rw [Bool.and_eq_true, decide_eq_true_eq]; exact c1)]
    rw [e]
    unfold cross
    rw [if_neg (by rw [Bool.and_eq_true]; exact fun h => gap q c1.2 h.2), if_pos (by rw [Bool.and_eq_true, decide_eq_true_eq, Int.add_sub_cancel]; exact ⟨by omega, c1.2⟩), Int.add_sub_cancel]
  · have n1 : ¬ (decide (q + 1 < n) && rungB z q) = true := by rw [Bool.and_eq_true, decide_eq_true_eq]; exact c1
    by_cases c2 : 0 < q ∧ rungB z (q - 1) = true
    · have e : cross z n q = q - 1 := by
        unfold cross
        rw [if_neg n1, if_pos (by rw [Bool.and_eq_true, decide_eq_true_eq]; exact c2)]
      rw [e]
      unfold cross
      rw [if_pos (by rw [Bool.and_eq_true, decide_eq_true_eq]; exact ⟨by omega, c2.2⟩), Int.sub_add_cancel]
    · have e : cross z n q = q := by
        unfold cross
        rw [if_neg n1, if_neg (by rw [Bool.and_eq_true, decide_eq_true_eq]; exact c2)]
      rw [e, e]
/-- who stands at a post behind k rows -/
def who (ls : List Str) (n : Int) : Nat → Int → Int
  | 0, a => a
  | k + 1, a => who ls n k (cross (rowAt ls k) n a)
section
variable {m : Nat} {ls : List Str} {n : Int}
theorem who_on (k : Nat) : ∀ {a : Int}, 0 ≤ a → a < n → 0 ≤ who ls n k a ∧ who ls n k a < n := by
  induction k with
  | zero => exact fun h0 h1 => ⟨h0, h1⟩
  | succ k ih => exact fun h0 h1 => ih (cross_on h0 h1).1 (cross_on h0 h1).2
theorem wk_who (W : Rows m ls) (k : Nat) : ∀ {a : Int}, 0 ≤ a → a < n → wk ls n (who ls n k a) k = a := by
  induction k with
  | zero => exact fun _ _ => rfl
  | succ k ih =>
    intro a h0 h1
    show cross (rowAt ls k) n (wk ls n (who ls n k (cross (rowAt ls k) n a)) k) = a
    rw [ih (cross_on h0 h1).1 (cross_on h0 h1).2]
    exact cross_cross (W.row _ (rowAt_mem W.ne k)) h0 h1
theorem who_wk (W : Rows m ls) (k : Nat) {a : Int} (h0 : 0 ≤ a) (h1 : a < n) : who ls n k (wk ls n a k) = a := by
  induction k with
  | zero => rfl
  | succ k ih =>
    show who ls n k (cross (rowAt ls k) n (cross (rowAt ls k) n (wk ls n a k))) = a
    rw [cross_cross (W.row _ (rowAt_mem W.ne k)) (wk_on h0 h1 k).1 (wk_on h0 h1 k).2]
    exact ih
theorem wk_inj (W : Rows m ls) (k : Nat) {a b : Int} (h0 : 0 ≤ a) (h1 : a < n) (h2 : 0 ≤ b) (h3 : b < n) (e : wk ls n a k = wk ls n b k) : a = b := by
  rw [← who_wk W k h0 h1, e, who_wk W k h2 h3]
end
/-- does the walker from s meet the one from j on a row before the d-th? -/
def met1 (ls : List Str) (n s j : Int) (k : Nat) : Bool := decide (V.int (wk ls n j k) = V.int (wk ls n s (k + 1))) && !decide (V.int (wk ls n s (k + 1)) = V.int (wk ls n s k))
def metB (ls : List Str) (n s : Int) (d : Nat) (j : Nat) : Bool := (List.range d).any fun k => met1 ls n s (j : Int) k
theorem metB_add (ls : List Str) (n s : Int) (d j : Nat) : metB ls n s (d + 1) j = (metB ls n s d j || met1 ls n s (j : Int) d) := by
  unfold metB
  rw [List.range_succ, List.any_append]
  simp
def parts (ls : List Str) (N : Nat) (s : Int) (d : Nat) : List Int := ((List.range N).filter (metB ls (N : Int) s d)).map fun j : Nat => (j : Int)
theorem parts_len (ls : List Str) (N : Nat) (s : Int) (d : Nat) : (parts ls N s d).length ≤ N := by
  unfold parts
  rw [List.length_map]
  exact Nat.le_trans (List.length_filter_le _ _) (by rw [List.length_range]; exact Nat.le_refl _)
/-- ascending lists with the same members -/
theorem pw_eq : ∀ {xs ys : List Int}, xs.Pairwise (· < ·) → ys.Pairwise (· < ·) → (∀ k, k ∈ xs ↔ k ∈ ys) → xs = ys
  | [], [], _, _, _ => rfl
  | [], y :: ys, _, _, h => absurd ((h y).mpr List.mem_cons_self) (by simp)
  | x :: xs, [], _, _, h => absurd ((h x).mp List.mem_cons_self) (by simp)
  | x :: xs, y :: ys, hx, hy, h => by
    obtain ⟨x1, x2⟩ := List.pairwise_cons.mp hx
    obtain ⟨y1, y2⟩ := List.pairwise_cons.mp hy
    have e : x = y := by
      rcases List.mem_cons.mp ((h x).mp List.mem_cons_self) with e | e
      · exact e
      · rcases List.mem_cons.mp ((h y).mpr List.mem_cons_self) with e2 | e2
        · exact e2.symm
        · have := y1 x e
          have := x1 y e2
          omega
    subst e
    rw [pw_eq x2 y2 fun k => ⟨fun hk => ?_, fun hk => ?_⟩]
    · rcases List.mem_cons.mp ((h k).mp (List.mem_cons_of_mem _ hk)) with e | e
      · have := x1 k hk
        omega
      · exact e
    · rcases List.mem_cons.mp ((h k).mpr (List.mem_cons_of_mem _ hk)) with e | e
      · have := y1 k hk
        omega
      · exact e
theorem pw_filter (p : Nat → Bool) (N : Nat) : (((List.range N).filter p).map fun j : Nat => (j : Int)).Pairwise (· < ·) := by
  rw [List.pairwise_map]
  exact ((List.pairwise_lt_range (n := N)).filter p).imp fun h => by omega
/-- how many below N -/
def cnt (N : Nat) (p : Nat → Bool) : Nat := ((List.range N).filter p).length
theorem cnt_le (N : Nat) (p : Nat → Bool) : cnt N p ≤ N := Nat.le_trans (List.length_filter_le _ _) (by rw [List.length_range]; exact Nat.le_refl _)
theorem cnt_congr {N : Nat} {p q : Nat → Bool} (h : ∀ j, j < N → p j = q j) : cnt N p = cnt N q := by
  unfold cnt
  rw [List.filter_congr fun j hj => h j (List.mem_range.mp hj)]
theorem cnt_succ (N : Nat) (p : Nat → Bool) : cnt (N + 1) p = cnt N p + (if p N = true then 1 else 0) := by
  unfold cnt
  rw [List.range_succ, List.filter_append, List.length_append]
  by_cases h : p N = true
  · simp [h]
  · simp [h]
theorem cnt_add {p : Nat → Bool} {k : Nat} : ∀ {N : Nat}, k < N → p k = false → cnt N (fun j => p j || decide (j = k)) = cnt N p + 1
  | 0, h, _ => absurd h (Nat.not_lt_zero _)
  | N + 1, h, hp => by
    rw [cnt_succ, cnt_succ]
    by_cases e : k = N
    · subst e
      rw [cnt_congr (p := fun j => p j || decide (j = k)) (q := p) fun j hj => by
        rw [decide_eq_false (by omega), Bool.or_false], hp]
      simp
    · rw [cnt_add (N := N) (by omega) hp, show (p N || decide (N = k)) = p N by rw [decide_eq_false (by omega), Bool.or_false]]
      omega
theorem cnt_same {p : Nat → Bool} {k N : Nat} (hp : p k = true) : cnt N (fun j => p j || decide (j = k)) = cnt N p :=
  cnt_congr fun j _ => by
    by_cases e : j = k
    · subst e
      rw [hp, Bool.true_or]
    · rw [decide_eq_false e, Bool.or_false]
end Rg
/-! own mathematics: meetings of two walkers -/
namespace Rg
open PySem L2 TL
/-- the left post of the rung that is crossed between two posts, none if there is none -/
def rgV (a b : Int) : V := if a = b then .non else .int (if b < a then b else a)
def rungs (ls : List Str) (n a : Int) (d : Nat) : List V := (List.range d).map fun k => rgV (wk ls n a k) (wk ls n a (k + 1))
theorem rungs_len (ls : List Str) (n a : Int) (d : Nat) : (rungs ls n a d).length = d := by unfold rungs; simp
theorem rungs_get {ls : List Str} {n a : Int} {d k : Nat} (h : k < d) : (rungs ls n a d)[k]? = some (rgV (wk ls n a k) (wk ls n a (k + 1))) := by
  unfold rungs
  rw [List.getElem?_map, List.getElem?_range h]
  rfl
/-- do the walkers meet on this row? -/
def mtB (ls : List Str) (n a b : Int) (k : Nat) : Bool := !decide (rgV (wk ls n a k) (wk ls n a (k + 1)) = V.non) && decide (rgV (wk ls n a k) (wk ls n a (k + 1)) = rgV (wk ls n b k) (wk ls n b (k + 1)))
def mtN (ls : List Str) (n a b : Int) (d : Nat) : Nat := ((List.range d).filter (mtB ls n a b)).length
theorem scal_rg (a b c d : Int) : scal (rgV a b) (rgV c d) = true := by
  unfold rgV
  by_cases h1 : a = b
  · by_cases h2 : c = d
    · rw [if_pos h1, if_pos h2]; rfl
    · rw [if_pos h1, if_neg h2]; rfl
  · by_cases h2 : c = d
    · rw [if_neg h1, if_pos h2]; rfl
    · rw [if_neg h1, if_neg h2]; rfl
theorem filt_t {p : Nat → Bool} {i : Nat} (h : p i = true) : (List.range (i + 1)).filter p = (List.range i).filter p ++ [i] := by
  rw [List.range_succ, List.filter_append]
  simp [h]
theorem filt_f {p : Nat → Bool} {i : Nat} (h : p i = false) : (List.range (i + 1)).filter p = (List.range i).filter p := by
  rw [List.range_succ, List.filter_append]
  simp [h]
theorem scal_rn (a b : Int) : scal (rgV a b) .non = true := by
  unfold rgV
  split <;> rfl
/-- the same, as the law counts -/
def meB1 (ls : List Str) (n a b : Int) (k : Nat) : Bool := decide (V.int (wk ls n a k) = V.int (wk ls n b k)) && !decide (V.int (wk ls n a (k + 1)) = V.int (wk ls n a k))
def meB2 (ls : List Str) (n a b : Int) (k : Nat) : Bool := !decide (V.int (wk ls n a k) = V.int (wk ls n b k)) && (decide (V.int (wk ls n a (k + 1)) = V.int (wk ls n b k)) && decide (V.int (wk ls n b (k + 1)) = V.int (wk ls n a k)))
theorem rgV_ne {a b : Int} (h : a ≠ b) : rgV a b = .int (if b < a then b else a) := by
  unfold rgV
  rw [if_neg h]
theorem cross_near (z : Str) (n q : Int) : cross z n q = q ∨ cross z n q = q + 1 ∨ cross z n q = q - 1 := by
  unfold cross
  split
  · exact .inr (.inl rfl)
  · split
    · exact .inr (.inr rfl)
    · exact .inl rfl
theorem me_mt (ls : List Str) (n a b : Int) (k : Nat) : mtB ls n a b k = (meB1 ls n a b k || meB2 ls n a b k) := by
  have h1 : wk ls n a (k + 1) = wk ls n a k ∨ wk ls n a (k + 1) = wk ls n a k + 1 ∨ wk ls n a (k + 1) = wk ls n a k - 1 := cross_near _ _ _
  have h2 : wk ls n b (k + 1) = wk ls n b k ∨ wk ls n b (k + 1) = wk ls n b k + 1 ∨ wk ls n b (k + 1) = wk ls n b k - 1 := cross_near _ _ _
  have h3 : wk ls n a k = wk ls n b k → wk ls n a (k + 1) = wk ls n b (k + 1) := fun e => by
    show cross _ _ (wk ls n a k) = cross _ _ (wk ls n b k)
    rw [e]
  unfold mtB meB1 meB2
  generalize wk ls n a k = p at *
  generalize wk ls n a (k + 1) = p' at *
  generalize wk ls n b k = q at *
  generalize wk ls n b (k + 1) = q' at *
  rw [Bool.eq_iff_iff]
  simp only [Bool.and_eq_true, Bool.or_eq_true, Bool.not_eq_true', decide_eq_true_eq, decide_eq_false_iff_not, V.int.injEq]
  constructor
  · rintro ⟨g1, g2⟩
    by_cases e1 : p = p'
    · unfold rgV at g1
      rw [if_pos e1] at g1
      exact absurd rfl g1
    · rw [rgV_ne e1] at g2
      by_cases e2 : q = q'
      · unfold rgV at g2
        rw [if_pos e2] at g2
        cases g2
      · rw [rgV_ne e2] at g2
        injection g2 with g2
        split at g2 <;> split at g2 <;> omega
  · rintro (⟨g1, g2⟩ | ⟨g1, g2, g3⟩)
    · have e := h3 g1
      subst g1
      subst e
      refine ⟨?_, rfl⟩
      rw [rgV_ne (Ne.symm g2)]
      intro h
      cases h
    · subst g2
      subst g3
      rw [rgV_ne g1, rgV_ne (Ne.symm g1)]
      refine ⟨fun h => (by cases h), ?_⟩
      congr 1
      split <;> split <;> omega
section
variable {m : Nat} {ls : List Str} {N a b : Nat}
theorem met1_mt (W : Rows m ls) (ha : a < N) (hb : b < N) (k : Nat) : met1 ls (N : Int) (a : Int) (b : Int) k = (!decide (b = a) && mtB ls (N : Int) (a : Int) (b : Int) k) := by
  obtain ⟨a0, a1⟩ := wk_on (ls := ls) (show (0 : Int) ≤ (a : Int) by omega) (show (a : Int) < (N : Int) by omega) k
  obtain ⟨b0, b1⟩ := wk_on (ls := ls) (show (0 : Int) ≤ (b : Int) by omega) (show (b : Int) < (N : Int) by omega) k
  have hinj : b ≠ a → wk ls (N : Int) (a : Int) k ≠ wk ls (N : Int) (b : Int) k := fun h e => h (by
    have := wk_inj W k (by omega) (by omega) (by omega) (by omega) e
    omega)
  have ea : wk ls (N : Int) (a : Int) (k + 1) = cross (rowAt ls k) (N : Int) (wk ls (N : Int) (a : Int) k) := rfl
  have eb : wk ls (N : Int) (b : Int) (k + 1) = cross (rowAt ls k) (N : Int) (wk ls (N : Int) (b : Int) k) := rfl
  have hcc := cross_cross (W.row _ (rowAt_mem W.ne k)) a0 a1
  rw [me_mt]
  unfold met1 meB1 meB2
  rw [Bool.eq_iff_iff]
  simp only [Bool.and_eq_true, Bool.or_eq_true, Bool.not_eq_true', decide_eq_true_eq, decide_eq_false_iff_not, V.int.injEq]
  by_cases e : b = a
  · subst e
    constructor
    · rintro ⟨g1, g2⟩
      exact absurd g1.symm g2
    · rintro ⟨g1, _⟩
      exact absurd rfl g1
  · have hne := hinj e
    constructor
    · rintro ⟨g1, g2⟩
      refine ⟨e, .inr ⟨hne, g1.symm, ?_⟩⟩
      rw [eb, g1, ea]
      exact hcc
    · rintro ⟨_, g | ⟨_, g2, g3⟩⟩
      · exact absurd g.1 hne
      · exact ⟨g2.symm, fun h => hne (by rw [← h, g2])⟩
theorem any_len (p : Nat → Bool) (d : Nat) : (List.range d).any p = decide (0 < ((List.range d).filter p).length) := by
  rw [Bool.eq_iff_iff, List.any_eq_true, decide_eq_true_eq, List.length_pos_iff_exists_mem]
  exact ⟨fun ⟨x, h1, h2⟩ => ⟨x, List.mem_filter.mpr ⟨h1, h2⟩⟩, fun ⟨x, h⟩ => ⟨x, (List.mem_filter.mp h).1, (List.mem_filter.mp h).2⟩⟩
theorem metB_mt (W : Rows m ls) (ha : a < N) (hb : b < N) (d : Nat) : metB ls (N : Int) (a : Int) d b = (!decide (b = a) && decide (0 < mtN ls (N : Int) (a : Int) (b : Int) d)) := by
  unfold metB mtN
  rw [← any_len]
  by_cases e : b = a
  · rw [decide_eq_true e, Bool.not_true, Bool.false_and, List.any_eq_false]
    intro k _
    rw [met1_mt W ha hb, decide_eq_true e, Bool.not_true, Bool.false_and]
    exact Bool.false_ne_true
  · rw [decide_eq_false e, Bool.not_false, Bool.true_and]
    congr 1
    funext k
    rw [met1_mt W ha hb, decide_eq_false e, Bool.not_false, Bool.true_and]
/-- the meetings of two unlike walkers -/
theorem mtB_ne (W : Rows m ls) (ha : a < N) (hb : b < N) (e : a ≠ b) (k : Nat) : mtB ls (N : Int) (a : Int) (b : Int) k = (decide (V.int (wk ls (N : Int) (a : Int) (k + 1)) = V.int (wk ls (N : Int) (b : Int) k)) && decide (V.int (wk ls (N : Int) (b : Int) (k + 1)) = V.int (wk ls (N : Int) (a : Int) k))) := by
  have hne : wk ls (N : Int) (a : Int) k ≠ wk ls (N : Int) (b : Int) k := fun h => e (by
    have := wk_inj W k (by omega) (by omega) (by omega) (by omega) h
    omega)
  have hv : ¬ V.int (wk ls (N : Int) (a : Int) k) = V.int (wk ls (N : Int) (b : Int) k) := fun h => hne (by injection h)
  rw [me_mt]
  unfold meB1 meB2
  rw [decide_eq_false hv, Bool.false_and, Bool.false_or, Bool.not_false, Bool.true_and]
theorem mtB_eq (ls : List Str) (n a : Int) (k : Nat) : mtB ls n a a k = !decide (V.int (wk ls n a k) = V.int (wk ls n a (k + 1))) := by
  rw [me_mt]
  unfold meB1 meB2
  rw [decide_eq_true (rfl : V.int (wk ls n a k) = V.int (wk ls n a k)), Bool.true_and, Bool.not_true, Bool.false_and, Bool.or_false]
  congr 1
  exact decide_eq_decide.mpr ⟨Eq.symm, Eq.symm⟩
theorem mtN_symm (W : Rows m ls) (ha : a < N) (hb : b < N) (d : Nat) : mtN ls (N : Int) (a : Int) (b : Int) d = mtN ls (N : Int) (b : Int) (a : Int) d := by
  by_cases e : a = b
  · rw [e]
  · unfold mtN
    congr 2
    funext k
    rw [mtB_ne W ha hb e, mtB_ne W hb ha (Ne.symm e), Bool.and_comm]
end
/-- the names' values, told anew -/
theorem norm_g {i : Nat} {v : V} {σ σ' : St} {H : Hp} {Q : St → Hp → Prop} (e : σ.set i (some v) = σ') (h : Q σ' H) : gName i v σ H Q := by
  subst e
  exact h
end Rg
/-! own words: the endless row: what a period of posts moves in all is nothing -/
namespace Rg
/-- the sum of h over the n posts from s -/
def sumZ (h : Int → Int) (s : Int) : Nat → Int
  | 0 => 0
  | n + 1 => sumZ h s n + h (s + n)
theorem sumZ_congr {h g : Int → Int} (e : ∀ i, h i = g i) (s : Int) : ∀ n, sumZ h s n = sumZ g s n
  | 0 => rfl
  | n + 1 => by rw [sumZ, sumZ, sumZ_congr e s n, e]
theorem sumZ_add (h g : Int → Int) (s : Int) : ∀ n, sumZ (fun i => h i + g i) s n = sumZ h s n + sumZ g s n
  | 0 => rfl
  | n + 1 => by
    rw [sumZ, sumZ, sumZ, sumZ_add h g s n]
    omega
theorem sumZ_zero (s : Int) : ∀ n, sumZ (fun _ => 0) s n = 0
  | 0 => rfl
  | n + 1 => by rw [sumZ, sumZ_zero s n]; rfl
theorem sumZ_neg (h : Int → Int) (s : Int) : ∀ n, sumZ (fun i => -h i) s n = -sumZ h s n
  | 0 => rfl
  | n + 1 => by
    rw [sumZ, sumZ, sumZ_neg h s n]
    omega
/-- one post further: the first goes, the one behind the last comes -/
theorem sumZ_next (h : Int → Int) (s : Int) : ∀ n, sumZ h (s + 1) n + h s = sumZ h s n + h (s + n)
  | 0 => by
    show (0 : Int) + h s = 0 + h (s + ((0 : Nat) : Int))
    rw [show s + ((0 : Nat) : Int) = s by omega]
  | n + 1 => by
    have ih := sumZ_next h s n
    rw [sumZ, sumZ, show s + 1 + (n : Int) = s + ((n + 1 : Nat) : Int) by omega]
    omega
/-- the same at each n-th post -/
def Per (n : Nat) (h : Int → Int) : Prop := ∀ i, h (i + n) = h i
def PerB (n : Nat) (r : Int → Bool) : Prop := ∀ i, r (i + n) = r i
/-- no two rungs side by side -/
def Lone (r : Int → Bool) : Prop := ∀ i, r i = true → r (i - 1) = false
theorem sumZ_per {n : Nat} {h : Int → Int} (p : Per n h) (s : Int) : sumZ h (s + 1) n = sumZ h s n := by
  have a := sumZ_next h s n
  have b := p s
  omega
theorem sumZ_back {n : Nat} {h : Int → Int} (p : Per n h) (s : Int) : sumZ (fun i => h (i - 1)) s n = sumZ h s n := by
  have e : ∀ (t : Int) (m : Nat), sumZ (fun i => h (i - 1)) (t + 1) m = sumZ h t m := by
    intro t m
    induction m with
    | zero => rfl
    | succ m ih =>
      rw [sumZ, sumZ, ih]
      show _ + h (t + 1 + (m : Int) - 1) = _
      rw [show t + 1 + (m : Int) - 1 = t + m by omega]
  have e1 := e (s - 1) n
  rw [show s - 1 + 1 = s by omega] at e1
  rw [e1]
  have e2 := sumZ_per p (s - 1)
  rw [show s - 1 + 1 = s by omega] at e2
  exact e2.symm
/-- where the walker stands behind a row -/
def cross1 (r : Int → Bool) (i : Int) : Int := if r i = true then i + 1 else if r (i - 1) = true then i - 1 else i
/-- .. behind all rows -/
def crossZ : List (Int → Bool) → Int → Int
  | [], i => i
  | r :: rs, i => crossZ rs (cross1 r i)
theorem cross1_per {n : Nat} {r : Int → Bool} (p : PerB n r) (i : Int) : cross1 r (i + n) = cross1 r i + n := by
  have a := p i
  have b := p (i - 1)
  rw [show i - 1 + (n : Int) = i + n - 1 by omega] at b
  unfold cross1
  rw [a, b]
  split
  · omega
  · split <;> omega
theorem crossZ_per {n : Nat} : ∀ {rs : List (Int → Bool)}, (∀ r ∈ rs, PerB n r) → ∀ i, crossZ rs (i + n) = crossZ rs i + n
  | [], _, _ => rfl
  | r :: rs, p, i => by
    show crossZ rs (cross1 r (i + n)) = crossZ rs (cross1 r i) + n
    rw [cross1_per (p r List.mem_cons_self), crossZ_per (fun q hq => p q (List.mem_cons_of_mem _ hq))]
/-- what a row does to a sum over a period: nothing -/
theorem sumZ_cross1 {n : Nat} {h : Int → Int} {r : Int → Bool} (p : Per n h) (q : PerB n r) (l : Lone r) (s : Int) : sumZ (fun i => h (cross1 r i)) s n = sumZ h s n := by
  have e : ∀ i, h (cross1 r i) = h i + ((if r i = true then h (i + 1) - h i else 0) + -((fun j => if r j = true then h (j + 1) - h j else 0) (i - 1))) := by
    intro i
    have hl := l i
    show _ = h i + ((if r i = true then h (i + 1) - h i else 0) + -(if r (i - 1) = true then h (i - 1 + 1) - h (i - 1) else 0))
    rw [show i - 1 + 1 = i by omega]
    unfold cross1
    cases a : r i with
    | true =>
      rw [hl a]
      simp
      omega
    | false =>
      cases b : r (i - 1) with
      | true =>
        simp
        omega
      | false => simp
  have pw : Per n (fun j => if r j = true then h (j + 1) - h j else 0) := fun i => by
    have a := q i
    have b := p i
    have c := p (i + 1)
    rw [show i + 1 + (n : Int) = i + n + 1 by omega] at c
    show (if r (i + n) = true then h (i + n + 1) - h (i + n) else 0) = if r i = true then h (i + 1) - h i else 0
    rw [a, b, c]
  rw [sumZ_congr e, sumZ_add, sumZ_add, sumZ_neg (fun i => (fun j => if r j = true then h (j + 1) - h j else 0) (i - 1)), sumZ_back pw]
  omega
theorem sumZ_moved1 {n : Nat} {r : Int → Bool} (q : PerB n r) (l : Lone r) (s : Int) : sumZ (fun i => cross1 r i - i) s n = 0 := by
  have e : ∀ i, cross1 r i - i = (if r i = true then 1 else 0) + -((fun j => if r j = true then (1 : Int) else 0) (i - 1)) := by
    intro i
    have hl := l i
    show _ = (if r i = true then 1 else 0) + -(if r (i - 1) = true then (1 : Int) else 0)
    unfold cross1
    cases a : r i with
    | true =>
      rw [hl a]
      simp
      omega
    | false =>
      cases b : r (i - 1) with
      | true =>
        simp
        omega
      | false => simp
  have pw : Per n (fun j => if r j = true then (1 : Int) else 0) := fun i => by
    show (if r (i + n) = true then (1 : Int) else 0) = if r i = true then 1 else 0
    rw [q i]
  rw [sumZ_congr e, sumZ_add, sumZ_neg (fun i => (fun j => if r j = true then (1 : Int) else 0) (i - 1)), sumZ_back pw]
  omega
/-- the posts of a period move by nothing in all -/
theorem sumZ_moved {n : Nat} : ∀ {rs : List (Int → Bool)}, (∀ r ∈ rs, PerB n r ∧ Lone r) → ∀ s, sumZ (fun i => crossZ rs i - i) s n = 0
  | [], _, s => by
    rw [sumZ_congr (g := fun _ => 0) (fun i => by show i - i = 0; omega)]
    exact sumZ_zero s n
  | r :: rs, p, s => by
    have pr := p r List.mem_cons_self
    have ps : ∀ q ∈ rs, PerB n q ∧ Lone q := fun q hq => p q (List.mem_cons_of_mem _ hq)
    have pd : Per n (fun j => crossZ rs j - j) := fun i => by
      show crossZ rs (i + n) - (i + n) = crossZ rs i - i
      rw [crossZ_per (fun q hq => (ps q hq).1)]
      omega
    rw [sumZ_congr (g := fun i => (fun j => crossZ rs j - j) (cross1 r i) + (cross1 r i - i)) (fun i => by
      show crossZ rs (cross1 r i) - i = crossZ rs (cross1 r i) - cross1 r i + (cross1 r i - i)
      omega), sumZ_add, sumZ_cross1 pd pr.1 pr.2, sumZ_moved ps, sumZ_moved1 pr.1 pr.2]
    rfl
open PySem L2 TL
/-- the row of a text, without end -/
theorem rungB_45 {z : Str} {q : Int} : rungB z q = true ↔ sg (tl z) q = 45 := by
  unfold rungB
  rw [decide_eq_true_eq]
  constructor
  · intro h
    have e := congrArg tl (V.str.inj h)
    exact (List.cons.inj e).1
  · intro h
    rw [h]
    rfl
theorem rungB_per {z : Str} {n : Nat} (h : (tl z).length = n) : PerB n (rungB z) := fun i => by
  show rungB z (i + (n : Int)) = rungB z i
  rw [← h]
  unfold rungB
  rw [sg_add]
theorem rungB_lone {z : Str} (h : Row (tl z)) : Lone (rungB z) := fun i e => by
  cases q : rungB z (i - 1) with
  | false => rfl
  | true =>
    have a := rungB_45.mp e
    have b := rungB_45.mp q
    exact absurd ⟨b, by rw [show i - 1 + 1 = i by omega]; exact a⟩ (h.gap (i - 1))
/-- the walker from post i behind all rows of a rule, on the endless row of posts -/
def goZ (ls : List Str) (i : Int) : Int := crossZ (ls.map rungB) i
theorem goZ_rows {n : Nat} {ls : List Str} (W : Rows n ls) : ∀ r ∈ ls.map rungB, PerB n r ∧ Lone r := fun r hr => by
  obtain ⟨z, hz, rfl⟩ := List.mem_map.mp hr
  exact ⟨rungB_per (W.len z hz), rungB_lone (W.row z hz)⟩
theorem goZ_per {n : Nat} {ls : List Str} (W : Rows n ls) (i : Int) : goZ ls (i + n) = goZ ls i + n := crossZ_per (fun r hr => (goZ_rows W r hr).1) i
theorem goZ_moved {n : Nat} {ls : List Str} (W : Rows n ls) (s : Int) : sumZ (fun i => goZ ls i - i) s n = 0 := sumZ_moved (goZ_rows W) s
/-- a row moves by one post at most, a rule by its height -/
theorem cross1_near (r : Int → Bool) (i : Int) : i - 1 ≤ cross1 r i ∧ cross1 r i ≤ i + 1 := by
  unfold cross1
  split
  · omega
  · split <;> omega
theorem crossZ_near : ∀ (rs : List (Int → Bool)) (i : Int), i - rs.length ≤ crossZ rs i ∧ crossZ rs i ≤ i + rs.length
  | [], i => by
    show i - ((0 : Nat) : Int) ≤ i ∧ i ≤ i + ((0 : Nat) : Int)
    omega
  | r :: rs, i => by
    have a := cross1_near r i
    have b := crossZ_near rs (cross1 r i)
    rw [List.length_cons]
    show i - ((rs.length + 1 : Nat) : Int) ≤ crossZ rs (cross1 r i) ∧ crossZ rs (cross1 r i) ≤ i + ((rs.length + 1 : Nat) : Int)
    omega
/-- a row crossed twice is not crossed -/
theorem cross1_twice {r : Int → Bool} (l : Lone r) (i : Int) : cross1 r (cross1 r i) = i := by
  have hl := l i
  have hm := l (i + 1)
  rw [show i + 1 - 1 = i by omega] at hm
  unfold cross1
  cases a : r i with
  | true =>
    have b : r (i + 1) = false := by
      cases c : r (i + 1) with
      | false => rfl
      | true => exact absurd ((hm c).symm.trans a) (by decide)
    simp only [if_true]
    rw [b, show i + 1 - 1 = i by omega, a]
    simp
  | false =>
    cases b : r (i - 1) with
    | true =>
      simp only [Bool.false_eq_true, if_false, if_true]
      rw [b]
      simp only [if_true]
      omega
    | false =>
      simp only [Bool.false_eq_true, if_false]
      rw [a, b]
      simp
theorem crossZ_append : ∀ (rs qs : List (Int → Bool)) (i : Int), crossZ (rs ++ qs) i = crossZ qs (crossZ rs i)
  | [], _, _ => rfl
  | r :: rs, qs, i => by
    show crossZ (rs ++ qs) (cross1 r i) = crossZ qs (crossZ rs (cross1 r i))
    rw [crossZ_append rs qs]
theorem goZ_append (ls ms : List Str) (i : Int) : goZ (ls ++ ms) i = goZ ms (goZ ls i) := by
  unfold goZ
  rw [List.map_append, crossZ_append]
/-- the rows turned round lead back -/
theorem crossZ_back : ∀ {rs : List (Int → Bool)}, (∀ r ∈ rs, Lone r) → ∀ i, crossZ rs.reverse (crossZ rs i) = i
  | [], _, _ => rfl
  | r :: rs, p, i => by
    rw [List.reverse_cons, crossZ_append]
    show cross1 r (crossZ rs.reverse (crossZ rs (cross1 r i))) = i
    rw [crossZ_back (fun q hq => p q (List.mem_cons_of_mem _ hq)), cross1_twice (p r List.mem_cons_self)]
theorem goZ_back {n : Nat} {ls : List Str} (W : Rows n ls) (i : Int) : goZ ls.reverse (goZ ls i) = i := by
  unfold goZ
  rw [List.map_reverse]
  exact crossZ_back (fun r hr => (goZ_rows W r hr).2) i
theorem goZ_inj {n : Nat} {ls : List Str} (W : Rows n ls) {i j : Int} (h : goZ ls i = goZ ls j) : i = j := by
  rw [← goZ_back W i, h, goZ_back W j]
end Rg
/-! own words: one round on the endless row, row by row -/
namespace Rg
open PySem L2 TL
theorem rungB_rest {z : Str} {n : Nat} (h : (tl z).length = n) (q : Int) : rungB z (q % (n : Int)) = rungB z q := by
  unfold rungB
  rw [sg_congr (l := tl z) (i := q % (n : Int)) (j := q) (by rw [h, Int.emod_emod])]
/-- behind a rounds's first k rows, on the endless row -/
def wkZ (ls : List Str) (a : Int) : Nat → Int
  | 0 => a
  | k + 1 => cross1 (rungB (rowAt ls k)) (wkZ ls a k)
theorem wkZ_near (ls : List Str) (a : Int) : ∀ k : Nat, a - k ≤ wkZ ls a k ∧ wkZ ls a k ≤ a + k
  | 0 => by
    show a - ((0 : Nat) : Int) ≤ a ∧ a ≤ a + ((0 : Nat) : Int)
    omega
  | k + 1 => by
    have ih := wkZ_near ls a k
    have c := cross1_near (rungB (rowAt ls k)) (wkZ ls a k)
    show a - ((k + 1 : Nat) : Int) ≤ cross1 (rungB (rowAt ls k)) (wkZ ls a k) ∧ cross1 (rungB (rowAt ls k)) (wkZ ls a k) ≤ a + ((k + 1 : Nat) : Int)
    omega
theorem crossZ_take (rs : List (Int → Bool)) (a : Int) (r : Int → Bool) : crossZ (rs ++ [r]) a = cross1 r (crossZ rs a) := by
  rw [crossZ_append]
  rfl
/-- one round on the endless row, row by row -/
theorem wkZ_take (ls : List Str) (a : Int) : ∀ k, k ≤ ls.length → wkZ ls a k = goZ (ls.take k) a
  | 0, _ => by rw [List.take_zero]; rfl
  | k + 1, h => by
    have e : rowAt ls k = ls[k] := by
      unfold rowAt
      rw [Nat.mod_eq_of_lt (by omega), List.getD_eq_getElem?_getD, List.getElem?_eq_getElem (by omega)]
      rfl
    rw [List.take_succ_eq_append_getElem (by omega), goZ_append]
    show cross1 (rungB (rowAt ls k)) (wkZ ls a k) = goZ [ls[k]] (goZ (ls.take k) a)
    rw [wkZ_take ls a k (by omega), e]
    rfl
theorem wkZ_round (ls : List Str) (a : Int) : wkZ ls a ls.length = goZ ls a := by
  rw [wkZ_take ls a _ (Nat.le_refl _), List.take_length]
end Rg
/-! own words: rounds on the endless row -/
namespace Rg
open PySem L2 TL
/-- a map of the posts that knows its posts only by their rest -/
def PerM (n : Nat) (g : Int → Int) : Prop := ∀ i, g (i + n) = g i + n
theorem PerM.nat {n : Nat} {g : Int → Int} (p : PerM n g) (i : Int) : ∀ m : Nat, g (i + n * m) = g i + n * m
  | 0 => by
    show g (i + (n : Int) * ((0 : Nat) : Int)) = g i + (n : Int) * ((0 : Nat) : Int)
    rw [show (n : Int) * ((0 : Nat) : Int) = 0 from Int.mul_zero _, Int.add_zero, Int.add_zero]
  | m + 1 => by
    have e : (n : Int) * ((m + 1 : Nat) : Int) = n * (m : Int) + n := by
      rw [Int.natCast_add, Int.mul_add]
      show (n : Int) * m + n * 1 = _
      rw [Int.mul_one]
    rw [e, ← Int.add_assoc, p, PerM.nat p i m]
    omega
theorem PerM.int {n : Nat} {g : Int → Int} (p : PerM n g) (i m : Int) : g (i + n * m) = g i + n * m := by
  rcases Int.le_total 0 m with h | h
  · have e : m = (m.toNat : Int) := (Int.toNat_of_nonneg h).symm
    rw [e]
    exact p.nat i m.toNat
  · have e : m = -((-m).toNat : Int) := by omega
    have q := p.nat (i + n * m) (-m).toNat
    have z : (n : Int) * ((-m).toNat : Int) = -(n * m) := by
      rw [Int.toNat_of_nonneg (by omega), Int.mul_neg]
    rw [z] at q
    rw [show i + (n : Int) * m + -(n * m) = i by omega] at q
    omega
/-- the same where only the rests agree -/
theorem PerM.rest {n : Nat} {g : Int → Int} (p : PerM n g) (i : Int) : g i = g (i % n) + (i - i % n) := by
  have e := p.int (i % n) (i / n)
  have d := Int.emod_add_mul_ediv i n
  rw [d] at e
  omega
theorem PerM.comp {n : Nat} {f g : Int → Int} (p : PerM n f) (q : PerM n g) : PerM n fun i => f (g i) := fun i => by
  show f (g (i + n)) = f (g i) + n
  rw [q, p]
/-- g, k times -/
def itG (g : Int → Int) : Nat → Int → Int
  | 0, i => i
  | k + 1, i => g (itG g k i)
theorem itG_add (g : Int → Int) (a i) : ∀ b, itG g (a + b) i = itG g b (itG g a i)
  | 0 => rfl
  | b + 1 => by
    show g (itG g (a + b) i) = g (itG g b (itG g a i))
    rw [itG_add g a i b]
theorem itG_per {n : Nat} {g : Int → Int} (p : PerM n g) : ∀ k, PerM n (itG g k)
  | 0 => fun _ => rfl
  | k + 1 => fun i => by
    show g (itG g k (i + n)) = g (itG g k i) + n
    rw [itG_per p k, p]
/-- after l rounds a post further by a multiple of the width: then in l rounds always so -/
theorem itG_lane {n : Nat} {g : Int → Int} (p : PerM n g) {l : Nat} {i m : Int} (h : itG g l i = i + n * m) : ∀ q : Nat, itG g (q * l) i = i + q * (n * m)
  | 0 => by
    rw [Nat.zero_mul]
    show i = i + ((0 : Nat) : Int) * _
    rw [show ((0 : Nat) : Int) * ((n : Int) * m) = 0 from Int.zero_mul _]
    omega
  | q + 1 => by
    have ih := itG_lane p h q
    have e : (q : Int) * ((n : Int) * m) = n * (q * m) := by
      rw [← Int.mul_assoc, Int.mul_comm (q : Int) n, Int.mul_assoc]
    rw [Nat.succ_mul, itG_add, ih, e, (itG_per p l).int i (q * m), h, Int.natCast_add]
    show i + (n : Int) * m + n * (q * m) = i + ((q : Int) + 1) * (n * m)
    rw [Int.add_mul, Int.one_mul, e]
    omega
/-- any number of rounds, by the lane of the post -/
theorem itG_rounds {n : Nat} {g : Int → Int} (p : PerM n g) {l : Nat} {i m : Int} (h : itG g l i = i + n * m) (t : Nat) : itG g t i = itG g (t % l) i + (t / l : Nat) * (n * m) := by
  have e : ((t / l : Nat) : Int) * ((n : Int) * m) = n * ((t / l : Nat) * m) := by
    rw [← Int.mul_assoc, Int.mul_comm ((t / l : Nat) : Int) n, Int.mul_assoc]
  have d : t = t / l * l + t % l := by
    have := Nat.div_add_mod t l
    rw [Nat.mul_comm] at this
    exact this.symm
  have z : itG g t i = itG g (t / l * l + t % l) i := by rw [← d]
  rw [z, itG_add, itG_lane p h, e, (itG_per p _).int]
theorem goZ_perM {n : Nat} {ls : List Str} (W : Rows n ls) : PerM n (goZ ls) := fun i => goZ_per W i
/-- posts whose rests behind the rows agree had rests that agree -/
theorem goZ_rest_inj {n : Nat} {ls : List Str} (W : Rows n ls) {i j : Int} (h : goZ ls i % n = goZ ls j % n) : i % n = j % n := by
  have a := Int.emod_add_mul_ediv (goZ ls i) n
  have b := Int.emod_add_mul_ediv (goZ ls j) n
  have q := (goZ_perM W).int j (goZ ls i / n - goZ ls j / n)
  have e : goZ ls (j + n * (goZ ls i / n - goZ ls j / n)) = goZ ls i := by
    rw [q, Int.mul_sub]
    omega
  have z := goZ_inj W e
  rw [← z, Int.add_mul_emod_self_left]
/-- more posts than rests: two share one -/
theorem pigeon : ∀ (n : Nat) (f : Nat → Nat), (∀ k, k ≤ n → f k < n) → ∃ i j, i < j ∧ j ≤ n ∧ f i = f j
  | 0, f, h => absurd (h 0 (Nat.le_refl 0)) (Nat.not_lt_zero _)
  | n + 1, f, h => by
    by_cases e : ∃ k, k ≤ n ∧ f k = f (n + 1)
    · obtain ⟨k, hk, q⟩ := e
      exact ⟨k, n + 1, by omega, Nat.le_refl _, q⟩
    · have ne : ∀ k, k ≤ n → f k ≠ f (n + 1) := fun k hk q => e ⟨k, hk, q⟩
      have hv := h (n + 1) (Nat.le_refl _)
      obtain ⟨i, j, hij, hj, q⟩ := pigeon n (fun k => if f (n + 1) < f k then f k - 1 else f k) fun k hk => by
        have a := ne k hk
        have b := h k (by omega)
        show (if f (n + 1) < f k then f k - 1 else f k) < n
        split <;> omega
      have q' : (if f (n + 1) < f i then f i - 1 else f i) = (if f (n + 1) < f j then f j - 1 else f j) := q
      have a := ne i (by omega)
      have b := ne j hj
      refine ⟨i, j, hij, by omega, ?_⟩
      split at q' <;> split at q' <;> omega
theorem itG_rest_inj {n : Nat} {ls : List Str} (W : Rows n ls) {i j : Int} : ∀ k, itG (goZ ls) k i % n = itG (goZ ls) k j % n → i % n = j % n
  | 0, h => h
  | k + 1, h => itG_rest_inj W k (goZ_rest_inj W h)
/-- every rest comes again within as many rounds as there are rests -/
theorem goZ_comes {n : Nat} {ls : List Str} (W : Rows n ls) (c : Int) : ∃ l : Nat, 0 < l ∧ l ≤ n ∧ itG (goZ ls) l c % n = c % n := by
  have h0 := W.pos
  obtain ⟨i, j, hij, hj, q⟩ := pigeon n (fun k => (itG (goZ ls) k c % n).toNat) fun k _ => by
    have a := Int.emod_nonneg (itG (goZ ls) k c) (show (n : Int) ≠ 0 by omega)
    have b := Int.emod_lt_of_pos (itG (goZ ls) k c) (show (0 : Int) < n by omega)
    show (itG (goZ ls) k c % n).toNat < n
    omega
  have q' : (itG (goZ ls) i c % n).toNat = (itG (goZ ls) j c % n).toNat := q
  have a := Int.emod_nonneg (itG (goZ ls) i c) (show (n : Int) ≠ 0 by omega)
  have b := Int.emod_nonneg (itG (goZ ls) j c) (show (n : Int) ≠ 0 by omega)
  have e : itG (goZ ls) i c % n = itG (goZ ls) j c % n := by omega
  refine ⟨j - i, by omega, by omega, ?_⟩
  have d : j = (j - i) + i := by omega
  rw [d, itG_add] at e
  exact (itG_rest_inj W i e).symm
/-- the least number of rounds behind which the rest comes again: the lane's length -/
theorem least_of {p : Nat → Prop} : ∀ l : Nat, 0 < l → p l → ∃ m : Nat, 0 < m ∧ m ≤ l ∧ p m ∧ ∀ k, 0 < k → k < m → ¬ p k := by
  intro l
  induction l using Nat.strongRecOn with
  | ind l ih =>
    intro h0 hp
    by_cases e : ∃ k, 0 < k ∧ k < l ∧ p k
    · obtain ⟨k, k0, kl, kp⟩ := e
      obtain ⟨m, m0, ml, mp, mm⟩ := ih k kl k0 kp
      exact ⟨m, m0, by omega, mp, mm⟩
    · exact ⟨l, h0, Nat.le_refl l, hp, fun k k0 kl kp => e ⟨k, k0, kl, kp⟩⟩
theorem goZ_lane {n : Nat} {ls : List Str} (W : Rows n ls) (c : Int) : ∃ l : Nat, 0 < l ∧ l ≤ n ∧ itG (goZ ls) l c % n = c % n ∧ ∀ k, 0 < k → k < l → itG (goZ ls) k c % n ≠ c % n := by
  obtain ⟨l, l0, ln, e⟩ := goZ_comes W c
  obtain ⟨m, m0, ml, mp, mm⟩ := least_of (p := fun k => itG (goZ ls) k c % n = c % n) l l0 e
  exact ⟨m, m0, by omega, mp, mm⟩
/-- within a lane's length no rest comes twice -/
theorem goZ_lane_ne {n : Nat} {ls : List Str} (W : Rows n ls) {c : Int} {l : Nat} (m : ∀ k, 0 < k → k < l → itG (goZ ls) k c % n ≠ c % n) {i j : Nat} (hij : i < j) (hj : j < l) : itG (goZ ls) i c % n ≠ itG (goZ ls) j c % n := fun e => by
  have d : j = (j - i) + i := by omega
  rw [d, itG_add] at e
  exact m (j - i) (by omega) (by omega) (itG_rest_inj W i e).symm
theorem itG_comm (g : Int → Int) (a b : Nat) (i : Int) : itG g a (itG g b i) = itG g b (itG g a i) := by
  rw [← itG_add, ← itG_add, Nat.add_comm]
/-- what a map does to a post follows from its rest -/
theorem itG_cong {n : Nat} {g : Int → Int} (p : PerM n g) (k : Nat) {i j : Int} (h : i % n = j % n) : itG g k i - i = itG g k j - j := by
  have a := (itG_per p k).rest i
  have b := (itG_per p k).rest j
  rw [h] at a
  omega
theorem itG_congR {n : Nat} {g : Int → Int} (p : PerM n g) (k : Nat) {i j : Int} (h : i % n = j % n) : itG g k i % n = itG g k j % n := by
  have a := Int.emod_add_mul_ediv i n
  have b := Int.emod_add_mul_ediv j n
  have e : i = j + n * (i / n - j / n) := by
    rw [Int.mul_sub]
    omega
  rw [e, (itG_per p k).int, Int.add_mul_emod_self_left]
/-- a lane: its first post, its length, its shift (in widths), and no rest twice -/
structure Lane (n : Nat) (ls : List Str) (c : Int) (l : Nat) (m : Int) : Prop where
  pos : 0 < l
  le : l ≤ n
  end_ : itG (goZ ls) l c = c + n * m
  ne : ∀ k, 0 < k → k < l → itG (goZ ls) k c % n ≠ c % n
theorem lane_of {n : Nat} {ls : List Str} (W : Rows n ls) (c : Int) : ∃ (l : Nat) (m : Int), Lane n ls c l m := by
  obtain ⟨l, l0, ln, e, mm⟩ := goZ_lane W c
  have a := Int.emod_add_mul_ediv (itG (goZ ls) l c) n
  have b := Int.emod_add_mul_ediv c n
  refine ⟨l, itG (goZ ls) l c / n - c / n, l0, ln, ?_, mm⟩
  rw [Int.mul_sub]
  omega
/-- each post of the lane, and each with a rest of the lane, has the lane's length and shift -/
theorem Lane.same {n : Nat} {ls : List Str} (W : Rows n ls) {c : Int} {l : Nat} {m : Int} (L : Lane n ls c l m) {i : Int} {k : Nat} (h : i % n = itG (goZ ls) k c % n) : Lane n ls i l m := by
  have p := goZ_perM W
  have e : itG (goZ ls) l (itG (goZ ls) k c) = itG (goZ ls) k c + n * m := by
    rw [itG_comm, L.end_, (itG_per p k).int]
  refine ⟨L.pos, L.le, ?_, fun q q0 ql z => ?_⟩
  · have d := itG_cong p l h
    omega
  · have d := itG_congR p q h
    rw [z, h, itG_comm] at d
    exact L.ne q q0 ql (itG_rest_inj W k d.symm)
theorem Lane.uniq {n : Nat} {ls : List Str} {c : Int} {l l' : Nat} {m m' : Int} (L : Lane n ls c l m) (L' : Lane n ls c l' m') : l = l' ∧ (n : Int) * m = n * m' := by
  have z : ∀ {l : Nat} {m : Int}, Lane n ls c l m → itG (goZ ls) l c % n = c % n := fun {l m} L => by rw [L.end_, Int.add_mul_emod_self_left]
  have e : l = l' := by
    rcases Nat.lt_trichotomy l l' with q | q | q
    · exact absurd (z L) (L'.ne l L.pos q)
    · exact q
    · exact absurd (z L') (L.ne l' L'.pos q)
  subst e
  have a := L.end_
  rw [L'.end_] at a
  exact ⟨rfl, by omega⟩
/-- whoever is met in the lane of c meets c in its own -/
theorem Lane.back {n : Nat} {ls : List Str} (W : Rows n ls) {c : Int} {l : Nat} {m : Int} (L : Lane n ls c l m) {i : Int} {k : Nat} (hk : k < l) (h : i % n = itG (goZ ls) k c % n) : ∃ q, q < l ∧ c % n = itG (goZ ls) q i % n := by
  have p := goZ_perM W
  cases k with
  | zero => exact ⟨0, L.pos, h.symm⟩
  | succ k =>
    refine ⟨l - (k + 1), by omega, ?_⟩
    rw [itG_congR p _ h, ← itG_add, show k + 1 + (l - (k + 1)) = l by omega, L.end_, Int.add_mul_emod_self_left]
end Rg
/-! own words: all lanes of a rule -/
namespace Rg
open PySem L2 TL
def laneLen (ls : List Str) (n : Nat) (c : Int) : Nat :=
  match (List.range n).find? (fun k => decide (itG (goZ ls) (k + 1) c % (n : Int) = c % n)) with
  | some k => k + 1
  | none => 0
def orb (ls : List Str) (n : Nat) (c : Int) : List Int := (List.range (laneLen ls n c)).map fun k => itG (goZ ls) k c % (n : Int)
def isFirst (ls : List Str) (n : Nat) (c : Int) : Bool := (orb ls n c).all fun z => decide (c ≤ z)
def firsts (ls : List Str) (n : Nat) : List Int := ((List.range n).map fun k : Nat => (k : Int)).filter (isFirst ls n)
section
variable {n : Nat} {ls : List Str}
theorem Lane.len {c : Int} {l : Nat} {m : Int} (L : Lane n ls c l m) : laneLen ls n c = l := by
  have h : (List.range n).find? (fun k => decide (itG (goZ ls) (k + 1) c % (n : Int) = c % n)) = some (l - 1) := by
    rw [List.find?_eq_some_iff_getElem]
    have p := L.pos
    have q := L.le
    refine ⟨?_, l - 1, by rw [List.length_range]; omega, by rw [List.getElem_range], fun j hj => ?_⟩
    · rw [decide_eq_true_eq, show l - 1 + 1 = l by omega, L.end_, Int.add_mul_emod_self_left]
    · rw [List.getElem_range, Bool.not_eq_true', decide_eq_false_iff_not]
      exact L.ne (j + 1) (by omega) (by omega)
  unfold laneLen
  rw [h]
  have p := L.pos
  show l - 1 + 1 = l
  omega
theorem lane_len (W : Rows n ls) (c : Int) : ∃ m, Lane n ls c (laneLen ls n c) m := by
  obtain ⟨l, m, L⟩ := lane_of W c
  exact ⟨m, L.len ▸ L⟩
theorem mem_orb {c z : Int} : z ∈ orb ls n c ↔ ∃ k, k < laneLen ls n c ∧ z = itG (goZ ls) k c % (n : Int) := by
  unfold orb
  rw [List.mem_map]
  constructor
  · rintro ⟨k, hk, e⟩
    exact ⟨k, List.mem_range.mp hk, e.symm⟩
  · rintro ⟨k, hk, e⟩
    exact ⟨k, List.mem_range.mpr hk, e.symm⟩
/-- any number of rounds leads into the lane -/
theorem orb_any (W : Rows n ls) (c : Int) (t : Nat) : itG (goZ ls) t c % (n : Int) ∈ orb ls n c := by
  obtain ⟨m, L⟩ := lane_len W c
  refine mem_orb.mpr ⟨t % laneLen ls n c, Nat.mod_lt _ L.pos, ?_⟩
  rw [itG_rounds (goZ_perM W) L.end_ t]
  have e : ((t / laneLen ls n c : Nat) : Int) * ((n : Int) * m) = n * ((t / laneLen ls n c : Nat) * m) := by
    rw [← Int.mul_assoc, Int.mul_comm ((t / laneLen ls n c : Nat) : Int) n, Int.mul_assoc]
  rw [e, Int.add_mul_emod_self_left]
theorem orb_range (W : Rows n ls) {c z : Int} (h : z ∈ orb ls n c) : 0 ≤ z ∧ z < n := by
  obtain ⟨k, _, rfl⟩ := mem_orb.mp h
  have := W.pos
  exact ⟨Int.emod_nonneg _ (by omega), Int.emod_lt_of_pos _ (by omega)⟩
theorem orb_self (W : Rows n ls) {c : Int} (h0 : 0 ≤ c) (h1 : c < n) : c ∈ orb ls n c := by
  have := orb_any W c 0
  rwa [show itG (goZ ls) 0 c = c from rfl, Int.emod_eq_of_lt h0 h1] at this
theorem orb_trans (W : Rows n ls) {c z y : Int} (h : z ∈ orb ls n c) (g : y ∈ orb ls n z) : y ∈ orb ls n c := by
  obtain ⟨j, _, rfl⟩ := mem_orb.mp h
  obtain ⟨k, _, rfl⟩ := mem_orb.mp g
  rw [itG_congR (goZ_perM W) k (Int.emod_emod _ _), ← itG_add]
  exact orb_any W c _
theorem orb_back (W : Rows n ls) {c z : Int} (h0 : 0 ≤ c) (h1 : c < n) (h : z ∈ orb ls n c) : c ∈ orb ls n z := by
  obtain ⟨m, L⟩ := lane_len W c
  obtain ⟨k, hk, e⟩ := mem_orb.mp h
  have z2 : z % (n : Int) = itG (goZ ls) k c % n := by rw [e, Int.emod_emod]
  obtain ⟨q, _, hq⟩ := L.back W hk z2
  rw [Int.emod_eq_of_lt h0 h1] at hq
  rw [hq]
  exact orb_any W z q
theorem orb_nodup (W : Rows n ls) (c : Int) : (orb ls n c).Nodup := by
  obtain ⟨m, L⟩ := lane_len W c
  unfold orb
  rw [List.Nodup, List.pairwise_map]
  refine List.Pairwise.imp_of_mem (R := fun a b => a < b) (fun {a b} ha hb hab => ?_) List.pairwise_lt_range
  exact goZ_lane_ne W L.ne hab (List.mem_range.mp hb)
theorem first_iff {c : Int} : isFirst ls n c = true ↔ ∀ z ∈ orb ls n c, c ≤ z := by
  unfold isFirst
  rw [List.all_eq_true]
  exact ⟨fun h z hz => of_decide_eq_true (h z hz), fun h z hz => decide_eq_true (h z hz)⟩
theorem mem_firsts {c : Int} : c ∈ firsts ls n ↔ 0 ≤ c ∧ c < n ∧ isFirst ls n c = true := by
  unfold firsts
  rw [List.mem_filter, List.mem_map]
  constructor
  · rintro ⟨⟨k, hk, rfl⟩, h⟩
    have := List.mem_range.mp hk
    exact ⟨by omega, by omega, h⟩
  · rintro ⟨h0, h1, h⟩
    exact ⟨⟨c.toNat, List.mem_range.mpr (by omega), by omega⟩, h⟩
/-- a list that is not empty has a least number -/
theorem least_mem : ∀ {l : List Int}, l ≠ [] → ∃ c ∈ l, ∀ z ∈ l, c ≤ z
  | [], h => absurd rfl h
  | [a], _ => ⟨a, List.mem_singleton.mpr rfl, fun z hz => by rw [List.mem_singleton.mp hz]; exact Int.le_refl _⟩
  | a :: b :: l, _ => by
    obtain ⟨c, hc, m⟩ := least_mem (l := b :: l) (by simp)
    rcases Int.le_total a c with h | h
    · exact ⟨a, List.mem_cons_self, fun z hz => by
        rcases List.mem_cons.mp hz with rfl | q
        · exact Int.le_refl _
        · exact Int.le_trans h (m z q)⟩
    · exact ⟨c, List.mem_cons_of_mem _ hc, fun z hz => by
        rcases List.mem_cons.mp hz with rfl | q
        · exact h
        · exact m z q⟩
/-- each rest lies in the lane of just one first rest -/
theorem first_of (W : Rows n ls) {z : Int} (h0 : 0 ≤ z) (h1 : z < n) : ∃ c ∈ firsts ls n, z ∈ orb ls n c := by
  have hs := orb_self W h0 h1
  obtain ⟨c, hc, m⟩ := least_mem (l := orb ls n z) (fun e => by rw [e] at hs; cases hs)
  obtain ⟨c0, c1⟩ := orb_range W hc
  exact ⟨c, mem_firsts.mpr ⟨c0, c1, first_iff.mpr fun y hy => m y (orb_trans W hc hy)⟩, orb_back W h0 h1 hc⟩
theorem first_one (W : Rows n ls) {c d z : Int} (hc : c ∈ firsts ls n) (hd : d ∈ firsts ls n) (h : z ∈ orb ls n c) (g : z ∈ orb ls n d) : c = d := by
  obtain ⟨c0, c1, fc⟩ := mem_firsts.mp hc
  obtain ⟨d0, d1, fd⟩ := mem_firsts.mp hd
  have a := first_iff.mp fc d (orb_trans W h (orb_back W d0 d1 g))
  have b := first_iff.mp fd c (orb_trans W g (orb_back W c0 c1 h))
  omega
theorem firsts_sorted : (firsts ls n).Pairwise (· < ·) := by
  unfold firsts
  refine List.Pairwise.filter _ ?_
  rw [List.pairwise_map]
  exact List.Pairwise.imp (fun {a b} h => by omega) List.pairwise_lt_range
/-- the lanes' rests are all rests, each once -/
theorem lanes_perm (W : Rows n ls) : ((firsts ls n).map (orb ls n)).flatten.Perm ((List.range n).map fun k : Nat => (k : Int)) := by
  rw [List.perm_ext_iff_of_nodup]
  · intro z
    rw [List.mem_flatten, List.mem_map]
    constructor
    · rintro ⟨l, hl, hz⟩
      obtain ⟨c, _, rfl⟩ := List.mem_map.mp hl
      obtain ⟨z0, z1⟩ := orb_range W hz
      exact ⟨z.toNat, List.mem_range.mpr (by omega), by omega⟩
    · rintro ⟨k, hk, rfl⟩
      have := List.mem_range.mp hk
      obtain ⟨c, hc, hz⟩ := first_of W (z := (k : Int)) (by omega) (by omega)
      exact ⟨_, List.mem_map.mpr ⟨c, hc, rfl⟩, hz⟩
  · rw [List.Nodup, List.pairwise_flatten]
    refine ⟨fun l hl => ?_, ?_⟩
    · obtain ⟨c, _, rfl⟩ := List.mem_map.mp hl
      exact orb_nodup W c
    · rw [List.pairwise_map]
      refine List.Pairwise.imp_of_mem (fun {c d} hc hd hcd x hx y hy e => ?_) firsts_sorted
      subst e
      have := first_one W hc hd hx hy
      omega
  · rw [List.Nodup, List.pairwise_map]
    exact List.Pairwise.imp (fun {a b} h => by omega) List.pairwise_lt_range
end
end Rg
/-! own words: shifts -/
namespace Rg
open PySem L2 TL
theorem sum_appI : ∀ (l m : List Int), (l ++ m).sum = l.sum + m.sum
  | [], m => by
    rw [List.nil_append, List.sum_nil]
    omega
  | a :: l, m => by
    rw [List.cons_append, List.sum_cons, List.sum_cons, sum_appI l m]
    omega
theorem perm_sumI {l m : List Int} (h : l.Perm m) : l.sum = m.sum := by
  induction h with
  | nil => rfl
  | cons a _ ih => rw [List.sum_cons, List.sum_cons, ih]
  | swap a b l =>
    rw [List.sum_cons, List.sum_cons, List.sum_cons, List.sum_cons]
    omega
  | trans _ _ ih1 ih2 => rw [ih1, ih2]
theorem sum_flatI (f : Int → Int) : ∀ L : List (List Int), (L.flatten.map f).sum = (L.map fun l => (l.map f).sum).sum
  | [] => rfl
  | l :: L => by
    rw [List.flatten_cons, List.map_append, sum_appI, List.map_cons, List.sum_cons, sum_flatI f L]
theorem sumZ_range (f : Int → Int) : ∀ n : Nat, sumZ f 0 n = (((List.range n).map fun k : Nat => (k : Int)).map f).sum
  | 0 => rfl
  | n + 1 => by
    rw [List.range_succ, List.map_append, List.map_append, sum_appI, ← sumZ_range f n]
    show sumZ f 0 n + f (0 + (n : Int)) = sumZ f 0 n + (f (n : Int) + 0)
    rw [Int.zero_add, Int.add_zero]
def moveZ (ls : List Str) (z : Int) : Int := goZ ls z - z
def shiftZ (ls : List Str) (n : Nat) (c : Int) : Int := itG (goZ ls) (laneLen ls n c) c - c
section
variable {n : Nat} {ls : List Str}
theorem moveZ_rest (W : Rows n ls) (i : Int) : moveZ ls (i % n) = moveZ ls i :=
  itG_cong (goZ_perM W) 1 (i := i % n) (j := i) (Int.emod_emod _ _)
theorem moved_sum (W : Rows n ls) (c : Int) : ∀ l : Nat, itG (goZ ls) l c - c = ((List.range l).map fun k => moveZ ls (itG (goZ ls) k c % n)).sum
  | 0 => by
    show c - c = 0
    omega
  | l + 1 => by
    rw [List.range_succ, List.map_append, sum_appI, ← moved_sum W c l]
    show goZ ls (itG (goZ ls) l c) - c = itG (goZ ls) l c - c + (moveZ ls (itG (goZ ls) l c % n) + 0)
    rw [moveZ_rest W]
    unfold moveZ
    omega
theorem shiftZ_sum (W : Rows n ls) (c : Int) : shiftZ ls n c = ((orb ls n c).map (moveZ ls)).sum := by
  unfold shiftZ orb
  rw [moved_sum W c, List.map_map]
  rfl
/-- the shifts of all lanes add up to nothing -/
theorem shifts_zero (W : Rows n ls) : ((firsts ls n).map (shiftZ ls n)).sum = 0 := by
  have e : (firsts ls n).map (shiftZ ls n) = ((firsts ls n).map (orb ls n)).map fun l => (l.map (moveZ ls)).sum := by
    rw [List.map_map]
    exact List.map_congr_left fun c _ => shiftZ_sum W c
  rw [e, ← sum_flatI, perm_sumI ((lanes_perm W).map (moveZ ls)), ← sumZ_range]
  exact goZ_moved W 0
/-- a shift is a multiple of the width -/
theorem shiftZ_mul (W : Rows n ls) (c : Int) : shiftZ ls n c % n = 0 := by
  obtain ⟨m, L⟩ := lane_len W c
  unfold shiftZ
  rw [L.end_, show c + (n : Int) * m - c = n * m by omega]
  exact Int.mul_emod_right _ _
/-- any number of rounds, by lengths and shifts -/
theorem after_lane (W : Rows n ls) (i : Int) (t : Nat) : itG (goZ ls) t i = itG (goZ ls) (t % laneLen ls n i) i + (t / laneLen ls n i : Nat) * shiftZ ls n i := by
  obtain ⟨m, L⟩ := lane_len W i
  have e : shiftZ ls n i = n * m := by
    unfold shiftZ
    rw [L.end_]
    omega
  rw [e]
  exact itG_rounds (goZ_perM W) L.end_ t
/-- length and shift are those of the lane, whichever of its posts one asks -/
theorem lane_rest (W : Rows n ls) {c i : Int} {k : Nat} (h : i % n = itG (goZ ls) k c % n) : laneLen ls n i = laneLen ls n c ∧ shiftZ ls n i = shiftZ ls n c := by
  obtain ⟨m, L⟩ := lane_len W c
  have M := L.same W h
  have e := M.len
  refine ⟨e, ?_⟩
  unfold shiftZ
  rw [e, M.end_, L.end_]
  omega
end
end Rg
/-! own words: while, membership of numbers -/
namespace Rg
open PySem L2 TL
theorem wq_ite {W : Nat → St → Hp → Prop} {m : Nat} {tb : TS} {D : Ends} {σ : St} {b : Bool} {H1 : Hp} (ht : b = true → tb { D with nx := fun σ' H' => ∃ m', m' < m ∧ W m' σ' H', ct := fun σ' H' => ∃ m', m' < m ∧ W m' σ' H', bk := D.nx } σ H1) (hf : b = false → D.nx σ H1) :
    if b = true then ∃ N : St → Hp → Prop, (∀ σ' H', N σ' H' → ∃ m', m' < m ∧ W m' σ' H') ∧ tb { D with nx := N, ct := N, bk := D.nx } σ H1 else D.nx σ H1 := by
  cases b with
  | true => exact ⟨_, fun _ _ h => h, ht rfl⟩
  | false => exact hf rfl
/-- the names' values told anew -/
theorem norm_w {i : Nat} {v : V} {σ σ' : St} {H : Hp} {Q : St → Hp → Prop} (e : σ.set i (some v) = σ') (h : Q σ' H) : gName i v σ H Q := by
  subst e
  exact h
/-- for over a range, where a break may lead to what follows, too -/
theorem for_rangeB {lo : Int} {n : Nat} {g : TG} {tb : TS} {D : Ends} {σ : St} {H : Hp} (W : St → Hp → Prop) (Pv : Nat → St → Hp → Prop) (hT : ∀ σ H, W σ H → D.nx σ H) (h0 : Pv 0 σ H)
    (hs : (∀ σ H, W σ H → D.nx σ H) → ∀ i σ H, i < n → Pv i σ H → g (.int (lo + i)) σ H fun σ2 H2 => tb { D with nx := Pv (i + 1), ct := Pv (i + 1), bk := D.nx } σ2 H2) (hd : ∀ σ H, Pv n σ H → W σ H) :
    ∃ W : Nat → Nat → St → Hp → Prop, (∃ m, W 0 m σ H) ∧ ∀ i m σ H, W i m σ H →
      ((Itr lo n).stop i H ∧ D.nx σ H) ∨ ((Itr lo n).go i H ∧ ∃ N : St → Hp → Prop, (∀ σ' H', N σ' H' → ∃ m', m' < m ∧ W (i + 1) m' σ' H') ∧ ∀ x H', (Itr lo n).yld i H x H' → g x σ H' fun σ2 H2 => tb { D with nx := N, ct := N, bk := D.nx } σ2 H2) :=
  for_range Pv h0 (hs hT) fun σ H p => hT σ H (hd σ H p)
theorem flat_ints (ns : List Int) : (ns.map V.int).all flatV = true := by
  rw [List.all_map, List.all_eq_true]
  intro x _
  rfl
theorem inV_int (c : Int) (ns : List Int) : inV (.int c) (ns.map V.int) = ns.contains c := by
  unfold inV
  rw [List.any_map, Bool.eq_iff_iff, List.any_eq_true, List.contains_iff_mem]
  constructor
  · rintro ⟨x, hx, h⟩
    have : (x == c) = true := h
    rw [← eq_of_beq this]
    exact hx
  · intro h
    exact ⟨c, h, show (c == c) = true from beq_self_eq_true c⟩
theorem inV_yes {c : Int} {ns : List Int} (h : c ∈ ns) : inV (.int c) (ns.map V.int) = true := by
  rw [inV_int, List.contains_iff_mem]
  exact h
theorem inV_no {c : Int} {ns : List Int} (h : c ∉ ns) : inV (.int c) (ns.map V.int) = false := by
  rw [inV_int, Bool.eq_false_iff]
  exact fun e => h (List.contains_iff_mem.mp e)
/-- the rest behind the last round of a lane was there before, no earlier one was -/
theorem orb_take_in {n : Nat} {ls : List Str} (W : Rows n ls) (q : Int) : itG (goZ ls) (laneLen ls n q) q % (n : Int) ∈ (orb ls n q).take (laneLen ls n q) := by
  have : (orb ls n q).length = laneLen ls n q := by unfold orb; simp
  rw [List.take_of_length_le (by omega)]
  exact orb_any W q _
theorem orb_len (ls : List Str) (n : Nat) (q : Int) : (orb ls n q).length = laneLen ls n q := by unfold orb; simp
theorem orb_get {ls : List Str} {n k : Nat} {q : Int} (h : k < laneLen ls n q) : (orb ls n q)[k]? = some (itG (goZ ls) k q % (n : Int)) := by
  unfold orb
  rw [List.getElem?_map, List.getElem?_range h]
  rfl
theorem orb_take_no {n : Nat} {ls : List Str} (W : Rows n ls) (q : Int) {k : Nat} (hk : k < laneLen ls n q) : itG (goZ ls) k q % (n : Int) ∉ (orb ls n q).take k := by
  intro h
  obtain ⟨j, hj, e⟩ := List.getElem_of_mem h
  rw [List.length_take, orb_len] at hj
  have hjk : j < k := by omega
  rw [List.getElem_take] at e
  have nd := orb_nodup W q
  have g1 : (orb ls n q)[j]? = some (itG (goZ ls) k q % (n : Int)) := by
    rw [List.getElem?_eq_getElem (by rw [orb_len]; omega), e]
  obtain ⟨m, L⟩ := lane_len W q
  rw [orb_get (by omega)] at g1
  exact goZ_lane_ne W L.ne hjk hk (Option.some.inj g1)
theorem orb_take_succ {n : Nat} {ls : List Str} {q : Int} {k : Nat} (hk : k < laneLen ls n q) : (orb ls n q).take (k + 1) = (orb ls n q).take k ++ [itG (goZ ls) k q % (n : Int)] := by
  rw [List.take_add_one, orb_get hk]
  rfl
theorem lane_pos {n : Nat} {ls : List Str} (W : Rows n ls) (q : Int) : 0 < laneLen ls n q ∧ laneLen ls n q ≤ n := by
  obtain ⟨m, L⟩ := lane_len W q
  exact ⟨L.pos, L.le⟩
/-- two lists, item by item -/
def Fa2 {α : Type} (R : V → α → Prop) (vs : List V) (L : List α) : Prop := vs.length = L.length ∧ ∀ (i : Nat) (v : V) (e : α), vs[i]? = some v → L[i]? = some e → R v e
section
variable {α : Type} {R R' : V → α → Prop} {vs : List V} {L : List α}
theorem Fa2.nil : Fa2 R [] [] := ⟨rfl, fun i v e h => by cases h⟩
theorem Fa2.snoc (F : Fa2 R vs L) {v : V} {e : α} (h : R v e) : Fa2 R (vs ++ [v]) (L ++ [e]) := by
  refine ⟨by rw [List.length_append, List.length_append, F.1]; rfl, fun i x y hx hy => ?_⟩
  by_cases hi : i < vs.length
  · rw [List.getElem?_append_left hi] at hx
    rw [List.getElem?_append_left (by rw [← F.1]; exact hi)] at hy
    exact F.2 i x y hx hy
  · rw [List.getElem?_append_right (by omega)] at hx
    have e0 := F.1
    rw [List.getElem?_append_right (by omega)] at hy
    have hl := (List.getElem?_eq_some_iff.mp hx).1
    rw [List.length_singleton] at hl
    have h0 : i - vs.length = 0 := by omega
    have h1 : i - L.length = 0 := by omega
    rw [h0] at hx
    rw [h1] at hy
    cases hx
    cases hy
    exact h
theorem Fa2.imp (F : Fa2 R vs L) (h : ∀ v e, R v e → R' v e) : Fa2 R' vs L := ⟨F.1, fun i v e a b => h v e (F.2 i v e a b)⟩
theorem Fa2.at (F : Fa2 R vs L) {i : Nat} {e : α} (h : L[i]? = some e) : ∃ v, vs[i]? = some v ∧ R v e := by
  have hi := (List.getElem?_eq_some_iff.mp h).1
  have hv : vs[i]? = some (vs[i]'(by rw [F.1]; exact hi)) := List.getElem?_eq_getElem _
  exact ⟨_, hv, F.2 i _ e hv h⟩
theorem Fa2.of (F : Fa2 R vs L) {i : Nat} {v : V} (h : vs[i]? = some v) : ∃ e, L[i]? = some e ∧ R v e := by
  have hi := (List.getElem?_eq_some_iff.mp h).1
  have hv : L[i]? = some (L[i]'(by rw [← F.1]; exact hi)) := List.getElem?_eq_getElem _
  exact ⟨_, hv, F.2 i v _ h hv⟩
end
end Rg
/-! own words: == and != of lists of numbers, of lists of such, tuples .. -/
namespace Rg
open PySem L2 TL
mutual
/-- numbers, in lists and tuples of any depth -/
def plainI : PyData → Bool
  | .int _ => true
  | .list xs => plainIs xs
  | .tuple xs => plainIs xs
  | _ => false
def plainIs : List PyData → Bool
  | [] => true
  | x :: xs => plainI x && plainIs xs
end
mutual
theorem eqvI : ∀ d e : PyData, plainI d = true → plainI e = true → PyData.eqv d e = true → d = e
  | .int i, e, _, h, q => by
    cases e with
    | int j =>
      have : (i == j) = true := by rw [PyData.eqv] at q; exact q
      rw [eq_of_beq this]
    | list _ => rw [PyData.eqv] at q; cases q
    | tuple _ => rw [PyData.eqv] at q; cases q
    | _ => cases h
  | .list xs, e, g, h, q => by
    cases e with
    | list ys =>
      rw [PyData.eqv] at q
      rw [eqvIs xs ys (by rw [plainI] at g; exact g) (by rw [plainI] at h; exact h) q]
    | int _ => rw [PyData.eqv] at q; cases q
    | tuple _ => rw [PyData.eqv] at q; cases q
    | _ => cases h
  | .tuple xs, e, g, h, q => by
    cases e with
    | tuple ys =>
      rw [PyData.eqv] at q
      rw [eqvIs xs ys (by rw [plainI] at g; exact g) (by rw [plainI] at h; exact h) q]
    | int _ => rw [PyData.eqv] at q; cases q
    | list _ => rw [PyData.eqv] at q; cases q
    | _ => cases h
theorem eqvIs : ∀ xs ys : List PyData, plainIs xs = true → plainIs ys = true → PyData.eqvAll xs ys = true → xs = ys
  | [], [], _, _, _ => rfl
  | [], _ :: _, _, _, q => by rw [PyData.eqvAll] at q; cases q
  | _ :: _, [], _, _, q => by rw [PyData.eqvAll] at q; cases q
  | x :: xs, y :: ys, g, h, q => by
    rw [PyData.eqvAll, Bool.and_eq_true] at q
    rw [plainIs, Bool.and_eq_true] at g h
    rw [eqvI x y g.1 h.1 q.1, eqvIs xs ys g.2 h.2 q.2]
end
mutual
theorem layI : ∀ d : PyData, plainI d = true → d.canLay0 = true
  | .int _, _ => rfl
  | .list xs, h => by
    rw [plainI] at h
    show PyData.canLayAll0 xs = true
    exact layIs xs h
  | .tuple xs, h => by
    rw [plainI] at h
    show PyData.canLayAll0 xs = true
    exact layIs xs h
theorem layIs : ∀ xs : List PyData, plainIs xs = true → PyData.canLayAll0 xs = true
  | [], _ => rfl
  | x :: xs, h => by
    rw [plainIs, Bool.and_eq_true] at h
    show (x.canLay0 && PyData.canLayAll0 xs) = true
    rw [layI x h.1, layIs xs h.2]
    rfl
end
/-- data that the operators == and != tell apart as they are -/
structure PlD (d : PyData) : Prop where
  p : plainI d = true
  z : d.depth ≤ 64
theorem PlD.shaped {d : PyData} (h : PlD d) : SeqAt.shaped d = true := by
  show (d.canLay0 && decide (d.depth ≤ 64)) = true
  rw [layI d h.p, decide_eq_true h.z]
  rfl
theorem PlD.yes {d : PyData} (h : PlD d) : PyData.eqv d d = true := by
  exact SeqAt.eqv_refl d (layI d h.p)
theorem PlD.no {d e : PyData} (h : PlD d) (g : PlD e) (n : d ≠ e) : PyData.eqv d e = false := by
  cases q : PyData.eqv d e with
  | false => rfl
  | true => exact absurd (eqvI d e h.p g.p q) n
theorem rd_eqD {K : PySem.W.Frag} {H : Hp} {x y : V} {d e : PyData} {Q : VK} (hx : Dp K H x d) (hy : Dp K H y e) (pd : PlD d) (pe : PlD e) (kt : d = e → Q (.bl true) H) (kf : d ≠ e → Q (.bl false) H) : rEqD K x y H Q := by
  refine ⟨_, _, hx, hy, pd.shaped, pe.shaped, ?_⟩
  by_cases h : d = e
  · subst h
    rw [pd.yes]
    exact kt rfl
  · rw [pd.no pe h]
    exact kf h
theorem rd_neD {K : PySem.W.Frag} {H : Hp} {x y : V} {d e : PyData} {Q : VK} (hx : Dp K H x d) (hy : Dp K H y e) (pd : PlD d) (pe : PlD e) (kt : d = e → Q (.bl false) H) (kf : d ≠ e → Q (.bl true) H) : rNeD K x y H Q := by
  refine ⟨_, _, hx, hy, pd.shaped, pe.shaped, ?_⟩
  by_cases h : d = e
  · subst h
    rw [pd.yes]
    exact kt rfl
  · rw [pd.no pe h]
    exact kf h
/-! ### lists of numbers -/
def intsD (ns : List Int) : PyData := .list (ns.map PyData.int)
theorem intsD_inj {ns ms : List Int} (h : intsD ns = intsD ms) : ns = ms := by
  injection h with h
  exact (List.map_inj_right (fun a b e => by injection e)).mp h
theorem plain_ints : ∀ ns : List Int, plainIs (ns.map PyData.int) = true
  | [] => rfl
  | z :: ns => by rw [List.map_cons, plainIs, plain_ints ns]; rfl
theorem depth_all {c : Nat} : ∀ {ds : List PyData}, (∀ d ∈ ds, d.depth ≤ c) → PyData.depthAll ds ≤ c
  | [], _ => Nat.zero_le _
  | d :: ds, h => by
    have h1 := h d List.mem_cons_self
    have h2 := depth_all (ds := ds) fun e he => h e (List.mem_cons_of_mem _ he)
    simp only [PyData.depthAll]
    omega
theorem depth_ints1 (ns : List Int) : PyData.depthAll (ns.map PyData.int) ≤ 1 := depth_all fun d hd => by
  obtain ⟨z, _, rfl⟩ := List.mem_map.mp hd
  simp only [PyData.depth]
  omega
theorem pl_ints (ns : List Int) : PlD (intsD ns) := ⟨plain_ints ns, by
  have := depth_ints1 ns
  unfold intsD
  simp only [PyData.depth]
  omega⟩
theorem dpI {K : PySem.W.Frag} {H : Hp} : ∀ ns : List Int, DpAll K H (ns.map V.int) (ns.map PyData.int)
  | [] => .nil
  | z :: ns => .cons (.int z) (dpI ns)
theorem dp_intsL {K : PySem.W.Frag} {H : Hp} {p : Addr} {ns : List Int} (h : H p = some (.lst (ns.map V.int))) : Dp K H (.ref p) (intsD ns) := .lst (SqL.of h) (dpI ns)
theorem rd_eqI {K : PySem.W.Frag} {H : Hp} {p q : Addr} {ns ms : List Int} {Q : VK} (hp : H p = some (.lst (ns.map V.int))) (hq : H q = some (.lst (ms.map V.int))) (k : Q (.bl (decide (ns = ms))) H) : rEqD K (.ref p) (.ref q) H Q :=
  rd_eqD (dp_intsL hp) (dp_intsL hq) (pl_ints _) (pl_ints _) (fun e => by rw [decide_eq_true (intsD_inj e)] at k; exact k) (fun n => by rw [decide_eq_false (fun e => n (by rw [e]))] at k; exact k)
theorem rd_neI {K : PySem.W.Frag} {H : Hp} {p q : Addr} {ns ms : List Int} {Q : VK} (hp : H p = some (.lst (ns.map V.int))) (hq : H q = some (.lst (ms.map V.int))) (k : Q (.bl (!decide (ns = ms))) H) : rNeD K (.ref p) (.ref q) H Q :=
  rd_neD (dp_intsL hp) (dp_intsL hq) (pl_ints _) (pl_ints _) (fun e => by rw [decide_eq_true (intsD_inj e)] at k; exact k) (fun n => by rw [decide_eq_false (fun e => n (by rw [e]))] at k; exact k)
/-- lists of data, item by item -/
theorem dpAll_of {K : PySem.W.Frag} {H : Hp} : ∀ {vs : List V} {ds : List PyData}, vs.length = ds.length → (∀ (i : Nat) (v : V) (d : PyData), vs[i]? = some v → ds[i]? = some d → Dp K H v d) → DpAll K H vs ds
  | [], [], _, _ => .nil
  | v :: vs, d :: ds, h, k => .cons (k 0 v d rfl rfl) (dpAll_of (by simpa using h) fun i v d h1 h2 => k (i + 1) v d h1 h2)
theorem plainIs_of : ∀ {ds : List PyData}, (∀ d ∈ ds, plainI d = true) → plainIs ds = true
  | [], _ => rfl
  | d :: ds, h => by rw [plainIs, h d List.mem_cons_self, plainIs_of fun e he => h e (List.mem_cons_of_mem _ he)]; rfl
end Rg
/-! own words: lanes in memory -/
namespace Rg
open PySem L2 TL
/-- a lane told: a tuple with a list -/
structure LnAt (H0 H : Hp) (v : V) (e : List Int × Int) : Prop where
  ex : ∃ a r, v = .ref a ∧ H a = some (.tup [.ref r, .int e.2]) ∧ H r = some (.lst (e.1.map V.int)) ∧ H0 a = none ∧ H0 r = none
theorem LnAt.same {H0 H H' : Hp} {v : V} {e : List Int × Int} (L : LnAt H0 H v e) (s : Same H H') : LnAt H0 H' v e := by
  obtain ⟨a, r, h1, h2, h3, h4⟩ := L.ex
  exact ⟨a, r, h1, s _ _ h2, s _ _ h3, h4⟩
theorem LnAt.old {H0 H1 H : Hp} {v : V} {e : List Int × Int} (L : LnAt H1 H v e) (s : Same H0 H1) : LnAt H0 H v e := by
  obtain ⟨a, r, h1, h2, h3, h4, h5⟩ := L.ex
  exact ⟨a, r, h1, h2, h3, s.free h4, s.free h5⟩
theorem LnAt.put {H0 H : Hp} {v : V} {e : List Int × Int} (L : LnAt H0 H v e) {D : Addr} {o o' : HO} (h : H0 D = some o) : LnAt H0 (upd H D o') v e := by
  obtain ⟨a, r, h1, h2, h3, h4, h5⟩ := L.ex
  exact ⟨a, r, h1, by rw [upd_ne (fun z => by rw [z, h] at h4; cases h4)]; exact h2, by rw [upd_ne (fun z => by rw [z, h] at h5; cases h5)]; exact h3, h4, h5⟩
/-- a list of lanes -/
def LnsAt (H0 H : Hp) (p : Addr) (L : List (List Int × Int)) : Prop := ∃ vs : List V, H p = some (.lst vs) ∧ H0 p = none ∧ Fa2 (LnAt H0 H) vs L
theorem LnsAt.same {H0 H H' : Hp} {p : Addr} {L : List (List Int × Int)} (A : LnsAt H0 H p L) (s : Same H H') : LnsAt H0 H' p L := by
  obtain ⟨vs, h1, h2, h3⟩ := A
  exact ⟨vs, s _ _ h1, h2, h3.imp fun v e h => h.same s⟩
theorem LnsAt.old {H0 H1 H : Hp} {p : Addr} {L : List (List Int × Int)} (A : LnsAt H1 H p L) (s : Same H0 H1) : LnsAt H0 H p L := by
  obtain ⟨vs, h1, h2, h3⟩ := A
  exact ⟨vs, h1, s.free h2, h3.imp fun v e h => h.old s⟩
/-- a tuple that is being put into the list at E -/
def LnMk (H1 H2 H : Hp) (E : Addr) (v : V) (e : List Int × Int) : Prop := ∃ a r, v = .ref a ∧ H a = some (.tup [.ref r, .int e.2]) ∧ H2 r = some (.lst (e.1.map V.int)) ∧ H1 r = none ∧ H1 a = none ∧ a ≠ E
theorem LnMk.same {H1 H2 H H' : Hp} {E : Addr} {v : V} {e : List Int × Int} (L : LnMk H1 H2 H E v e) (s : Same H H') : LnMk H1 H2 H' E v e := by
  obtain ⟨a, r, h1, h2, h3⟩ := L
  exact ⟨a, r, h1, s _ _ h2, h3⟩
theorem LnMk.put {H1 H2 H : Hp} {E : Addr} {v : V} {e : List Int × Int} {o : HO} (L : LnMk H1 H2 H E v e) : LnMk H1 H2 (upd H E o) E v e := by
  obtain ⟨a, r, h1, h2, h3, h4, h5, h6⟩ := L
  exact ⟨a, r, h1, by rw [upd_ne h6]; exact h2, h3, h4, h5, h6⟩
theorem LnMk.done {H1 H2 H : Hp} {E : Addr} {v : V} {e : List Int × Int} (L : LnMk H1 H2 H E v e) (s : Same H2 H) : LnAt H1 H v e := by
  obtain ⟨a, r, h1, h2, h3, h4, h5, h6⟩ := L
  exact ⟨a, r, h1, h2, s _ _ h3, h5, h4⟩
/-- all lanes -/
def lanesL (ls : List Str) (n : Nat) : List (List Int × Int) := (firsts ls n).map fun c => (orb ls n c, shiftZ ls n c)
theorem orb_head {n : Nat} {ls : List Str} (W : Rows n ls) {c : Int} (c0 : 0 ≤ c) (c1 : c < n) : (orb ls n c)[0]? = some c := by
  rw [orb_get (lane_pos W c).1]
  show some (c % (n : Int)) = _
  rw [Int.emod_eq_of_lt c0 c1]
theorem isFirst_min {n : Nat} {ls : List Str} (W : Rows n ls) {c m : Int} (c0 : 0 ≤ c) (c1 : c < n) (hm : m ∈ orb ls n c) (hl : ∀ y ∈ orb ls n c, m ≤ y) : isFirst ls n c = decide (c = m) := by
  have hs := orb_self W c0 c1
  rw [Bool.eq_iff_iff, first_iff, decide_eq_true_eq]
  constructor
  · intro h
    have a := h m hm
    have b := hl c hs
    omega
  · rintro rfl z hz
    exact hl z hz
theorem orb_next {n : Nat} {ls : List Str} (W : Rows n ls) (q : Int) {k : Nat} (hk : k < laneLen ls n q) : (orb ls n q)[(k + 1) % laneLen ls n q]? = some ((itG (goZ ls) k q % (n : Int) + moveZ ls (itG (goZ ls) k q % (n : Int))) % (n : Int)) := by
  have e : (itG (goZ ls) k q % (n : Int) + moveZ ls (itG (goZ ls) k q % (n : Int))) % (n : Int) = itG (goZ ls) (k + 1) q % (n : Int) := by
    unfold moveZ
    rw [show itG (goZ ls) k q % (n : Int) + (goZ ls (itG (goZ ls) k q % (n : Int)) - itG (goZ ls) k q % (n : Int)) = goZ ls (itG (goZ ls) k q % (n : Int)) by omega]
    exact itG_congR (goZ_perM W) 1 (i := itG (goZ ls) k q % (n : Int)) (j := itG (goZ ls) k q) (Int.emod_emod _ _)
  rw [e, orb_get (Nat.mod_lt _ (lane_pos W q).1)]
  by_cases h : k + 1 < laneLen ls n q
  · rw [Nat.mod_eq_of_lt h]
  · have h2 : k + 1 = laneLen ls n q := by omega
    rw [h2, Nat.mod_self]
    obtain ⟨m, L⟩ := lane_len W q
    rw [L.end_, Int.add_mul_emod_self_left]
    rfl
theorem pw_eqI : ∀ {l m : List Int}, l.Pairwise (· ≤ ·) → m.Pairwise (· < ·) → l.Perm m → l = m := fun {l m} h1 h2 hp =>
  hp.eq_of_pairwise (le := fun a b : Int => a ≤ b) (fun a b _ _ h h' => Int.le_antisymm h h') h1 (h2.imp fun h => Int.le_of_lt h)

/-- what flows to the right -/
def flowZ (ls : List Str) (n : Nat) : Int := ((((lanesL ls n).map Prod.snd).filter fun s => decide (0 < s)).sum) / (n : Int)
/-- the drift of a lane -/
def driftG (ls : List Str) (n : Nat) (q : Int) : Nat := Nat.gcd (shiftZ ls n q).natAbs (laneLen ls n q)
def driftT (ls : List Str) (n : Nat) (q : Int) : Int := shiftZ ls n q / (driftG ls n q : Int)
def driftB (ls : List Str) (n : Nat) (q : Int) : Nat := laneLen ls n q / driftG ls n q
/-- a round moves by no more than the rows -/
theorem goZ_near (ls : List Str) (i : Int) : i - ls.length ≤ goZ ls i ∧ goZ ls i ≤ i + ls.length := by
  have h := crossZ_near (ls.map rungB) i
  rw [List.length_map] at h
  exact h
theorem itG_near (ls : List Str) (i : Int) : ∀ k : Nat, i - (k * ls.length : Nat) ≤ itG (goZ ls) k i ∧ itG (goZ ls) k i ≤ i + (k * ls.length : Nat)
  | 0 => by
    rw [Nat.zero_mul]
    show i - ((0 : Nat) : Int) ≤ i ∧ i ≤ i + ((0 : Nat) : Int)
    omega
  | k + 1 => by
    have ih := itG_near ls i k
    have h := goZ_near ls (itG (goZ ls) k i)
    rw [Nat.succ_mul]
    show _ ≤ goZ ls (itG (goZ ls) k i) ∧ goZ ls (itG (goZ ls) k i) ≤ _
    omega
theorem shiftZ_near {n : Nat} {ls : List Str} (W : Rows n ls) (q : Int) : -((n * ls.length : Nat) : Int) ≤ shiftZ ls n q ∧ shiftZ ls n q ≤ ((n * ls.length : Nat) : Int) := by
  have h := itG_near ls q (laneLen ls n q)
  have l := Nat.mul_le_mul_right ls.length (lane_pos W q).2
  unfold shiftZ
  omega
theorem driftG_pos {n : Nat} {ls : List Str} (W : Rows n ls) (q : Int) : 0 < driftG ls n q := Nat.gcd_pos_of_pos_right _ (lane_pos W q).1
theorem driftG_le {n : Nat} {ls : List Str} (W : Rows n ls) (q : Int) : driftG ls n q ≤ n := Nat.le_trans (Nat.gcd_le_right _ (lane_pos W q).1) (lane_pos W q).2
theorem driftB_pos {n : Nat} {ls : List Str} (W : Rows n ls) (q : Int) : 1 ≤ driftB ls n q ∧ driftB ls n q ≤ n := by
  have h := Nat.gcd_dvd_right (shiftZ ls n q).natAbs (laneLen ls n q)
  have g := driftG_pos W q
  have l := lane_pos W q
  refine ⟨Nat.div_pos (Nat.le_of_dvd l.1 h) g, Nat.le_trans (Nat.div_le_self _ _) l.2⟩
theorem drift_T {ls : List Str} {n : Nat} (q : Int) : driftT ls n q * (driftG ls n q : Int) = shiftZ ls n q :=
  Int.ediv_mul_cancel (Int.ofNat_dvd_left.mpr (Nat.gcd_dvd_left _ _))
theorem drift_B {ls : List Str} {n : Nat} (q : Int) : driftB ls n q * driftG ls n q = laneLen ls n q := Nat.div_mul_cancel (Nat.gcd_dvd_right _ _)
theorem drift_cross {n : Nat} {ls : List Str} (W : Rows n ls) (q : Int) : driftT ls n q * (laneLen ls n q : Int) = shiftZ ls n q * (driftB ls n q : Int) := by
  rw [← drift_T (ls := ls) (n := n) q, ← drift_B (ls := ls) (n := n) q, Int.natCast_mul, Int.mul_assoc, Int.mul_comm (driftB ls n q : Int)]
theorem drift_prime {n : Nat} {ls : List Str} (W : Rows n ls) (q : Int) {k : Nat} (h1 : k ∣ driftB ls n q) (h2 : (k : Int) ∣ driftT ls n q) : k = 1 := by
  have g := driftG_pos W q
  have a1 : k * driftG ls n q ∣ laneLen ls n q := by
    rw [← drift_B (ls := ls) (n := n) q]
    exact Nat.mul_dvd_mul_right h1 _
  have a2 : k * driftG ls n q ∣ (shiftZ ls n q).natAbs := by
    rw [← drift_T (ls := ls) (n := n) q, Int.natAbs_mul]
    exact Nat.mul_dvd_mul (Int.ofNat_dvd_left.mp h2) (Nat.dvd_refl _)
  have a3 := Nat.le_of_dvd g (Nat.dvd_gcd a2 a1)
  have a4 : 0 < k := by
    rcases Nat.eq_zero_or_pos k with e | e
    · rw [e] at h1
      have := Nat.eq_zero_of_zero_dvd h1
      have := (driftB_pos W q).1
      omega
    · exact e
  have : k * driftG ls n q ≤ 1 * driftG ls n q := by omega
  have := Nat.le_of_mul_le_mul_right this g
  omega
/-- which rests the lanes ahead of i have -/
def knB (ls : List Str) (n i z : Nat) : Bool := (firsts ls n).any fun c => decide (c < (i : Int)) && (orb ls n c).contains (z : Int)
theorem knB_iff {ls : List Str} {n i z : Nat} : knB ls n i z = true ↔ ∃ c ∈ firsts ls n, c < (i : Int) ∧ (z : Int) ∈ orb ls n c := by
  unfold knB
  rw [List.any_eq_true]
  constructor
  · rintro ⟨c, hc, h⟩
    rw [Bool.and_eq_true, decide_eq_true_eq, List.contains_iff_mem] at h
    exact ⟨c, hc, h.1, h.2⟩
  · rintro ⟨c, hc, h1, h2⟩
    exact ⟨c, hc, by rw [Bool.and_eq_true, decide_eq_true_eq, List.contains_iff_mem]; exact ⟨h1, h2⟩⟩
theorem knB_zero (ls : List Str) (n z : Nat) : knB ls n 0 z = false := by
  rw [Bool.eq_false_iff]
  intro h
  obtain ⟨c, hc, h1, _⟩ := knB_iff.mp h
  have := (mem_firsts.mp hc).1
  omega
/-- a rest that no lane ahead has is a first one, and no lane ahead has a rest of its lane -/
theorem knB_first {n : Nat} {ls : List Str} (W : Rows n ls) {i : Nat} (hi : i < n) : isFirst ls n (i : Int) = !knB ls n i i := by
  rw [Bool.eq_iff_iff, Bool.not_eq_true', first_iff]
  constructor
  · intro h
    rw [Bool.eq_false_iff]
    intro q
    obtain ⟨c, hc, h1, h2⟩ := knB_iff.mp q
    obtain ⟨c0, c1, _⟩ := mem_firsts.mp hc
    have := h c (orb_back W c0 c1 h2)
    omega
  · intro h z hz
    refine Int.not_lt.mp fun q => ?_
    obtain ⟨z0, z1⟩ := orb_range W hz
    obtain ⟨c, hc, hcz⟩ := first_of W z0 z1
    obtain ⟨c0, c1, cf⟩ := mem_firsts.mp hc
    have : knB ls n i i = true := knB_iff.mpr ⟨c, hc, by
      have := first_iff.mp cf z hcz
      omega, orb_trans W hcz (orb_back W (by omega) (by omega) hz)⟩
    rw [this] at h
    cases h
theorem knB_out {n : Nat} {ls : List Str} (W : Rows n ls) {i : Nat} (hi : i < n) (h : knB ls n i i = false) {z : Nat} (hz : (z : Int) ∈ orb ls n (i : Int)) : knB ls n i z = false := by
  rw [Bool.eq_false_iff]
  intro q
  obtain ⟨c, hc, h1, h2⟩ := knB_iff.mp q
  have : knB ls n i i = true := knB_iff.mpr ⟨c, hc, h1, orb_trans W h2 (orb_back W (by omega) (by omega) hz)⟩
  rw [this] at h
  cases h
theorem knB_succ {n : Nat} {ls : List Str} (W : Rows n ls) {i : Nat} (hi : i < n) (z : Nat) : knB ls n (i + 1) z = (knB ls n i z || (!knB ls n i i && (orb ls n (i : Int)).contains (z : Int))) := by
  rw [← knB_first W hi, Bool.eq_iff_iff, Bool.or_eq_true, Bool.and_eq_true, List.contains_iff_mem, knB_iff, knB_iff]
  constructor
  · rintro ⟨c, hc, h1, h2⟩
    by_cases e : c = (i : Int)
    · subst e
      exact .inr ⟨(mem_firsts.mp hc).2.2, h2⟩
    · exact .inl ⟨c, hc, by omega, h2⟩
  · rintro (⟨c, hc, h1, h2⟩ | ⟨h1, h2⟩)
    · exact ⟨c, hc, by omega, h2⟩
    · exact ⟨(i : Int), mem_firsts.mpr ⟨by omega, by omega, h1⟩, by omega, h2⟩
/-- a list of truth values -/
def blsV (n : Nat) (f : Nat → Bool) : List V := (List.range n).map fun z => V.bl (f z)
theorem blsV_len (n : Nat) (f : Nat → Bool) : (blsV n f).length = n := by unfold blsV; simp
theorem blsV_get {n : Nat} {f : Nat → Bool} {k : Nat} (h : k < n) : (blsV n f)[k]? = some (V.bl (f k)) := by
  unfold blsV
  rw [List.getElem?_map, List.getElem?_range h]
  rfl
theorem blsV_set {n : Nat} {f : Nat → Bool} {k : Nat} : (blsV n f).set k (V.bl true) = blsV n fun z => f z || decide (z = k) := by
  refine List.ext_getElem? fun j => ?_
  by_cases hj : j < n
  · by_cases e : k = j
    · subst e
      rw [List.getElem?_set_self (by rw [blsV_len]; exact hj), blsV_get hj, decide_eq_true rfl, Bool.or_true]
    · rw [List.getElem?_set_ne e, blsV_get hj, blsV_get hj, decide_eq_false (fun z => e z.symm), Bool.or_false]
  · rw [List.getElem?_eq_none (by rw [List.length_set, blsV_len]; omega), List.getElem?_eq_none (by rw [blsV_len]; omega)]
theorem blsV_congr {n : Nat} {f g : Nat → Bool} (h : ∀ z, z < n → f z = g z) : blsV n f = blsV n g := by
  unfold blsV
  exact List.map_congr_left fun z hz => by rw [h z (List.mem_range.mp hz)]
end Rg
/-! own words: rings: the cycles of a map of the posts 0 .. n - 1 that sends no two to one -/
namespace Rg
open PySem L2 TL
structure Cyc (n : Nat) (f : Int → Int) : Prop where
  to : ∀ i : Int, 0 ≤ i → i < n → 0 ≤ f i ∧ f i < n
  inj : ∀ i j : Int, 0 ≤ i → i < n → 0 ≤ j → j < n → f i = f j → i = j
def ringLen (f : Int → Int) (n : Nat) (c : Int) : Nat :=
  match (List.range n).find? (fun k => decide (itG f (k + 1) c = c)) with
  | some k => k + 1
  | none => 0
def ringOf (f : Int → Int) (n : Nat) (c : Int) : List Int := (List.range (ringLen f n c)).map fun k => itG f k c
def isHead (f : Int → Int) (n : Nat) (c : Int) : Bool := (ringOf f n c).all fun z => decide (c ≤ z)
def heads (f : Int → Int) (n : Nat) : List Int := ((List.range n).map fun k : Nat => (k : Int)).filter (isHead f n)
section
variable {n : Nat} {f : Int → Int} {c : Int}
theorem Cyc.it (C : Cyc n f) (h0 : 0 ≤ c) (h1 : c < n) : ∀ k, 0 ≤ itG f k c ∧ itG f k c < n
  | 0 => ⟨h0, h1⟩
  | k + 1 => C.to _ (C.it h0 h1 k).1 (C.it h0 h1 k).2
theorem Cyc.it_inj (C : Cyc n f) {i j : Int} (i0 : 0 ≤ i) (i1 : i < n) (j0 : 0 ≤ j) (j1 : j < n) : ∀ k, itG f k i = itG f k j → i = j
  | 0, h => h
  | k + 1, h => C.it_inj i0 i1 j0 j1 k (C.inj _ _ (C.it i0 i1 k).1 (C.it i0 i1 k).2 (C.it j0 j1 k).1 (C.it j0 j1 k).2 h)
theorem Cyc.comes (C : Cyc n f) (h0 : 0 ≤ c) (h1 : c < n) : ∃ l : Nat, 0 < l ∧ l ≤ n ∧ itG f l c = c := by
  obtain ⟨i, j, hij, hj, q⟩ := pigeon n (fun k => (itG f k c).toNat) fun k _ => by
    have a := C.it h0 h1 k
    show (itG f k c).toNat < n
    omega
  have q' : (itG f i c).toNat = (itG f j c).toNat := q
  have a := C.it h0 h1 i
  have b := C.it h0 h1 j
  have e : itG f i c = itG f j c := by omega
  refine ⟨j - i, by omega, by omega, ?_⟩
  have d : j = (j - i) + i := by omega
  rw [d, itG_add] at e
  exact (C.it_inj h0 h1 (C.it h0 h1 _).1 (C.it h0 h1 _).2 i e).symm
theorem Cyc.len (C : Cyc n f) (h0 : 0 ≤ c) (h1 : c < n) : 0 < ringLen f n c ∧ ringLen f n c ≤ n ∧ itG f (ringLen f n c) c = c ∧ ∀ k, 0 < k → k < ringLen f n c → itG f k c ≠ c := by
  obtain ⟨l, l0, ln, e⟩ := C.comes h0 h1
  obtain ⟨m, m0, ml, mp, mm⟩ := least_of (p := fun k => itG f k c = c) l l0 e
  have h : (List.range n).find? (fun k => decide (itG f (k + 1) c = c)) = some (m - 1) := by
    rw [List.find?_eq_some_iff_getElem]
    refine ⟨?_, m - 1, by rw [List.length_range]; omega, by rw [List.getElem_range], fun j hj => ?_⟩
    · rw [decide_eq_true_eq, show m - 1 + 1 = m by omega]
      exact mp
    · rw [List.getElem_range, Bool.not_eq_true', decide_eq_false_iff_not]
      exact mm (j + 1) (by omega) (by omega)
  have e2 : ringLen f n c = m := by
    unfold ringLen
    rw [h]
    show m - 1 + 1 = m
    omega
  rw [e2]
  exact ⟨m0, by omega, mp, mm⟩
theorem itG_mul {l : Nat} (h : itG f l c = c) : ∀ q, itG f (q * l) c = c
  | 0 => by rw [Nat.zero_mul]; rfl
  | q + 1 => by rw [Nat.succ_mul, itG_add, itG_mul h q, h]
/-- any number of rounds, modulo the ring's length -/
theorem Cyc.mod (C : Cyc n f) (h0 : 0 ≤ c) (h1 : c < n) (t : Nat) : itG f t c = itG f (t % ringLen f n c) c := by
  obtain ⟨_, _, e, _⟩ := C.len h0 h1
  have d : t = t / ringLen f n c * ringLen f n c + t % ringLen f n c := by
    have := Nat.div_add_mod t (ringLen f n c)
    rw [Nat.mul_comm] at this
    exact this.symm
  have z : itG f t c = itG f (t / ringLen f n c * ringLen f n c + t % ringLen f n c) c := by rw [← d]
  rw [z, itG_add, itG_mul e]
theorem mem_ring {z : Int} : z ∈ ringOf f n c ↔ ∃ k, k < ringLen f n c ∧ z = itG f k c := by
  unfold ringOf
  rw [List.mem_map]
  constructor
  · rintro ⟨k, hk, e⟩
    exact ⟨k, List.mem_range.mp hk, e.symm⟩
  · rintro ⟨k, hk, e⟩
    exact ⟨k, List.mem_range.mpr hk, e.symm⟩
theorem Cyc.any (C : Cyc n f) (h0 : 0 ≤ c) (h1 : c < n) (t : Nat) : itG f t c ∈ ringOf f n c :=
  mem_ring.mpr ⟨t % ringLen f n c, Nat.mod_lt _ (C.len h0 h1).1, C.mod h0 h1 t⟩
theorem Cyc.range (C : Cyc n f) (h0 : 0 ≤ c) (h1 : c < n) {z : Int} (h : z ∈ ringOf f n c) : 0 ≤ z ∧ z < n := by
  obtain ⟨k, _, rfl⟩ := mem_ring.mp h
  exact C.it h0 h1 k
theorem Cyc.self (C : Cyc n f) (h0 : 0 ≤ c) (h1 : c < n) : c ∈ ringOf f n c := C.any h0 h1 0
theorem Cyc.trans (C : Cyc n f) (h0 : 0 ≤ c) (h1 : c < n) {z y : Int} (h : z ∈ ringOf f n c) (g : y ∈ ringOf f n z) : y ∈ ringOf f n c := by
  obtain ⟨j, _, rfl⟩ := mem_ring.mp h
  obtain ⟨k, _, rfl⟩ := mem_ring.mp g
  rw [← itG_add]
  exact C.any h0 h1 _
theorem Cyc.back (C : Cyc n f) (h0 : 0 ≤ c) (h1 : c < n) {z : Int} (h : z ∈ ringOf f n c) : c ∈ ringOf f n z := by
  obtain ⟨k, hk, rfl⟩ := mem_ring.mp h
  obtain ⟨_, _, e, _⟩ := C.len h0 h1
  have d : itG f (ringLen f n c - k) (itG f k c) = c := by rw [← itG_add, show k + (ringLen f n c - k) = ringLen f n c by omega, e]
  have m := C.any (C.it h0 h1 k).1 (C.it h0 h1 k).2 (ringLen f n c - k)
  rwa [d] at m
theorem Cyc.nodup (C : Cyc n f) (h0 : 0 ≤ c) (h1 : c < n) : (ringOf f n c).Nodup := by
  obtain ⟨_, _, _, ne⟩ := C.len h0 h1
  unfold ringOf
  rw [List.Nodup, List.pairwise_map]
  refine List.Pairwise.imp_of_mem (R := fun a b => a < b) (fun {a b} _ hb hab e => ?_) List.pairwise_lt_range
  have hb' := List.mem_range.mp hb
  have d : b = (b - a) + a := by omega
  rw [d, itG_add] at e
  exact ne (b - a) (by omega) (by omega) (C.it_inj h0 h1 (C.it h0 h1 _).1 (C.it h0 h1 _).2 a e).symm
theorem head_iff : isHead f n c = true ↔ ∀ z ∈ ringOf f n c, c ≤ z := by
  unfold isHead
  rw [List.all_eq_true]
  exact ⟨fun h z hz => of_decide_eq_true (h z hz), fun h z hz => decide_eq_true (h z hz)⟩
theorem mem_heads : c ∈ heads f n ↔ 0 ≤ c ∧ c < n ∧ isHead f n c = true := by
  unfold heads
  rw [List.mem_filter, List.mem_map]
  constructor
  · rintro ⟨⟨k, hk, rfl⟩, h⟩
    have := List.mem_range.mp hk
    exact ⟨by omega, by omega, h⟩
  · rintro ⟨h0, h1, h⟩
    exact ⟨⟨c.toNat, List.mem_range.mpr (by omega), by omega⟩, h⟩
theorem Cyc.head_of (C : Cyc n f) {z : Int} (h0 : 0 ≤ z) (h1 : z < n) : ∃ c ∈ heads f n, z ∈ ringOf f n c := by
  have hs := C.self h0 h1
  obtain ⟨c, hc, m⟩ := least_mem (l := ringOf f n z) (fun e => by rw [e] at hs; cases hs)
  obtain ⟨c0, c1⟩ := C.range h0 h1 hc
  exact ⟨c, mem_heads.mpr ⟨c0, c1, head_iff.mpr fun y hy => m y (C.trans h0 h1 hc hy)⟩, C.back h0 h1 hc⟩
theorem Cyc.head_one (C : Cyc n f) {c d z : Int} (hc : c ∈ heads f n) (hd : d ∈ heads f n) (h : z ∈ ringOf f n c) (g : z ∈ ringOf f n d) : c = d := by
  obtain ⟨c0, c1, fc⟩ := mem_heads.mp hc
  obtain ⟨d0, d1, fd⟩ := mem_heads.mp hd
  have a := head_iff.mp fc d (C.trans c0 c1 h (C.back d0 d1 g))
  have b := head_iff.mp fd c (C.trans d0 d1 g (C.back c0 c1 h))
  omega
theorem heads_sorted : (heads f n).Pairwise (· < ·) := by
  unfold heads
  refine List.Pairwise.filter _ ?_
  rw [List.pairwise_map]
  exact List.Pairwise.imp (fun {a b} h => by omega) List.pairwise_lt_range
/-- the rings hold each post once -/
theorem Cyc.perm (C : Cyc n f) : ((heads f n).map (ringOf f n)).flatten.Perm ((List.range n).map fun k : Nat => (k : Int)) := by
  rw [List.perm_ext_iff_of_nodup]
  · intro z
    rw [List.mem_flatten, List.mem_map]
    constructor
    · rintro ⟨l, hl, hz⟩
      obtain ⟨c, hc, rfl⟩ := List.mem_map.mp hl
      obtain ⟨c0, c1, _⟩ := mem_heads.mp hc
      obtain ⟨z0, z1⟩ := C.range c0 c1 hz
      exact ⟨z.toNat, List.mem_range.mpr (by omega), by omega⟩
    · rintro ⟨k, hk, rfl⟩
      have := List.mem_range.mp hk
      obtain ⟨c, hc, hz⟩ := C.head_of (z := (k : Int)) (by omega) (by omega)
      exact ⟨_, List.mem_map.mpr ⟨c, hc, rfl⟩, hz⟩
  · rw [List.Nodup, List.pairwise_flatten]
    refine ⟨fun l hl => ?_, ?_⟩
    · obtain ⟨c, hc, rfl⟩ := List.mem_map.mp hl
      obtain ⟨c0, c1, _⟩ := mem_heads.mp hc
      exact C.nodup c0 c1
    · rw [List.pairwise_map]
      refine List.Pairwise.imp_of_mem (fun {c d} hc hd hcd x hx y hy e => ?_) heads_sorted
      subst e
      have := C.head_one hc hd hx hy
      omega
  · rw [List.Nodup, List.pairwise_map]
    exact List.Pairwise.imp (fun {a b} h => by omega) List.pairwise_lt_range
end
end Rg
/-! own words: rounds between two ends, and their rings -/
namespace Rg
open PySem L2 TL
/-- where a walker stands behind one round -/
def roundF (ls : List Str) (n : Int) (a : Int) : Int := wk ls n a ls.length
theorem rowAt_add {ls : List Str} (t k : Nat) : rowAt ls (t * ls.length + k) = rowAt ls k := by
  unfold rowAt
  rw [Nat.mul_comm, Nat.mul_add_mod]
theorem wk_add (ls : List Str) (n a : Int) (t : Nat) : ∀ k, wk ls n a (t * ls.length + k) = wk ls n (wk ls n a (t * ls.length)) k
  | 0 => rfl
  | k + 1 => by
    show cross (rowAt ls (t * ls.length + k)) n (wk ls n a (t * ls.length + k)) = cross (rowAt ls k) n (wk ls n (wk ls n a (t * ls.length)) k)
    rw [rowAt_add, wk_add ls n a t k]
/-- t rounds are the round, t times -/
theorem wk_rounds (ls : List Str) (n a : Int) : ∀ t, wk ls n a (t * ls.length) = itG (roundF ls n) t a
  | 0 => by rw [Nat.zero_mul]; rfl
  | t + 1 => by
    show _ = roundF ls n (itG (roundF ls n) t a)
    rw [Nat.succ_mul, wk_add, wk_rounds ls n a t]
    rfl
/-- rows and rounds: the rounds, then the rows that are over -/
theorem wk_split (ls : List Str) (n a : Int) (d : Nat) : wk ls n a d = wk ls n (itG (roundF ls n) (d / ls.length) a) (d % ls.length) := by
  have h := Nat.div_add_mod d ls.length
  rw [Nat.mul_comm] at h
  rw [← wk_rounds, ← wk_add, h]
theorem round_cyc {m : Nat} {ls : List Str} (W : Rows m ls) (n : Nat) : Cyc n (roundF ls n) :=
  ⟨fun _ h0 h1 => wk_on h0 h1 _, fun _ _ i0 i1 j0 j1 e => wk_inj W _ i0 i1 j0 j1 e⟩
/-- far from the ends a row between two ends does what it does on the endless row -/
theorem cross_mid {z : Str} {n q : Int} (h0 : 0 < q) (h1 : q + 1 < n) : cross z n q = cross1 (rungB z) q := by
  unfold cross cross1
  rw [decide_eq_true h0, decide_eq_true h1, Bool.true_and, Bool.true_and]
theorem wk_mid {ls : List Str} {n a : Int} : ∀ k : Nat, (k : Int) ≤ a → a + k < n → wk ls n a k = wkZ ls a k
  | 0, _, _ => rfl
  | k + 1, h0, h1 => by
    have ih := wk_mid (ls := ls) (n := n) (a := a) k (by omega) (by omega)
    have c := wkZ_near ls a k
    show cross (rowAt ls k) n (wk ls n a k) = cross1 (rungB (rowAt ls k)) (wkZ ls a k)
    rw [ih]
    exact cross_mid (by omega) (by omega)
/-- a round between two ends, far from them: as on the endless row -/
theorem round_mid {ls : List Str} {n a : Int} (h0 : (ls.length : Int) ≤ a) (h1 : a + ls.length < n) : roundF ls n a = goZ ls a := by
  unfold roundF
  rw [wk_mid _ h0 h1, wkZ_round]
end Rg
/-! own words: rings in memory -/
namespace Rg
open PySem L2 TL
section
variable {f : Int → Int} {n : Nat} {c : Int}
theorem ring_len (f : Int → Int) (n : Nat) (c : Int) : (ringOf f n c).length = ringLen f n c := by unfold ringOf; simp
theorem ring_get {k : Nat} (h : k < ringLen f n c) : (ringOf f n c)[k]? = some (itG f k c) := by
  unfold ringOf
  rw [List.getElem?_map, List.getElem?_range h]
  rfl
theorem ring_take_succ {k : Nat} (h : k < ringLen f n c) : (ringOf f n c).take (k + 1) = (ringOf f n c).take k ++ [itG f k c] := by
  rw [List.take_add_one, ring_get h]
  rfl
theorem Cyc.ne_of (C : Cyc n f) (h0 : 0 ≤ c) (h1 : c < n) {i j : Nat} (hij : i < j) (hj : j < ringLen f n c) : itG f i c ≠ itG f j c := fun e => by
  have nd := C.nodup h0 h1
  unfold ringOf at nd
  rw [List.Nodup, List.pairwise_map] at nd
  have := List.pairwise_iff_getElem.mp nd i j (by rw [List.length_range]; omega) (by rw [List.length_range]; exact hj) hij
  rw [List.getElem_range, List.getElem_range] at this
  exact this e
theorem Cyc.take_no (C : Cyc n f) (h0 : 0 ≤ c) (h1 : c < n) {k : Nat} (hk : k < ringLen f n c) : itG f k c ∉ (ringOf f n c).take k := by
  intro h
  obtain ⟨j, hj, e⟩ := List.getElem_of_mem h
  rw [List.length_take, ring_len] at hj
  rw [List.getElem_take] at e
  have g1 : (ringOf f n c)[j]? = some (itG f k c) := by
    rw [List.getElem?_eq_getElem (by rw [ring_len]; omega), e]
  rw [ring_get (by omega)] at g1
  exact C.ne_of h0 h1 (show j < k by omega) hk (Option.some.inj g1)
theorem ring_all (f : Int → Int) (n : Nat) (c : Int) : (ringOf f n c).take (ringLen f n c) = ringOf f n c := List.take_of_length_le (by rw [ring_len]; exact Nat.le_refl _)
theorem Cyc.pos (C : Cyc n f) (h0 : 0 ≤ c) (h1 : c < n) : 0 < ringLen f n c ∧ ringLen f n c ≤ n := ⟨(C.len h0 h1).1, (C.len h0 h1).2.1⟩
theorem Cyc.next (C : Cyc n f) (h0 : 0 ≤ c) (h1 : c < n) {k : Nat} (hk : k < ringLen f n c) : (ringOf f n c)[(k + 1) % ringLen f n c]? = some (f (itG f k c)) := by
  have l := C.len h0 h1
  rw [ring_get (Nat.mod_lt _ l.1)]
  show some (itG f ((k + 1) % ringLen f n c) c) = some (itG f (k + 1) c)
  rw [← C.mod h0 h1]
theorem Cyc.head0 (C : Cyc n f) (h0 : 0 ≤ c) (h1 : c < n) : (ringOf f n c)[0]? = some c := ring_get (C.len h0 h1).1
/-- which posts the rings ahead of i have -/
def knR (f : Int → Int) (n i z : Nat) : Bool := (heads f n).any fun c => decide (c < (i : Int)) && (ringOf f n c).contains (z : Int)
theorem knR_iff {i z : Nat} : knR f n i z = true ↔ ∃ c ∈ heads f n, c < (i : Int) ∧ (z : Int) ∈ ringOf f n c := by
  unfold knR
  rw [List.any_eq_true]
  constructor
  · rintro ⟨c, hc, h⟩
    rw [Bool.and_eq_true, decide_eq_true_eq, List.contains_iff_mem] at h
    exact ⟨c, hc, h.1, h.2⟩
  · rintro ⟨c, hc, h1, h2⟩
    exact ⟨c, hc, by rw [Bool.and_eq_true, decide_eq_true_eq, List.contains_iff_mem]; exact ⟨h1, h2⟩⟩
theorem knR_zero (f : Int → Int) (n z : Nat) : knR f n 0 z = false := by
  rw [Bool.eq_false_iff]
  intro h
  obtain ⟨c, hc, h1, _⟩ := knR_iff.mp h
  have := (mem_heads.mp hc).1
  omega
theorem Cyc.kn_head (C : Cyc n f) {i : Nat} (hi : i < n) : isHead f n (i : Int) = !knR f n i i := by
  have i0 : (0 : Int) ≤ (i : Int) := by omega
  have i1 : (i : Int) < (n : Int) := by omega
  rw [Bool.eq_iff_iff, Bool.not_eq_true', head_iff]
  constructor
  · intro h
    rw [Bool.eq_false_iff]
    intro q
    obtain ⟨c, hc, h1, h2⟩ := knR_iff.mp q
    obtain ⟨c0, c1, _⟩ := mem_heads.mp hc
    have := h c (C.back c0 c1 h2)
    omega
  · intro h z hz
    refine Int.not_lt.mp fun q => ?_
    obtain ⟨z0, z1⟩ := C.range i0 i1 hz
    obtain ⟨c, hc, hcz⟩ := C.head_of z0 z1
    obtain ⟨c0, c1, cf⟩ := mem_heads.mp hc
    have : knR f n i i = true := knR_iff.mpr ⟨c, hc, by
      have := head_iff.mp cf z hcz
      omega, C.trans c0 c1 hcz (C.back i0 i1 hz)⟩
    rw [this] at h
    cases h
theorem Cyc.kn_out (C : Cyc n f) {i : Nat} (hi : i < n) (h : knR f n i i = false) {z : Nat} (hz : (z : Int) ∈ ringOf f n (i : Int)) : knR f n i z = false := by
  have i0 : (0 : Int) ≤ (i : Int) := by omega
  have i1 : (i : Int) < (n : Int) := by omega
  rw [Bool.eq_false_iff]
  intro q
  obtain ⟨c, hc, h1, h2⟩ := knR_iff.mp q
  obtain ⟨c0, c1, cf⟩ := mem_heads.mp hc
  have : knR f n i i = true := knR_iff.mpr ⟨c, hc, h1, C.trans c0 c1 h2 (C.back i0 i1 hz)⟩
  rw [this] at h
  cases h
theorem Cyc.kn_succ (C : Cyc n f) {i : Nat} (hi : i < n) (z : Nat) : knR f n (i + 1) z = (knR f n i z || (!knR f n i i && (ringOf f n (i : Int)).contains (z : Int))) := by
  rw [← C.kn_head hi, Bool.eq_iff_iff, Bool.or_eq_true, Bool.and_eq_true, List.contains_iff_mem, knR_iff, knR_iff]
  constructor
  · rintro ⟨c, hc, h1, h2⟩
    by_cases e : c = (i : Int)
    · subst e
      exact .inr ⟨(mem_heads.mp hc).2.2, h2⟩
    · exact .inl ⟨c, hc, by omega, h2⟩
  · rintro (⟨c, hc, h1, h2⟩ | ⟨h1, h2⟩)
    · exact ⟨c, hc, by omega, h2⟩
    · exact ⟨(i : Int), mem_heads.mpr ⟨by omega, by omega, h1⟩, by omega, h2⟩
theorem Cyc.rings_len (C : Cyc n f) (j : Nat) : ((((heads f n).take j).map (ringOf f n)).flatten).length ≤ n := by
  have e := C.perm.length_eq
  rw [List.length_map, List.length_range] at e
  have e2 : ((heads f n).map (ringOf f n)).flatten = (((heads f n).take j).map (ringOf f n)).flatten ++ (((heads f n).drop j).map (ringOf f n)).flatten := by
    rw [← List.flatten_append, ← List.map_append, List.take_append_drop]
  rw [e2, List.length_append] at e
  omega
/-- the heads ahead of i -/
def hdU (f : Int → Int) (n i : Nat) : List Int := ((List.range i).map fun j : Nat => (j : Int)).filter (isHead f n)
theorem hdU_t {i : Nat} (h : isHead f n (i : Int) = true) : hdU f n (i + 1) = hdU f n i ++ [(i : Int)] := by
  unfold hdU
  rw [List.range_succ, List.map_append, List.filter_append]
  show _ ++ [(i : Int)].filter _ = _
  rw [List.filter_cons_of_pos h, List.filter_nil]
theorem hdU_f {i : Nat} (h : isHead f n (i : Int) = false) : hdU f n (i + 1) = hdU f n i := by
  unfold hdU
  rw [List.range_succ, List.map_append, List.filter_append]
  show _ ++ [(i : Int)].filter _ = _
  rw [List.filter_cons_of_neg (by rw [h]; decide), List.filter_nil, List.append_nil]
theorem hdU_all (f : Int → Int) (n : Nat) : hdU f n n = heads f n := rfl
theorem hdU_mono (f : Int → Int) (n i : Nat) : ∀ j : Nat, (((hdU f n i).map (ringOf f n)).flatten).length ≤ (((hdU f n (i + j)).map (ringOf f n)).flatten).length
  | 0 => Nat.le_refl _
  | j + 1 => by
    have ih := hdU_mono f n i j
    rw [show i + (j + 1) = (i + j) + 1 by omega]
    cases h : isHead f n ((i + j : Nat) : Int) with
    | true =>
      rw [hdU_t h, List.map_append, List.flatten_append, List.length_append]
      omega
    | false =>
      rw [hdU_f h]
      exact ih
theorem Cyc.hdU_len (C : Cyc n f) {i : Nat} (hi : i ≤ n) : (((hdU f n i).map (ringOf f n)).flatten).length ≤ n := by
  have h := hdU_mono f n i (n - i)
  rw [show i + (n - i) = n by omega, hdU_all] at h
  have e := C.perm.length_eq
  rw [List.length_map, List.length_range] at e
  omega
theorem heads_len (f : Int → Int) (n : Nat) : (heads f n).length ≤ n := by
  unfold heads
  refine Nat.le_trans (List.length_filter_le _ _) ?_
  rw [List.length_map, List.length_range]
  exact Nat.le_refl _
end
/-- an entry of a list without repetition is not among those ahead of it -/
theorem nodup_ahead {l : List Int} (h : l.Nodup) {A B : List Int} {z : Int} (e : l = A ++ z :: B) : z ∉ A := by
  subst e
  intro hz
  have := (List.pairwise_append.mp h).2.2 z hz z List.mem_cons_self
  exact this rfl
theorem rangeI_nodup (n : Nat) : ((List.range n).map fun k : Nat => (k : Int)).Nodup := by
  rw [List.Nodup, List.pairwise_map]
  exact List.Pairwise.imp (fun {a b} h => by omega) List.pairwise_lt_range
theorem Cyc.flat_nodup {n : Nat} {f : Int → Int} (C : Cyc n f) : (((heads f n).map (ringOf f n)).flatten).Nodup := C.perm.nodup_iff.mpr (rangeI_nodup n)
/-- a post of the ring of the i-th head is in no ring ahead, nor ahead of it in its ring -/
theorem Cyc.fresh {n : Nat} {f : Int → Int} (C : Cyc n f) {i j : Nat} {c : Int} (hc : (heads f n)[i]? = some c) (hj : j < ringLen f n c) : itG f j c ∉ (((heads f n).take i).map (ringOf f n)).flatten ++ (ringOf f n c).take j := by
  refine nodup_ahead C.flat_nodup (B := (ringOf f n c).drop (j + 1) ++ (((heads f n).drop (i + 1)).map (ringOf f n)).flatten) ?_
  have hi := (List.getElem?_eq_some_iff.mp hc).1
  have e1 : heads f n = (heads f n).take i ++ c :: (heads f n).drop (i + 1) := by
    have h := List.getElem?_eq_some_iff.mp hc
    obtain ⟨h1, h2⟩ := h
    rw [← h2, List.getElem_cons_drop, List.take_append_drop]
  have hl : j < (ringOf f n c).length := by rw [ring_len]; exact hj
  have e2 : ringOf f n c = (ringOf f n c).take j ++ itG f j c :: (ringOf f n c).drop (j + 1) := by
    have h2 : (ringOf f n c)[j] = itG f j c := by
      have := ring_get hj
      rw [List.getElem?_eq_getElem hl] at this
      exact Option.some.inj this
    rw [← h2, List.getElem_cons_drop, List.take_append_drop]
  have e3 : ((heads f n).map (ringOf f n)).flatten = (((heads f n).take i).map (ringOf f n)).flatten ++ (ringOf f n c ++ (((heads f n).drop (i + 1)).map (ringOf f n)).flatten) := by
    rw [← List.flatten_cons, ← List.map_cons, ← List.flatten_append, ← List.map_append, ← e1]
  rw [e3]
  have e4 : ringOf f n c ++ (((heads f n).drop (i + 1)).map (ringOf f n)).flatten = (ringOf f n c).take j ++ itG f j c :: ((ringOf f n c).drop (j + 1) ++ (((heads f n).drop (i + 1)).map (ringOf f n)).flatten) := by
    rw [← List.cons_append, ← List.append_assoc, ← e2]
  rw [e4, List.append_assoc]
/-- all rings -/
def ringsL (f : Int → Int) (n : Nat) : List (List Int) := (heads f n).map (ringOf f n)
/-- a ring in memory -/
structure RgAt (H0 H : Hp) (v : V) (e : List Int) : Prop where
  ex : ∃ r, v = .ref r ∧ H r = some (.lst (e.map V.int)) ∧ H0 r = none
theorem RgAt.same {H0 H H' : Hp} {v : V} {e : List Int} (L : RgAt H0 H v e) (s : Same H H') : RgAt H0 H' v e := by
  obtain ⟨r, h1, h2, h3⟩ := L.ex
  exact ⟨r, h1, s _ _ h2, h3⟩
theorem RgAt.old {H0 H1 H : Hp} {v : V} {e : List Int} (L : RgAt H1 H v e) (s : Same H0 H1) : RgAt H0 H v e := by
  obtain ⟨r, h1, h2, h3⟩ := L.ex
  exact ⟨r, h1, h2, s.free h3⟩
theorem RgAt.put {H0 H : Hp} {v : V} {e : List Int} (L : RgAt H0 H v e) {D : Addr} {o o' : HO} (h : H0 D = some o) : RgAt H0 (upd H D o') v e := by
  obtain ⟨r, h1, h2, h3⟩ := L.ex
  exact ⟨r, h1, by rw [upd_ne (fun z => by rw [z, h] at h3; cases h3)]; exact h2, h3⟩
def RgsAt (H0 H : Hp) (p : Addr) (L : List (List Int)) : Prop := ∃ vs : List V, H p = some (.lst vs) ∧ H0 p = none ∧ Fa2 (RgAt H0 H) vs L
theorem RgsAt.same {H0 H H' : Hp} {p : Addr} {L : List (List Int)} (A : RgsAt H0 H p L) (s : Same H H') : RgsAt H0 H' p L := by
  obtain ⟨vs, h1, h2, h3⟩ := A
  exact ⟨vs, s _ _ h1, h2, h3.imp fun v e h => h.same s⟩
theorem RgsAt.old {H0 H1 H : Hp} {p : Addr} {L : List (List Int)} (A : RgsAt H1 H p L) (s : Same H0 H1) : RgsAt H0 H p L := by
  obtain ⟨vs, h1, h2, h3⟩ := A
  exact ⟨vs, h1, s.free h2, h3.imp fun v e h => h.old s⟩
end Rg
/-! own words: the items of a dict of numbers, sorted -/
namespace Rg
open PySem PySem.Spec PyProof.Rows L2 L2.DX
def rItemsK : V → List V → Hp → VK → Prop := fun x xs H Q => ∃ (a : Addr) (kvs : List (L2.Key × V)), x = .ref a ∧ xs = [] ∧ H a = some (.dK kvs) ∧ ∀ p, H p = none → Q (.ref p) (upd H p (itemsO p a))
section
variable {X : Cx}
theorem mt_itemsK : MtR X "dict.items" rItemsK := by
  intro pins s σ H x xs v us Q I rx rxs h
  obtain ⟨a, kvs, rfl, rfl, ha, q⟩ := h
  cases rx
  cases rxs
  obtain ⟨z, hd, vs, kv, o, es, ep, ho, hx, hdat, _⟩ := dk_of I.hok ha
  refine DT.callItems (es := es) (ep := ep) hd ⟨o, ho, hx, hdat⟩ ?_
  have hf : H s.heap.objs.size = none := I.hok.fresh (Nat.le_refl _)
  exact ⟨.ref s.heap.objs.size, upd H s.heap.objs.size (itemsO s.heap.objs.size a), I.laid (t' := s.toks) (fun b u e => Heap.get?_push_of_some _ e) (Nat.le_refl _) (itemsO_ok (Heap.get?_push_size _ rfl)), rfl, q _ hf⟩
theorem pairs_get {prog : Program} {w : World} {Kt : Type} [DecidableEq Kt] {knd : KeyKind prog w Kt} : ∀ {es : List DictEntry} {kvs : List (Kt × Value)}, Pairs knd es kvs → ∀ {j : Nat} {e : DictEntry}, es[j]? = some e → ∃ kv, kvs[j]? = some kv ∧ knd.is kv.1 e.key = true ∧ e.val = kv.2
  | _, _, .nil, j, e, h => by cases h
  | _, _, .cons h1 h2 t, 0, e, h => by
    have := Option.some.inj h
    subst this
    exact ⟨_, rfl, h1, h2⟩
  | _, _, .cons h1 h2 t, j + 1, e, h => pairs_get t h
theorem paired_get2 {α β : Type} {F : α → β → Prop} : ∀ {xs : List α} {ys : List β}, Paired F xs ys → ∀ {i : Nat} {y : β}, ys[i]? = some y → ∃ x, xs[i]? = some x ∧ F x y
  | _, _, .nil, i, y, h => by cases h
  | _, _, .cons r t, 0, y, h => by
    have e := Option.some.inj h
    subst e
    exact ⟨_, rfl, r⟩
  | _, _, .cons r t, i + 1, y, h => paired_get2 t h
/-- the pair that stands for a new tuple -/
def prOf (L : List (Addr × Int × Int)) (v : Value) : Int × Int := match v with
  | .ref b => (L.lookup b).getD (0, 0)
  | _ => (0, 0)
theorem lookup_zip {β : Type} : ∀ {as : List Addr} {ks : List β}, as.Nodup → ∀ {j : Nat} {b : Addr} {e : β}, as[j]? = some b → ks[j]? = some e → (as.zip ks).lookup b = some e
  | [], _, _, j, b, e, h, _ => by cases h
  | _ :: _, [], _, j, b, e, _, h => by cases h
  | a :: as, k :: ks, nd, 0, b, e, h1, h2 => by
    cases h1
    cases h2
    simp [List.lookup]
  | a :: as, k :: ks, nd, j + 1, b, e, h1, h2 => by
    rw [List.nodup_cons] at nd
    have hm : b ∈ as := List.mem_of_getElem? h1
    have ne : (b == a) = false := by
      rw [beq_eq_false_iff_ne]
      rintro rfl
      exact nd.1 hm
    show List.lookup b ((a, k) :: as.zip ks) = _
    simp only [List.lookup, ne]
    exact lookup_zip nd.2 h1 h2
abbrev entI (e : Int × Int) : L2.Key × V := (Sum.inl e.1, V.int e.2)
def rSortItI : List V → Hp → VK → Prop := fun vs H Q => ∃ (p a : Addr) (ks : List (Int × Int)), vs = [.ref p] ∧ H p = some (itemsO p a) ∧ H a = some (.dK (ks.map entI)) ∧
  ∀ (H' : Hp) (l : Addr) (ps : List (Addr × Int × Int)), (∀ b o, H b = some o → H' b = some o) → H l = none → (∀ z ∈ ps, H z.1 = none) → (ps.map (·.2)).Perm ks → (ps.map (·.2)).Pairwise (fun e f => SrtO.lexB f e = false) → H' l = some (.lst (ps.map fun z => V.ref z.1)) →
    (∀ z ∈ ps, H' z.1 = some (.tup [.int z.2.1, .int z.2.2])) → Q (.ref l) H'
theorem cr_sortedItemsI (hc : X.calm = true) : CallR X (.builtin "sorted") rSortItI := by
  intro pins s σ H xs us Q I r h
  obtain ⟨p, a, ks, rfl, hp, ha, q⟩ := h
  obtain rfl := Vals.ref1 r
  have view : s.heap.IsItemsView p a := (show ObjOk X.prog X.w H s.heap p (itemsO p a) from I.hok p _ hp).1
  obtain ⟨z, hd, vs, rel, o, es, ep, ho, hx, hdat, his, hprs, hn⟩ := dk_of I.hok ha
  have l1 : (ks.map entI).length = vs.length := Paired.length rel
  rw [List.length_map] at l1 z
  have l2 : es.size = vs.length := by
    have := hprs.length
    rw [Array.length_toList] at this
    exact this
  have hh : X.A.handled = none := I.ok.hd hc
  refine DT.sortedI (es := es) (ep := ep) hh view ⟨o, ho, hx, hdat⟩ (by rw [l2, ← l1]; exact z) fun h' tk as hk hlt hl hG => ?_
  have lak : as.length = ks.length := by omega
  have nd : as.Nodup := List.Pairwise.imp (fun h => Nat.ne_of_lt h) hG.rise
  have pr : ∀ (j : Nat) (b : Addr), as[j]? = some b → ∃ (e : Int × Int) (t1 t2 : Tok), ks[j]? = some e ∧ h'.get? b = some { cls := .type "tuple", data := .seq #[Value.int e.1 t1, Value.int e.2 t2] } := by
    intro j b hj
    obtain ⟨en, he, hg⟩ := hG.pairs j b hj
    rw [← Array.getElem?_toList] at he
    obtain ⟨kv, hkv, k1, k2⟩ := pairs_get hprs he
    obtain ⟨e0, he0, r1, r2⟩ := paired_get2 rel hkv
    rw [List.getElem?_map, Option.map_eq_some_iff] at he0
    obtain ⟨e, hke, rfl⟩ := he0
    have k1' : keyIs (Sum.inl e.1) en.key = true := by
      have : keyIs kv.1 en.key = true := k1
      rw [← r1] at this
      exact this
    obtain ⟨t2, ht2⟩ := (show RelV (V.int e.2) kv.2 from r2)
    rcases keyIs_shape k1' with ⟨i, t1, q1, q2⟩ | ⟨x, t1, q1, q2⟩
    · cases q1
      refine ⟨e, t1, t2, hke, ?_⟩
      rw [hg, q2, k2, ht2]
    · cases q1
  have hob : (h'.push { cls := .type "list", data := .seq (as.map Value.ref).toArray }).get? h'.objs.size = some (seqObj "list" (as.map Value.ref).toArray 0) := Heap.get?_push_size _ rfl
  have kb : ∀ b o, s.heap.get? b = some o → (h'.push { cls := .type "list", data := .seq (as.map Value.ref).toArray }).get? b = some o := fun b o e => Heap.get?_push_of_some _ (hk b o e)
  have ne0 : ∀ b o, h'.get? b = some o → b ≠ h'.objs.size := fun b o e => Nat.ne_of_lt (Heap.lt_size e)
  generalize hh2 : h'.push { cls := .type "list", data := .seq (as.map Value.ref).toArray } = h2 at hob kb ⊢
  have ka : ∀ b o, h'.get? b = some o → h2.get? b = some o := fun b o e => by rw [← hh2]; exact Heap.get?_push_of_some _ e
  have pv : ∀ (j : Nat) (b : Addr) (e : Int × Int), as[j]? = some b → ks[j]? = some e → prOf (as.zip ks) (.ref b) = e := fun j b e h1 h2 => by
    show ((as.zip ks).lookup b).getD (0, 0) = e
    rw [lookup_zip nd h1 h2]
    rfl
  have isP : ∀ v ∈ as.map Value.ref, Srt.IsPair h2 v (prOf (as.zip ks) v).1 (prOf (as.zip ks) v).2 := by
    intro v hv
    obtain ⟨b, hb, rfl⟩ := List.mem_map.mp hv
    obtain ⟨j, hj⟩ := List.mem_iff_getElem?.mp hb
    obtain ⟨e, t1, t2, he, hg⟩ := pr j b hj
    rw [pv j b e hj he]
    exact ⟨b, _, t1, t2, _, rfl, ka _ _ hg, rfl, rfl⟩
  have hvl : (as.map Value.ref).length = ks.length := by rw [List.length_map, lak]
  refine wpAny_call_entry PyProof.Rows.slot_list_sort ⟨_, hob, rfl⟩ PyProof.Rows.entry_list_sort
    (SrtO.list_sort_ord (ltv := fun v u => SrtO.lexB (prOf (as.zip ks) v) (prOf (as.zip ks) u)) (SrtO.swo_lex _) hob (by rw [hvl]; exact z)
      (fun h22 => SrtO.pairs_sortableO (s := { s with heap := h2, toks := tk }) (by omega) isP (fun o e c => by
        have : some o = some (seqObj "list" (as.map Value.ref).toArray 0) := e.symm.trans hob
        cases this
        injection c with c
        exact absurd c (by decide))) fun out o1 o2 => ⟨.none, rfl, ?_⟩) (PyProof.Rows.args_list_sort _)
  show EP X pins σ Q (.ref h'.objs.size) { s with heap := sortedHeap h2 h'.objs.size (as.map Value.ref) out.toArray, toks := tk }
  obtain ⟨zs, pz, ez⟩ := perm_lift (fun z : Addr × Int × Int => Value.ref z.1) o2.perm (as.zip ks) (by
    rw [show (fun z : Addr × Int × Int => Value.ref z.1) = Value.ref ∘ Prod.fst from rfl, ← List.map_map, List.map_fst_zip (by rw [lak]; exact Nat.le_refl _)])
  have idx : ∀ z ∈ zs, ∃ j : Nat, as[j]? = some z.1 ∧ ks[j]? = some z.2 := by
    intro z' hz'
    obtain ⟨j, hj⟩ := List.mem_iff_getElem?.mp (pz.mem_iff.mp hz')
    exact ⟨j, List.getElem?_zip_eq_some.mp hj⟩
  have hperm : (zs.map (·.2)).Perm ks := by
    have e := pz.map (·.2)
    have m2 : (as.zip ks).map (·.2) = ks := List.map_snd_zip (by rw [lak]; exact Nat.le_refl _)
    rw [m2] at e
    exact e
  have hsort : (zs.map (·.2)).Pairwise (fun e f => SrtO.lexB f e = false) := by
    have o1' : out.Pairwise (fun v u => SrtO.lexB (prOf (as.zip ks) u) (prOf (as.zip ks) v) = false) := o1
    rw [← ez, List.pairwise_map] at o1'
    rw [List.pairwise_map]
    refine List.Pairwise.imp_of_mem (fun {x y} hx hy h => ?_) o1'
    obtain ⟨j, j1, j2⟩ := idx x hx
    obtain ⟨i, i1, i2⟩ := idx y hy
    rw [pv j _ _ j1 j2, pv i _ _ i1 i2] at h
    exact h
  have kF : ∀ b o, b ≠ h'.objs.size → h2.get? b = some o → (sortedHeap h2 h'.objs.size (as.map Value.ref) out.toArray).get? b = some o := fun b o hb e => (PyProof.Rows.sortedHeap_old hb (Heap.lt_size e)).trans e
  have kS : ∀ b o, s.heap.get? b = some o → (sortedHeap h2 h'.objs.size (as.map Value.ref) out.toArray).get? b = some o := fun b o e => kF b o (ne0 _ _ (hk b o e)) (kb b o e)
  obtain ⟨eF, heF⟩ := PyProof.Rows.sortedHeap_at (vs := as.map Value.ref) (out := out.toArray) hob
  have I1 : Inv X pins σ H { s with heap := sortedHeap h2 h'.objs.size (as.map Value.ref) out.toArray, toks := tk } := I.kept (t' := tk) kS
  have hn0 : H h'.objs.size = none := I.hok.fresh (Nat.le_of_lt hlt)
  have hlen : (zs.map fun z => V.ref z.1).length ≤ sizeLine := by
    have e := hperm.length_eq
    rw [List.length_map] at e
    rw [List.length_map]
    omega
  have rv : Vals (zs.map fun z => V.ref z.1) out := by
    rw [← ez]
    exact vals_maps (fun z : Addr × Int × Int => V.ref z.1) (fun z => Value.ref z.1) zs fun _ _ => rfl
  have I2 : Inv X pins σ (upd H h'.objs.size (.lst (zs.map fun z => V.ref z.1))) { s with heap := sortedHeap h2 h'.objs.size (as.map Value.ref) out.toArray, toks := tk } :=
    I1.take (h' := sortedHeap h2 h'.objs.size (as.map Value.ref) out.toArray) (t' := tk) (fun b ob _ e => e) (I.fpOk (Nat.le_of_lt hlt) hn0) ⟨hlen, out, eF, rv, heF⟩
  obtain ⟨H2, I3, g, qt⟩ := takeT (P := fun b vs => ∃ (j : Nat) (e : Int × Int), as[j]? = some b ∧ ks[j]? = some e ∧ vs = [.int e.1, .int e.2]) I as _ I2 nd fun b hb => by
    obtain ⟨j, hj⟩ := List.mem_iff_getElem?.mp hb
    obtain ⟨e, t1, t2, he, hg⟩ := pr j b hj
    have hbl : s.heap.objs.size ≤ b := Nat.le_of_lt (hG.above b hb)
    refine ⟨hbl, ?_, [.int e.1, .int e.2], ⟨j, e, hj, he, rfl⟩, fun H3 => ⟨(by rw [sizeLine_eq]; show 2 ≤ 16777216; omega), [Value.int e.1 t1, Value.int e.2 t2], .cons ⟨t1, rfl⟩ (.cons ⟨t2, rfl⟩ .nil), ⟨_, kF _ _ (ne0 _ _ hg) (ka _ _ hg), rfl, 0, rfl⟩⟩⟩
    rw [upd_ne (ne0 _ _ hg)]
    exact I.hok.fresh hbl
  have gr : ∀ b o, H b = some o → H2 b = some o := fun b o e => g b o (by rw [upd_ne (ne_of_none e hn0)]; exact e)
  refine ⟨.ref h'.objs.size, H2, I3, rfl, q H2 h'.objs.size zs gr hn0 (fun z' hz' => ?_) hperm hsort (g _ _ upd_same) fun z' hz' => ?_⟩
  · obtain ⟨i, i1, i2⟩ := idx z' hz'
    exact I.hok.fresh (Nat.le_of_lt (hG.above _ (List.mem_of_getElem? i1)))
  · obtain ⟨i, i1, i2⟩ := idx z' hz'
    obtain ⟨vs, ⟨j, e, j1, j2, ev⟩, hH⟩ := qt z'.1 (List.mem_of_getElem? i1)
    have eij : i = j := (List.getElem?_inj (List.getElem?_eq_some_iff.mp i1).1 nd).mp (i1.trans j1.symm)
    subst eij
    have ee : e = z'.2 := Option.some.inj (j2.symm.trans i2)
    rw [ev, ee] at hH
    exact hH
end
end Rg
/-! own words: math.lcm of great numbers; the home of sizes -/
namespace Rg
open PySem L2 TL PySem.W PySem.Calls PyProof.Rows PySem.Spec
def rLcmW : List V → Hp → VK → Prop := fun vs H Q => ∃ a b : Nat, vs = [.int a, .int b] ∧ a.log2 < 13000 ∧ b.log2 < 13000 ∧ Q (.int ((Nat.lcm a b : Nat) : Int)) H
theorem log2_mono {a b : Nat} (h : a ≤ b) : a.log2 ≤ b.log2 := by
  by_cases h0 : a = 0
  · subst h0
    rw [Nat.log2_zero]
    exact Nat.zero_le _
  · exact (Nat.le_log2 (by omega)).mpr (Nat.le_trans (Nat.log2_self_le h0) h)
theorem lcm_log {a b : Nat} : (Nat.lcm a b).log2 ≤ a.log2 + b.log2 + 2 := by
  by_cases h0 : Nat.lcm a b = 0
  · rw [h0, Nat.log2_zero]
    exact Nat.zero_le _
  · have h1 : Nat.lcm a b < 2 ^ (a.log2 + 1 + (b.log2 + 1)) := by
      rw [Nat.pow_add]
      exact Nat.lt_of_le_of_lt (mc_lcm_le a b) (Nat.mul_lt_mul_of_lt_of_lt Nat.lt_log2_self Nat.lt_log2_self)
    have := (Nat.log2_lt h0).mpr h1
    omega
theorem cr_lcmW {X : Cx} : CallR X (.builtin "math.lcm") rLcmW := by
  intro pins s σ H vs us Q I r h
  obtain ⟨a, b, rfl, ha, hb, q⟩ := h
  obtain ⟨t, u, rfl⟩ := Vals.int2 r
  have hm : ∀ x y : Nat, x.log2 < 13000 → y.log2 < 13000 → (max x y).log2 < 13000 := fun x y h1 h2 => by
    rcases Nat.le_total x y with h | h
    · rw [Nat.max_eq_right h]; exact h2
    · rw [Nat.max_eq_left h]; exact h1
  have h1 : Nat.log2 1 < 13000 := by decide
  have e : Nat.lcm 1 a = a := by simp [Nat.lcm]
  refine call_function_meets MGF.kind_lcm MGF.plain_lcm MGF.entry_lcm (MGF.args_lcm _ _) (mg_run_lcm (a : Int) t (b : Int) u ?_ ?_ ?_).meets ?_
  · have := hm 1 a h1 ha
    show ¬ (max 1 a).log2 / 30 + 1 > 450
    omega
  · have := hm a b ha hb
    show ¬ (max a b).log2 / 30 + 1 > 450
    omega
  · show (((Nat.lcm 1 a).lcm b : Nat)).log2 < 2 ^ 27
    rw [e]
    have := lcm_log (a := a) (b := b)
    omega
  · show _
    refine ⟨.int ((Nat.lcm a b : Nat) : Int), H, I.tok _, ⟨s.toks, ?_⟩, q⟩
    show Value.int (((Nat.lcm 1 a).lcm b : Nat) : Int) _ = _
    rw [e]
end Rg
/-! own words: sizes: numbers counted by a key -/
namespace Rg
open PySem L2 TL
def totC (cs : List (Int × Int)) (l : Int) : Int := ((cs.filter fun e => decide (e.1 = l)).map (·.2)).sum
theorem totC_nil (l : Int) : totC [] l = 0 := rfl
theorem totC_snoc (cs : List (Int × Int)) (a b l : Int) : totC (cs ++ [(a, b)]) l = totC cs l + (if a = l then b else 0) := by
  unfold totC
  rw [List.filter_append, List.map_append, sum_appI]
  by_cases h : a = l
  · rw [List.filter_cons_of_pos (by rw [decide_eq_true_eq]; exact h), if_pos h]
    show _ + (b + 0) = _
    omega
  · rw [List.filter_cons_of_neg (by rw [decide_eq_true_eq]; exact h), if_neg h]
    rfl
theorem totC_none {cs : List (Int × Int)} {l : Int} (h : ∀ e ∈ cs, e.1 ≠ l) : totC cs l = 0 := by
  unfold totC
  rw [List.filter_eq_nil_iff.mpr (fun e he => by rw [decide_eq_true_eq]; exact h e he)]
  rfl
/-- a dict that counts -/
structure DcOf (cs ks : List (Int × Int)) : Prop where
  nd : (ks.map (·.1)).Nodup
  val : ∀ e ∈ ks, e.2 = totC cs e.1
  key : ∀ e ∈ cs, e.1 ∈ ks.map (·.1)
def putI (ks : List (Int × Int)) (l m : Int) : List (Int × Int) := if (ks.any fun e => decide (e.1 = l)) = true then ks.map (fun e => if e.1 = l then (e.1, m) else e) else ks ++ [(l, m)]
theorem inl_iff (a l : Int) : ((Sum.inl a : L2.Key) = Sum.inl l) ↔ a = l := ⟨fun h => by injection h, fun h => by rw [h]⟩
theorem put_ent (ks : List (Int × Int)) (l m : Int) : putK (ks.map entI) (Sum.inl l) (.int m) = (putI ks l m).map entI := by
  have e1 : ((ks.map entI).any fun kv => decide (kv.1 = Sum.inl l)) = ks.any fun e => decide (e.1 = l) := by
    rw [List.any_map]
    congr 1
    funext e
    exact decide_eq_decide.mpr (inl_iff e.1 l)
  unfold putK putI
  rw [e1]
  split
  · rw [List.map_map, List.map_map]
    refine List.map_congr_left fun e _ => ?_
    show (if (Sum.inl e.1 : L2.Key) = Sum.inl l then (Sum.inl e.1, V.int m) else entI e) = entI (if e.1 = l then (e.1, m) else e)
    by_cases h : e.1 = l
    · rw [if_pos ((inl_iff _ _).mpr h), if_pos h]
    · rw [if_neg (fun q => h ((inl_iff _ _).mp q)), if_neg h]
  · rw [List.map_append]
    rfl
theorem val_ent : ∀ (ks : List (Int × Int)) (l : Int), valV (ks.map entI) (Sum.inl l) = (ks.find? fun e => decide (e.1 = l)).map fun e => V.int e.2
  | [], _ => rfl
  | e :: ks, l => by
    rw [List.map_cons]
    by_cases h : e.1 = l
    · rw [valV_pos (show (entI e).1 = Sum.inl l from (inl_iff _ _).mpr h), List.find?_cons_of_pos (by rw [decide_eq_true_eq]; exact h)]
      rfl
    · rw [valV_neg (show ¬ (entI e).1 = Sum.inl l from fun q => h ((inl_iff _ _).mp q)), List.find?_cons_of_neg (by rw [decide_eq_true_eq]; exact h)]
      exact val_ent ks l
theorem DcOf.get {cs ks : List (Int × Int)} (D : DcOf cs ks) (l : Int) : (valV (ks.map entI) (Sum.inl l)).getD (.int 0) = .int (totC cs l) := by
  rw [val_ent]
  cases h : ks.find? fun e => decide (e.1 = l) with
  | none =>
    rw [totC_none fun e he q => ?_]
    · rfl
    · obtain ⟨e', he', q'⟩ := List.mem_map.mp (D.key e he)
      have := List.find?_eq_none.mp h e' he'
      rw [decide_eq_true_eq] at this
      exact this (q'.trans q)
  | some e =>
    have h1 := List.find?_some h
    rw [decide_eq_true_eq] at h1
    show V.int e.2 = _
    rw [D.val e (List.mem_of_find?_eq_some h), h1]
theorem DcOf.put {cs ks : List (Int × Int)} (D : DcOf cs ks) (l m : Int) : DcOf (cs ++ [(l, m)]) (putI ks l (totC cs l + m)) := by
  unfold putI
  split
  · rename_i h
    obtain ⟨e0, he0, hq0⟩ := List.any_eq_true.mp h
    rw [decide_eq_true_eq] at hq0
    have ek : (ks.map fun e => if e.1 = l then (e.1, totC cs l + m) else e).map (·.1) = ks.map (·.1) := by
      rw [List.map_map]
      refine List.map_congr_left fun e _ => ?_
      show (if e.1 = l then (e.1, totC cs l + m) else e).1 = e.1
      split <;> rfl
    refine ⟨by rw [ek]; exact D.nd, fun e he => ?_, fun e he => ?_⟩
    · obtain ⟨e', he', rfl⟩ := List.mem_map.mp he
      by_cases q : e'.1 = l
      · rw [if_pos q]
        show totC cs l + m = totC (cs ++ [(l, m)]) e'.1
        rw [totC_snoc, q, if_pos rfl]
      · rw [if_neg q, totC_snoc, if_neg (fun z => q z.symm), Int.add_zero]
        exact D.val e' he'
    · rw [ek]
      rcases List.mem_append.mp he with he | he
      · exact D.key e he
      · rw [List.mem_singleton.mp he]
        exact List.mem_map.mpr ⟨e0, he0, hq0⟩
  · rename_i h
    have h' : ∀ e ∈ ks, e.1 ≠ l := fun e he q => h (List.any_eq_true.mpr ⟨e, he, by rw [decide_eq_true_eq]; exact q⟩)
    have t0 : totC cs l = 0 := totC_none fun e he q => by
      obtain ⟨e', he', q'⟩ := List.mem_map.mp (D.key e he)
      exact h' e' he' (q'.trans q)
    refine ⟨?_, fun e he => ?_, fun e he => ?_⟩
    · rw [List.map_append, List.Nodup, List.pairwise_append]
      refine ⟨D.nd, List.pairwise_singleton _ _, fun a ha b hb q => ?_⟩
      obtain ⟨e', he', rfl⟩ := List.mem_map.mp ha
      rw [List.mem_singleton.mp hb] at q
      exact h' e' he' q
    · rcases List.mem_append.mp he with he | he
      · rw [totC_snoc, if_neg (fun z => h' e he z.symm), Int.add_zero]
        exact D.val e he
      · rw [List.mem_singleton.mp he]
        show totC cs l + m = totC (cs ++ [(l, m)]) l
        rw [totC_snoc, if_pos rfl]
    · rw [List.map_append]
      rcases List.mem_append.mp he with he | he
      · exact List.mem_append.mpr (.inl (D.key e he))
      · rw [List.mem_singleton.mp he]
        exact List.mem_append.mpr (.inr (List.mem_singleton.mpr rfl))
theorem putI_len (ks : List (Int × Int)) (l m : Int) : (putI ks l m).length ≤ ks.length + 1 := by
  unfold putI
  split
  · rw [List.length_map]; omega
  · rw [List.length_append]; exact Nat.le_refl _
/-- sizes: ascending, for each key with something what it comes to -/
structure SzOf (cs L : List (Int × Int)) : Prop where
  asc : L.Pairwise (fun e f => e.1 < f.1)
  mem : ∀ e, e ∈ L ↔ e.2 = totC cs e.1 ∧ 0 < e.2
theorem SzOf.uniq {cs L M : List (Int × Int)} (A : SzOf cs L) (B : SzOf cs M) : L = M := by
  have nd : ∀ {X : List (Int × Int)}, X.Pairwise (fun e f => e.1 < f.1) → X.Nodup := fun h => List.Pairwise.imp (fun {a b} h e => by rw [e] at h; omega) h
  have p : L.Perm M := (List.perm_ext_iff_of_nodup (nd A.asc) (nd B.asc)).mpr fun e => by rw [A.mem, B.mem]
  exact p.eq_of_pairwise (le := fun a b : Int × Int => a.1 < b.1) (fun a b _ _ h h' => absurd h (by omega)) A.asc B.asc
theorem SzOf.congr {cs cs' L : List (Int × Int)} (A : SzOf cs L) (h : ∀ l, totC cs l = totC cs' l) : SzOf cs' L := ⟨A.asc, fun e => by rw [A.mem, h]⟩
theorem szOf_sorted {cs ks L : List (Int × Int)} (D : DcOf cs ks) (p : L.Perm ks) (h : L.Pairwise fun e f => SrtO.lexB f e = false) : SzOf cs (L.filter fun e => decide (0 < e.2)) := by
  have ndk : (L.map (·.1)).Nodup := (p.map (·.1)).nodup_iff.mpr D.nd
  have hs : L.Pairwise (fun e f => e.1 < f.1) := by
    rw [List.Nodup, List.pairwise_map] at ndk
    refine (h.and ndk).imp fun {e f} q => ?_
    have q1 := SrtO.lexB_no.mp q.1
    have q2 := q.2
    omega
  refine ⟨List.Pairwise.filter _ hs, fun e => ?_⟩
  rw [List.mem_filter, decide_eq_true_eq, p.mem_iff]
  constructor
  · rintro ⟨h1, h2⟩
    exact ⟨D.val e h1, h2⟩
  · rintro ⟨h1, h2⟩
    refine ⟨?_, h2⟩
    have : ∃ c ∈ cs, c.1 = e.1 := by
      refine Classical.byContradiction fun q => ?_
      have := totC_none (cs := cs) (l := e.1) fun c hc z => q ⟨c, hc, z⟩
      omega
    obtain ⟨c, hc, hce⟩ := this
    obtain ⟨e', he', q'⟩ := List.mem_map.mp (D.key c hc)
    have v := D.val e' he'
    rw [q', hce, ← h1] at v
    have : e' = e := Prod.ext (q'.trans hce) v
    rw [← this]
    exact he'
/-- a list of pairs of numbers in memory -/
def PrAt (H0 H : Hp) (v : V) (e : Int × Int) : Prop := ∃ t, v = .ref t ∧ H t = some (.tup [.int e.1, .int e.2]) ∧ H0 t = none
theorem PrAt.same {H0 H H' : Hp} {v : V} {e : Int × Int} (L : PrAt H0 H v e) (s : Same H H') : PrAt H0 H' v e := by
  obtain ⟨t, h1, h2, h3⟩ := L
  exact ⟨t, h1, s _ _ h2, h3⟩
theorem PrAt.old {H0 H1 H : Hp} {v : V} {e : Int × Int} (L : PrAt H1 H v e) (s : Same H0 H1) : PrAt H0 H v e := by
  obtain ⟨t, h1, h2, h3⟩ := L
  exact ⟨t, h1, h2, s.free h3⟩
theorem PrAt.put {H0 H : Hp} {v : V} {e : Int × Int} (L : PrAt H0 H v e) {D : Addr} {o o' : HO} (h : H0 D = some o) : PrAt H0 (upd H D o') v e := by
  obtain ⟨t, h1, h2, h3⟩ := L
  exact ⟨t, h1, by rw [upd_ne (fun z => by rw [z, h] at h3; cases h3)]; exact h2, h3⟩
def PrsAt (H0 H : Hp) (p : Addr) (L : List (Int × Int)) : Prop := ∃ vs : List V, H p = some (.lst vs) ∧ H0 p = none ∧ Fa2 (PrAt H0 H) vs L
theorem PrsAt.same {H0 H H' : Hp} {p : Addr} {L : List (Int × Int)} (A : PrsAt H0 H p L) (s : Same H H') : PrsAt H0 H' p L := by
  obtain ⟨vs, h1, h2, h3⟩ := A
  exact ⟨vs, s _ _ h1, h2, h3.imp fun v e h => h.same s⟩
theorem PrsAt.old {H0 H1 H : Hp} {p : Addr} {L : List (Int × Int)} (A : PrsAt H1 H p L) (s : Same H0 H1) : PrsAt H0 H p L := by
  obtain ⟨vs, h1, h2, h3⟩ := A
  exact ⟨vs, h1, s.free h2, h3.imp fun v e h => h.old s⟩
def PrsIn (H : Hp) (p : Addr) (L : List (Int × Int)) : Prop := ∃ vs : List V, H p = some (.lst vs) ∧ Fa2 (fun v e => ∃ t, v = .ref t ∧ H t = some (.tup [.int e.1, .int e.2])) vs L
theorem PrsIn.same {H H' : Hp} {p : Addr} {L : List (Int × Int)} (A : PrsIn H p L) (s : Same H H') : PrsIn H' p L := by
  obtain ⟨vs, h1, h3⟩ := A
  exact ⟨vs, s _ _ h1, h3.imp fun v e ⟨t, h1, h2⟩ => ⟨t, h1, s _ _ h2⟩⟩
theorem PrsAt.in_ {H0 H : Hp} {p : Addr} {L : List (Int × Int)} (A : PrsAt H0 H p L) : PrsIn H p L := by
  obtain ⟨vs, h1, _, h3⟩ := A
  exact ⟨vs, h1, h3.imp fun v e ⟨t, h1, h2, _⟩ => ⟨t, h1, h2⟩⟩
/-- the home of walkers whose rings have such sizes -/
def homeN (L : List (Int × Int)) : Nat := L.foldl (fun r e => Nat.lcm r e.1.toNat) 1
theorem homeN_snoc (L : List (Int × Int)) (e : Int × Int) : homeN (L ++ [e]) = Nat.lcm (homeN L) e.1.toNat := by
  unfold homeN
  rw [List.foldl_append]
  rfl
theorem homeN_pos {L : List (Int × Int)} (h : ∀ e ∈ L, 0 < e.1) : ∀ i, 0 < homeN (L.take i)
  | 0 => by rw [List.take_zero]; exact Nat.one_pos
  | i + 1 => by
    by_cases hi : i < L.length
    · rw [List.take_succ_eq_append_getElem hi, homeN_snoc]
      have := h L[i] (List.getElem_mem hi)
      exact Nat.lcm_pos (homeN_pos h i) (by omega)
    · rw [List.take_of_length_le (by omega)]
      have := homeN_pos h i
      rw [List.take_of_length_le (by omega)] at this
      exact this
theorem homeN_lt {L : List (Int × Int)} {k : Nat} (h : ∀ e ∈ L, 0 < e.1 ∧ e.1.toNat < 2 ^ k) : ∀ i, i ≤ L.length → homeN (L.take i) ≤ 2 ^ (k * i)
  | 0, _ => by
    rw [List.take_zero, Nat.mul_zero]
    exact Nat.le_refl _
  | i + 1, hi => by
    rw [List.take_succ_eq_append_getElem (by omega), homeN_snoc, Nat.mul_succ, Nat.pow_add]
    exact Nat.le_trans (PySem.W.mc_lcm_le _ _) (Nat.mul_le_mul (homeN_lt h i (by omega)) (Nat.le_of_lt (h _ (List.getElem_mem (by omega))).2))
theorem log_pow {a m : Nat} (h : a ≤ 2 ^ m) : a.log2 ≤ m := by
  by_cases h0 : a = 0
  · subst h0
    rw [Nat.log2_zero]
    exact Nat.zero_le _
  · have := (Nat.log2_lt (k := m + 1) h0).mpr (Nat.lt_of_le_of_lt h (Nat.pow_lt_pow_right (by decide) (Nat.lt_succ_self m)))
    omega
/-- rings by their lengths -/
def lensC (L : List (List Int)) : List (Int × Int) := L.map fun r => ((r.length : Int), 1)
end Rg
/-! own words: set(l) of a list of numbers -/
namespace Rg
open PySem PySem.Spec PyProof.Rows L2
/-- the set as it is made, empty -/
abbrev set00 (w : World) : Obj := { cls := .type "set", dict := none, data := .set #[] 0 (.fresh 0 0 (!w.params.followText "set-order")) }
section
variable {P : Program} {w : World} {A : Around} {E : Value → Shared → Prop} {s : Shared}
theorem set_of_listI {l : Addr} {us : Array Value} (ns : List Int) {Q : Value → Shared → Prop} (hh : A.handled = none) (hl : s.heap.IsList l us) (hu : IntsAre us.toList ns) (hb : ns.length + 1 < scanBound)
    (fin : ∀ (h' : Heap) (tk c : Nat), SetR w h' s.heap.objs.size (fun j => decide (j ∈ ns)) c → c ≤ ns.length → (∀ b o, s.heap.get? b = some o → h'.get? b = some o) → Q (.ref s.heap.objs.size) { s with heap := h', toks := tk }) :
    wpAny (model P w) A (call (.type "set") [.ref l]) Q E s := by
  have usz : us.size = ns.length := by
    have q := IntsAre.length hu
    rwa [Array.length_toList] at q
  have sl : l < s.heap.objs.size := by
    obtain ⟨o, ho, _⟩ := hl
    exact Heap.lt_size ho
  obtain ⟨_, _, hmro⟩ := F.called_set.mro
  have hmade := F.called_set.made
  have hsub := F.called_set.sub
  have h1 := F.called_set.notType
  have h2 := F.called_set.canCreate
  have hct := F.typeCall_set_1 (.ref l)
  have hli := F.called_set.init.lookup
  have hbi := F.called_set.init.bind (.ref s.heap.objs.size)
  refine wpAny_call (codeAny_of_tree (wpAny_pure ⟨Code.quiet_builtin _ (by decide +kernel), codeAny_builtin F.entry_type_call ?_⟩))
  rw [Around.under_plain (weight_type_call_type "set" [.ref l] []) rfl]
  repeat (any_goals (first | assumption | wp_step))
  refine codeAny_mono (code_set_led1 (.ref l) (E := E) (Q₁ := fun v s₁ => v = .ref s.heap.objs.size ∧ s₁ = { s with heap := s.heap.push (set00 w) }) ⟨rfl, rfl⟩) fun r s₁ hr => ?_
  rcases r with e | fl
  · exact hr
  cases fl with
  | ret v =>
    obtain ⟨rfl, rfl⟩ := hr
    have at0 : (s.heap.push (set00 w)).get? s.heap.objs.size = some (set00 w) := Heap.get?_push_size _ rfl
    have sz1 : (s.heap.push (set00 w)).objs.size = s.heap.objs.size + 1 := Heap.size_push ..
    repeat (any_goals (first | assumption | wp_step))
    refine codeAny_mono (codeAny_call_builtin (R := wants (fun r s₂ => r = .none ∧ ∃ h' tk c, s₂ = { s with heap := h', toks := tk } ∧ SetR w h' s.heap.objs.size (fun j => decide (j ∈ ns)) c ∧ c ≤ ns.length ∧ (∀ b o, s.heap.get? b = some o → h'.get? b = some o)) E)
      F.called_set.init.plain F.entry_set_init (check_set_init_1 (⟨_, at0, rfl⟩ : Shared.TypeIs { s with heap := s.heap.push (set00 w) } (.ref s.heap.objs.size) "set") ?_)) fun r₂ s₂ hr₂ => ?_
    · have hl1 : (s.heap.push (set00 w)).IsList l us := hl.push _
      have hcl : ∃ o, (s.heap.push (set00 w)).get? l = some o ∧ o.cls = .type "list" := by
        obtain ⟨o, ho, hc, _⟩ := hl1
        exact ⟨o, ho, hc⟩
      obtain ⟨⟨oc, od, odt, osl⟩, hol, hoc⟩ := hcl
      simp only at hoc
      subst hoc
      have k1 := F.sub_list_set
      have k2 := F.sub_list_frozenset
      have k3 : (Value.type "list" == Value.type "dict") = false := by decide
      unfold Builtin.«set.__init__» noKeywords Builtin.Frozenset.updateFrom
      generalize hPI : pyIter = PI
      wp_walk
      subst hPI
      refine wpAny_pyIter_list hl1 (wpAny_bind (wpAny_runValue ?_))
      refine set_update_ints ((Walks.list (by simp [hh]) _ l (by rw [sz1]; exact Nat.ne_of_lt (Nat.lt_succ_of_lt sl)) us).toS) s.heap.objs.size (by rw [sz1]; simp only [List.mem_cons, List.not_mem_nil, or_false, not_or]; exact ⟨Nat.ne_of_lt (Nat.lt_succ_self _), Nat.ne_of_gt sl⟩) ns usz hb (fun i v hv => ?_) (us.size - 0) 0 _ (by omega) (Nat.zero_le _)
        ⟨⟨_, Heap.get?_push_size _ rfl, rfl, rfl⟩, hl1.push _⟩ ⟨0, Nat.le_refl 0, setR_new_at (Heap.get?_push_of_some _ at0)⟩ fun s' c hm hc hS => ?_
      · have hi : i < ns.length := usz ▸ (Array.getElem?_eq_some_iff.mp hv).1
        obtain ⟨t, e⟩ := IntsAre.int_at hu i v (by rw [Array.getElem?_toList]; exact hv)
        exact ⟨ns[i], t, List.getElem?_eq_getElem hi, by rw [e, List.getD_eq_getElem?_getD, List.getElem?_eq_getElem hi]; rfl⟩
      · obtain ⟨h', g', d', tk, os'⟩ := s'
        obtain rfl : g' = s.gens := hm.gens
        obtain rfl : d' = s.drawn := hm.drawn
        obtain rfl : os' = s.os := hm.os
        show wpAny _ _ _ _ _ _
        refine wpAny_pure ?_
        show wpAny _ _ (ret Value.none) _ _ _
        refine wpAny_pure (⟨rfl, h', tk, c, rfl, hS, usz ▸ hc, fun b o e => hm.heap b o ?_ (Heap.get?_push_of_some _ (Heap.get?_push_of_some _ e))⟩)
        have lb := Heap.lt_size e
        rw [sz1]
        simp only [List.mem_cons, List.not_mem_nil, or_false, not_or]
        exact ⟨Nat.ne_of_lt lb, Nat.ne_of_lt (Nat.lt_succ_of_lt lb)⟩
    · rcases r₂ with e | fl₂
      · exact hr₂
      cases fl₂ with
      | ret r =>
        obtain ⟨rfl, h', tk, c, rfl, hS, hc, hk⟩ := hr₂
        repeat (any_goals (first | assumption | wp_step))
        exact fin _ _ _ hS hc hk
      | _ => exact hr₂.elim
  | _ => exact hr.elim
end
section
variable {X : Cx}
def rSetL (K : PySem.W.Frag) (w : World) : List V → Hp → VK → Prop := fun xs H Q => ∃ (l : Addr) (ns : List Int), xs = [V.ref l] ∧ SqL K H l (ns.map V.int) ∧ ns.length < 4000 ∧
  ∀ (a : Addr) (ks : List Int), H a = none → ks.Nodup → (∀ k, k ∈ ks ↔ k ∈ ns) → Q (.ref a) (upd H a (SetO w a (fun j => decide (j ∈ ns)) ks.length))
theorem cr_setL (hc : X.calm = true) : CallR X (.type "set") (rSetL X.K X.w) := by
  intro pins s σ H xs us Q I r h
  obtain ⟨l, ns, rfl, hl, hn, q⟩ := h
  rw [Vals.ref1 r]
  obtain ⟨its, rv, pl, hz⟩ := I.list hl
  have hf : H s.heap.objs.size = none := I.hok.fresh (Nat.le_refl _)
  refine set_of_listI (P := X.prog) (w := X.w) ns (I.ok.hd hc) pl.isList (by simpa using rv.ints) (by unfold scanBound; omega) fun h' tk c R hc' hk => ?_
  obtain ⟨ks, nd, hks, rfl⟩ : ∃ ks : List Int, ks.Nodup ∧ (∀ k, k ∈ ks ↔ k ∈ ns) ∧ ks.length = c := by
    obtain ⟨_, es, _, _, _, _, _, _, nd, hm, _, _, hn, _⟩ := R
    refine ⟨_, nd, fun k => (hm k).symm.trans decide_eq_true_iff, ?_⟩
    rw [List.length_map, Array.length_toList]
    exact hn
  exact ⟨.ref s.heap.objs.size, upd H s.heap.objs.size (SetO X.w s.heap.objs.size (fun j => decide (j ∈ ns)) ks.length), I.laid (t' := tk) hk (Nat.le_refl _) (setO_new R), rfl, q _ ks hf nd hks⟩
end
end Rg
/-! own words: the lengths of the rings are few; a ring, turned -/
namespace Rg
open PySem L2 TL
theorem asc_sum : ∀ (ks : List Int) (b : Int), ks.Pairwise (· < ·) → (∀ k ∈ ks, b ≤ k) → (ks.length : Int) * (2 * b + ks.length - 1) ≤ 2 * ks.sum
  | [], b, _, _ => by simp
  | k :: ks, b, h, hb => by
    rw [List.pairwise_cons] at h
    have h0 := hb k (.head _)
    have ih := asc_sum ks (b + 1) h.2 fun x hx => by
      have := h.1 x hx
      omega
    rw [List.sum_cons, List.length_cons]
    have e : ((ks.length + 1 : Nat) : Int) * (2 * b + (ks.length + 1 : Nat) - 1) = (ks.length : Int) * (2 * (b + 1) + ks.length - 1) + 2 * b := by
      rw [Int.natCast_add]
      generalize (ks.length : Int) = m
      show (m + 1) * (2 * b + (m + 1) - 1) = _
      have e1 : 2 * b + (m + 1) - 1 = 2 * b + m := by omega
      have e2 : 2 * (b + 1) + m - 1 = 2 * b + m + 1 := by omega
      rw [e1, e2, Int.add_mul, Int.mul_add m (2 * b + m) 1]
      omega
    omega
theorem perm_sum {as bs : List Int} (p : as.Perm bs) : as.sum = bs.sum := by
  induction p with
  | nil => rfl
  | cons x _ ih => rw [List.sum_cons, List.sum_cons, ih]
  | swap x y l =>
    simp only [List.sum_cons]
    omega
  | trans _ _ h1 h2 => exact h1.trans h2
theorem sub_sum : ∀ (ks ls : List Int), ks.Nodup → (∀ k ∈ ks, k ∈ ls) → (∀ l ∈ ls, 0 ≤ l) → ks.sum ≤ ls.sum
  | [], ls, _, _, h => by
    rw [List.sum_nil]
    induction ls with
    | nil => simp
    | cons l ls ih =>
      rw [List.sum_cons]
      have := ih (fun _ h => nomatch h) fun x hx => h x (.tail _ hx)
      have := h l (.head _)
      omega
  | k :: ks, ls, nd, h, h0 => by
    rw [List.nodup_cons] at nd
    have p := List.perm_cons_erase (h k (.head _))
    have ih := sub_sum ks (ls.erase k) nd.2 (fun x hx => by
      have hx' : x ∈ k :: ls.erase k := p.mem_iff.mp (h x (.tail _ hx))
      rcases List.mem_cons.mp hx' with rfl | hx'
      · exact absurd hx nd.1
      · exact hx') fun x hx => h0 x (List.mem_of_mem_erase hx)
    have e := perm_sum p
    rw [List.sum_cons] at e
    rw [List.sum_cons, e]
    omega
theorem few {ks ls : List Int} (nd : ks.Nodup) (h : ∀ k ∈ ks, k ∈ ls) (h1 : ∀ l ∈ ls, 1 ≤ l) (tot : ls.sum ≤ 2000) : ks.length < 64 := by
  refine Nat.lt_of_not_le fun hc => ?_
  have p := List.mergeSort_perm ks (fun a b => decide (a ≤ b))
  have nd' : (ks.mergeSort fun a b => decide (a ≤ b)).Nodup := p.nodup_iff.mpr nd
  have pw : (ks.mergeSort fun a b => decide (a ≤ b)).Pairwise fun a b => decide (a ≤ b) = true := List.pairwise_mergeSort (fun a b c h1 h2 => by
    rw [decide_eq_true_eq] at *
    omega) (fun a b => by
    rw [Bool.or_eq_true, decide_eq_true_eq, decide_eq_true_eq]
    omega) ks
  have asc : (ks.mergeSort fun a b => decide (a ≤ b)).Pairwise (· < ·) := List.Pairwise.imp₂ (fun a b h ne => by
    have := of_decide_eq_true h
    omega) pw nd'
  have s1 := asc_sum _ 1 asc fun k hk => h1 k (h k (p.mem_iff.mp hk))
  have s2 := sub_sum ks ls nd h fun l hl => by
    have := h1 l hl
    omega
  rw [p.length_eq, perm_sum p] at s1
  have s3 : (64 : Int) * 64 ≤ (ks.length : Int) * (2 * 1 + ks.length - 1) := Int.mul_le_mul (by omega) (by omega) (by omega) (by omega)
  omega
def lensI (L : List (List Int)) : List Int := L.map fun r => (r.length : Int)
theorem lens_sum : ∀ L : List (List Int), (lensI L).sum = (L.flatten.length : Int)
  | [] => rfl
  | r :: L => by
    show (r.length : Int) + (lensI L).sum = _
    rw [lens_sum L, List.flatten_cons, List.length_append]
    omega
theorem totC_lens : ∀ (L : List (List Int)) (l : Int), totC (lensC L) l = ((lensI L).count l : Nat)
  | [], l => rfl
  | r :: L, l => by
    have ih := totC_lens L l
    unfold totC lensC lensI at *
    rw [List.map_cons, List.map_cons, List.filter_cons, List.count_cons]
    by_cases h : ((r.length : Int) = l)
    · rw [if_pos (by simpa using h), List.map_cons, List.sum_cons, ih]
      rw [if_pos (by simpa using h)]
      omega
    · rw [if_neg (by simpa using h), if_neg (by simpa using h), ih]
      rfl
/-- the lengths in their order, each with how often it is there -/
theorem szOf_count {L : List (List Int)} {ns : List Int} (asc : ns.Pairwise (· < ·)) (h : ∀ k, k ∈ ns ↔ k ∈ lensI L) : SzOf (lensC L) (ns.map fun l => (l, ((lensI L).count l : Int))) where
  asc := by
    rw [List.pairwise_map]
    exact asc
  mem := by
    rintro ⟨l, m⟩
    rw [totC_lens, List.mem_map]
    constructor
    · rintro ⟨x, hx, e⟩
      injection e with e1 e2
      subst e1 e2
      have := List.count_pos_iff.mpr ((h x).mp hx)
      exact ⟨rfl, by show (0 : Int) < _; omega⟩
    · rintro ⟨e, h0⟩
      have e : m = ((lensI L).count l : Nat) := e
      have h0 : 0 < m := h0
      subst e
      exact ⟨l, (h l).mpr (List.count_pos_iff.mp (by omega)), rfl⟩
variable {n : Nat} {f : Int → Int}
theorem Cyc.len_it (C : Cyc n f) {c : Int} (h0 : 0 ≤ c) (h1 : c < n) (i : Nat) : ringLen f n (itG f i c) = ringLen f n c := by
  have c1 := C.it h0 h1 i
  have p := C.nodup h0 h1
  have q := C.nodup c1.1 c1.2
  have m : itG f i c ∈ ringOf f n c := C.any h0 h1 i
  have e : (ringOf f n (itG f i c)).Perm (ringOf f n c) := (List.perm_ext_iff_of_nodup q p).mpr fun z => ⟨fun h => C.trans h0 h1 m h, fun h => C.trans c1.1 c1.2 (C.back h0 h1 m) h⟩
  have := e.length_eq
  rw [ring_len, ring_len] at this
  exact this
theorem itG_add' (f : Int → Int) (i j : Nat) (c : Int) : itG f (i + j) c = itG f j (itG f i c) := by
  induction j with
  | zero => rfl
  | succ j ih =>
    show f (itG f (i + j) c) = f (itG f j (itG f i c))
    rw [ih]
theorem Cyc.turn (C : Cyc n f) {c : Int} (h0 : 0 ≤ c) (h1 : c < n) {i : Nat} (hi : i < ringLen f n c) : (ringOf f n c).drop i ++ (ringOf f n c).take i = ringOf f n (itG f i c) := by
  have c1 := C.it h0 h1 i
  have e := C.len_it h0 h1 i
  refine List.ext_getElem? fun j => ?_
  rw [List.getElem?_append, List.length_drop, ring_len]
  by_cases hj : j < ringLen f n c - i
  · rw [if_pos hj, List.getElem?_drop, ring_get (by omega), ring_get (by omega), itG_add']
  · rw [if_neg hj]
    by_cases hj2 : j < ringLen f n c
    · rw [List.getElem?_take_of_lt (by omega), ring_get (by omega), ring_get (by omega), ← itG_add', C.mod h0 h1 (i + j)]
      congr 1
      rw [show i + j = (j - (ringLen f n c - i)) + ringLen f n c by omega, Nat.add_mod_right, Nat.mod_eq_of_lt (by omega)]
    · rw [List.getElem?_eq_none (by rw [List.length_take, ring_len]; omega), List.getElem?_eq_none (by rw [ring_len]; omega)]
/-- rings in memory, wherever they come from -/
def RgsIn (H : Hp) (p : Addr) (L : List (List Int)) : Prop := ∃ vs : List V, H p = some (.lst vs) ∧ Fa2 (fun v e => ∃ r, v = .ref r ∧ H r = some (.lst (e.map V.int))) vs L
theorem RgsIn.same {H H' : Hp} {p : Addr} {L : List (List Int)} (A : RgsIn H p L) (s : Same H H') : RgsIn H' p L := by
  obtain ⟨vs, h1, h2⟩ := A
  exact ⟨vs, s _ _ h1, h2.imp fun v e ⟨r, h3, h4⟩ => ⟨r, h3, s _ _ h4⟩⟩
theorem RgsAt.in_ {H0 H : Hp} {p : Addr} {L : List (List Int)} (A : RgsAt H0 H p L) : RgsIn H p L := by
  obtain ⟨vs, h1, _, h2⟩ := A
  exact ⟨vs, h1, h2.imp fun v e h => by
    obtain ⟨r, h3, h4, _⟩ := h.ex
    exact ⟨r, h3, h4⟩⟩
theorem Cyc.rings_ok (C : Cyc n f) : (∀ e ∈ ringsL f n, e ≠ []) ∧ (ringsL f n).flatten.length ≤ n ∧ (ringsL f n).length ≤ n := by
  refine ⟨fun e he => ?_, ?_, ?_⟩
  · unfold ringsL at he
    obtain ⟨c, hc, rfl⟩ := List.mem_map.mp he
    obtain ⟨c0, c1, _⟩ := mem_heads.mp hc
    have := (C.pos c0 c1).1
    intro h
    have e := ring_len f n c
    rw [h] at e
    simp at e
    omega
  · have := C.rings_len (heads f n).length
    rw [List.take_length] at this
    exact this
  · unfold ringsL
    rw [List.length_map]
    exact heads_len _ _
theorem few_lens {L : List (List Int)} {ks : List Int} (nd : ks.Nodup) (h : ∀ k ∈ ks, k ∈ lensI L) (h1 : ∀ e ∈ L, e ≠ []) (tot : L.flatten.length ≤ 2000) : ks.length < 64 :=
  few nd h (fun l hl => by
    unfold lensI at hl
    obtain ⟨r, hr, rfl⟩ := List.mem_map.mp hl
    have := List.length_pos_iff.mpr (h1 r hr)
    omega) (by rw [lens_sum]; omega)
theorem RgsAt.put {H0 H : Hp} {p : Addr} {L : List (List Int)} (A : RgsAt H0 H p L) {D : Addr} {o o' : HO} (h : H0 D = some o) : RgsAt H0 (upd H D o') p L := by
  obtain ⟨vs, h1, h2, h3⟩ := A
  exact ⟨vs, by rw [upd_ne (fun z => by rw [z, h] at h2; cases h2)]; exact h1, h2, h3.imp fun v e q => q.put h⟩
theorem PrsAt.old' {H0 H : Hp} {p : Addr} {L : List (Int × Int)} (A : PrsAt H0 H p L) : H0 p = none ∧ ∃ vs, H p = some (.lst vs) ∧ vs.length = L.length := by
  obtain ⟨vs, h1, h2, h3⟩ := A
  exact ⟨h2, vs, h1, h3.1⟩
theorem RgsAt.old2 {H0 H1 H : Hp} {p : Addr} {L : List (List Int)} (A : RgsAt H1 H p L) (f : ∀ x, H1 x = none → H0 x = none) : RgsAt H0 H p L := by
  obtain ⟨vs, h1, h2, h3⟩ := A
  refine ⟨vs, h1, f _ h2, h3.imp fun v e h => ?_⟩
  obtain ⟨r, h4, h5, h6⟩ := h.ex
  exact ⟨r, h4, h5, f _ h6⟩
end Rg
/-! own words: sorted of a list of lists, of tuples .. -/
namespace Rg
open PySem PySem.Spec PyProof.Rows L2 PySem.W
def rSortedD (K : PySem.W.Frag) : List V → Hp → VK → Prop := fun vs H Q => ∃ (α : Type) (vf : α → V) (enc : α → PyData) (a : Addr) (bs : List α),
  vs = [.ref a] ∧ SqL K H a (bs.map vf) ∧ (∀ b ∈ bs, Dp K H (vf b) (enc b)) ∧ AllAlike (bs.map enc) ∧ Sortable (bs.map enc) ∧ (∀ b ∈ bs, (enc b).depth ≤ 60) ∧
  ∀ p, H p = none → Q (.ref p) (upd H p (.lst ((bs.mergeSort (dataLe false enc)).map vf)))
theorem each_of_vals {α : Type} {vf : α → V} : ∀ {bs : List α} {us : List Value}, Vals (bs.map vf) us → EachIs (fun v b => RelV (vf b) v) us bs
  | [], us, h => by cases h; exact .nil
  | b :: bs, us, h => by
    have h' : Vals (vf b :: bs.map vf) us := h
    cases h' with
    | cons h1 h2 => exact .cons h1 (each_of_vals h2)
theorem vals_of_each {α : Type} {vf : α → V} : ∀ {us : List Value} {bs : List α}, EachIs (fun v b => RelV (vf b) v) us bs → Vals (bs.map vf) us
  | _, _, .nil => .nil
  | _, _, .cons h1 h2 => .cons h1 (vals_of_each h2)
section
variable {X : Cx}
theorem cr_sortedD (hu : X.A.units + 64 < cLine) : CallR X (.builtin "sorted") (rSortedD X.K) := by
  intro pins s σ H vs us Q I r h
  obtain ⟨α, vf, enc, a, bs, rfl, hs, hd, hal, hk, hdp, q⟩ := h
  obtain ⟨its, rv, hl, hz⟩ := I.list hs
  rw [Vals.ref1 r]
  rw [List.length_map] at hz
  have e := each_of_vals rv
  have er : EachIs (fun v b => ∃ as, Reads s.heap v (enc b) as) its bs := (each_mem e).mono fun v b ⟨h1, hb⟩ => Dp.reads I (enc b) (vf b) v (hd b hb) h1
  refine sorted_data hl.isList e er hal hk hz (fun b hb => by have := hdp b hb; omega) fun out ho eo => ?_
  obtain ⟨ep, he'⟩ := PyProof.Rows.sortedAll_at s.heap its out.toArray
  have hlen : ((bs.mergeSort (dataLe false enc)).map vf).length ≤ sizeLine := by
    rw [List.length_map, List.length_mergeSort]
    exact hz
  exact ⟨.ref _, upd H (s.heap.objs.size + 1) (.lst ((bs.mergeSort (dataLe false enc)).map vf)), I.laid (t' := s.toks) (fun _ _ => PyProof.Rows.sortedAll_old) (Nat.le_succ _) ⟨hlen, out, ep, vals_of_each eo, he'⟩, rfl, q _ (I.hok.fresh (Nat.le_succ _))⟩
end
end Rg
/-! own words: lists of lists of numbers: the same, sorted; a list told from its least entry on -/
namespace Rg
open PySem L2 TL PySem.W
def intssD (L : List (List Int)) : PyData := .list (L.map intsD)
theorem intss_inj : ∀ {L M : List (List Int)}, L.map intsD = M.map intsD → L = M
  | [], [], _ => rfl
  | [], _ :: _, h => by cases h
  | _ :: _, [], h => by cases h
  | x :: L, y :: M, h => by
    rw [List.map_cons, List.map_cons] at h
    injection h with h1 h2
    rw [intsD_inj h1, intss_inj h2]
theorem plain_intss : ∀ L : List (List Int), plainIs (L.map intsD) = true
  | [] => rfl
  | x :: L => by
    show (plainI (intsD x) && plainIs (L.map intsD)) = true
    rw [plain_intss L, (pl_ints x).p]
    rfl
theorem depth_intss : ∀ L : List (List Int), PyData.depthAll (L.map intsD) ≤ 2
  | [] => by simp [PyData.depthAll]
  | x :: L => by
    show PyData.depthAll (intsD x :: L.map intsD) ≤ 2
    have h1 := depth_intss L
    have h2 : (intsD x).depth ≤ 2 := by
      unfold intsD
      simp only [PyData.depth]
      have := depth_ints1 x
      omega
    rw [PyData.depthAll]
    omega
theorem pl_intss (L : List (List Int)) : PlD (intssD L) := ⟨plain_intss L, by
  have := depth_intss L
  unfold intssD
  simp only [PyData.depth]
  omega⟩
theorem dpAll_ofL {K : PySem.W.Frag} {H : Hp} : ∀ {vs : List V} {L : List (List Int)}, Fa2 (fun v e => ∃ r, v = .ref r ∧ H r = some (.lst (e.map V.int))) vs L → DpAll K H vs (L.map intsD)
  | [], [], _ => .nil
  | [], _ :: _, h => by
    have := h.1
    cases this
  | _ :: _, [], h => by
    have := h.1
    cases this
  | v :: vs, e :: L, h => by
    obtain ⟨r, rfl, hr⟩ := h.2 0 v e rfl rfl
    exact .cons (dp_intsL hr) (dpAll_ofL ⟨by
      have := h.1
      simpa using this, fun i v e h1 h2 => h.2 (i + 1) v e h1 h2⟩)
theorem dp_intss {K : PySem.W.Frag} {H : Hp} {p : Addr} {L : List (List Int)} (h : RgsIn H p L) : Dp K H (.ref p) (intssD L) := by
  obtain ⟨vs, hp, hv⟩ := h
  exact .lst (SqL.of hp) (dpAll_ofL hv)
theorem rd_eqLL {K : PySem.W.Frag} {H : Hp} {p q : Addr} {L M : List (List Int)} {Q : VK} (hp : RgsIn H p L) (hq : RgsIn H q M) (k : Q (.bl (decide (L = M))) H) : rEqD K (.ref p) (.ref q) H Q :=
  rd_eqD (dp_intss hp) (dp_intss hq) (pl_intss _) (pl_intss _) (fun e => by
    have e' : L = M := intss_inj (by unfold intssD at e; injection e)
    rw [decide_eq_true e'] at k; exact k) (fun n => by rw [decide_eq_false (fun e => n (by rw [e]))] at k; exact k)
theorem rd_neLL {K : PySem.W.Frag} {H : Hp} {p q : Addr} {L M : List (List Int)} {Q : VK} (hp : RgsIn H p L) (hq : RgsIn H q M) (k : Q (.bl (!decide (L = M))) H) : rNeD K (.ref p) (.ref q) H Q :=
  rd_neD (dp_intss hp) (dp_intss hq) (pl_intss _) (pl_intss _) (fun e => by
    have e' : L = M := intss_inj (by unfold intssD at e; injection e)
    rw [decide_eq_true e'] at k; exact k) (fun n => by rw [decide_eq_false (fun e => n (by rw [e]))] at k; exact k)
abbrev sortLL (L : List (List Int)) : List (List Int) := L.mergeSort fun a b => decide (a ≤ b)
theorem rd_sortLL {K : PySem.W.Frag} {H : Hp} {p : Addr} {L : List (List Int)} {Q : VK} (hp : RgsIn H p L) (k : ∀ q H', Same H H' → H q = none → RgsIn H' q (sortLL L) → Q (.ref q) H') : rSortedD K [.ref p] H Q := by
  obtain ⟨vs, hv, hL⟩ := hp
  have e1 : (vs.zip L).map Prod.fst = vs := List.map_fst_zip (by rw [hL.1]; exact Nat.le_refl _)
  have e2 : (vs.zip L).map Prod.snd = L := List.map_snd_zip (by rw [hL.1]; exact Nat.le_refl _)
  have inz : ∀ b ∈ vs.zip L, ∃ r, b.1 = V.ref r ∧ H r = some (.lst (b.2.map V.int)) := fun b hb => by
    obtain ⟨j, hj⟩ := List.mem_iff_getElem?.mp hb
    obtain ⟨h1, h2⟩ := List.getElem?_zip_eq_some.mp hj
    exact hL.2 j _ _ h1 h2
  refine ⟨V × List Int, Prod.fst, fun b => intsD b.2, p, vs.zip L, rfl, by rw [e1]; exact SqL.of hv, fun b hb => ?_, fun d hd d' hd' => ?_, Sortable.others fun b => ⟨fun z => (by cases z), fun xs z => (by cases z)⟩, fun b hb => ?_, fun q zq => ?_⟩
  · obtain ⟨r, h1, h2⟩ := inz b hb
    rw [h1]
    exact dp_intsL h2
  · obtain ⟨b, _, rfl⟩ := List.mem_map.mp hd
    obtain ⟨b', _, rfl⟩ := List.mem_map.mp hd'
    show alike (.list (b.2.map .int)) (.list (b'.2.map .int)) = true
    rw [alike]
    exact alike_ints _ _
  · unfold intsD
    simp only [PyData.depth]
    have := depth_ints1 b.2
    omega
  · have eo : dataLe false (fun b : V × List Int => intsD b.2) = fun p q => decide (p.2 ≤ q.2) := dataLe_rows (fun b : V × List Int => b.2)
    rw [eo]
    generalize eS : (vs.zip L).mergeSort (fun p q => decide (p.2 ≤ q.2)) = S
    have pS : S.Perm (vs.zip L) := eS ▸ List.mergeSort_perm _ _
    have eL : S.map Prod.snd = sortLL L := by
      have h := List.map_mergeSort (f := Prod.snd) (r := fun p q : V × List Int => decide (p.2 ≤ q.2)) (s := fun a b : List Int => decide (a ≤ b)) (l := vs.zip L) (fun a _ b _ => rfl)
      rw [e2, eS] at h
      exact h
    have s1 : Same H (upd H q (.lst (S.map Prod.fst))) := Same.upd zq
    refine k q _ s1 zq ⟨S.map Prod.fst, upd_same, ?_⟩
    rw [← eL]
    refine ⟨by rw [List.length_map, List.length_map], fun i v e h1 h2 => ?_⟩
    rw [List.getElem?_map, Option.map_eq_some_iff] at h1 h2
    obtain ⟨b, hb, rfl⟩ := h1
    obtain ⟨b', hb', rfl⟩ := h2
    rw [hb] at hb'
    obtain rfl := Option.some.inj hb'
    obtain ⟨r, q1, q2⟩ := inz b (pS.mem_iff.mp (List.mem_of_getElem? hb))
    exact ⟨r, q1, s1 _ _ q2⟩
/-- a list that goes round, told from its least entry on -/
def leastI (ns : List Int) : Int := ns.min?.getD 0
def fromL (ns : List Int) : List Int := ns.drop (ns.idxOf (leastI ns)) ++ ns.take (ns.idxOf (leastI ns))
theorem least_is {ns : List Int} {m : Int} (h : m ∈ ns) (h2 : ∀ y ∈ ns, m ≤ y) : leastI ns = m := by
  unfold leastI
  rw [(List.min?_eq_some_iff (xs := ns) (a := m)).mpr ⟨h, h2⟩]
  rfl
theorem fromL_head {ns : List Int} {m : Int} (h : ns[0]? = some m) (h2 : ∀ y ∈ ns, m ≤ y) : fromL ns = ns := by
  have hm := List.mem_of_getElem? h
  unfold fromL
  rw [least_is hm h2]
  have : ns.idxOf m = 0 := by
    cases ns with
    | nil => cases h
    | cons x xs =>
      obtain rfl := Option.some.inj h
      exact List.idxOf_cons_self
  rw [this, List.drop_zero, List.take_zero, List.append_nil]
theorem fromL_len (ns : List Int) : (fromL ns).length = ns.length := by
  unfold fromL
  rw [List.length_append, List.length_drop, List.length_take]
  omega
end Rg
namespace Rg
open PySem L2 TL
theorem cutV_to {xs : List V} {i : Int} (p : Nat) (e : i = (p : Int)) : cutV xs none (some i) = xs.take p := by
  subst e
  unfold cutV
  rw [HT.sIx_nat]
  show (xs.drop 0).take (min p xs.length - 0) = _
  rw [List.drop_zero, Nat.sub_zero]
  by_cases h : p ≤ xs.length
  · rw [Nat.min_eq_left h]
  · rw [Nat.min_eq_right (by omega), List.take_of_length_le (Nat.le_refl _), List.take_of_length_le (by omega)]
theorem cutV_from {xs : List V} {i : Int} (p : Nat) (e : i = (p : Int)) : cutV xs (some i) none = xs.drop p := by
  subst e
  unfold cutV
  rw [HT.sIx_nat]
  show (xs.drop (min p xs.length)).take (xs.length - min p xs.length) = _
  by_cases h : p ≤ xs.length
  · rw [Nat.min_eq_left h, List.take_of_length_le (by rw [List.length_drop]; exact Nat.le_refl _)]
  · rw [Nat.min_eq_right (by omega), Nat.sub_self, List.take_zero, List.drop_of_length_le (by omega)]
end Rg
/-! own words: l[:0:-1], all but the first one, the other way round -/
namespace Rg
open PySem PySem.Spec PyProof.Rows L2 PySem.W
theorem down_range (m : Nat) : ((List.range m).map fun k => m - k) = ((List.range m).map (1 + ·)).reverse := by
  refine List.ext_getElem? fun i => ?_
  by_cases h : i < m
  · rw [List.getElem?_map, List.getElem?_range h, List.getElem?_reverse (by simpa using h), List.getElem?_map, List.length_map, List.length_range, List.getElem?_range (by omega)]
    show some (m - i) = some (1 + (m - 1 - i))
    congr 1
    omega
  · rw [List.getElem?_eq_none (by simpa using h), List.getElem?_eq_none (by simpa using h)]
theorem pick_rev1 (us : Array Value) : slicePick us none (some 0) (some (-1)) = (us.toList.drop 1).reverse.toArray := by
  unfold slicePick
  have e : sliceRange (sliceBounds none (some 0) (some (-1)) us.size).1 (sliceBounds none (some 0) (some (-1)) us.size).2.1 (sliceBounds none (some 0) (some (-1)) us.size).2.2 = (List.range (us.size - 1)).map fun k => us.size - 1 - k := by
    generalize us.size = n
    have b : sliceBounds none (some 0) (some (-1)) n = ((n : Int) - 1, max (-1) (min 0 ((n : Int) - 1)), -1) := rfl
    rw [b]
    show sliceRange ((n : Int) - 1) (max (-1) (min 0 ((n : Int) - 1))) (-1) = _
    cases n with
    | zero => rfl
    | succ m =>
      have e0 : max (-1 : Int) (min 0 (((m + 1 : Nat) : Int) - 1)) = 0 := by omega
      rw [e0]
      unfold sliceRange
      have h1 : ¬ ((-1 : Int) > 0) := by decide
      have h2 : ((m + 1 : Nat) : Int) - 1 = (m : Int) := by omega
      rw [h2]
      by_cases h : (m : Int) > 0
      · have e : ((m : Int) - 0 - -1 - 1) / (- -1) = (m : Int) := by
          rw [show (- -1 : Int) = 1 by decide, Int.ediv_one]
          omega
        simp only [h1, if_false, h, if_true, e, Int.toNat_natCast, Nat.add_sub_cancel]
        apply List.map_congr_left
        intro k hk
        have := List.mem_range.mp hk
        omega
      · have e : m = 0 := by omega
        subst e
        simp
  rw [e, down_range, List.filterMap_reverse, pick_run, List.take_of_length_le (by rw [List.length_drop, Array.length_toList]; exact Nat.le_refl _)]
def tRev1 (K : PySem.W.Frag) (te : TE) : TE := fun σ H Q => te σ H fun x H1 => ∃ a xs, x = .ref a ∧ SqL K H1 a xs ∧ ∀ p, H1 p = none → Q (.ref p) (upd H1 p (.lst (xs.drop 1).reverse))
theorem vals_drop : ∀ {xs : List V} {us : List Value}, Vals xs us → Vals (xs.drop 1) (us.drop 1)
  | [], us, h => by
    cases h
    exact .nil
  | x :: xs, us, h => by
    cases h with
    | cons _ t => exact t
section
variable {X : Cx}
theorem pe_rev1 {e : Expr} {te : TE} {k0 k : Nat} {p0 p1 p2 p3 pos : Pos} (he : PE X e te) : PE X (.Subscript e (.Slice none (some (.Constant (.int 0) k0 p0)) (some (.UnaryOp .USub (.Constant (.int 1) k p1) p2)) p3) pos) (tRev1 X.K te) := by
  refine ⟨fun pins s σ H Q I h => ?_⟩
  refine Subscript_ (thn (he.run pins s σ H _ I h) fun v s1 ⟨x, H1, I1, r1, q1⟩ => ?_)
  obtain ⟨a, xs, rfl, hx, q⟩ := q1
  cases r1
  have hhi : PO X (some (.Constant (.int 0) k0 p0)) (tPart (tC (.int 0))) := po_some pe_int
  have hst : PO X (some (.UnaryOp .USub (.Constant (.int 1) k p1) p2)) (tPart (tUn (rU fun i => .int (-i)) (tC (.int 1)))) := po_some (pe_un un_neg pe_int)
  refine wpAny_Slice (thn (po_none.run pins s1 σ H1 (fun o H2 => o = none ∧ H2 = H1) I1 ⟨rfl, rfl⟩) fun vl s2 ⟨l, H2, I2, pl, el, e2⟩ => ?_)
  subst el e2
  refine thn (hhi.run pins s2 σ H2 (fun o H3 => o = some 0 ∧ H3 = H2) I2 ⟨0, rfl, rfl, rfl⟩) fun vu s3 ⟨u, H3, I3, pu, eu, e3⟩ => ?_
  subst eu e3
  refine thn (hst.run pins s3 σ H3 (fun o H4 => o = some (-1) ∧ H4 = H3) I3 ⟨1, rfl, -1, rfl, rfl, rfl⟩) fun vs s4 ⟨o, H4, I4, ps, eo, e4⟩ => ?_
  subst eo e4
  have I5 : Inv X pins σ H4 { s4 with heap := s4.heap.push { cls := .type "slice", data := .fields #[vl, vu, vs] } } := I4.kept (t' := s4.toks) fun b ob q => Heap.get?_push_of_some _ q
  obtain ⟨its, r, ht, hz⟩ := I5.list hx
  have hlen := r.length
  show wpAny (model X.prog X.w) X.A (subscriptTail e (.Slice none (some (.Constant (.int 0) k0 p0)) (some (.UnaryOp .USub (.Constant (.int 1) k p1) p2)) p3) (.ref a) (.ref s4.heap.objs.size)) (EP X pins σ Q) X.xe { s4 with heap := s4.heap.push { cls := .type "slice", data := .fields #[vl, vu, vs] } }
  refine tail_any (ops := [.ref a, .ref s4.heap.objs.size]) ht.isList.typeIs (PySem.slot_list_getitem.lookup) ?_ (by with_unfolding_all rfl)
  refine wpAny_getItem_list_slice ht.isList (Heap.IsSliceOf.new _ vl vu vs) pl pu ps (by decide) ?_ (by rw [List.size_toArray]; omega)
  rw [pick_rev1]
  refine ⟨.ref _, _, I5.laid (t' := s4.toks) (o := .lst (xs.drop 1).reverse) (fun b ob q => Heap.get?_push_of_some _ q) (Nat.le_refl _) ?_, rfl, q _ (I5.hok.fresh (Nat.le_refl _))⟩
  exact ⟨by rw [List.length_reverse, List.length_drop]; omega, _, 0, (vals_drop r).reverse, Heap.get?_push_size _ rfl⟩
end
end Rg
/-! own words: the rounds of the inverse rule, and their rings -/
namespace Rg
open PySem PySem.Spec PyProof.Rows L2 TL
section
variable {X : Cx}
def rLenO (w : World) : List V → Hp → VK → Prop := fun xs H Q => ∃ (a : Addr) (S : Int → Bool) (n : Nat), xs = [V.ref a] ∧ H a = some (SetO w a S n) ∧ n < 4096 ∧ Q (.int n) H
theorem call_lenO : CallR X (.builtin "len") (rLenO X.w) := by
  intro pins s σ H xs us Q I r h
  obtain ⟨a, S, n, rfl, ha, hn, q⟩ := h
  obtain ⟨o, es, ep, t, ho, hex, hd, _, _, _, _, hf, he, _⟩ := setO_get I ha
  rw [Vals.ref1 r]
  subst he
  exact call_len_set ho hex hd hf (by omega) ⟨.int es.size, H, I.tok _, ⟨_, rfl⟩, q⟩
end
theorem wk_fold {ls : List Str} {n a : Int} : ∀ k, k ≤ ls.length → wk ls n a k = (ls.take k).foldl (fun q z => cross z n q) a
  | 0, _ => by rw [List.take_zero]; rfl
  | k + 1, h => by
    have e : rowAt ls k = ls[k] := by
      unfold rowAt
      rw [Nat.mod_eq_of_lt h, List.getD_eq_getElem?_getD, List.getElem?_eq_getElem h]
      rfl
    show cross (rowAt ls k) n (wk ls n a k) = _
    rw [wk_fold k (by omega), List.take_add_one, List.getElem?_eq_getElem h, List.foldl_append, e]
    rfl
theorem fold_on {n : Int} : ∀ (zs : List Str) {a : Int}, 0 ≤ a → a < n → 0 ≤ zs.foldl (fun q z => cross z n q) a ∧ zs.foldl (fun q z => cross z n q) a < n
  | [], _, h0, h1 => ⟨h0, h1⟩
  | z :: zs, a, h0, h1 => fold_on zs (cross_on h0 h1).1 (cross_on h0 h1).2
theorem fold_back {n : Int} : ∀ (zs : List Str), (∀ z ∈ zs, Row (tl z)) → ∀ {a : Int}, 0 ≤ a → a < n → zs.reverse.foldl (fun q z => cross z n q) (zs.foldl (fun q z => cross z n q) a) = a
  | [], _, _, _, _ => rfl
  | z :: zs, h, a, h0, h1 => by
    rw [List.reverse_cons, List.foldl_append]
    show cross z n (zs.reverse.foldl _ (zs.foldl _ (cross z n a))) = a
    rw [fold_back zs (fun y hy => h y (.tail _ hy)) (cross_on h0 h1).1 (cross_on h0 h1).2]
    exact cross_cross (h z (.head _)) h0 h1
theorem round_back {m : Nat} {ls : List Str} (W : Rows m ls) (n : Int) {a : Int} (h0 : 0 ≤ a) (h1 : a < n) : roundF ls.reverse n (roundF ls n a) = a := by
  unfold roundF
  rw [wk_fold _ (Nat.le_refl _), wk_fold _ (Nat.le_refl _), List.take_length, List.take_length]
  exact fold_back ls (fun z hz => W.row z hz) h0 h1
section
variable {n : Nat} {f g : Int → Int}
theorem it_back (C : Cyc n f) (B : ∀ a : Int, 0 ≤ a → a < n → g (f a) = a) {c : Int} (h0 : 0 ≤ c) (h1 : c < n) : ∀ k, itG g k (itG f k c) = c
  | 0 => rfl
  | k + 1 => by
    have c1 := C.it h0 h1 k
    have e : itG g (k + 1) (itG f (k + 1) c) = itG g k (g (itG f (k + 1) c)) := by
      rw [Nat.add_comm k 1, itG_add']
      rfl
    rw [e]
    show itG g k (g (f (itG f k c))) = c
    rw [B _ c1.1 c1.2, it_back C B h0 h1 k]
theorem it_inv (C : Cyc n f) (B : ∀ a : Int, 0 ≤ a → a < n → g (f a) = a) {c : Int} (h0 : 0 ≤ c) (h1 : c < n) {k : Nat} (hk : k ≤ ringLen f n c) : itG g k c = itG f (ringLen f n c - k) c := by
  have c1 := C.it h0 h1 (ringLen f n c - k)
  have e := it_back C B c1.1 c1.2 k
  rw [← itG_add', Nat.sub_add_cancel hk, (C.len h0 h1).2.2.1] at e
  exact e
theorem len_inv (C : Cyc n f) (G : Cyc n g) (B : ∀ a : Int, 0 ≤ a → a < n → g (f a) = a) {c : Int} (h0 : 0 ≤ c) (h1 : c < n) : ringLen g n c = ringLen f n c := by
  obtain ⟨p1, _, p3, p4⟩ := C.len h0 h1
  obtain ⟨q1, _, q3, q4⟩ := G.len h0 h1
  have e : itG g (ringLen f n c) c = c := by rw [it_inv C B h0 h1 (Nat.le_refl _), Nat.sub_self]; rfl
  have h2 : ¬ ringLen f n c < ringLen g n c := fun h => q4 _ p1 h e
  have h3 : ¬ ringLen g n c < ringLen f n c := fun h => by
    rw [it_inv C B h0 h1 (by omega)] at q3
    exact p4 _ (by omega) (by omega) q3
  omega
/-- a ring, told the other way round from its first one -/
def backI (e : List Int) : List Int := e.take 1 ++ (e.drop 1).reverse
theorem ring_inv (C : Cyc n f) (G : Cyc n g) (B : ∀ a : Int, 0 ≤ a → a < n → g (f a) = a) {c : Int} (h0 : 0 ≤ c) (h1 : c < n) : ringOf g n c = backI (ringOf f n c) := by
  have el := len_inv C G B h0 h1
  have lp := (C.pos h0 h1).1
  unfold backI
  refine List.ext_getElem? fun k => ?_
  have l1 : ((ringOf f n c).take 1).length = 1 := by rw [List.length_take, ring_len]; omega
  have l2 : ((ringOf f n c).drop 1).length = ringLen f n c - 1 := by rw [List.length_drop, ring_len]
  by_cases hk : k < ringLen f n c
  · rw [ring_get (by omega), List.getElem?_append, l1]
    by_cases h : k < 1
    · rw [if_pos h, List.getElem?_take_of_lt h, ring_get hk]
      obtain rfl : k = 0 := by omega
      rfl
    · rw [if_neg h, List.getElem?_reverse (by omega), l2, List.getElem?_drop, ring_get (by omega), it_inv C B h0 h1 (by omega)]
      congr 2
      omega
  · rw [List.getElem?_eq_none (by rw [ring_len]; omega), List.getElem?_eq_none (by rw [List.length_append, List.length_reverse, l1, l2]; omega)]
theorem back_mem {e : List Int} {z : Int} : z ∈ backI e ↔ z ∈ e := by
  unfold backI
  rw [List.mem_append, List.mem_reverse, ← List.mem_append, List.take_append_drop]
theorem back_len (e : List Int) : (backI e).length = e.length := by
  unfold backI
  rw [List.length_append, List.length_reverse, ← List.length_append, List.take_append_drop]
theorem heads_inv (C : Cyc n f) (G : Cyc n g) (B : ∀ a : Int, 0 ≤ a → a < n → g (f a) = a) : heads g n = heads f n := by
  unfold heads
  refine List.filter_congr fun c hc => ?_
  obtain ⟨j, hj, rfl⟩ := List.mem_map.mp hc
  have hj := List.mem_range.mp hj
  rw [Bool.eq_iff_iff, head_iff, head_iff, ring_inv C G B (by omega) (by omega)]
  exact ⟨fun h z hz => h z (back_mem.mpr hz), fun h z hz => h z (back_mem.mp hz)⟩
theorem rings_inv (C : Cyc n f) (G : Cyc n g) (B : ∀ a : Int, 0 ≤ a → a < n → g (f a) = a) : ringsL g n = (ringsL f n).map backI := by
  unfold ringsL
  rw [heads_inv C G B, List.map_map]
  refine List.map_congr_left fun c hc => ?_
  obtain ⟨c0, c1, _⟩ := mem_heads.mp hc
  exact ring_inv C G B c0 c1
theorem lens_back (L : List (List Int)) : lensC (L.map backI) = lensC L := by
  unfold lensC
  rw [List.map_map]
  refine List.map_congr_left fun e _ => ?_
  show (((backI e).length : Int), (1 : Int)) = _
  rw [back_len]
/-- the rings as they are told are judged as right -/
theorem rings_sorted (C : Cyc n f) : sortLL ((ringsL f n).map fromL) = ringsL f n := by
  have e : (ringsL f n).map fromL = ringsL f n := by
    unfold ringsL
    rw [List.map_map]
    refine List.map_congr_left fun c hc => ?_
    obtain ⟨c0, c1, h⟩ := mem_heads.mp hc
    exact fromL_head (C.head0 c0 c1) (head_iff.mp h)
  rw [e]
  refine List.mergeSort_of_pairwise ?_
  unfold ringsL
  rw [List.pairwise_map]
  refine List.Pairwise.imp_of_mem (fun {a b} ha hb h => ?_) (heads_sorted (f := f) (n := n))
  obtain ⟨a0, a1, _⟩ := mem_heads.mp ha
  obtain ⟨b0, b1, _⟩ := mem_heads.mp hb
  have ea := C.head0 a0 a1
  have eb := C.head0 b0 b1
  rw [decide_eq_true_eq]
  cases hA : ringOf f n a with
  | nil => rw [hA] at ea; cases ea
  | cons x xs =>
    cases hB : ringOf f n b with
    | nil => rw [hB] at eb; cases eb
    | cons y ys =>
      rw [hA] at ea
      rw [hB] at eb
      obtain rfl := Option.some.inj ea
      obtain rfl := Option.some.inj eb
      exact List.le_of_lt (List.cons_lt_cons_iff.mpr (.inl h))
end
/-! ### lengths, each as often as it is there -/
theorem sum_one {ns : List Int} (nd : ns.Nodup) {x : Int} (h : x ∈ ns) (c : Int → Int) : (ns.map fun l => l * (c l + if x = l then 1 else 0)).sum = (ns.map fun l => l * c l).sum + x := by
  induction ns with
  | nil => cases h
  | cons y ns ih =>
    rw [List.nodup_cons] at nd
    rw [List.map_cons, List.map_cons, List.sum_cons, List.sum_cons]
    by_cases e : x = y
    · subst e
      have rest : (ns.map fun l => l * (c l + if x = l then 1 else 0)) = ns.map fun l => l * c l := List.map_congr_left fun l hl => by
        rw [if_neg (fun e => nd.1 (by rw [e]; exact hl)), Int.add_zero]
      rw [rest, if_pos rfl, Int.mul_add, Int.mul_one]
      omega
    · rcases List.mem_cons.mp h with h | h
      · exact absurd h e
      · rw [ih nd.2 h, if_neg e, Int.add_zero]
        omega
theorem sum_counts : ∀ (ls ns : List Int), ns.Nodup → (∀ l ∈ ls, l ∈ ns) → (ns.map fun l => l * ((ls.count l : Nat) : Int)).sum = ls.sum
  | [], ns, h1, h2 => by
    clear h1 h2
    rw [List.sum_nil]
    induction ns with
    | nil => rfl
    | cons y ns ih =>
      rw [List.map_cons, List.sum_cons, List.count_nil, ih]
      omega
  | x :: ls, ns, nd, h => by
    have e : (ns.map fun l => l * (((x :: ls).count l : Nat) : Int)) = ns.map fun l => l * (((ls.count l : Nat) : Int) + if x = l then 1 else 0) := List.map_congr_left fun l _ => by
      rw [List.count_cons]
      by_cases q : x = l
      · rw [if_pos q, if_pos (by simpa using q)]
        rfl
      · rw [if_neg q, if_neg (by simpa using q)]
        rfl
    rw [e, sum_one nd (h x (.head _)), sum_counts ls ns nd fun l hl => h l (.tail _ hl), List.sum_cons]
    omega
end Rg
namespace Rg
open PySem L2 TL
def prD2 (e : Int × Int) : PyData := .tuple [.int e.1, .int e.2]
def prsD2 (L : List (Int × Int)) : PyData := .list (L.map prD2)
theorem prs_inj : ∀ {L M : List (Int × Int)}, L.map prD2 = M.map prD2 → L = M
  | [], [], _ => rfl
  | [], _ :: _, h => by cases h
  | _ :: _, [], h => by cases h
  | x :: L, y :: M, h => by
    rw [List.map_cons, List.map_cons] at h
    injection h with h1 h2
    unfold prD2 at h1
    injection h1 with h1
    injection h1 with h3 h4
    injection h4 with h4 _
    injection h3 with h3
    injection h4 with h4
    rw [prs_inj h2, show x = y from Prod.ext h3 h4]
theorem plain_prs : ∀ L : List (Int × Int), plainIs (L.map prD2) = true
  | [] => rfl
  | x :: L => by
    show (plainI (prD2 x) && plainIs (L.map prD2)) = true
    rw [plain_prs L]
    rfl
theorem depth_prs : ∀ L : List (Int × Int), PyData.depthAll (L.map prD2) ≤ 2
  | [] => by simp [PyData.depthAll]
  | x :: L => by
    show PyData.depthAll (prD2 x :: L.map prD2) ≤ 2
    have h1 := depth_prs L
    have h2 : (prD2 x).depth ≤ 2 := by
      unfold prD2
      simp [PyData.depth, PyData.depthAll]
    rw [PyData.depthAll]
    omega
theorem pl_prs (L : List (Int × Int)) : PlD (prsD2 L) := ⟨plain_prs L, by
  have := depth_prs L
  unfold prsD2
  simp only [PyData.depth]
  omega⟩
theorem dpAll_prs {K : PySem.W.Frag} {H : Hp} : ∀ {vs : List V} {L : List (Int × Int)}, Fa2 (fun v e => ∃ t, v = .ref t ∧ H t = some (.tup [.int e.1, .int e.2])) vs L → DpAll K H vs (L.map prD2)
  | [], [], _ => .nil
  | [], _ :: _, h => by
    have := h.1
    cases this
  | _ :: _, [], h => by
    have := h.1
    cases this
  | v :: vs, e :: L, h => by
    obtain ⟨r, rfl, hr⟩ := h.2 0 v e rfl rfl
    exact .cons (.tup (SqT.of hr) (.cons (.int _) (.cons (.int _) .nil))) (dpAll_prs ⟨by
      have := h.1
      simpa using this, fun i v e h1 h2 => h.2 (i + 1) v e h1 h2⟩)
theorem dp_prs {K : PySem.W.Frag} {H : Hp} {p : Addr} {L : List (Int × Int)} (h : PrsIn H p L) : Dp K H (.ref p) (prsD2 L) := by
  obtain ⟨vs, hp, hv⟩ := h
  exact .lst (SqL.of hp) (dpAll_prs hv)
theorem rd_nePP {K : PySem.W.Frag} {H : Hp} {p q : Addr} {L M : List (Int × Int)} {Q : VK} (hp : PrsIn H p L) (hq : PrsIn H q M) (k : Q (.bl (!decide (L = M))) H) : rNeD K (.ref p) (.ref q) H Q :=
  rd_neD (dp_prs hp) (dp_prs hq) (pl_prs _) (pl_prs _) (fun e => by
    have e' : L = M := prs_inj (by unfold prsD2 at e; injection e)
    rw [decide_eq_true e'] at k; exact k) (fun n => by rw [decide_eq_false (fun e => n (by rw [e]))] at k; exact k)
variable {n : Nat} {f : Int → Int}
theorem Cyc.turn1 (C : Cyc n f) {c : Int} (h0 : 0 ≤ c) (h1 : c < n) : (ringOf f n c).drop 1 ++ (ringOf f n c).take 1 = ringOf f n (f c) := by
  by_cases h : 1 < ringLen f n c
  · exact C.turn h0 h1 h
  · have e : ringLen f n c = 1 := by have := (C.pos h0 h1).1; omega
    have e1 : f c = c := by
      have := (C.len h0 h1).2.2.1
      rw [e] at this
      exact this
    rw [e1, List.drop_of_length_le (by rw [ring_len, e]; exact Nat.le_refl _), List.take_of_length_le (by rw [ring_len, e]; exact Nat.le_refl _)]
    rfl
theorem Cyc.rings_ne (C : Cyc n f) (h : 1 ≤ n) : ringsL f n ≠ [] := fun e => by
  obtain ⟨c, hc, _⟩ := C.head_of (z := 0) (Int.le_refl _) (by omega)
  unfold ringsL at e
  rw [List.map_eq_nil_iff] at e
  rw [e] at hc
  cases hc
theorem Cyc.lens_total (C : Cyc n f) : (lensI (ringsL f n)).sum = (n : Int) := by
  rw [lens_sum]
  have := C.perm.length_eq
  rw [List.length_map, List.length_range] at this
  unfold ringsL
  omega
end Rg
/-! own words: the lanes of the inverse rule and of the shifted one -/
namespace Rg
open PySem L2 TL
variable {n : Nat} {ls ms : List Str}
theorem itZ_back (B : ∀ i, goZ ms (goZ ls i) = i) (c : Int) : ∀ k, itG (goZ ms) k (itG (goZ ls) k c) = c
  | 0 => rfl
  | k + 1 => by
    have e : itG (goZ ms) (k + 1) (itG (goZ ls) (k + 1) c) = itG (goZ ms) k (goZ ms (itG (goZ ls) (k + 1) c)) := by
      rw [Nat.add_comm k 1, itG_add]
      rfl
    rw [e]
    show itG (goZ ms) k (goZ ms (goZ ls (itG (goZ ls) k c))) = c
    rw [B, itZ_back B c k]
/-- k rounds back from c, told by rounds on -/
theorem itZ_inv (W : Rows n ls) (V : Rows n ms) (B : ∀ i, goZ ms (goZ ls i) = i) (c : Int) {k : Nat} (hk : k ≤ laneLen ls n c) : itG (goZ ms) k c = itG (goZ ls) (laneLen ls n c - k) c - shiftZ ls n c := by
  have e := itZ_back B (itG (goZ ls) (laneLen ls n c - k) c) k
  rw [← itG_add, Nat.sub_add_cancel hk] at e
  have h : itG (goZ ls) (laneLen ls n c) c = c + n * (shiftZ ls n c / n) := by
    have := shiftZ_mul W c
    have h2 : (n : Int) * (shiftZ ls n c / n) = shiftZ ls n c := Int.mul_ediv_cancel' (Int.dvd_of_emod_eq_zero this)
    rw [h2]
    unfold shiftZ
    omega
  rw [h, (itG_per (goZ_perM V) k).int] at e
  have h2 : (n : Int) * (shiftZ ls n c / n) = shiftZ ls n c := Int.mul_ediv_cancel' (Int.dvd_of_emod_eq_zero (shiftZ_mul W c))
  omega
theorem itZ_invR (W : Rows n ls) (V : Rows n ms) (B : ∀ i, goZ ms (goZ ls i) = i) (c : Int) {k : Nat} (hk : k ≤ laneLen ls n c) : itG (goZ ms) k c % n = itG (goZ ls) (laneLen ls n c - k) c % n := by
  rw [itZ_inv W V B c hk, Int.sub_emod, shiftZ_mul W c, Int.sub_zero, Int.emod_emod]
theorem shift_lane {c : Int} {l : Nat} {m : Int} (L : Lane n ls c l m) : shiftZ ls n c = n * m := by
  unfold shiftZ
  rw [L.len, L.end_]
  omega
theorem lane_inv (W : Rows n ls) (V : Rows n ms) (B : ∀ i, goZ ms (goZ ls i) = i) (c : Int) : ∃ m, Lane n ls c (laneLen ls n c) m ∧ Lane n ms c (laneLen ls n c) (-m) := by
  obtain ⟨m, L⟩ := lane_len W c
  refine ⟨m, L, L.pos, L.le, ?_, fun k h0 h1 => ?_⟩
  · rw [itZ_inv W V B c (Nat.le_refl _), Nat.sub_self, shift_lane L, Int.mul_neg]
    show c - n * m = _
    omega
  · rw [itZ_invR W V B c (by omega)]
    exact L.ne _ (by omega) (by omega)
theorem laneLen_inv (W : Rows n ls) (V : Rows n ms) (B : ∀ i, goZ ms (goZ ls i) = i) (c : Int) : laneLen ms n c = laneLen ls n c := by
  obtain ⟨m, _, L⟩ := lane_inv W V B c
  exact L.len
theorem shiftZ_inv (W : Rows n ls) (V : Rows n ms) (B : ∀ i, goZ ms (goZ ls i) = i) (c : Int) : shiftZ ms n c = -shiftZ ls n c := by
  obtain ⟨m, L, L'⟩ := lane_inv W V B c
  rw [shift_lane L, shift_lane L', Int.mul_neg]
theorem orb_inv (W : Rows n ls) (V : Rows n ms) (B : ∀ i, goZ ms (goZ ls i) = i) (c : Int) : orb ms n c = backI (orb ls n c) := by
  have el := laneLen_inv W V B c
  have lp := (lane_pos W c).1
  unfold backI
  refine List.ext_getElem? fun k => ?_
  have l1 : ((orb ls n c).take 1).length = 1 := by rw [List.length_take, orb_len]; omega
  have l2 : ((orb ls n c).drop 1).length = laneLen ls n c - 1 := by rw [List.length_drop, orb_len]
  by_cases hk : k < laneLen ls n c
  · rw [orb_get (by omega), List.getElem?_append, l1]
    by_cases h : k < 1
    · rw [if_pos h, List.getElem?_take_of_lt h, orb_get hk]
      obtain rfl : k = 0 := by omega
      rfl
    · rw [if_neg h, List.getElem?_reverse (by omega), l2, List.getElem?_drop, orb_get (by omega), itZ_invR W V B c (by omega)]
      congr 3
      omega
  · rw [List.getElem?_eq_none (by rw [orb_len]; omega), List.getElem?_eq_none (by rw [List.length_append, List.length_reverse, l1, l2]; omega)]
theorem firsts_inv (W : Rows n ls) (V : Rows n ms) (B : ∀ i, goZ ms (goZ ls i) = i) : firsts ms n = firsts ls n := by
  unfold firsts
  refine List.filter_congr fun c _ => ?_
  rw [Bool.eq_iff_iff, first_iff, first_iff, orb_inv W V B]
  exact ⟨fun h z hz => h z (back_mem.mpr hz), fun h z hz => h z (back_mem.mp hz)⟩
theorem lanes_inv (W : Rows n ls) (V : Rows n ms) (B : ∀ i, goZ ms (goZ ls i) = i) : lanesL ms n = (lanesL ls n).map fun e => (backI e.1, -e.2) := by
  unfold lanesL
  rw [firsts_inv W V B, List.map_map]
  refine List.map_congr_left fun c _ => ?_
  show (orb ms n c, shiftZ ms n c) = (backI (orb ls n c), -shiftZ ls n c)
  rw [orb_inv W V B, shiftZ_inv W V B]
/-- told backwards, then from the least one on -/
theorem fromL_rev (W : Rows n ls) {c : Int} (hc : c ∈ firsts ls n) : fromL (orb ls n c).reverse = backI (orb ls n c) := by
  obtain ⟨c0, c1, hf⟩ := mem_firsts.mp hc
  have h0 := orb_head W c0 c1
  have nd := orb_nodup W (ls := ls) c
  have hl := first_iff.mp hf
  cases e : orb ls n c with
  | nil => rw [e] at h0; cases h0
  | cons x xs =>
    rw [e] at h0 nd hl
    obtain rfl := Option.some.inj h0
    rw [List.nodup_cons] at nd
    have em : leastI (x :: xs).reverse = x := least_is (by simp) fun y hy => hl y (List.mem_reverse.mp hy)
    unfold fromL backI
    rw [em, List.reverse_cons, List.idxOf_append, if_neg (by simpa using nd.1), List.idxOf_cons_self, Nat.zero_add]
    rw [List.drop_left, List.take_left]
    rfl
end Rg
namespace Rg
open PySem L2 TL
theorem cross1_move {r s : Int → Bool} {b : Int} (h : ∀ i, s (i + b) = r i) (i : Int) : cross1 s (i + b) = cross1 r i + b := by
  have h2 : s (i + b - 1) = r (i - 1) := by
    rw [← h (i - 1)]
    congr 1
    omega
  unfold cross1
  rw [h, h2]
  split
  · omega
  · split <;> omega
theorem crossZ_move {b : Int} (f : Str → Str) : ∀ {zs : List Str}, (∀ z ∈ zs, ∀ i, rungB (f z) (i + b) = rungB z i) → ∀ i, crossZ ((zs.map f).map rungB) (i + b) = crossZ (zs.map rungB) i + b
  | [], _, i => rfl
  | z :: zs, h, i => by
    show crossZ ((zs.map f).map rungB) (cross1 (rungB (f z)) (i + b)) = crossZ (zs.map rungB) (cross1 (rungB z) i) + b
    rw [cross1_move (h z (.head _)), crossZ_move f fun y hy => h y (.tail _ hy)]
end Rg
namespace Rg
open PySem L2 TL
variable {n : Nat} {ls ms : List Str}
theorem goZ_rot (W : Rows n ls) (b i : Int) : goZ (ls.map (rotS b)) (i + b) = goZ ls i + b := by
  refine crossZ_move (rotS b) (fun z hz i => ?_) i
  have h0 : 0 < (tl z).length := (W.row z hz).ne
  rw [Bool.eq_iff_iff, rungB_45, rungB_45, tl_rotS, sg_pick h0 (mv_sub _ b), Int.add_sub_cancel]
theorem itG_move {b : Int} (M : ∀ i, goZ ms (i + b) = goZ ls i + b) (c : Int) : ∀ k, itG (goZ ms) k (c + b) = itG (goZ ls) k c + b
  | 0 => rfl
  | k + 1 => by
    show goZ ms (itG (goZ ms) k (c + b)) = goZ ls (itG (goZ ls) k c) + b
    rw [itG_move M c k, M]
theorem lane_move {b : Int} (M : ∀ i, goZ ms (i + b) = goZ ls i + b) {c : Int} {l : Nat} {m : Int} (L : Lane n ls c l m) : Lane n ms (c + b) l m where
  pos := L.pos
  le := L.le
  end_ := by
    rw [itG_move M, L.end_]
    omega
  ne := fun k h0 h1 e => by
    rw [itG_move M] at e
    exact L.ne k h0 h1 (Int.emod_add_cancel_right b |>.mp e)
theorem move_len {b : Int} (W : Rows n ls) (M : ∀ i, goZ ms (i + b) = goZ ls i + b) (c : Int) : laneLen ms n (c + b) = laneLen ls n c ∧ shiftZ ms n (c + b) = shiftZ ls n c := by
  obtain ⟨m, L⟩ := lane_len W c
  have L' := lane_move M L
  exact ⟨L'.len, by rw [shift_lane L', shift_lane L]⟩
theorem orb_move {b : Int} (W : Rows n ls) (M : ∀ i, goZ ms (i + b) = goZ ls i + b) (c : Int) : orb ms n (c + b) = (orb ls n c).map fun z => (z + b) % (n : Int) := by
  unfold orb
  rw [(move_len W M c).1, List.map_map]
  refine List.map_congr_left fun k _ => ?_
  show itG (goZ ms) k (c + b) % (n : Int) = (itG (goZ ls) k c % (n : Int) + b) % (n : Int)
  rw [itG_move M, Int.emod_add_emod]
theorem fromL_orb (W : Rows n ls) (x : Int) {d : Int} (hd : d ∈ orb ls n x) (hl : ∀ z ∈ orb ls n x, d ≤ z) : fromL (orb ls n x) = orb ls n d ∧ shiftZ ls n x = shiftZ ls n d := by
  obtain ⟨j, hj, ej⟩ := mem_orb.mp hd
  have hr : d % (n : Int) = itG (goZ ls) j x % (n : Int) := by rw [ej, Int.emod_emod]
  obtain ⟨l1, l2⟩ := lane_rest W hr
  obtain ⟨m, L⟩ := lane_len W x
  have gj : (orb ls n x)[j]? = some d := by rw [orb_get hj, ej]
  have hix : (orb ls n x).idxOf d = j := by
    obtain ⟨hjl, e⟩ := List.getElem?_eq_some_iff.mp gj
    rw [← e]
    exact List.Nodup.idxOf_getElem (orb_nodup W x) j hjl
  refine ⟨?_, l2.symm⟩
  unfold fromL
  rw [least_is hd hl, hix]
  refine List.ext_getElem? fun k => ?_
  have wrap : ∀ t, itG (goZ ls) (laneLen ls n x + t) x % (n : Int) = itG (goZ ls) t x % (n : Int) := fun t => by
    rw [itG_add, L.end_, (itG_per (goZ_perM W) t).int, Int.add_mul_emod_self_left]
  have step : ∀ t, itG (goZ ls) t d % (n : Int) = itG (goZ ls) (j + t) x % (n : Int) := fun t => by
    rw [itG_add]
    exact itG_congR (goZ_perM W) t hr
  by_cases hk : k < laneLen ls n x
  · rw [orb_get (by omega), step, List.getElem?_append, List.length_drop, orb_len]
    by_cases h : k < laneLen ls n x - j
    · rw [if_pos h, List.getElem?_drop, orb_get (by omega)]
    · rw [if_neg h, List.getElem?_take_of_lt (by omega), orb_get (by omega), ← wrap]
      congr 3
      omega
  · rw [List.getElem?_eq_none (by rw [List.length_append, List.length_drop, List.length_take, orb_len]; omega), List.getElem?_eq_none (by rw [orb_len]; omega)]
/-- the least rest of the lane of x -/
def lstO (ls : List Str) (n : Nat) (x : Int) : Int := leastI (orb ls n x)
theorem lstO_is (W : Rows n ls) (x : Int) : lstO ls n x ∈ orb ls n x ∧ ∀ z ∈ orb ls n x, lstO ls n x ≤ z := by
  have hn : orb ls n x ≠ [] := fun e => by
    have := (lane_pos W x).1
    rw [← orb_len ls n x, e] at this
    simp at this
  obtain ⟨c, hc, hl⟩ := least_mem hn
  unfold lstO
  rw [least_is hc hl]
  exact ⟨hc, hl⟩
end Rg
namespace Rg
open PySem L2 TL PySem.W
variable {n : Nat} {ls ms : List Str}
theorem orb_ne (W : Rows n ls) (c : Int) : orb ls n c ≠ [] := fun e => by
  have := (lane_pos W c).1
  rw [← orb_len ls n c, e] at this
  simp at this
theorem npos (W : Rows n ls) : 0 < n := by
  have h := lane_pos W 0
  omega
theorem lst_first (V : Rows n ms) (x : Int) : lstO ms n x ∈ firsts ms n := by
  obtain ⟨h1, h2⟩ := lstO_is V x
  obtain ⟨r0, r1⟩ := orb_range V h1
  refine mem_firsts.mpr ⟨r0, r1, first_iff.mpr fun z hz => h2 z (orb_trans V h1 hz)⟩
theorem far_perm {b : Int} (W : Rows n ls) (V : Rows n ms) (M : ∀ i, goZ ms (i + b) = goZ ls i + b) : ((firsts ls n).map fun c => lstO ms n (c + b)).Perm (firsts ms n) := by
  have nd : ∀ {k : Nat} {zs : List Str}, (firsts zs k).Nodup := fun {k zs} => List.Pairwise.imp (fun h => by omega) (firsts_sorted (ls := zs) (n := k))
  have n0 : (0 : Int) < n := by have := npos W; omega
  have back : ∀ c x, x ∈ orb ms n (c + b) → (x - b) % (n : Int) ∈ orb ls n c := fun c x hx => by
    rw [orb_move W M, List.mem_map] at hx
    obtain ⟨z, hz, rfl⟩ := hx
    obtain ⟨z0, z1⟩ := orb_range W hz
    have e : ((z + b) % (n : Int) - b) % (n : Int) = z := by
      rw [Int.emod_sub_emod, Int.add_sub_cancel, Int.emod_eq_of_lt z0 z1]
    rw [e]
    exact hz
  refine (List.perm_ext_iff_of_nodup ?_ nd).mpr fun x => ?_
  · refine List.Pairwise.map _ (fun c d h => h) ?_
    refine List.Pairwise.imp_of_mem (fun {c d} hc hd h e => ?_) (nd (k := n) (zs := ls))
    have h1 := back c _ (lstO_is V (c + b)).1
    have h2 := back d _ (lstO_is V (d + b)).1
    have e : lstO ms n (c + b) = lstO ms n (d + b) := e
    rw [← e] at h2
    exact h (first_one W hc hd h1 h2)
  · rw [List.mem_map]
    constructor
    · rintro ⟨c, _, rfl⟩
      exact lst_first V _
    · intro hx
      obtain ⟨x0, x1, hf⟩ := mem_firsts.mp hx
      have y0 := Int.emod_nonneg (x - b) (show (n : Int) ≠ 0 by omega)
      have y1 := Int.emod_lt_of_pos (x - b) n0
      obtain ⟨c, hc, hy⟩ := first_of W y0 y1
      refine ⟨c, hc, ?_⟩
      have hxo : x ∈ orb ms n (c + b) := by
        rw [orb_move W M, List.mem_map]
        refine ⟨_, hy, ?_⟩
        rw [Int.emod_add_emod, Int.sub_add_cancel, Int.emod_eq_of_lt x0 x1]
      obtain ⟨h1, h2⟩ := lstO_is V (c + b)
      obtain ⟨l0, l1⟩ := orb_range V h1
      obtain ⟨j, hj, ej⟩ := mem_orb.mp hxo
      have hxl : lstO ms n (c + b) ∈ orb ms n x := by
        have e := (fromL_orb V (c + b) h1 h2).1
        have hx2 : x ∈ orb ms n (lstO ms n (c + b)) := by
          rw [← e]
          unfold fromL
          rw [List.mem_append, Or.comm, ← List.mem_append, List.take_append_drop]
          exact hxo
        exact orb_back V l0 l1 hx2
      have a := h2 x hxo
      have d := first_iff.mp hf _ hxl
      omega
def hd1 (e : List Int × Int) : Int := e.1.headD 0
def lnD (e : List Int × Int) : PyData := .tuple [intsD e.1, .int e.2]
abbrev sortLn (L : List (List Int × Int)) : List (List Int × Int) := L.mergeSort (dataLe false lnD)
theorem ln_lt {a b : List Int × Int} (ha : a.1 ≠ []) (hb : b.1 ≠ []) (h : hd1 a ≠ hd1 b) : dataLt (lnD a) (lnD b) = decide (hd1 a < hd1 b) := by
  obtain ⟨as, s⟩ := a
  obtain ⟨bs, t⟩ := b
  cases as with
  | nil => exact absurd rfl ha
  | cons x xs =>
    cases bs with
    | nil => exact absurd rfl hb
    | cons y ys =>
      have h : x ≠ y := h
      unfold lnD
      rw [dataLt_pair (by show alike (.list _) (.list _) = true; rw [alike]; exact alike_ints _ _) (by simp [alike])]
      have e : PyData.eqv (intsD (x :: xs)) (intsD (y :: ys)) = false := by
        cases q : PyData.eqv (intsD (x :: xs)) (intsD (y :: ys)) with
        | false => rfl
        | true =>
          have := intsD_inj (eqvI _ _ (pl_ints _).p (pl_ints _).p q)
          injection this with h1 _
          exact absurd h1 h
      rw [if_neg (by rw [e]; exact Bool.false_ne_true)]
      unfold intsD
      rw [dataLt_list]
      show rowLt _ _ = _
      rw [dataLt_ints]
      show decide (x :: xs < y :: ys) = decide (x < y)
      rw [Bool.eq_iff_iff, decide_eq_true_eq, decide_eq_true_eq, List.cons_lt_cons_iff]
      exact ⟨fun q => q.elim id fun q => absurd q.1 h, .inl⟩
theorem sortLn_eq {L M : List (List Int × Int)} (hM : M.Pairwise fun a b => hd1 a < hd1 b) (ne : ∀ e ∈ M, e.1 ≠ []) (p : L.Perm M) : sortLn L = M := by
  have one : ∀ a ∈ M, ∀ b ∈ M, hd1 a = hd1 b → a = b := fun a ha b hb h => by
    obtain ⟨i, hi⟩ := List.mem_iff_getElem?.mp ha
    obtain ⟨j, hj⟩ := List.mem_iff_getElem?.mp hb
    obtain ⟨il, ei⟩ := List.getElem?_eq_some_iff.mp hi
    obtain ⟨jl, ej⟩ := List.getElem?_eq_some_iff.mp hj
    rcases Nat.lt_trichotomy i j with q | q | q
    · have := List.pairwise_iff_getElem.mp hM i j il jl q
      rw [ei, ej] at this
      omega
    · subst q
      rw [hi] at hj
      exact Option.some.inj hj
    · have := List.pairwise_iff_getElem.mp hM j i jl il q
      rw [ei, ej] at this
      omega
  have hr : ∀ a ∈ L, ∀ b ∈ L, dataLe false lnD a b = decide (hd1 (id a) ≤ hd1 (id b)) := fun a ha b hb => by
    have ha := p.mem_iff.mp ha
    have hb := p.mem_iff.mp hb
    show (!dataLt (lnD b) (lnD a)) = _
    by_cases h : hd1 a = hd1 b
    · obtain rfl := one a ha b hb h
      rw [show dataLt (lnD a) (lnD a) = false from by unfold dataLt; exact PyProof.Rows.lex_irrefl _]
      exact (decide_eq_true (Int.le_refl _)).symm
    · rw [ln_lt (ne b hb) (ne a ha) (fun e => h e.symm)]
      by_cases q : hd1 b < hd1 a
      · rw [decide_eq_true q, decide_eq_false (show ¬ hd1 (id a) ≤ hd1 (id b) from by show ¬ hd1 a ≤ hd1 b; omega)]
        rfl
      · rw [decide_eq_false q, decide_eq_true (show hd1 (id a) ≤ hd1 (id b) from by show hd1 a ≤ hd1 b; omega)]
        rfl
  have e := List.map_mergeSort (f := id) (r := dataLe false lnD) (s := fun a b => decide (hd1 a ≤ hd1 b)) (l := L) hr
  rw [List.map_id, List.map_id] at e
  show L.mergeSort (dataLe false lnD) = M
  rw [e]
  have pw : (L.mergeSort fun a b => decide (hd1 a ≤ hd1 b)).Pairwise fun a b => decide (hd1 a ≤ hd1 b) = true := List.pairwise_mergeSort (fun a b c h1 h2 => by
    rw [decide_eq_true_eq] at *
    omega) (fun a b => by
    rw [Bool.or_eq_true, decide_eq_true_eq, decide_eq_true_eq]
    omega) L
  have pM := (List.mergeSort_perm L (fun a b => decide (hd1 a ≤ hd1 b))).trans p
  refine pM.eq_of_pairwise (le := fun a b => hd1 a ≤ hd1 b) (fun a b ha hb h h' => one a (pM.mem_iff.mp ha) b hb (by omega)) (List.Pairwise.imp (fun h => of_decide_eq_true h) pw) (List.Pairwise.imp (fun h => by omega) hM)
theorem lanes_hd (W : Rows n ls) : (lanesL ls n).Pairwise (fun a b => hd1 a < hd1 b) ∧ ∀ e ∈ lanesL ls n, e.1 ≠ [] := by
  have hh : ∀ c ∈ firsts ls n, hd1 (orb ls n c, shiftZ ls n c) = c := fun c hc => by
    obtain ⟨c0, c1, _⟩ := mem_firsts.mp hc
    have := orb_head W c0 c1
    unfold hd1
    cases e : orb ls n c with
    | nil => rw [e] at this; cases this
    | cons x xs =>
      rw [e] at this
      exact Option.some.inj this
  constructor
  · unfold lanesL
    rw [List.pairwise_map]
    refine List.Pairwise.imp_of_mem (fun {a b} ha hb h => ?_) (firsts_sorted (ls := ls) (n := n))
    rw [hh a ha, hh b hb]
    exact h
  · intro e he
    unfold lanesL at he
    obtain ⟨c, _, rfl⟩ := List.mem_map.mp he
    exact orb_ne W c
/-- the lanes moved, each from its least rest on, and sorted -/
theorem sort_far {b : Int} (W : Rows n ls) (V : Rows n ms) (M : ∀ i, goZ ms (i + b) = goZ ls i + b) : sortLn ((lanesL ls n).map fun e => (fromL (e.1.map fun z => (z + b) % (n : Int)), e.2)) = lanesL ms n := by
  obtain ⟨h1, h2⟩ := lanes_hd V
  refine sortLn_eq h1 h2 ?_
  have e : ((lanesL ls n).map fun e => (fromL (e.1.map fun z => (z + b) % (n : Int)), e.2)) = ((firsts ls n).map fun c => lstO ms n (c + b)).map fun d => (orb ms n d, shiftZ ms n d) := by
    unfold lanesL
    rw [List.map_map, List.map_map]
    refine List.map_congr_left fun c _ => ?_
    show (fromL ((orb ls n c).map fun z => (z + b) % (n : Int)), shiftZ ls n c) = (orb ms n (lstO ms n (c + b)), shiftZ ms n (lstO ms n (c + b)))
    obtain ⟨g1, g2⟩ := lstO_is V (c + b)
    obtain ⟨e1, e2⟩ := fromL_orb V (c + b) g1 g2
    rw [← orb_move W M, e1, ← e2, (move_len W M c).2]
  rw [e]
  unfold lanesL
  exact (far_perm W V M).map _
/-- .. the other way round -/
theorem sort_back (W : Rows n ls) (V : Rows n ms) (B : ∀ i, goZ ms (goZ ls i) = i) : sortLn ((lanesL ls n).map fun e => (fromL e.1.reverse, -e.2)) = lanesL ms n := by
  obtain ⟨h1, h2⟩ := lanes_hd V
  refine sortLn_eq h1 h2 ?_
  rw [lanes_inv W V B]
  have e : ((lanesL ls n).map fun e => (fromL e.1.reverse, -e.2)) = (lanesL ls n).map fun e => (backI e.1, -e.2) := by
    refine List.map_congr_left fun e he => ?_
    unfold lanesL at he
    obtain ⟨c, hc, rfl⟩ := List.mem_map.mp he
    show (fromL (orb ls n c).reverse, -shiftZ ls n c) = (backI (orb ls n c), -shiftZ ls n c)
    rw [fromL_rev W hc]
  rw [e]
end Rg
namespace Rg
open PySem L2 TL PySem.W
def LnsIn (H : Hp) (p : Addr) (L : List (List Int × Int)) : Prop := ∃ vs : List V, H p = some (.lst vs) ∧ Fa2 (fun v e => ∃ a r, v = .ref a ∧ H a = some (.tup [.ref r, .int e.2]) ∧ H r = some (.lst (e.1.map V.int))) vs L
theorem LnsIn.same {H H' : Hp} {p : Addr} {L : List (List Int × Int)} (A : LnsIn H p L) (s : Same H H') : LnsIn H' p L := by
  obtain ⟨vs, h1, h2⟩ := A
  exact ⟨vs, s _ _ h1, h2.imp fun v e ⟨a, r, h3, h4, h5⟩ => ⟨a, r, h3, s _ _ h4, s _ _ h5⟩⟩
theorem LnsAt.in_ {H0 H : Hp} {p : Addr} {L : List (List Int × Int)} (A : LnsAt H0 H p L) : LnsIn H p L := by
  obtain ⟨vs, h1, _, h2⟩ := A
  exact ⟨vs, h1, h2.imp fun v e h => by
    obtain ⟨a, r, h3, h4, h5, _⟩ := h.ex
    exact ⟨a, r, h3, h4, h5⟩⟩
def lnsD (L : List (List Int × Int)) : PyData := .list (L.map lnD)
theorem lns_inj : ∀ {L M : List (List Int × Int)}, L.map lnD = M.map lnD → L = M
  | [], [], _ => rfl
  | [], _ :: _, h => by cases h
  | _ :: _, [], h => by cases h
  | x :: L, y :: M, h => by
    rw [List.map_cons, List.map_cons] at h
    injection h with h1 h2
    unfold lnD at h1
    injection h1 with h1
    injection h1 with h3 h4
    injection h4 with h4 _
    injection h4 with h4
    rw [lns_inj h2, show x = y from Prod.ext (intsD_inj h3) h4]
theorem plain_lns : ∀ L : List (List Int × Int), plainIs (L.map lnD) = true
  | [] => rfl
  | x :: L => by
    show (plainI (lnD x) && plainIs (L.map lnD)) = true
    have e : plainI (lnD x) = true := by
      unfold lnD
      rw [plainI, plainIs, (pl_ints _).p, plainIs]
      rfl
    rw [plain_lns L, e]
    rfl
theorem depth_ln (x : List Int × Int) : (lnD x).depth ≤ 4 := by
  have h := depth_ints1 x.1
  unfold lnD intsD
  simp only [PyData.depth, PyData.depthAll]
  omega
theorem depth_lns : ∀ L : List (List Int × Int), PyData.depthAll (L.map lnD) ≤ 4
  | [] => by simp [PyData.depthAll]
  | x :: L => by
    show PyData.depthAll (lnD x :: L.map lnD) ≤ 4
    have h1 := depth_lns L
    have h2 := depth_ln x
    rw [PyData.depthAll]
    omega
theorem pl_lns (L : List (List Int × Int)) : PlD (lnsD L) := ⟨plain_lns L, by
  have := depth_lns L
  unfold lnsD
  simp only [PyData.depth]
  omega⟩
theorem dp_ln {K : PySem.W.Frag} {H : Hp} {a r : Addr} {e : List Int × Int} (h : H a = some (.tup [.ref r, .int e.2])) (hr : H r = some (.lst (e.1.map V.int))) : Dp K H (.ref a) (lnD e) :=
  .tup (SqT.of h) (.cons (dp_intsL hr) (.cons (.int _) .nil))
theorem dpAll_lns {K : PySem.W.Frag} {H : Hp} : ∀ {vs : List V} {L : List (List Int × Int)}, Fa2 (fun v e => ∃ a r, v = .ref a ∧ H a = some (.tup [.ref r, .int e.2]) ∧ H r = some (.lst (e.1.map V.int))) vs L → DpAll K H vs (L.map lnD)
  | [], [], _ => .nil
  | [], _ :: _, h => by
    have := h.1
    cases this
  | _ :: _, [], h => by
    have := h.1
    cases this
  | v :: vs, e :: L, h => by
    obtain ⟨a, r, rfl, ha, hr⟩ := h.2 0 v e rfl rfl
    exact .cons (dp_ln ha hr) (dpAll_lns ⟨by
      have := h.1
      simpa using this, fun i v e h1 h2 => h.2 (i + 1) v e h1 h2⟩)
theorem dp_lns {K : PySem.W.Frag} {H : Hp} {p : Addr} {L : List (List Int × Int)} (h : LnsIn H p L) : Dp K H (.ref p) (lnsD L) := by
  obtain ⟨vs, hp, hv⟩ := h
  exact .lst (SqL.of hp) (dpAll_lns hv)
theorem rd_eqLn {K : PySem.W.Frag} {H : Hp} {p q : Addr} {L M : List (List Int × Int)} {Q : VK} (hp : LnsIn H p L) (hq : LnsIn H q M) (k : Q (.bl (decide (L = M))) H) : rEqD K (.ref p) (.ref q) H Q :=
  rd_eqD (dp_lns hp) (dp_lns hq) (pl_lns _) (pl_lns _) (fun e => by
    have e' : L = M := lns_inj (by unfold lnsD at e; injection e)
    rw [decide_eq_true e'] at k; exact k) (fun n => by rw [decide_eq_false (fun e => n (by rw [e]))] at k; exact k)
theorem rd_neLn {K : PySem.W.Frag} {H : Hp} {p q : Addr} {L M : List (List Int × Int)} {Q : VK} (hp : LnsIn H p L) (hq : LnsIn H q M) (k : Q (.bl (!decide (L = M))) H) : rNeD K (.ref p) (.ref q) H Q :=
  rd_neD (dp_lns hp) (dp_lns hq) (pl_lns _) (pl_lns _) (fun e => by
    have e' : L = M := lns_inj (by unfold lnsD at e; injection e)
    rw [decide_eq_true e'] at k; exact k) (fun n => by rw [decide_eq_false (fun e => n (by rw [e]))] at k; exact k)
theorem rd_sortLn {K : PySem.W.Frag} {H : Hp} {p : Addr} {L : List (List Int × Int)} {Q : VK} (hp : LnsIn H p L) (k : ∀ q H', Same H H' → H q = none → LnsIn H' q (sortLn L) → Q (.ref q) H') : rSortedD K [.ref p] H Q := by
  obtain ⟨vs, hv, hL⟩ := hp
  have e1 : (vs.zip L).map Prod.fst = vs := List.map_fst_zip (by rw [hL.1]; exact Nat.le_refl _)
  have e2 : (vs.zip L).map Prod.snd = L := List.map_snd_zip (by rw [hL.1]; exact Nat.le_refl _)
  have inz : ∀ b ∈ vs.zip L, ∃ a r, b.1 = V.ref a ∧ H a = some (.tup [.ref r, .int b.2.2]) ∧ H r = some (.lst (b.2.1.map V.int)) := fun b hb => by
    obtain ⟨j, hj⟩ := List.mem_iff_getElem?.mp hb
    obtain ⟨h1, h2⟩ := List.getElem?_zip_eq_some.mp hj
    exact hL.2 j _ _ h1 h2
  refine ⟨V × (List Int × Int), Prod.fst, fun b => lnD b.2, p, vs.zip L, rfl, by rw [e1]; exact SqL.of hv, fun b hb => ?_, fun d hd d' hd' => ?_, Sortable.tuples fun b => ⟨_, _, rfl⟩, fun b hb => ?_, fun q zq => ?_⟩
  · obtain ⟨a, r, h1, h2, h3⟩ := inz b hb
    rw [h1]
    exact dp_ln h2 h3
  · obtain ⟨b, _, rfl⟩ := List.mem_map.mp hd
    obtain ⟨b', _, rfl⟩ := List.mem_map.mp hd'
    have e : alike (intsD b.2.1) (intsD b'.2.1) = true := by
      show alike (.list _) (.list _) = true
      rw [alike]
      exact alike_ints _ _
    unfold lnD
    simp only [alike, alikeAll, e, Bool.and_self]
  · exact Nat.le_trans (depth_ln b.2) (by decide)
  · generalize eS : (vs.zip L).mergeSort (dataLe false fun b : V × (List Int × Int) => lnD b.2) = S
    have pS : S.Perm (vs.zip L) := eS ▸ List.mergeSort_perm _ _
    have eL : S.map Prod.snd = sortLn L := by
      have h := List.map_mergeSort (f := Prod.snd) (r := dataLe false fun b : V × (List Int × Int) => lnD b.2) (s := dataLe false lnD) (l := vs.zip L) (fun a _ b _ => rfl)
      rw [e2, eS] at h
      exact h
    have s1 : Same H (upd H q (.lst (S.map Prod.fst))) := Same.upd zq
    refine k q _ s1 zq ⟨S.map Prod.fst, upd_same, ?_⟩
    rw [← eL]
    refine ⟨by rw [List.length_map, List.length_map], fun i v e h1 h2 => ?_⟩
    rw [List.getElem?_map, Option.map_eq_some_iff] at h1 h2
    obtain ⟨b, hb, rfl⟩ := h1
    obtain ⟨b', hb', rfl⟩ := h2
    rw [hb] at hb'
    obtain rfl := Option.some.inj hb'
    obtain ⟨a, r, q1, q2, q3⟩ := inz b (pS.mem_iff.mp (List.mem_of_getElem? hb))
    exact ⟨a, r, q1, s1 _ _ q2, s1 _ _ q3⟩
end Rg
namespace Rg
open PySem L2 TL
variable {n : Nat} {ls ms : List Str}
theorem pos_neg : ∀ S : List Int, (S.filter fun s => decide (0 < s)).sum - ((S.map fun s => -s).filter fun s => decide (0 < s)).sum = S.sum
  | [] => rfl
  | x :: S => by
    have ih := pos_neg S
    rw [List.map_cons, List.filter_cons, List.filter_cons, List.sum_cons]
    by_cases h1 : 0 < x
    · rw [if_pos (decide_eq_true h1), if_neg (by simp; omega), List.sum_cons]
      omega
    · by_cases h2 : x < 0
      · rw [if_neg (by simpa using h1), if_pos (by simp; omega), List.sum_cons]
        omega
      · rw [if_neg (by simpa using h1), if_neg (by simp; omega)]
        omega
theorem flow_inv (W : Rows n ls) (V : Rows n ms) (B : ∀ i, goZ ms (goZ ls i) = i) : flowZ ms n = flowZ ls n := by
  unfold flowZ
  have e : (lanesL ms n).map Prod.snd = ((lanesL ls n).map Prod.snd).map fun s => -s := by
    rw [lanes_inv W V B, List.map_map, List.map_map]
    rfl
  have h := pos_neg ((lanesL ls n).map Prod.snd)
  have z : ((lanesL ls n).map Prod.snd).sum = 0 := by
    have := shifts_zero W
    unfold lanesL
    rw [List.map_map]
    exact this
  rw [e]
  rw [z] at h
  congr 1
  omega
theorem flow_move {b : Int} (W : Rows n ls) (V : Rows n ms) (M : ∀ i, goZ ms (i + b) = goZ ls i + b) : flowZ ms n = flowZ ls n := by
  unfold flowZ
  have p : ((lanesL ls n).map Prod.snd).Perm ((lanesL ms n).map Prod.snd) := by
    have q := (far_perm W V M).map (shiftZ ms n)
    unfold lanesL
    rw [List.map_map, List.map_map]
    refine List.Perm.trans (List.Perm.of_eq ?_) q
    rw [List.map_map]
    refine List.map_congr_left fun c _ => ?_
    obtain ⟨g1, g2⟩ := lstO_is V (c + b)
    show shiftZ ls n c = shiftZ ms n (lstO ms n (c + b))
    rw [← (fromL_orb V (c + b) g1 g2).2, (move_len W M c).2]
  congr 1
  exact (perm_sum (p.filter _)).symm
theorem drift_inv (W : Rows n ls) (V : Rows n ms) (B : ∀ i, goZ ms (goZ ls i) = i) (q : Int) : driftT ms n q = -driftT ls n q ∧ driftB ms n q = driftB ls n q := by
  have g : driftG ms n q = driftG ls n q := by
    unfold driftG
    rw [shiftZ_inv W V B, laneLen_inv W V B, Int.natAbs_neg]
  constructor
  · have d : (driftG ls n q : Int) ∣ shiftZ ls n q := ⟨driftT ls n q, by rw [Int.mul_comm]; exact (drift_T q).symm⟩
    unfold driftT
    rw [g, shiftZ_inv W V B, Int.neg_ediv_of_dvd d]
  · unfold driftB
    rw [g, laneLen_inv W V B]
theorem drift_move {b : Int} (W : Rows n ls) (M : ∀ i, goZ ms (i + b) = goZ ls i + b) (q : Int) : driftT ms n (q + b) = driftT ls n q ∧ driftB ms n (q + b) = driftB ls n q := by
  obtain ⟨h1, h2⟩ := move_len W M q
  constructor
  · unfold driftT driftG
    rw [h1, h2]
  · unfold driftB driftG
    rw [h1, h2]
end Rg
/-! own words: which lists are told as rings rightly -/
namespace Rg
open PySem L2 TL
variable {n : Nat} {f : Int → Int}
/-- each next one is where a walker stands a round on, round and round -/
structure Goes (n : Nat) (f : Int → Int) (r : List Int) : Prop where
  ne : r ≠ []
  on : ∀ z ∈ r, 0 ≤ z ∧ z < n
  next : ∀ (k : Nat) (z : Int), r[k]? = some z → r[(k + 1) % r.length]? = some (f z)
theorem Goes.it {r : List Int} (G : Goes n f r) {x : Int} (h0 : r[0]? = some x) : ∀ k, r[k % r.length]? = some (itG f k x)
  | 0 => by rw [Nat.zero_mod]; exact h0
  | k + 1 => by
    have ih := G.next _ _ (G.it h0 k)
    have hp : 0 < r.length := List.length_pos_iff.mpr G.ne
    have e : (k % r.length + 1) % r.length = (k + 1) % r.length := by rw [Nat.mod_add_mod]
    rw [e] at ih
    exact ih
theorem Goes.ring (C : Cyc n f) {r : List Int} (G : Goes n f r) (nd : r.Nodup) {x : Int} (h0 : r[0]? = some x) : r = ringOf f n x := by
  have hp : 0 < r.length := List.length_pos_iff.mpr G.ne
  obtain ⟨x0, x1⟩ := G.on x (List.mem_of_getElem? h0)
  obtain ⟨l0, _, l2, l3⟩ := C.len x0 x1
  have gk : ∀ k, k < r.length → r[k]? = some (itG f k x) := fun k hk => by
    have := G.it h0 k
    rw [Nat.mod_eq_of_lt hk] at this
    exact this
  have hr : itG f r.length x = x := by
    have := G.it h0 r.length
    rw [Nat.mod_self, h0] at this
    exact (Option.some.inj this).symm
  have h1 : ¬ r.length < ringLen f n x := fun h => l3 _ hp h hr
  have h2 : ¬ ringLen f n x < r.length := fun h => by
    have a := gk _ h
    rw [l2, ← h0] at a
    obtain ⟨h', _⟩ := List.getElem?_eq_some_iff.mp h0
    obtain ⟨_, e1⟩ := List.getElem?_eq_some_iff.mp (a.trans h0)
    obtain ⟨_, e2⟩ := List.getElem?_eq_some_iff.mp h0
    have := (List.getElem_inj nd).mp (e1.trans e2.symm)
    omega
  refine List.ext_getElem? fun k => ?_
  by_cases hk : k < r.length
  · rw [gk k hk, ring_get (by omega)]
  · rw [List.getElem?_eq_none (by omega), List.getElem?_eq_none (by rw [ring_len]; omega)]
theorem Cyc.fromL_ring (C : Cyc n f) {x : Int} (x0 : 0 ≤ x) (x1 : x < n) : ∃ c ∈ heads f n, fromL (ringOf f n x) = ringOf f n c ∧ x ∈ ringOf f n c := by
  obtain ⟨c, hc, hx⟩ := C.head_of x0 x1
  obtain ⟨c0, c1, hh⟩ := mem_heads.mp hc
  have hcx : c ∈ ringOf f n x := C.back c0 c1 hx
  have hl : ∀ z ∈ ringOf f n x, c ≤ z := fun z hz => head_iff.mp hh z (C.trans c0 c1 hx hz)
  obtain ⟨j, hj, ej⟩ := mem_ring.mp hcx
  refine ⟨c, hc, ?_, hx⟩
  have gj : (ringOf f n x)[j]? = some c := by rw [ring_get hj, ej]
  have hix : (ringOf f n x).idxOf c = j := by
    obtain ⟨hjl, e⟩ := List.getElem?_eq_some_iff.mp gj
    rw [← e]
    exact List.Nodup.idxOf_getElem (C.nodup x0 x1) j hjl
  unfold fromL
  rw [least_is hcx hl, hix, C.turn x0 x1 hj, ← ej]
theorem fromL_perm (r : List Int) : (fromL r).Perm r := by
  unfold fromL
  exact (List.perm_append_comm).trans (by rw [List.take_append_drop])
theorem flat_fromL : ∀ L : List (List Int), ((L.map fromL).flatten).Perm L.flatten
  | [] => .nil
  | r :: L => by
    rw [List.map_cons, List.flatten_cons, List.flatten_cons]
    exact (fromL_perm r).append (flat_fromL L)
theorem sort_perm {A B : List (List Int)} (p : A.Perm B) : sortLL A = sortLL B := by
  have pw : ∀ L : List (List Int), (sortLL L).Pairwise fun a b => decide (a ≤ b) = true := fun L => List.pairwise_mergeSort (fun a b c h1 h2 => by
    rw [decide_eq_true_eq] at *
    exact List.le_trans h1 h2) (fun a b => by
    rw [Bool.or_eq_true, decide_eq_true_eq, decide_eq_true_eq]
    exact List.le_total a b) L
  have q := ((List.mergeSort_perm A (fun a b => decide (a ≤ b))).trans p).trans (List.mergeSort_perm B (fun a b => decide (a ≤ b))).symm
  exact q.eq_of_pairwise (le := fun a b => a ≤ b) (fun a b _ _ h h' => List.le_antisymm h h') (List.Pairwise.imp (fun h => of_decide_eq_true h) (pw A)) (List.Pairwise.imp (fun h => of_decide_eq_true h) (pw B))
theorem rings_nodup (C : Cyc n f) : (ringsL f n).Nodup := by
  unfold ringsL
  refine List.Pairwise.map _ (fun c d h => h) ?_
  refine List.Pairwise.imp_of_mem (fun {c d} hc hd h e => ?_) (heads_sorted (f := f) (n := n))
  obtain ⟨c0, c1, _⟩ := mem_heads.mp hc
  obtain ⟨d0, d1, _⟩ := mem_heads.mp hd
  have a := C.head0 c0 c1
  have b := C.head0 d0 d1
  have e : ringOf f n c = ringOf f n d := e
  rw [e, b] at a
  have := Option.some.inj a
  omega
theorem right_to (C : Cyc n f) {L : List (List Int)} (h : ∀ r ∈ L, Goes n f r) (p : L.flatten.Perm ((List.range n).map fun k : Nat => (k : Int))) : sortLL (L.map fromL) = ringsL f n := by
  have nd : L.flatten.Nodup := p.nodup_iff.mpr (rangeI_nodup n)
  obtain ⟨nd1, nd2⟩ := List.pairwise_flatten.mp nd
  have hd : ∀ r ∈ L, ∃ x : Int, r[0]? = some x ∧ 0 ≤ x ∧ x < (n : Int) ∧ r = ringOf f n x := fun r hr => by
    have hp : 0 < r.length := List.length_pos_iff.mpr (h r hr).ne
    have e := List.getElem?_eq_getElem hp
    obtain ⟨a, b⟩ := (h r hr).on _ (List.getElem_mem hp)
    exact ⟨_, e, a, b, (h r hr).ring C (nd1 r hr) e⟩
  have pm : (L.map fromL).Perm (ringsL f n) := by
    refine (List.perm_ext_iff_of_nodup ?_ (rings_nodup C)).mpr fun e => ?_
    · refine List.Pairwise.map _ (fun c d h => h) ?_
      refine List.Pairwise.imp_of_mem (fun {r s} hr hs hdj e => ?_) nd2
      obtain ⟨x, hx, _⟩ := hd r hr
      have mr : x ∈ r := List.mem_of_getElem? hx
      have e : fromL r = fromL s := e
      have ms : x ∈ s := (fromL_perm s).mem_iff.mp (e ▸ (fromL_perm r).mem_iff.mpr mr)
      exact hdj x mr x ms rfl
    · unfold ringsL
      rw [List.mem_map, List.mem_map]
      constructor
      · rintro ⟨r, hr, rfl⟩
        obtain ⟨x, _, x0, x1, e⟩ := hd r hr
        obtain ⟨c, hc, e2, _⟩ := C.fromL_ring x0 x1
        exact ⟨c, hc, by rw [e, e2]⟩
      · rintro ⟨c, hc, rfl⟩
        obtain ⟨c0, c1, _⟩ := mem_heads.mp hc
        have hm : c ∈ L.flatten := p.mem_iff.mpr (List.mem_map.mpr ⟨c.toNat, List.mem_range.mpr (by omega), by omega⟩)
        obtain ⟨r, hr, hcr⟩ := List.mem_flatten.mp hm
        obtain ⟨x, _, x0, x1, e⟩ := hd r hr
        obtain ⟨d, hd', e2, hx⟩ := C.fromL_ring x0 x1
        obtain ⟨d0, d1, _⟩ := mem_heads.mp hd'
        have hcd : c ∈ ringOf f n d := C.trans d0 d1 hx (e ▸ hcr)
        have := C.head_one hc hd' (C.self c0 c1) hcd
        subst this
        exact ⟨r, hr, by rw [e, e2]⟩
  rw [sort_perm pm]
  have e := rings_sorted C
  have e0 : (ringsL f n).map fromL = ringsL f n := by
    unfold ringsL
    rw [List.map_map]
    refine List.map_congr_left fun c hc => ?_
    obtain ⟨c0, c1, h⟩ := mem_heads.mp hc
    exact fromL_head (C.head0 c0 c1) (head_iff.mp h)
  rw [e0] at e
  exact e
theorem turn_get {r : List Int} {i k : Nat} (hi : i < r.length) (hk : k < r.length) : (r.drop i ++ r.take i)[k]? = r[(i + k) % r.length]? := by
  rw [List.getElem?_append, List.length_drop]
  by_cases h : k < r.length - i
  · rw [if_pos h, List.getElem?_drop, Nat.mod_eq_of_lt (by omega)]
  · rw [if_neg h, List.getElem?_take_of_lt (by omega)]
    congr 1
    have e : i + k = (k - (r.length - i)) + r.length := by omega
    rw [e, Nat.add_mod_right, Nat.mod_eq_of_lt (by omega)]
theorem Goes.of_turn {r : List Int} {i : Nat} (hi : i < r.length) (G : Goes n f (r.drop i ++ r.take i)) : Goes n f r where
  ne := fun e => by
    rw [e] at hi
    cases hi
  on := fun z hz => G.on z (by rw [List.mem_append, Or.comm, ← List.mem_append, List.take_append_drop]; exact hz)
  next := fun k z hz => by
    have hk := (List.getElem?_eq_some_iff.mp hz).1
    have hl : (r.drop i ++ r.take i).length = r.length := by
      rw [List.length_append, List.length_drop, List.length_take]
      omega
    have hp : 0 < r.length := by omega
    have hk' := Nat.mod_lt (k + r.length - i) hp
    have e1 : (i + (k + r.length - i) % r.length) % r.length = k := by
      rw [Nat.add_mod_mod, show i + (k + r.length - i) = k + r.length by omega, Nat.add_mod_right, Nat.mod_eq_of_lt hk]
    have g := G.next ((k + r.length - i) % r.length) z (by rw [turn_get hi hk', e1]; exact hz)
    rw [hl, turn_get hi (Nat.mod_lt _ hp)] at g
    have e2 : (i + ((k + r.length - i) % r.length + 1) % r.length) % r.length = (k + 1) % r.length := by
      rw [Nat.add_mod_mod, ← Nat.add_assoc, ← Nat.mod_add_mod, e1]
    rw [e2] at g
    exact g
theorem Goes.of_ring (C : Cyc n f) {c : Int} (c0 : 0 ≤ c) (c1 : c < n) : Goes n f (ringOf f n c) where
  ne := fun e => by
    have := (C.pos c0 c1).1
    rw [← ring_len f n c, e] at this
    cases this
  on := fun z hz => C.range c0 c1 hz
  next := fun k z hz => by
    have hk := (List.getElem?_eq_some_iff.mp hz).1
    rw [ring_len] at hk
    rw [ring_get hk] at hz
    obtain rfl := Option.some.inj hz
    rw [ring_len]
    exact C.next c0 c1 hk
theorem right_of (C : Cyc n f) {L : List (List Int)} (h : sortLL (L.map fromL) = ringsL f n) : (∀ r ∈ L, Goes n f r) ∧ L.flatten.Perm ((List.range n).map fun k : Nat => (k : Int)) := by
  have p : (L.map fromL).Perm (ringsL f n) := by
    rw [← h]
    exact (List.mergeSort_perm _ _).symm
  constructor
  · intro r hr
    have hm : fromL r ∈ ringsL f n := p.mem_iff.mp (List.mem_map.mpr ⟨r, hr, rfl⟩)
    unfold ringsL at hm
    obtain ⟨c, hc, e⟩ := List.mem_map.mp hm
    obtain ⟨c0, c1, _⟩ := mem_heads.mp hc
    have G := Goes.of_ring C c0 c1
    rw [e] at G
    have hne : r ≠ [] := fun q => by
      have := G.ne
      rw [q] at this
      exact this rfl
    have hp : 0 < r.length := List.length_pos_iff.mpr hne
    obtain ⟨m, hm, hl⟩ := least_mem hne
    unfold fromL at G
    rw [least_is hm hl] at G
    exact G.of_turn (List.idxOf_lt_length_of_mem hm)
  · exact (flat_fromL L).symm.trans ((p.flatten).trans C.perm)
end Rg
/-! own words: which lists are told as lanes rightly -/
namespace Rg
open PySem L2 TL
variable {n : Nat} {ls : List Str}
/-- one round on the endless row, by rests -/
def stF (ls : List Str) (n : Nat) (z : Int) : Int := goZ ls z % (n : Int)
theorem stF_cyc (W : Rows n ls) : Cyc n (stF ls n) where
  to := fun i _ _ => by
    have := W.pos
    exact ⟨Int.emod_nonneg _ (by omega), Int.emod_lt_of_pos _ (by omega)⟩
  inj := fun i j i0 i1 j0 j1 e => by
    have := goZ_rest_inj W e
    rw [Int.emod_eq_of_lt i0 i1, Int.emod_eq_of_lt j0 j1] at this
    exact this
theorem stF_it (W : Rows n ls) {c : Int} (c0 : 0 ≤ c) (c1 : c < n) : ∀ k, itG (stF ls n) k c = itG (goZ ls) k c % (n : Int)
  | 0 => (Int.emod_eq_of_lt c0 c1).symm
  | k + 1 => by
    show goZ ls (itG (stF ls n) k c) % (n : Int) = goZ ls (itG (goZ ls) k c) % (n : Int)
    rw [stF_it W c0 c1 k]
    exact itG_congR (goZ_perM W) 1 (Int.emod_emod _ _)
theorem ring_lane (W : Rows n ls) {c : Int} (c0 : 0 ≤ c) (c1 : c < n) : ringLen (stF ls n) n c = laneLen ls n c := by
  unfold ringLen laneLen
  have e : (fun k => decide (itG (stF ls n) (k + 1) c = c)) = fun k => decide (itG (goZ ls) (k + 1) c % (n : Int) = c % n) := by
    funext k
    rw [stF_it W c0 c1, Int.emod_eq_of_lt c0 c1]
  rw [e]
  all_goals
    generalize List.find? _ _ = o
    cases o <;> rfl
theorem ring_orb (W : Rows n ls) {c : Int} (c0 : 0 ≤ c) (c1 : c < n) : ringOf (stF ls n) n c = orb ls n c := by
  unfold ringOf orb
  rw [ring_lane W c0 c1]
  exact List.map_congr_left fun k _ => stF_it W c0 c1 k
theorem heads_firsts (W : Rows n ls) : heads (stF ls n) n = firsts ls n := by
  unfold heads firsts
  refine List.filter_congr fun c hc => ?_
  obtain ⟨k, hk, rfl⟩ := List.mem_map.mp hc
  have := List.mem_range.mp hk
  unfold isHead isFirst
  rw [ring_orb W (by omega) (by omega)]
/-- how far a walker is moved from these rests -/
def sumS (ls : List Str) (r : List Int) : Int := (r.map (moveZ ls)).sum
theorem shift_sum (W : Rows n ls) (c : Int) : shiftZ ls n c = sumS ls (orb ls n c) := by
  unfold shiftZ sumS
  rw [moved_sum W]
  unfold orb
  rw [List.map_map]
  rfl
theorem lanes_rings (W : Rows n ls) : lanesL ls n = (ringsL (stF ls n) n).map fun r => (r, sumS ls r) := by
  unfold lanesL ringsL
  rw [heads_firsts W, List.map_map]
  refine List.map_congr_left fun c hc => ?_
  obtain ⟨c0, c1, _⟩ := mem_firsts.mp hc
  show _ = (ringOf (stF ls n) n c, sumS ls (ringOf (stF ls n) n c))
  rw [ring_orb W c0 c1, shift_sum W]
theorem sumS_perm {r t : List Int} (p : r.Perm t) : sumS ls r = sumS ls t := by
  unfold sumS
  exact perm_sumI (p.map _)
/-- told as lanes rightly -/
def RightL (ls : List Str) (n : Nat) (L : List (List Int × Int)) : Prop := (∀ e ∈ L, Goes n (stF ls n) e.1 ∧ e.2 = sumS ls e.1) ∧ (L.map (·.1)).flatten.Perm ((List.range n).map fun k : Nat => (k : Int))
theorem lane_right_to (W : Rows n ls) {L : List (List Int × Int)} (h : RightL ls n L) : sortLn (L.map fun e => (fromL e.1, e.2)) = lanesL ls n := by
  obtain ⟨h1, h2⟩ := h
  have C := stF_cyc W
  have e := right_to C (L := L.map (·.1)) (fun r hr => by
    obtain ⟨x, hx, rfl⟩ := List.mem_map.mp hr
    exact (h1 x hx).1) h2
  have p : ((L.map (·.1)).map fromL).Perm (ringsL (stF ls n) n) := by
    rw [← e]
    exact (List.mergeSort_perm _ _).symm
  have q := p.map fun r => (r, sumS ls r)
  rw [← lanes_rings W, List.map_map, List.map_map] at q
  have q2 : (L.map fun e => (fromL e.1, e.2)).Perm (lanesL ls n) := by
    refine List.Perm.trans (List.Perm.of_eq (List.map_congr_left fun x hx => ?_)) q
    show _ = (fromL x.1, sumS ls (fromL x.1))
    rw [(h1 x hx).2, sumS_perm (fromL_perm x.1)]
  obtain ⟨a, b⟩ := lanes_hd W
  exact sortLn_eq a b q2
theorem rings_of_perm {f : Int → Int} (C : Cyc n f) {L : List (List Int)} (p : (L.map fromL).Perm (ringsL f n)) : (∀ r ∈ L, Goes n f r) ∧ L.flatten.Perm ((List.range n).map fun k : Nat => (k : Int)) := by
  constructor
  · intro r hr
    have hm : fromL r ∈ ringsL f n := p.mem_iff.mp (List.mem_map.mpr ⟨r, hr, rfl⟩)
    unfold ringsL at hm
    obtain ⟨c, hc, e⟩ := List.mem_map.mp hm
    obtain ⟨c0, c1, _⟩ := mem_heads.mp hc
    have G := Goes.of_ring C c0 c1
    rw [e] at G
    have hne : r ≠ [] := fun q => by
      have := G.ne
      rw [q] at this
      exact this rfl
    obtain ⟨m, hm, hl⟩ := least_mem hne
    unfold fromL at G
    rw [least_is hm hl] at G
    exact G.of_turn (List.idxOf_lt_length_of_mem hm)
  · exact (flat_fromL L).symm.trans ((p.flatten).trans C.perm)
theorem lane_right_of (W : Rows n ls) {L : List (List Int × Int)} (h : sortLn (L.map fun e => (fromL e.1, e.2)) = lanesL ls n) : RightL ls n L := by
  have C := stF_cyc W
  have p : (L.map fun e => (fromL e.1, e.2)).Perm (lanesL ls n) := by
    rw [← h]
    exact (List.mergeSort_perm _ _).symm
  have p1 := p.map (·.1)
  rw [lanes_rings W, List.map_map, List.map_map] at p1
  have p2 : ((L.map (·.1)).map fromL).Perm (ringsL (stF ls n) n) := by
    rw [List.map_map]
    refine List.Perm.trans p1 (List.Perm.of_eq ?_)
    exact (List.map_congr_left fun x _ => rfl).trans (List.map_id _)
  obtain ⟨g1, g2⟩ := rings_of_perm C p2
  refine ⟨fun e he => ⟨g1 e.1 (List.mem_map.mpr ⟨e, he, rfl⟩), ?_⟩, g2⟩
  have hm : (fromL e.1, e.2) ∈ lanesL ls n := p.mem_iff.mp (List.mem_map.mpr ⟨e, he, rfl⟩)
  rw [lanes_rings W] at hm
  obtain ⟨r, _, er⟩ := List.mem_map.mp hm
  injection er with e1 e2
  rw [← e2, e1, sumS_perm (fromL_perm e.1)]
end Rg
namespace Rg
open PySem L2 TL
local macro_rules | `(tactic| walk_at "sd") => `(tactic| (first | (with_reducible show (_ : Int) ≤ _; omega) | (with_reducible show (_ : Int) < _; omega) | ((fail_if_success (with_reducible show (_ : Int) ≤ _)); rfl) | assumption | omega | (show (0 : Int) < _; omega) | (refine Or.inl ⟨?_, ?_⟩ <;> omega) | (refine Or.inr ⟨?_, ?_⟩ <;> omega) | (refine And.intro ?_ ?_ <;> omega) | exact cp60 | exact cp18 | exact cm60 | exact ps60 | exact Nat.le_of_ble_eq_true rfl | decide))
local macro_rules | `(tactic| walk_at "r") => `(tactic| (first | refine ⟨_, rfl, ?_⟩ | refine Or.inl ⟨_, rfl, ?_⟩ | refine ⟨_, _, rfl, rfl, ?_⟩ | refine ⟨_, _, _, _, rfl, rfl, SqL.of (by assumption), (by assumption), ?_⟩ | refine And.intro (Or.inl ⟨rfl, _, SqL.of (by assumption)⟩) ?_ | refine And.intro ⟨_, rfl⟩ ?_ | refine ⟨_, _, rfl, .inl (SqL.of (by assumption)), ?_⟩ | (refine And.intro ?_ ?_; focus (walk_at "sd"; done))))
local macro_rules | `(tactic| walk_at "x") => `(tactic| (first | refine ⟨_, rfl, ?_⟩ | refine Or.inl ⟨_, rfl, ?_⟩ | refine ⟨_, _, rfl, rfl, ?_⟩ | refine ⟨_, _, _, _, rfl, rfl, SqL.of (by assumption), (by assumption), ?_⟩ | refine And.intro (Or.inl ⟨rfl, _, SqL.of (by assumption)⟩) ?_ | refine And.intro ⟨_, rfl⟩ ?_ | refine ⟨_, _, rfl, .inl (SqL.of (by assumption)), ?_⟩ | refine ⟨_, _, rfl, .inr (SqT.of (by assumption)), ?_⟩ | refine ⟨_, _, _, _, rfl, rfl, SqT.of (by assumption), (by assumption), ?_⟩ | with_reducible refine iteF ?_ | with_reducible refine iteT ?_ | (refine And.intro ?_ ?_; focus (walk_at "sd"; done))))
local macro_rules | `(tactic| walk_at "rd") => `(tactic| repeat (first | refine ⟨_, rfl, ?_⟩ | refine Or.inl ⟨_, rfl, ?_⟩ | refine ⟨_, _, rfl, rfl, ?_⟩ | refine ⟨_, _, _, _, rfl, rfl, SqL.of (by assumption), (by assumption), ?_⟩ | refine And.intro (Or.inl ⟨rfl, _, SqL.of (by assumption)⟩) ?_ | refine And.intro ⟨_, rfl⟩ ?_ | refine ⟨_, _, rfl, .inl (SqL.of (by assumption)), ?_⟩ | (refine And.intro ?_ ?_; focus (walk_at "sd"; done))))
local macro_rules | `(tactic| walk_at "rx") => `(tactic| repeat (first | refine ⟨_, rfl, ?_⟩ | refine Or.inl ⟨_, rfl, ?_⟩ | refine ⟨_, _, rfl, rfl, ?_⟩ | refine ⟨_, _, _, _, rfl, rfl, SqL.of (by assumption), (by assumption), ?_⟩ | refine And.intro (Or.inl ⟨rfl, _, SqL.of (by assumption)⟩) ?_ | refine And.intro ⟨_, rfl⟩ ?_ | refine ⟨_, _, rfl, .inl (SqL.of (by assumption)), ?_⟩ | refine ⟨_, _, rfl, .inr (SqT.of (by assumption)), ?_⟩ | refine ⟨_, _, _, _, rfl, rfl, SqT.of (by assumption), (by assumption), ?_⟩ | with_reducible refine iteF ?_ | with_reducible refine iteT ?_ | (refine And.intro ?_ ?_; focus (walk_at "sd"; done))))
def top (i : Nat) : Stmt := PySem.Challenge.pw_rungrepeats_k24_lanes_judged.main.body.getD i (.Pass ⟨0, 0, 0, 0⟩)
abbrev s_check_size : Stmt := top 8
abbrev N_check_size : List Str := ["n"]
theorem sc_check_size : FnScope N_check_size ["n"] (defScope s_check_size) := ⟨rfl, rfl, rfl, by decide +kernel, rfl, by decide +kernel, by decide +kernel⟩
section
variable {P : Program} {w : World} {K : PySem.W.Frag} {mg : Str → Option Value} {base : Heap}
def spCheckSize : Sp := fun vs H Q _ => ∃ n : Int, vs = [.int n] ∧ 1 ≤ n ∧ Q .non H
theorem ok_check_size {f : Addr} {fd : FuncData} (F : Fun K "check_size" "check_size" s_check_size f fd) (B : Bi mg) : FnOk P w K mg base CX0 2 f fd ["n"] spCheckSize := by
  refine F.ok sc_check_size (fun vs H Q E h => ?_) (fun cdv A outer s H vs Q E hr h => ?_)
  · obtain ⟨n, rfl, _⟩ := h
    rfl
  · obtain ⟨n, rfl, hn, k⟩ := h
    refine ⟨_, (pss_one (ps_if (pt_cmpR op_lt (pv 0) pe_int (nomark _))
    (pss_one ps_never)
    pss_nil)), ?_⟩
    walk_at "rd"
    refine ite2 (fun hc => ?_) (fun hc => ?_)
    · exact absurd (of_decide_eq_true hc) (by omega)
    · exact k
end
abbrev s_check_half_post : Stmt := top 9
abbrev N_check_half_post : List Str := ["post"]
theorem sc_check_half_post : FnScope N_check_half_post ["post"] (defScope s_check_half_post) := ⟨rfl, rfl, rfl, by decide +kernel, rfl, by decide +kernel, by decide +kernel⟩
section
variable {P : Program} {w : World} {K : PySem.W.Frag} {mg : Str → Option Value} {base : Heap}
def spCheckHalf : Sp := fun vs H Q _ => ∃ n : Int, vs = [.int n] ∧ 0 ≤ n ∧ Q .non H
theorem ok_check_half_post {f : Addr} {fd : FuncData} (F : Fun K "check_half_post" "check_half_post" s_check_half_post f fd) (B : Bi mg) : FnOk P w K mg base CX0 2 f fd ["post"] spCheckHalf := by
  refine F.ok sc_check_half_post (fun vs H Q E h => ?_) (fun cdv A outer s H vs Q E hr h => ?_)
  · obtain ⟨n, rfl, _⟩ := h
    rfl
  · obtain ⟨n, rfl, hn, k⟩ := h
    refine ⟨_, (pss_one (ps_if (pt_cmpR op_lt (pv 0) pe_int (nomark _))
    (pss_one ps_never)
    pss_nil)), ?_⟩
    walk_at "rd"
    refine ite2 (fun hc => ?_) (fun hc => ?_)
    · exact absurd (of_decide_eq_true hc) (by omega)
    · exact k
end
abbrev s_check_number : Stmt := top 10
abbrev N_check_number : List Str := ["number"]
theorem sc_check_number : FnScope N_check_number ["number"] (defScope s_check_number) := ⟨rfl, rfl, rfl, by decide +kernel, rfl, by decide +kernel, by decide +kernel⟩
section
variable {P : Program} {w : World} {K : PySem.W.Frag} {mg : Str → Option Value} {base : Heap}
def spCheckNumber : Sp := fun vs H Q _ => ∃ n : Int, vs = [.int n] ∧ 0 ≤ n ∧ Q .non H
theorem ok_check_number {f : Addr} {fd : FuncData} (F : Fun K "check_number" "check_number" s_check_number f fd) (B : Bi mg) : FnOk P w K mg base CX0 2 f fd ["number"] spCheckNumber := by
  refine F.ok sc_check_number (fun vs H Q E h => ?_) (fun cdv A outer s H vs Q E hr h => ?_)
  · obtain ⟨n, rfl, _⟩ := h
    rfl
  · obtain ⟨n, rfl, hn, k⟩ := h
    refine ⟨_, (pss_one (ps_if (pt_cmpR op_lt (pv 0) pe_int (nomark _))
    (pss_one ps_never)
    pss_nil)), ?_⟩
    walk_at "rd"
    refine ite2 (fun hc => ?_) (fun hc => ?_)
    · exact absurd (of_decide_eq_true hc) (by omega)
    · exact k
end
abbrev s_from_least : Stmt := top 12
abbrev N_from_least : List Str := ["entries", "start"]
theorem sc_from_least : FnScope N_from_least ["entries"] (defScope s_from_least) := ⟨rfl, rfl, rfl, by decide +kernel, rfl, by decide +kernel, by decide +kernel⟩
section
variable {P : Program} {w : World} {K : PySem.W.Frag} {mg : Str → Option Value} {base : Heap}
def spFromLeast : Sp := fun vs H Q _ => ∃ (a : Addr) (ns : List Int), vs = [.ref a] ∧ H a = some (.lst (ns.map V.int)) ∧ ns.length ≤ 10000 ∧ ∀ (r : Addr) (H' : Hp), Same H H' → H r = none → H' r = some (.lst ((fromL ns).map V.int)) → Q (.ref r) H'
theorem ok_from_least {f : Addr} {fd : FuncData} (F : Fun K "from_least" "from_least" s_from_least f fd) (B : Bi mg) : FnOk P w K mg base CX0 2 f fd ["entries"] spFromLeast := by
  refine F.ok sc_from_least (fun vs H Q E h => ?_) (fun cdv A outer s0 H vs Q E hr h => ?_)
  · obtain ⟨a, ns, rfl, _⟩ := h
    rfl
  · obtain ⟨a, ns, rfl, ha, hl, k⟩ := h
    refine ⟨_, (pss_cons (ps_if (pt_cmpR op_eq (pe_callB call_len_seq (by rfl) B.len_ PySem.boot_len (pa_cons (pv 0) pa_nil)) pe_int (nomark _))
    (pss_one (ps_ret (pe_lst pa_nil)))
    pss_nil)
    (pss_cons (ps_set (i := 1) sc_from_least.nd rfl (Or.inl rfl) (pe_bm PySem.F.plainAttrs_list PySem.F.slot_list_index PySem.F.type_list_index mt_index (pv 0) (pa_cons (pe_callB (cr_min rfl) (by rfl) B.min_ (by decide +kernel) (pa_cons (pv 0) pa_nil)) pa_nil)))
    (pss_one (ps_ret (pe_op op_cat (pe_slice sl_list (pv 0) (po_some (pv 1)) po_none) (pe_slice sl_list (pv 0) po_none (po_some (pv 1)))))))), ?_⟩
    walk_at "rx"
    refine ite2 (fun hc => ?_) (fun hc => ?_)
    · have e0 : ns = [] := by
        have e := of_decide_eq_true hc
        injection e with e
        rw [List.length_map] at e
        exact List.length_eq_zero_iff.mp (by omega)
      subst e0
      walk_at "rx"
      intro u zu
      exact k u _ (Same.upd zu) zu upd_same
    have n0 : 0 < ns.length := by
      refine Nat.pos_of_ne_zero fun e => hc (decide_eq_true ?_)
      rw [List.length_map, e]
      rfl
    walk_at "rx"
    refine ⟨a, ns, rfl, SqL.of ha, n0, fun m hm hmin => ?_⟩
    have em := least_is hm hmin
    have hj := List.idxOf_lt_length_of_mem hm
    have hz : (ns.map V.int)[ns.idxOf m]? = some (V.int m) := by
      rw [List.getElem?_map, List.getElem?_eq_getElem hj, List.getElem_idxOf hj]
      rfl
    walk_at "rx"
    refine ⟨a, _, _, ns.idxOf m, _, rfl, rfl, SqL.of ha, rfl, flat_ints _, hz, decide_eq_true rfl, fun j z' hj' hz' => ?_, ?_⟩
    · rw [List.getElem?_map, Option.map_eq_some_iff] at hz'
      obtain ⟨x, hx, rfl⟩ := hz'
      refine decide_eq_false fun e => ?_
      subst e
      have hjl := (List.getElem?_eq_some_iff.mp hx).1
      have := List.not_of_lt_findIdx (p := (· == x)) (xs := ns) (i := j) hj'
      rw [List.getElem?_eq_getElem hjl] at hx
      rw [Option.some.inj hx] at this
      simp at this
    walk_at "rx"
    refine ⟨a, _, rfl, SqL.of ha, fun u zu => ?_⟩
    generalize eu : upd _ u _ = H1
    obtain ⟨s1, hu⟩ := nw eu zu
    have ha1 := s1 _ _ ha
    walk_at "rx"
    refine ⟨a, _, rfl, SqL.of ha1, fun u2 zu2 => ?_⟩
    generalize eu2 : upd _ u2 _ = H2
    obtain ⟨s2, hu2⟩ := nw eu2 zu2
    have hu' := s2 _ _ hu
    rw [cutV_from (ns.idxOf m) rfl, ← List.map_drop] at hu'
    rw [cutV_to (ns.idxOf m) rfl, ← List.map_take] at hu2
    refine ⟨u, u2, _, _, rfl, rfl, hu', hu2, ?_, fun u3 zu3 => ?_⟩
    · refine Nat.le_trans ?_ (show 10000 ≤ sizeLine by decide)
      simp only [List.length_map, List.length_drop, List.length_take]
      omega
    · generalize eu3 : upd _ u3 _ = H3
      obtain ⟨s3, hu3⟩ := nw eu3 zu3
      refine k u3 H3 (s1.trans (s2.trans s3)) (s1.free (s2.free zu3)) ?_
      rw [hu3, ← List.map_append]
      unfold fromL
      rw [em]
end
abbrev s_is_marked : Stmt := top 21
abbrev N_is_marked : List Str := ["text"]
theorem sc_is_marked : FnScope N_is_marked ["text"] (defScope s_is_marked) := ⟨rfl, rfl, rfl, by decide +kernel, rfl, by decide +kernel, by decide +kernel⟩
section
variable {P : Program} {w : World} {K : PySem.W.Frag} {mg : Str → Option Value} {base : Heap}
/-- marks alone, no two rungs side by side: as the program asks it -/
def Mk (z : Str) : Bool := decide ((tl z).count 45 + (tl z).count 46 = (tl z).length) && (!(!(Builtin.Str.occurrences z (Str.ofString "--") 0 z.length 1).isEmpty))
def spIsMarked : Sp := fun vs H Q _ => ∃ z : Str, vs = [.str z] ∧ z.length ≤ sizeLine ∧ Q (.bl (Mk z)) H
theorem ok_is_marked {f : Addr} {fd : FuncData} (F : Fun K "is_marked" "is_marked" s_is_marked f fd) (B : Bi mg) : FnOk P w K mg base CX0 1 f fd ["text"] spIsMarked := by
  refine F.ok sc_is_marked (fun vs H Q E h => ?_) (fun cdv A outer s H vs Q E hr h => ?_)
  · obtain ⟨z, rfl, _⟩ := h
    rfl
  · obtain ⟨z, rfl, hz, k⟩ := h
    refine ⟨_, (pss_one (ps_ret (pe_and (pe_cmpR op_eq (pe_op op_add (pe_m1 PySem.F.slot_str_count PySem.F.type_str_count mt_count (pv 0) pe_str) (pe_m1 PySem.F.slot_str_count PySem.F.type_str_count mt_count (pv 0) pe_str)) (pe_callB call_len_str (by rfl) B.len_ PySem.boot_len (pa_cons (pv 0) pa_nil)) (nomark _)) (pe_one (pe_cmpR op_notin_str pe_str (pv 0) (by rfl)))))), ?_⟩
    walk_at "rx"
    have e1 : Txt.count z (Str.ofString "-") = ((tl z).count 45 : Nat) := count_one z 45
    have e2 : Txt.count z (Str.ofString ".") = ((tl z).count 46 : Nat) := count_one z 46
    rw [e1, e2, len_tl]
    unfold Mk at k
    refine ite2 (fun hc => ?_) (fun hc => ?_)
    · have hs : (tl z).count 45 + (tl z).count 46 = (tl z).length := by
        have := of_decide_eq_true hc
        injection this with this
        omega
      rw [decide_eq_true hs, Bool.true_and] at k
      walk_at "rx"
      exact k
    · have hs : ¬ (tl z).count 45 + (tl z).count 46 = (tl z).length := fun h => hc (decide_eq_true (congrArg V.int (by omega)))
      rw [decide_eq_false hs, Bool.false_and] at k
      walk_at "rx"
      exact k
end
abbrev s_is_row : Stmt := top 22
abbrev N_is_row : List Str := ["text"]
theorem sc_is_row : FnScope N_is_row ["text"] (defScope s_is_row) := ⟨rfl, rfl, rfl, by decide +kernel, rfl, by decide +kernel, by decide +kernel⟩
section
variable {P : Program} {w : World} {K : PySem.W.Frag} {mg : Str → Option Value} {base : Heap}
theorem mk_row {z : Str} {c : Nat} (h0 : 0 < (tl z).length) (hc : (tl z)[0]? = some c) : Mk (z ++ (⟨#[c]⟩ : Str)) = true ↔ Row (tl z) := by
  have e : tl (z ++ (⟨#[c]⟩ : Str)) = tl z ++ [c] := tl_append z _
  unfold Mk
  rw [e, Bool.and_eq_true, decide_eq_true_eq, List.count_append, List.count_append, List.length_append, List.length_singleton]
  have q := (signs_count (tl z)).1
  have q1 := (signs_count [c]).1
  rw [List.length_singleton] at q1
  constructor
  · rintro ⟨h1, h2⟩
    have hs : (tl z).count 45 + (tl z).count 46 = (tl z).length := by omega
    exact (row_asked h0 hs hc).mp h2
  · intro R
    have hs := (signs_count (tl z)).2.mpr R.sgn
    have hs1 : ([c]).count 45 + ([c]).count 46 = ([c] : List Nat).length := (signs_count [c]).2.mpr fun x hx => by
      rw [List.mem_singleton.mp hx]
      exact R.sgn c (List.mem_of_getElem? hc)
    rw [List.length_singleton] at hs1
    exact ⟨by omega, (row_asked h0 hs hc).mpr R⟩
def spIsRow : Sp := fun vs H Q _ => ∃ z : Str, vs = [.str z] ∧ z.length < sizeLine ∧ ∀ b : Bool, (b = true ↔ Row (tl z)) → Q (.bl b) H
theorem ok_is_row {f : Addr} {fd : FuncData} (F : Fun K "is_row" "is_row" s_is_row f fd) (B : Bi mg) (D_is_marked : Df P w K mg base "is_marked" 1 ["text"] spIsMarked) : FnOk P w K mg base CX0 2 f fd ["text"] spIsRow := by
  refine F.ok sc_is_row (fun vs H Q E h => ?_) (fun cdv A outer s H vs Q E hr h => ?_)
  · obtain ⟨z, rfl, _⟩ := h
    rfl
  · obtain ⟨z, rfl, hz, k⟩ := h
    refine ⟨_, (pss_one (ps_ret (pe_and (pe_cmpR op_ne (pv 0) pe_str (nomark _)) (pe_one (pe_df D_is_marked (hr.mono (by first | decide | omega)) (by rfl) (pa_cons (pe_op op_add_str (pv 0) (pe_ix ix_str (pv 0) pe_int (fun _ _ => rfl))) pa_nil)))))), ?_⟩
    walk_at "rx"
    refine ite2 (fun hc => ?_) (fun hc => ?_)
    · have hne : 0 < (tl z).length := by
        rcases Nat.eq_zero_or_pos (tl z).length with q | q
        · rw [decide_eq_true (congrArg V.str (ext_tl (List.length_eq_zero_iff.mp q : tl z = tl (Str.ofString "")) ))] at hc
          exact absurd hc (by decide)
        · exact q
      have hg := sg_first hne
      walk_at "rx"
      refine ⟨_, _, _, rfl, rfl, Nat.le_of_lt hz, atI_k' 0 rfl hg, ?_⟩
      refine ⟨_, _, rfl, rfl, hz, ?_⟩
      walk_at "rx"
      refine ⟨?_, k _ (mk_row hne hg)⟩
      have : (z ++ (⟨#[sg (tl z) 0]⟩ : Str)).length = z.length + 1 := by
        rw [len_tl, tl_append, List.length_append, len_tl]
        rfl
      omega
    · walk_at "rx"
      refine k false ⟨fun h => (nomatch h), fun R => ?_⟩
      rw [Bool.not_eq_true, Bool.not_eq_false', decide_eq_true_eq] at hc
      injection hc with e
      rw [e] at R
      exact absurd R.ne (by decide +kernel)
end
abbrev s_Rule_u__init_u_ : Stmt := inClass (top 26) 0
abbrev N_Rule_u__init_u_ : List Str := ["self", "texts", "row"]
theorem sc_Rule_u__init_u_ : FnScope N_Rule_u__init_u_ ["self", "texts"] (defScope s_Rule_u__init_u_) := ⟨rfl, rfl, rfl, by decide +kernel, rfl, by decide +kernel, by decide +kernel⟩
section
variable {P : Program} {w : World} {K : PySem.W.Frag} {mg : Str → Option Value} {base : Heap}
/-- what is known of the class -/
structure Rl (K : PySem.W.Frag) (C : Addr) : Prop where
  cl : Cls K C
  nR : NoAttr K C "_rows"
  c1 : PySem.W.findIn K (.ref C) "__class__" = some (some (.builtin "object.__class__"))
  c2 : PySem.W.specialIn K (.builtin "object.__class__") "__get__" = some (some (.builtin "getset_descriptor.__get__"))
  c3 : PySem.W.takesIn K (.builtin "object.__class__") = some true
  c4 : PySem.W.mroIn K C (.type "object") = some true
  sf : PySem.W.selfFirst K C = true
theorem Rl.c5 {K : PySem.W.Frag} {C : Addr} (_ : Rl K C) : PySem.W.kitOne K (.ref C) (.ref C) = some true := by
  unfold PySem.W.kitOne
  rw [if_pos (beq_self_eq_true _)]
theorem Rl.ty {K : PySem.W.Frag} {C : Addr} (T : Rl K C) {H : Hp} {a dx : Addr} {fs : List (Str × V)} (e : H a = some (.ins C dx fs)) : TyX K H (.ref a) (.ref C) := .base (.ins e T.cl T.c1 T.c2 T.c3 T.c4)
/-- at p an object of the class stands, with these rows -/
def RuleAt (C : Addr) (H : Hp) (p : Addr) (ls : List Str) : Prop := ∃ dx u, H p = some (.ins C dx [("_rows", V.ref u)]) ∧ H u = some (.tup (ls.map V.str))
theorem RuleAt.same {C : Addr} {H H' : Hp} {p : Addr} {ls : List Str} (h : RuleAt C H p ls) (s : Same H H') : RuleAt C H' p ls := by
  obtain ⟨dx, u, h1, h2⟩ := h
  exact ⟨dx, u, s _ _ h1, s _ _ h2⟩
theorem RuleAt.put {C : Addr} {H : Hp} {p l : Addr} {ls : List Str} {xs : List V} {o : HO} (h : RuleAt C H p ls) (hl : H l = some (.lst xs)) : RuleAt C (upd H l o) p ls := by
  obtain ⟨dx, u, h1, h2⟩ := h
  exact ⟨dx, u, by rw [upd_ne (ne_of h1 hl (by intro z; cases z))]; exact h1, by rw [upd_ne (ne_of h2 hl (by intro z; cases z))]; exact h2⟩
def spInit (C : Addr) : Sp := fun vs H Q _ => ∃ (p t dx : Addr) (n : Nat) (ls : List Str), vs = [.ref p, .ref t] ∧ H p = some (.ins C dx []) ∧ H t = some (.lst (ls.map V.str)) ∧ Rows n ls ∧ n ≤ 5000 ∧
  ∀ H' : Hp, RuleAt C H' p ls → (∀ b o, H b = some o → b ≠ p → H' b = some o) → Q .non H'
theorem ok_Rule_init {f C : Addr} {fd : FuncData} (F : Fun K "__init__" "Rule.__init__" s_Rule_u__init_u_ f fd) (B : Bi mg) (T : Rl K C) (D_is_row : Df P w K mg base "is_row" 2 ["text"] spIsRow) : FnOk P w K mg base CX0 3 f fd ["self", "texts"] (spInit C) := by
  refine F.ok sc_Rule_u__init_u_ (fun vs H Q E h => ?_) (fun cdv A outer s H vs Q E hr h => ?_)
  · obtain ⟨p, t, dx, n, ls, rfl, _⟩ := h
    rfl
  · obtain ⟨p, t, dx, n, ls, rfl, hp, ht, R, hn, k⟩ := h
    have npt : p ≠ t := ne_of hp ht (by intro z; cases z)
    have n5 : n < sizeLine := Nat.lt_of_le_of_lt hn (by decide)
    refine ⟨_, (pss_cons (ps_if (pt_cmpR op_eq (pe_callB call_len_seq (by rfl) B.len_ PySem.boot_len (pa_cons (pv 1) pa_nil)) pe_int (nomark _))
    (pss_one ps_never)
    pss_nil)
    (pss_cons (ps_for PassesOwn.never rfl (pi_list (pv 1)) (pg_name (i := 2) sc_Rule_u__init_u_.nd rfl (Or.inl rfl))
    (pss_one (ps_if (PW.pt (pw_or (pt_not (pt_val (pe_df D_is_row (hr.mono (by first | decide | omega)) (by rfl) (pa_cons (pv 2) pa_nil)))) (pw_or1 (pt_cmpR op_ne (pe_callB call_len_str (by rfl) B.len_ PySem.boot_len (pa_cons (pv 2) pa_nil)) (pe_callB call_len_str (by rfl) B.len_ PySem.boot_len (pa_cons (pe_ix ix_list (pv 1) pe_int (fun _ _ => rfl)) pa_nil)) (nomark _)))))
    (pss_one ps_never)
    pss_nil)))
    (pss_one (ps_fld (pv 0) (pe_callTy call_tuple_of (by rfl) B.tuple_ (by decide +kernel) (pa_cons (pv 1) pa_nil)) rfl)))), ?_⟩
    walk_at "rd"
    refine ite2 (fun hc => ?_) (fun hc => ?_)
    · exfalso
      have e := of_decide_eq_true hc
      injection e with e
      rw [List.length_map] at e
      have := R.ne
      omega
    walk_at "rd"
    refine ⟨⟨_, SqL.of ht⟩, ?_⟩
    refine for_list (K := K) (a := t) (xs := ls.map V.str) (fun i σ H' => H' = H ∧ ∃ v, σ = [some (.ref p), some (.ref t), v]) ⟨rfl, none, rfl⟩ (fun i σ H' _ h => by rw [h.1]; exact SqL.of ht) ?_ ?_
    · rintro i x σ H' hi ⟨rfl, v, rfl⟩
      have hil : i < ls.length := by
        have := (List.getElem?_eq_some_iff.mp hi).1
        rw [List.length_map] at this
        exact this
      rw [getS hil] at hi
      obtain rfl := Option.some.inj hi
      have hz := R.lenS (List.getElem_mem hil)
      have hz0 := R.lenS (List.getElem_mem R.ne)
      walk_at "rd"
      intro b hb
      obtain rfl := hb.mpr (R.row _ (List.getElem_mem hil))
      have iz := atI_k' (i := 0) 0 rfl (getS R.ne)
      walk_at "rd"
      rw [hz, hz0]
      walk_at "rd"
      refine iteNS rfl ?_
      walk_at "rd"
      exact ⟨_, rfl⟩
    · rintro σ H' ⟨rfl, v, rfl⟩
      walk_at "rd"
      refine ⟨t, _, rfl, .inl ⟨SqL.of ht, fun u hu => ?_⟩⟩
      have npu : p ≠ u := ne_of_none hp hu
      walk_at "rd"
      refine ⟨p, C, dx, [], rfl, by rw [upd_ne npu]; exact hp, T.cl, T.nR, by decide, ?_⟩
      refine k _ ⟨dx, u, upd_same, by rw [upd_ne npu.symm, upd_same]⟩ fun b o e hb => ?_
      rw [upd_ne hb, upd_ne (ne_of_none e hu)]
      exact e
theorem mk_at {C : Addr} {H : Hp} {t x dx : Addr} {n : Nat} {ls : List Str} {Q : VK} (ht : H t = some (.lst (ls.map V.str))) (W : Rows n ls) (hn : n ≤ 5000) (nx : H x = none) (ndx : H dx = none) (k : ∀ H' : Hp, Same H H' → RuleAt C H' x ls → Q .non H') :
    spInit C [.ref x, .ref t] (upd (upd H dx (.own x)) x (.ins C dx [])) Q E0 :=
  ⟨x, t, dx, n, ls, rfl, upd_same, by rw [upd_ne (ne_of_none ht nx), upd_ne (ne_of_none ht ndx)]; exact ht, W, hn, fun H' RA keep => k H' (L2.Same.made nx ndx keep) RA⟩
theorem lkR {m : Str} (v : V) (h : ¬ m = "_rows") : ([("_rows", v)] : List (Str × V)).lookup m = none := by
  have : (m == ("_rows" : Str)) = false := by simpa using h
  simp [List.lookup, this]
end
abbrev s_Rule_width : Stmt := inClass (top 26) 2
abbrev N_Rule_width : List Str := ["self"]
theorem sc_Rule_width : FnScope N_Rule_width ["self"] (defScope s_Rule_width) := ⟨rfl, rfl, rfl, by decide +kernel, rfl, by decide +kernel, by decide +kernel⟩
section
variable {P : Program} {w : World} {K : PySem.W.Frag} {mg : Str → Option Value} {base : Heap}
def spWidth (C : Addr) : Sp := fun vs H Q _ => ∃ (p : Addr) (ls : List Str) (n : Nat), vs = [.ref p] ∧ RuleAt C H p ls ∧ Rows n ls ∧ n ≤ 5000 ∧ Q (.int n) H
theorem ok_Rule_width {f C : Addr} {fd : FuncData} (F : Fun K "width" "Rule.width" s_Rule_width f fd) (B : Bi mg) (T : Rl K C) : FnOk P w K mg base CX0 2 f fd ["self"] (spWidth C) := by
  refine F.ok sc_Rule_width (fun vs H Q E h => ?_) (fun cdv A outer s H vs Q E hr h => ?_)
  · obtain ⟨p, ls, n, rfl, _⟩ := h
    rfl
  · obtain ⟨p, ls, n, rfl, ⟨dx, u, hp, hu⟩, R, hn, k⟩ := h
    refine ⟨_, (pss_one (ps_ret (pe_callB call_len_str (by rfl) B.len_ PySem.boot_len (pa_cons (pe_ix ix_tup (pe_fld (pv 0) rfl) pe_int (fun _ _ => rfl)) pa_nil)))), ?_⟩
    walk_at "rd"
    refine ⟨p, C, dx, _, _, rfl, hp, T.cl, T.nR, rfl, ?_⟩
    have hz := R.lenS (List.getElem_mem R.ne)
    refine ⟨u, _, _, _, rfl, rfl, SqT.of hu, atI_k' 0 rfl (getS R.ne), ?_⟩
    refine ⟨_, rfl, Nat.le_trans (Nat.le_of_eq hz) (Nat.le_trans hn (by decide)), ?_⟩
    rw [hz]
    exact k
end
abbrev s_Rule_height : Stmt := inClass (top 26) 3
abbrev N_Rule_height : List Str := ["self"]
theorem sc_Rule_height : FnScope N_Rule_height ["self"] (defScope s_Rule_height) := ⟨rfl, rfl, rfl, by decide +kernel, rfl, by decide +kernel, by decide +kernel⟩
section
variable {P : Program} {w : World} {K : PySem.W.Frag} {mg : Str → Option Value} {base : Heap}
def spHeight (C : Addr) : Sp := fun vs H Q _ => ∃ (p : Addr) (ls : List Str), vs = [.ref p] ∧ RuleAt C H p ls ∧ Q (.int ls.length) H
theorem ok_Rule_height {f C : Addr} {fd : FuncData} (F : Fun K "height" "Rule.height" s_Rule_height f fd) (B : Bi mg) (T : Rl K C) : FnOk P w K mg base CX0 2 f fd ["self"] (spHeight C) := by
  refine F.ok sc_Rule_height (fun vs H Q E h => ?_) (fun cdv A outer s H vs Q E hr h => ?_)
  · obtain ⟨p, ls, rfl, _⟩ := h
    rfl
  · obtain ⟨p, ls, rfl, ⟨dx, u, hp, hu⟩, k⟩ := h
    refine ⟨_, (pss_one (ps_ret (pe_callB call_len_seq (by rfl) B.len_ PySem.boot_len (pa_cons (pe_fld (pv 0) rfl) pa_nil)))), ?_⟩
    walk_at "rd"
    refine ⟨p, C, dx, _, _, rfl, hp, T.cl, T.nR, rfl, ?_⟩
    refine ⟨u, _, rfl, .inr (SqT.of hu), ?_⟩
    rw [List.length_map]
    exact k
end
abbrev s_Rule_has_rung : Stmt := inClass (top 26) 7
abbrev N_Rule_has_rung : List Str := ["self", "row", "post"]
theorem sc_Rule_has_rung : FnScope N_Rule_has_rung ["self", "row", "post"] (defScope s_Rule_has_rung) := ⟨rfl, rfl, rfl, by decide +kernel, rfl, by decide +kernel, by decide +kernel⟩
section
variable {P : Program} {w : World} {K : PySem.W.Frag} {mg : Str → Option Value} {base : Heap}
def spHasRung (C : Addr) : Sp := fun vs H Q _ => ∃ (p : Addr) (r q : Int) (n : Nat) (ls : List Str) (z : Str), vs = [.ref p, .int r, .int q] ∧ RuleAt C H p ls ∧ Rows n ls ∧ n ≤ 5000 ∧ 0 ≤ r ∧ 0 ≤ q ∧ ls[(r % (ls.length : Int)).toNat]? = some z ∧ Q (.bl (rungB z q)) H
theorem ok_Rule_has_rung {f C : Addr} {fd : FuncData} (F : Fun K "has_rung" "Rule.has_rung" s_Rule_has_rung f fd) (B : Bi mg) (T : Rl K C) (D_check_number : Df P w K mg base "check_number" 2 ["number"] spCheckNumber) (D_check_half_post : Df P w K mg base "check_half_post" 2 ["post"] spCheckHalf) (P_width : Pr P w K mg base C "width" 2 (spWidth C)) (P_height : Pr P w K mg base C "height" 2 (spHeight C)) : FnOk P w K mg base CX0 4 f fd ["self", "row", "post"] (spHasRung C) := by
  refine F.ok sc_Rule_has_rung (fun vs H Q E h => ?_) (fun cdv A outer s H vs Q E hr h => ?_)
  · obtain ⟨p, r, q, n, ls, z, rfl, _⟩ := h
    rfl
  · obtain ⟨p, r, q, n, ls, z, rfl, R, W, hn, hr0, hq0, hz, k⟩ := h
    refine ⟨_, (pss_cons (ps_expr (pe_df D_check_number (hr.mono (by first | decide | omega)) (by rfl) (pa_cons (pv 1) pa_nil)))
    (pss_cons (ps_expr (pe_df D_check_half_post (hr.mono (by first | decide | omega)) (by rfl) (pa_cons (pv 2) pa_nil)))
    (pss_one (ps_ret (pe_cmpR op_eq (pe_ix ix_str (pe_ix ix_tup (pe_fld (pv 0) rfl) (pe_op op_mod (pv 1) (pe_pr (pv 0) P_height (hr.mono (by first | decide | omega)) rfl)) (fun _ _ => rfl)) (pe_op op_mod (pv 2) (pe_pr (pv 0) P_width (hr.mono (by first | decide | omega)) rfl)) (fun _ _ => rfl)) pe_str (nomark _)))))), ?_⟩
    obtain ⟨dx, u, hp, hu⟩ := id R
    have hzm : z ∈ ls := List.mem_of_getElem? hz
    have hzn : (tl z).length = n := W.len z hzm
    have h0 := W.pos
    have hl0 := W.ne
    have hzl : z.length ≤ sizeLine := by rw [len_tl, hzn]; exact Nat.le_trans hn (by decide)
    have e : (((r % (ls.length : Int)).toNat : Nat) : Int) = r % (ls.length : Int) := Int.toNat_of_nonneg (Int.emod_nonneg r (by omega))
    have iz : atI (ls.map V.str) (r % (ls.length : Int)) = some (V.str z) := by
      rw [← e]
      exact atI_nat (by rw [List.getElem?_map, hz]; rfl)
    have ic : atI z.cps.toList (q % (n : Int)) = some (sg (tl z) q) := by
      have x := atI_sg (l := tl z) (by omega) q
      rw [hzn] at x
      exact x
    have pl : (0 : Int) < (ls.length : Int) := by omega
    have pn : (0 : Int) < (n : Int) := by omega
    walk_at "rd"
    try (refine ⟨r, rfl, hr0, ?_⟩; walk_at "rd")
    try (refine ⟨q, rfl, hq0, ?_⟩; walk_at "rd")
    refine ⟨p, C, dx, _, _, rfl, hp, T.cl, T.nR, rfl, ?_⟩
    walk_at "rd"
    refine ⟨p, dx, _, rfl, hp, p, ls, rfl, R, ?_⟩
    walk_at "rd"
    refine ⟨u, _, _, _, rfl, rfl, SqT.of hu, iz, ?_⟩
    walk_at "rd"
    refine ⟨p, dx, _, rfl, hp, p, ls, n, rfl, R, W, hn, ?_⟩
    walk_at "rd"
    refine ⟨_, _, _, rfl, rfl, hzl, ic, ?_⟩
    walk_at "rd"
    exact k
end
abbrev s__past_row : Stmt := top 14
abbrev N__past_row : List Str := ["rule", "row", "post"]
theorem sc__past_row : FnScope N__past_row ["rule", "row", "post"] (defScope s__past_row) := ⟨rfl, rfl, rfl, by decide +kernel, rfl, by decide +kernel, by decide +kernel⟩
section
variable {P : Program} {w : World} {K : PySem.W.Frag} {mg : Str → Option Value} {base : Heap}
/-- where a walker on the endless row goes on one row -/
def spPastZ (C : Addr) : Sp := fun vs H Q _ => ∃ (p : Addr) (q : Int) (r n : Nat) (ls : List Str), vs = [.ref p, .int r, .int q] ∧ RuleAt C H p ls ∧ Rows n ls ∧ n ≤ 5000 ∧ Q (.int (cross1 (rungB (rowAt ls r)) q)) H
theorem ok__past_row {f C : Addr} {fd : FuncData} (F : Fun K "_past_row" "_past_row" s__past_row f fd) (B : Bi mg) (E_has_rung : Me P w K mg base C "has_rung" 4 ["self", "row", "post"] (spHasRung C)) (P_width : Pr P w K mg base C "width" 2 (spWidth C)) : FnOk P w K mg base CX0 5 f fd ["rule", "row", "post"] (spPastZ C) := by
  refine F.ok sc__past_row (fun vs H Q E h => ?_) (fun cdv A outer s0 H vs Q E hr h => ?_)
  · obtain ⟨p, q, r, n, ls, rfl, _⟩ := h
    rfl
  · obtain ⟨p, q, r, n, ls, rfl, R, W, hn, k⟩ := h
    refine ⟨_, (pss_cons (ps_if (pt_val (pe_me (pv 0) E_has_rung (hr.mono (by first | decide | omega)) (pa_cons (pv 1) (pa_cons (pe_op op_mod (pv 2) (pe_pr (pv 0) P_width (hr.mono (by first | decide | omega)) rfl)) pa_nil))))
    (pss_one (ps_ret (pe_op op_add (pv 2) pe_int)))
    pss_nil)
    (pss_cons (ps_if (pt_val (pe_me (pv 0) E_has_rung (hr.mono (by first | decide | omega)) (pa_cons (pv 1) (pa_cons (pe_op op_mod (pe_op op_sub (pv 2) pe_int) (pe_pr (pv 0) P_width (hr.mono (by first | decide | omega)) rfl)) pa_nil))))
    (pss_one (ps_ret (pe_op op_sub (pv 2) pe_int)))
    pss_nil)
    (pss_one (ps_ret (pv 2))))), ?_⟩
    obtain ⟨dx, u, hp, _⟩ := id R
    have hr0 : (0 : Int) ≤ (r : Int) := Int.natCast_nonneg _
    have hz := rowAt_get W.ne r
    have hzl : (tl (rowAt ls r)).length = n := W.len _ (rowAt_mem W.ne r)
    generalize rowAt ls r = z at hz hzl k
    have pn : (0 : Int) < (n : Int) := by have := W.pos; omega
    have m0 : ∀ q : Int, 0 ≤ q % (n : Int) := fun q => Int.emod_nonneg _ (by omega)
    have e := rungB_rest hzl
    unfold cross1 at k
    walk_at "rd"
    refine ⟨p, dx, _, rfl, hp, lkR _ (by decide +kernel), ?_⟩
    walk_at "rd"
    refine ⟨p, dx, _, rfl, hp, p, ls, n, rfl, R, W, hn, ?_⟩
    walk_at "rd"
    refine ⟨p, r, _, n, ls, z, rfl, R, W, hn, hr0, m0 q, hz, ?_⟩
    rw [e]
    walk_at "rd"
    refine ite2 (fun hc => ?_) (fun hc => ?_)
    · rw [if_pos hc] at k
      walk_at "rd"
      exact k
    rw [if_neg hc] at k
    walk_at "rd"
    refine ⟨p, dx, _, rfl, hp, lkR _ (by decide +kernel), ?_⟩
    walk_at "rd"
    refine ⟨p, dx, _, rfl, hp, p, ls, n, rfl, R, W, hn, ?_⟩
    walk_at "rd"
    refine ⟨p, r, _, n, ls, z, rfl, R, W, hn, hr0, m0 (q - 1), hz, ?_⟩
    rw [e]
    walk_at "rd"
    refine ite2 (fun hb => ?_) (fun hb => ?_)
    · rw [if_pos hb] at k
      walk_at "rd"
      exact k
    · rw [if_neg hb] at k
      walk_at "rd"
      exact k
end
abbrev s_step_of : Stmt := top 15
abbrev N_step_of : List Str := ["rule", "post", "at", "row"]
theorem sc_step_of : FnScope N_step_of ["rule", "post"] (defScope s_step_of) := ⟨rfl, rfl, rfl, by decide +kernel, rfl, by decide +kernel, by decide +kernel⟩
section
variable {P : Program} {w : World} {K : PySem.W.Frag} {mg : Str → Option Value} {base : Heap}
def spStepOf (C : Addr) : Sp := fun vs H Q _ => ∃ (p : Addr) (q : Int) (n : Nat) (ls : List Str), vs = [.ref p, .int q] ∧ RuleAt C H p ls ∧ Rows n ls ∧ n ≤ 5000 ∧ ls.length ≤ 5000 ∧ Q (.int (goZ ls q - q)) H
theorem ok_step_of {f C : Addr} {fd : FuncData} (F : Fun K "step_of" "step_of" s_step_of f fd) (B : Bi mg) (D_past_row : Df P w K mg base "_past_row" 5 ["rule", "row", "post"] (spPastZ C)) (P_height : Pr P w K mg base C "height" 2 (spHeight C)) : FnOk P w K mg base CX0 6 f fd ["rule", "post"] (spStepOf C) := by
  refine F.ok sc_step_of (fun vs H Q E h => ?_) (fun cdv A outer s0 H vs Q E hr h => ?_)
  · obtain ⟨p, q, n, ls, rfl, _⟩ := h
    rfl
  · obtain ⟨p, q, n, ls, rfl, R, W, hn, hl, k⟩ := h
    refine ⟨_, (pss_cons (ps_set (i := 2) sc_step_of.nd rfl (Or.inl rfl) (pv 1))
    (pss_cons (ps_for PassesOwn.never rfl (pi_range1 (by rfl) B.range_ (pa_cons (pe_pr (pv 0) P_height (hr.mono (by first | decide | omega)) rfl) pa_nil)) (pg_name (i := 3) sc_step_of.nd rfl (Or.inl rfl))
    (pss_one (ps_set (i := 2) sc_step_of.nd rfl (Or.inl rfl) (pe_df D_past_row (hr.mono (by first | decide | omega)) (by rfl) (pa_cons (pv 0) (pa_cons (pv 3) (pa_cons (pv 2) pa_nil)))))))
    (pss_one (ps_ret (pe_op op_sub (pv 2) (pv 1)))))), ?_⟩
    obtain ⟨dx, u, hp, _⟩ := id R
    have hl62 : (ls.length : Int) < 2 ^ 62 := by omega
    walk_at "rd"
    refine ⟨p, dx, _, rfl, hp, p, ls, rfl, R, ?_⟩
    walk_at "rd"
    refine for_range (lo := 0) (n := ls.length) (fun i σ H' => ∃ o, σ = [some (.ref p), some (.int q), some (.int (wkZ ls q i)), o] ∧ H = H') ⟨none, rfl, rfl⟩ ?_ ?_
    · rintro i σ _ hi ⟨o, rfl, rfl⟩
      walk_at "rd"
      rw [Int.zero_add]
      refine ⟨p, _, i, n, ls, rfl, R, W, hn, ?_⟩
      exact ⟨_, rfl, rfl⟩
    · rintro σ _ ⟨o, rfl, rfl⟩
      rw [wkZ_round]
      walk_at "rd"
      exact k
end
abbrev s_steps_of : Stmt := top 16
abbrev N_steps_of : List Str := ["rule", "rest"]
theorem sc_steps_of : FnScope N_steps_of ["rule"] (defScope s_steps_of) := ⟨rfl, rfl, rfl, by decide +kernel, rfl, by decide +kernel, by decide +kernel⟩
section
variable {P : Program} {w : World} {K : PySem.W.Frag} {mg : Str → Option Value} {base : Heap}
def stepsL (ls : List Str) (n : Nat) : List Int := (List.range n).map fun j : Nat => goZ ls (j : Int) - (j : Int)
theorem steps_len {ls : List Str} {n : Nat} : (stepsL ls n).length = n := by rw [stepsL, List.length_map, List.length_range]
theorem steps_at {ls : List Str} {n : Nat} (W : Rows n ls) (y : Int) : atI ((stepsL ls n).map V.int) (y % (n : Int)) = some (V.int (goZ ls y - y)) := by
  have pn : (0 : Int) < (n : Int) := by have := W.pos; omega
  have h0 := Int.emod_nonneg y (show (n : Int) ≠ 0 by omega)
  have h1 := Int.emod_lt_of_pos y pn
  obtain ⟨j, hj⟩ := Int.eq_ofNat_of_zero_le h0
  refine atI_k' j (by rw [hj]) ?_
  have e : goZ ls (y % (n : Int)) - y % (n : Int) = goZ ls y - y := by
    have := (goZ_perM W).int (y % (n : Int)) (y / (n : Int))
    have q := Int.emod_add_mul_ediv y (n : Int)
    rw [q] at this
    omega
  rw [stepsL, List.map_map, List.getElem?_map, List.getElem?_range (by omega)]
  show some (V.int (goZ ls (j : Int) - (j : Int))) = _
  have hj' : y % (n : Int) = (j : Int) := hj
  rw [← hj', e]
def spStepsOf (C : Addr) : Sp := fun vs H Q _ => ∃ (p : Addr) (n : Nat) (ls : List Str), vs = [.ref p] ∧ RuleAt C H p ls ∧ Rows n ls ∧ n ≤ 5000 ∧ ls.length ≤ 5000 ∧
  ∀ (t : Addr) (H' : Hp), Same H H' → H t = none → H' t = some (.lst ((stepsL ls n).map V.int)) → Q (.ref t) H'
theorem ok_steps_of {f C : Addr} {fd : FuncData} (F : Fun K "steps_of" "steps_of" s_steps_of f fd) (B : Bi mg) (D_step_of : Df P w K mg base "step_of" 6 ["rule", "post"] (spStepOf C)) (P_width : Pr P w K mg base C "width" 2 (spWidth C)) : FnOk P w K mg base CX0 7 f fd ["rule"] (spStepsOf C) := by
  refine F.ok sc_steps_of (fun vs H Q E h => ?_) (fun cdv A outer s0 H vs Q E hr h => ?_)
  · obtain ⟨p, n, ls, rfl, _⟩ := h
    rfl
  · obtain ⟨p, n, ls, rfl, R, W, hn, hl, k⟩ := h
    refine ⟨_, (pss_one (ps_ret (pe_lc (own := [("rest", 1)]) (g := gName 1) (tt := tYes) rfl sc_steps_of.nd (pi_range1 (by rfl) B.range_ (pa_cons (pe_pr (pv 0) P_width (hr.mono (by first | decide | omega)) rfl) pa_nil)) (blkOk_by (N := N_steps_of) (sc := defScope s_steps_of) (by decide +kernel)) (fun _ _ _ _ _ => pg_name (i := 1) sc_steps_of.nd rfl (Or.inl rfl)) (fun _ _ _ _ _ => pts_nil) (fun _ _ _ _ _ => (pe_df D_step_of (hr.mono (by first | decide | omega)) (by rfl) (pa_cons (pv 0) (pa_cons (pv 1) pa_nil))))))), ?_⟩
    have hn62 : (n : Int) < 2 ^ 62 := by omega
    obtain ⟨dx, u, hp, _⟩ := id R
    walk_at "rx"
    refine ⟨p, dx, _, rfl, hp, p, ls, n, rfl, R, W, hn, ?_⟩
    walk_at "rx"
    intro D zD
    refine lc_range (lo := 0) (n := n) (fun i H' => Same H H' ∧ H' D = some (.lst (((List.range i).map fun j : Nat => goZ ls (j : Int) - (j : Int)).map V.int))) ⟨L2.Same.upd zD, upd_same⟩ ?_ ?_
    · rintro i H' hi ⟨s2, hD⟩
      refine ⟨rfl, ?_⟩
      walk_at "rx"
      rw [Int.zero_add]
      refine ⟨p, (i : Int), n, ls, rfl, R.same s2, W, hn, hl, ?_⟩
      walk_at "rx"
      refine ⟨_, hD, by rw [List.length_map, List.length_map, List.length_range]; exact Nat.lt_of_lt_of_le hi (Nat.le_trans hn (by decide)), s2.put zD, ?_⟩
      rw [upd_same, List.range_succ, List.map_append, List.map_append]
      rfl
    · rintro H2 ⟨s2, hD⟩
      exact k D H2 s2 zD hD
end
abbrev s_lane_with : Stmt := top 17
abbrev N_lane_with : List Str := ["steps", "post", "rests", "at"]
theorem sc_lane_with : FnScope N_lane_with ["steps", "post"] (defScope s_lane_with) := ⟨rfl, rfl, rfl, by decide +kernel, rfl, by decide +kernel, by decide +kernel⟩
section
variable {P : Program} {w : World} {K : PySem.W.Frag} {mg : Str → Option Value} {base : Heap}
def spLaneWith (_C : Addr) : Sp := fun vs H Q _ => ∃ (st : Addr) (q : Int) (n : Nat) (ls : List Str), vs = [.ref st, .int q] ∧ H st = some (.lst ((stepsL ls n).map V.int)) ∧ Rows n ls ∧ n ≤ 5000 ∧ ls.length ≤ 5000 ∧
  ∀ (t r : Addr) (H' : Hp), Same H H' → H t = none → H r = none → t ≠ r → H' t = some (.tup [.ref r, .int (shiftZ ls n q)]) → H' r = some (.lst ((orb ls n q).map V.int)) → Q (.ref t) H'
theorem ok_lane_with {f : Addr} {fd : FuncData} (C : Addr) (F : Fun K "lane_with" "lane_with" s_lane_with f fd) (B : Bi mg) : FnOk P w K mg base CX0 2 f fd ["steps", "post"] (spLaneWith C) := by
  refine F.ok sc_lane_with (fun vs H Q E h => ?_) (fun cdv A outer s0 H vs Q E hr h => ?_)
  · obtain ⟨st, q, n, ls, rfl, _⟩ := h
    rfl
  · obtain ⟨p, q, n, ls, rfl, R, W, hn, hl, k⟩ := h
    refine ⟨_, (pss_cons (ps_set (i := 2) sc_lane_with.nd rfl (Or.inl rfl) (pe_lst pa_nil))
    (pss_cons (ps_set (i := 3) sc_lane_with.nd rfl (Or.inl rfl) (pv 1))
    (pss_cons (ps_while PassesOwn.never (pt_cmpR op_notIn_seq (pe_op op_mod (pv 3) (pe_callB call_len_seq (by rfl) B.len_ PySem.boot_len (pa_cons (pv 0) pa_nil))) (pv 2) (by rfl))
    (pss_cons (ps_expr (pe_bm PySem.F.plainAttrs_list PySem.F.slot_list_append PySem.F.type_list_append mt_append (pv 2) (pa_cons (pe_op op_mod (pv 3) (pe_callB call_len_seq (by rfl) B.len_ PySem.boot_len (pa_cons (pv 0) pa_nil))) pa_nil)))
    (pss_one (ps_set (i := 3) sc_lane_with.nd rfl (Or.inl rfl) (pe_op op_add (pv 3) (pe_ix ix_list (pv 0) (pe_op op_mod (pv 3) (pe_callB call_len_seq (by rfl) B.len_ PySem.boot_len (pa_cons (pv 0) pa_nil))) (fun _ _ => rfl)))))))
    (pss_one (ps_ret (pe_tup (pa_cons (pv 2) (pa_cons (pe_op op_sub (pv 3) (pv 1)) pa_nil)))))))), ?_⟩
    have pn : (0 : Int) < (n : Int) := by have := W.pos; omega
    obtain ⟨l0, l1⟩ := lane_pos W q
    have hsl : (((stepsL ls n).map V.int).length : Int) = (n : Int) := by rw [List.length_map, steps_len]
    walk_at "rx"
    intro D zD
    generalize eD : upd _ D _ = H1
    obtain ⟨s1, hD⟩ := nw eD zD
    walk_at "rx"
    refine ⟨fun m σ H' => ∃ k : Nat, m = laneLen ls n q - k ∧ k ≤ laneLen ls n q ∧ σ = [some (.ref p), some (.int q), some (.ref D), some (.int (itG (goZ ls) k q))] ∧ Same H H' ∧ H' D = some (.lst (((orb ls n q).take k).map V.int)), ⟨_, 0, rfl, Nat.zero_le _, rfl, s1, hD⟩, ?_⟩
    rintro m σ H' ⟨i, rfl, hi, rfl, s2, hD'⟩
    have R' := s2 _ _ R
    have hlen : ((orb ls n q).take i).length = i := by rw [List.length_take, orb_len]; omega
    walk_at "rx"
    rw [hsl]
    refine ⟨flat_ints _, ?_⟩
    refine ⟨_, rfl, ?_⟩
    refine wq_ite (fun hc => ?_) (fun hc => ?_)
    · have hlt : i < laneLen ls n q := by
        refine Nat.lt_of_le_of_ne hi fun e => ?_
        subst e
        rw [inV_yes (orb_take_in W q)] at hc
        cases hc
      walk_at "rx"
      rw [hsl]
      refine ⟨D, _, _, rfl, rfl, hD', by rw [List.length_map, hlen]; exact Nat.lt_of_lt_of_le hlt (Nat.le_trans l1 (Nat.le_trans hn (by decide))), ?_⟩
      have R2 := (s2.put zD (o := .lst (((orb ls n q).take i).map V.int ++ [V.int (itG (goZ ls) i q % (n : Int))]))) _ _ R
      walk_at "rx"
      rw [hsl]
      refine ⟨p, _, _, _, rfl, rfl, SqL.of R2, steps_at W _, ?_⟩
      walk_at "rx"
      refine ⟨_, ?_, i + 1, rfl, hlt, ?_, s2.put zD, ?_⟩
      · omega
      · have e : itG (goZ ls) i q + (goZ ls (itG (goZ ls) i q) - itG (goZ ls) i q) = itG (goZ ls) (i + 1) q := by
          show _ = goZ ls (itG (goZ ls) i q)
          omega
        rw [← e]
        rfl
      · rw [upd_same, orb_take_succ hlt, List.map_append]
        rfl
    · have he : i = laneLen ls n q := by
        refine Nat.le_antisymm hi (Nat.le_of_not_lt fun hlt => ?_)
        rw [inV_no (orb_take_no W q hlt)] at hc
        cases hc
      subst he
      rw [List.take_of_length_le (by rw [orb_len]; exact Nat.le_refl _)] at hD'
      walk_at "rx"
      intro t zt
      generalize et : upd _ t _ = H3
      obtain ⟨s3, ht⟩ := nw et zt
      exact k t D H3 (s2.trans s3) (s2.free zt) zD (ne_of_none hD' zt).symm ht (s3 _ _ hD')
end
abbrev s_lanes_of : Stmt := top 18
abbrev N_lanes_of : List Str := ["rule", "steps", "lanes", "rest", "rests", "shift"]
theorem sc_lanes_of : FnScope N_lanes_of ["rule"] (defScope s_lanes_of) := ⟨rfl, rfl, rfl, by decide +kernel, rfl, by decide +kernel, by decide +kernel⟩
section
variable {P : Program} {w : World} {K : PySem.W.Frag} {mg : Str → Option Value} {base : Heap}
def spLanesOf (C : Addr) : Sp := fun vs H Q _ => ∃ (p : Addr) (n : Nat) (ls : List Str), vs = [.ref p] ∧ RuleAt C H p ls ∧ Rows n ls ∧ n ≤ 5000 ∧ ls.length ≤ 5000 ∧
  ∀ (t : Addr) (H' : Hp), Same H H' → LnsAt H H' t (lanesL ls n) → Q (.ref t) H'
theorem ok_lanes_of {f C : Addr} {fd : FuncData} (F : Fun K "lanes_of" "lanes_of" s_lanes_of f fd) (B : Bi mg) (D_steps_of : Df P w K mg base "steps_of" 7 ["rule"] (spStepsOf C)) (D_lane_with : Df P w K mg base "lane_with" 2 ["steps", "post"] (spLaneWith C)) : FnOk P w K mg base CX0 8 f fd ["rule"] (spLanesOf C) := by
  refine F.ok sc_lanes_of (fun vs H Q E h => ?_) (fun cdv A outer s0 H vs Q E hr h => ?_)
  · obtain ⟨p, n, ls, rfl, _⟩ := h
    rfl
  · obtain ⟨p, n, ls, rfl, R, W, hn, hl, k⟩ := h
    refine ⟨_, (pss_cons (ps_set (i := 1) sc_lanes_of.nd rfl (Or.inr rfl) (pe_df D_steps_of (hr.mono (by first | decide | omega)) (by rfl) (pa_cons (pv 0) pa_nil)))
    (pss_cons (ps_setLc (i := 2) (own := [("rest", 3)]) (g := gName 3) (tt := tYes) rfl sc_lanes_of.nd rfl rfl (sw_true rfl rfl rfl (by decide +kernel)) (pi_range1 (by rfl) B.range_ (pa_cons (pe_callB call_len_seq (by rfl) B.len_ PySem.boot_len (pa_cons (pv 1) pa_nil)) pa_nil)) (blkOk_by (N := N_lanes_of) (sc := defScope s_lanes_of) (by decide +kernel)) (fun _ _ _ _ _ => pg_name (i := 3) sc_lanes_of.nd rfl (Or.inl rfl)) (fun _ _ _ _ _ => pts_nil) (fun _ _ _ _ _ => (pe_df D_lane_with (hr.mono (by first | decide | omega)) (by rfl) (pa_cons (pv 1) (pa_cons (pv 3) pa_nil)))))
    (pss_one (ps_ret (pe_lc (own := [("rests", 4), ("shift", 5)]) (g := gTup K 2 (gCons (gName 4) (gCons (gName 5) (gNil)))) (tt := _) rfl sc_lanes_of.nd (pi_list (pv 2)) (blkOk_by (N := N_lanes_of) (sc := defScope s_lanes_of) (by decide +kernel)) (fun _ _ _ _ _ => pg_tup rfl (pgs_cons (pg_name (i := 4) sc_lanes_of.nd rfl (Or.inl rfl)) (pgs_cons (pg_name (i := 5) sc_lanes_of.nd rfl (Or.inl rfl)) (pgs_nil)))) (fun _ _ _ _ _ => pts_one (pt_cmpR op_eq (pe_ix (show IxR _ (rIxL K) from ix_list) (pv 4) pe_int (fun _ _ => rfl)) (pe_callB (show CallR _ _ (rMin K) from cr_min rfl) (by rfl) B.min_ (by decide +kernel) (pa_cons (pv 4) pa_nil)) (nomark _))) (fun _ _ _ _ _ => (pe_tup (pa_cons (pv 4) (pa_cons (pv 5) pa_nil))))))))), ?_⟩
    have hn62 : (n : Int) < 2 ^ 62 := by omega
    have big : n < sizeLine := Nat.lt_of_le_of_lt hn (by decide)
    walk_at "rx"
    refine ⟨p, n, ls, rfl, R, W, hn, hl, fun st Hs ss zst hst => ?_⟩
    have hsl : ((stepsL ls n).map V.int).length = n := by rw [List.length_map, steps_len]
    have R := R.same ss
    have k := fun t H' s h => k t H' (ss.trans s) (LnsAt.old h ss)
    walk_at "rx"
    rw [hsl]
    walk_at "rx"
    intro D zD
    obtain ⟨H1, eD⟩ : ∃ H1, upd Hs D (.lst []) = H1 := ⟨_, rfl⟩
    obtain ⟨s1, hD1⟩ := nw eD zD
    have dom : ∀ {H' : Hp} {x : Addr} {vs : List V}, Same Hs H' → H' D = some (.lst vs) → H' x = none → H1 x = none := fun {H' x vs} s h z => by
      rw [← eD, upd_ne (ne_of_none h z).symm]
      exact s.free z
    refine lc_range (lo := 0) (n := n) (fun i H' => Same Hs H' ∧ ∃ vs : List V, H' D = some (.lst vs) ∧ Fa2 (LnAt H1 H') vs ((List.range i).map fun j : Nat => (orb ls n (j : Int), shiftZ ls n (j : Int)))) ⟨by rw [eD]; exact s1, [], by rw [eD]; exact hD1, Fa2.nil⟩ ?_ ?_
    · rintro i H' hi ⟨s2, vs, hD, hvs⟩
      refine ⟨rfl, ?_⟩
      have hvl := hvs.1
      rw [List.length_map, List.length_range] at hvl
      walk_at "rx"
      rw [Int.zero_add]
      refine ⟨st, (i : Int), n, ls, rfl, s2 _ _ hst, W, hn, hl, fun t r H2 s3 zt zr _ ht hr2 => ?_⟩
      refine ⟨vs, s3 _ _ hD, by rw [hvl]; omega, (s2.trans s3).put zD, vs ++ [.ref t], upd_same, ?_⟩
      rw [List.range_succ, List.map_append]
      exact (hvs.imp fun v e h => (h.same s3).put hD1).snoc (LnAt.put ⟨t, r, rfl, ht, hr2, dom s2 hD zt, dom s2 hD zr⟩ hD1)
    rintro H2 ⟨s2, vs, hD, hvs⟩
    walk_at "rx"
    refine ⟨⟨_, SqL.of hD⟩, fun E1 zE => ?_⟩
    obtain ⟨H3, eE⟩ : ∃ H3, upd H2 E1 (.lst []) = H3 := ⟨_, rfl⟩
    obtain ⟨s3, hE1⟩ := nw eE zE
    have zE1 := dom s2 hD zE
    refine lc_list (K := K) (a := D) (xs := vs) (fun i H' => Same H2 H' ∧ ∃ ws : List V, H' E1 = some (.lst ws) ∧ ws.length ≤ i ∧ Fa2 (LnMk H1 H2 H' E1) ws (((((List.range i).map fun j : Nat => (j : Int))).filter (isFirst ls n)).map fun c => (orb ls n c, shiftZ ls n c))) ⟨by rw [eE]; exact s3, [], by rw [eE]; exact hE1, Nat.le_refl _, Fa2.nil⟩ (fun i H' _ h => SqL.of (h.1 _ _ hD)) ?_ ?_
    · rintro i v H' hv ⟨s4, ws, hE, hwl, hws⟩
      have hil : i < n := by
        have := (List.getElem?_eq_some_iff.mp hv).1
        have q := hvs.1
        rw [List.length_map, List.length_range] at q
        omega
      obtain ⟨e, he, L⟩ := hvs.of hv
      rw [List.getElem?_map, List.getElem?_range hil] at he
      obtain rfl := Option.some.inj he
      obtain ⟨a, r, rfl, ha0, L2r, za, zr⟩ := L.ex
      have ha := s4 _ _ ha0
      have hr1 := s4 _ _ L2r
      have i0 : 0 ≤ (i : Int) := by omega
      have i1 : (i : Int) < n := by omega
      have hh := orb_head W i0 i1
      have hx : atI ((orb ls n (i : Int)).map V.int) 0 = some (V.int (i : Int)) := atI_k' 0 rfl (by rw [List.getElem?_map, hh]; rfl)
      refine ⟨a, _, rfl, SqT.of ha, rfl, _, _, rfl, _, _, rfl, rfl, ?_⟩
      refine ⟨rfl, ?_⟩
      walk_at "rx"
      refine ⟨_, _, rfl, SqL.of hr1, by rw [orb_len]; exact (lane_pos W _).1, fun m hm1 hm2 => ?_⟩
      have ef := isFirst_min W i0 i1 hm1 hm2
      walk_at "rx"
      have hfl : (List.range (i + 1)).map (fun j : Nat => (j : Int)) = (List.range i).map (fun j : Nat => (j : Int)) ++ [(i : Int)] := by
        rw [List.range_succ, List.map_append]
        rfl
      refine ite2 (fun hc => ?_) (fun hc => ?_)
      · have eim : (i : Int) = m := by
          have := of_decide_eq_true hc
          injection this
        rw [decide_eq_true eim] at ef
        walk_at "rx"
        intro t zt
        generalize et : upd H' t _ = H4
        obtain ⟨s5, ht⟩ := nw et zt
        have ztE : t ≠ E1 := (ne_of_none hE zt).symm
        have zt1 : H1 t = none := dom (s2.trans (s4)) (s4 _ _ hD) zt
        refine ⟨ws, s5 _ _ hE, by omega, (s4.trans s5).put zE, ws ++ [.ref t], upd_same, by rw [List.length_append]; exact Nat.succ_le_succ hwl, ?_⟩
        rw [hfl, List.filter_append, List.filter_cons_of_pos ef, List.filter_nil, List.map_append]
        exact (hws.imp fun v e h => (h.same s5).put).snoc (LnMk.put ⟨t, r, rfl, ht, L2r, zr, zt1, ztE⟩)
      · rw [decide_eq_false (fun e => hc (decide_eq_true (by rw [e])))] at ef
        refine ⟨s4, ws, hE, by omega, ?_⟩
        rw [hfl, List.filter_append, List.filter_cons_of_neg (by rw [ef]; decide), List.filter_nil, List.append_nil]
        exact hws
    · rintro H4 ⟨s4, ws, hE, hwl, hws⟩
      have hn' : vs.length = n := by
        have q := hvs.1
        rw [List.length_map, List.length_range] at q
        exact q
      rw [hn'] at hws
      exact k E1 H4 (s2.trans s4) (LnsAt.old ⟨ws, hE, zE1, hws.imp fun v e h => h.done s4⟩ s1)
end
abbrev s_judge_lanes : Stmt := top 19
abbrev N_judge_lanes : List Str := ["rule", "told", "rests", "shift"]
theorem sc_judge_lanes : FnScope N_judge_lanes ["rule", "told"] (defScope s_judge_lanes) := ⟨rfl, rfl, rfl, by decide +kernel, rfl, by decide +kernel, by decide +kernel⟩
section
variable {P : Program} {w : World} {K : PySem.W.Frag} {mg : Str → Option Value} {base : Heap}
def LnR (H : Hp) (v : V) (e : List Int × Int) : Prop := ∃ a r, v = .ref a ∧ H a = some (.tup [.ref r, .int e.2]) ∧ H r = some (.lst (e.1.map V.int))
theorem LnR.same {H H' : Hp} {v : V} {e : List Int × Int} (h : LnR H v e) (s : Same H H') : LnR H' v e := by
  obtain ⟨a, r, h1, h2, h3⟩ := h
  exact ⟨a, r, h1, s _ _ h2, s _ _ h3⟩
/-- D is new since H0, and so is all in it -/
def LnN (H0 H : Hp) (D : Addr) (v : V) (e : List Int × Int) : Prop := ∃ a r, v = .ref a ∧ H a = some (.tup [.ref r, .int e.2]) ∧ H r = some (.lst (e.1.map V.int)) ∧ H0 a = none ∧ H0 r = none ∧ a ≠ D ∧ r ≠ D
theorem LnN.put {H0 H H' : Hp} {D : Addr} {v : V} {e : List Int × Int} {o : HO} (h : LnN H0 H D v e) (s : Same H H') : LnN H0 (upd H' D o) D v e := by
  obtain ⟨a, r, h1, h2, h3, h4, h5, h6, h7⟩ := h
  exact ⟨a, r, h1, by rw [upd_ne h6]; exact s _ _ h2, by rw [upd_ne h7]; exact s _ _ h3, h4, h5, h6, h7⟩
theorem LnN.r {H0 H : Hp} {D : Addr} {v : V} {e : List Int × Int} (h : LnN H0 H D v e) : LnR H v e := by
  obtain ⟨a, r, h1, h2, h3, _⟩ := h
  exact ⟨a, r, h1, h2, h3⟩
def spJudgeLanes (C : Addr) : Sp := fun vs H Q _ => ∃ (p t : Addr) (n : Nat) (ls : List Str) (L : List (List Int × Int)), vs = [.ref p, .ref t] ∧ RuleAt C H p ls ∧ Rows n ls ∧ n ≤ 5000 ∧ ls.length ≤ 5000 ∧ LnsIn H t L ∧ L.length ≤ 5000 ∧ (∀ e ∈ L, e.1.length ≤ 10000) ∧
  ∀ H', Same H H' → Q (.bl (decide (sortLn (L.map fun e => (fromL e.1, e.2)) = lanesL ls n))) H'
theorem ok_judge_lanes {f C : Addr} {fd : FuncData} (F : Fun K "judge_lanes" "judge_lanes" s_judge_lanes f fd) (B : Bi mg) (D_from_least : Df P w K mg base "from_least" 2 ["entries"] spFromLeast) (D_lanes_of : Df P w K mg base "lanes_of" 8 ["rule"] (spLanesOf C)) : FnOk P w K mg base CX0 9 f fd ["rule", "told"] (spJudgeLanes C) := by
  refine F.ok sc_judge_lanes (fun vs H Q E h => ?_) (fun cdv A outer s0 H vs Q E hr h => ?_)
  · obtain ⟨p, t, n, ls, L, rfl, _⟩ := h
    rfl
  · obtain ⟨p, t, n, ls, L, rfl, R, W, hn, hl, ⟨ws, ht, hws⟩, hL, hLe, k⟩ := h
    refine ⟨_, (pss_one (ps_ret (pe_cmpR (op_eqD hr.units) (pe_callB (cr_sortedD hr.units) (by rfl) B.sorted_ (by decide +kernel) (pa_cons (pe_lc (own := [("rests", 2), ("shift", 3)]) (g := gTup K 2 (gCons (gName 2) (gCons (gName 3) (gNil)))) (tt := tYes) rfl sc_judge_lanes.nd (pi_list (pv 1)) (blkOk_by (N := N_judge_lanes) (sc := defScope s_judge_lanes) (by decide +kernel)) (fun _ _ _ _ _ => pg_tup rfl (pgs_cons (pg_name (i := 2) sc_judge_lanes.nd rfl (Or.inl rfl)) (pgs_cons (pg_name (i := 3) sc_judge_lanes.nd rfl (Or.inl rfl)) (pgs_nil)))) (fun _ _ _ _ _ => pts_nil) (fun _ _ _ _ _ => (pe_tup (pa_cons (pe_df D_from_least (hr.mono (by first | decide | omega)) (by rfl) (pa_cons (pv 2) pa_nil)) (pa_cons (pv 3) pa_nil))))) pa_nil)) (pe_df D_lanes_of (hr.mono (by first | decide | omega)) (by rfl) (pa_cons (pv 0) pa_nil)) (nomark _)))), ?_⟩
    walk_at "rx"
    refine ⟨⟨_, SqL.of ht⟩, fun D zD => ?_⟩
    refine lc_list (K := K) (a := t) (xs := ws) (fun i H' => Same H H' ∧ ∃ us : List V, H' D = some (.lst us) ∧ us.length = i ∧ Fa2 (LnN H H' D) us ((L.map fun e => (fromL e.1, e.2)).take i)) ⟨L2.Same.upd zD, [], upd_same, rfl, Fa2.nil⟩ (fun i H' _ h => SqL.of (h.1 _ _ ht)) ?_ ?_
    · rintro i v H' hv ⟨s', us, hD', hul, hus⟩
      obtain ⟨e, he, a, r, rfl, ha0, hr0⟩ := hws.of hv
      have hil := (List.getElem?_eq_some_iff.mp he).1
      have ha1 := s' _ _ ha0
      have hr1 := s' _ _ hr0
      refine ⟨a, _, rfl, SqT.of ha1, rfl, _, _, rfl, _, _, rfl, rfl, ?_⟩
      refine ⟨rfl, ?_⟩
      walk_at "rx"
      refine ⟨r, e.1, rfl, hr1, hLe e (List.mem_of_getElem? he), fun u H2 s2 zu hu => ?_⟩
      walk_at "rx"
      intro tt ztt
      generalize ett : upd _ tt _ = H3
      obtain ⟨s3, htt⟩ := nw ett ztt
      have n1 : u ≠ D := (ne_of_none hD' zu).symm
      have n2 : tt ≠ D := (ne_of_none (s2 _ _ hD') ztt).symm
      have s13 := s2.trans s3
      walk_at "rx"
      refine ⟨us, s13 _ _ hD', by rw [hul]; exact Nat.lt_of_lt_of_le (show i < 10000 by omega) (by decide), (s'.trans s13).put zD, us ++ [.ref tt], upd_same, by rw [List.length_append, hul]; rfl, ?_⟩
      rw [List.take_add_one, List.getElem?_map, he]
      exact (hus.imp fun v e h => h.put s13).snoc ⟨tt, u, rfl, by rw [upd_ne n2]; exact htt, by rw [upd_ne n1]; exact s3 _ _ hu, s'.free (s2.free ztt), s'.free zu, n2, n1⟩
    rintro H2 ⟨s2, us, hD2, hul, hus⟩
    rw [hws.1, List.take_of_length_le (by rw [List.length_map]; exact Nat.le_refl _)] at hus
    have RI : LnsIn H2 D (L.map fun e => (fromL e.1, e.2)) := ⟨us, hD2, hus.imp fun v e h => h.r⟩
    walk_at "rx"
    unfold tNil
    refine rd_sortLn RI fun q H3 s3 zq RQ => ?_
    have s23 := s2.trans s3
    walk_at "rx"
    refine ⟨p, n, ls, rfl, R.same s23, W, hn, hl, fun b H4 s4 LB => ?_⟩
    exact rd_eqLn (RQ.same s4) LB.in_ (k _ (s23.trans s4))
end
abbrev s__shifted_row : Stmt := top 24
abbrev N__shifted_row : List Str := ["row", "by", "cut"]
theorem sc__shifted_row : FnScope N__shifted_row ["row", "by"] (defScope s__shifted_row) := ⟨rfl, rfl, rfl, by decide +kernel, rfl, by decide +kernel, by decide +kernel⟩
section
variable {P : Program} {w : World} {K : PySem.W.Frag} {mg : Str → Option Value} {base : Heap}
def spShiftedRow : Sp := fun vs H Q _ => ∃ (z : Str) (b : Int), vs = [.str z, .int b] ∧ 0 < (tl z).length ∧ z.length ≤ 5000 ∧ Q (.str (rotS b z)) H
theorem ok__shifted_row {f : Addr} {fd : FuncData} (F : Fun K "_shifted_row" "_shifted_row" s__shifted_row f fd) (B : Bi mg) : FnOk P w K mg base CX0 2 f fd ["row", "by"] spShiftedRow := by
  refine F.ok sc__shifted_row (fun vs H Q E h => ?_) (fun cdv A outer s H vs Q E hr h => ?_)
  · obtain ⟨z, b, rfl, _⟩ := h
    rfl
  · obtain ⟨z, b, rfl, h0, hz, k⟩ := h
    have hzl : z.length ≤ sizeLine := Nat.le_trans hz (by decide)
    have hp : (0 : Int) < (z.length : Nat) := by rw [len_tl]; omega
    refine ⟨_, (pss_cons (ps_set (i := 2) sc__shifted_row.nd rfl (Or.inl rfl) (pe_op op_mod (pe_un un_neg (pv 1)) (pe_callB call_len_str (by rfl) B.len_ PySem.boot_len (pa_cons (pv 0) pa_nil))))
    (pss_one (ps_ret (pe_op op_add_str (pe_slice sl_str (pv 0) (po_some (pv 2)) po_none) (pe_slice sl_str (pv 0) po_none (po_some (pv 2))))))), ?_⟩
    walk_at "rd"
    have e0 := Int.emod_nonneg (-b) (show (z.length : Int) ≠ 0 by omega)
    have e1 := Int.emod_lt_of_pos (-b) hp
    obtain ⟨c, ec⟩ := Int.eq_ofNat_of_zero_le e0
    have hc1 := cutS_length z (some (-b % (z.length : Int))) none
    have hc2 := cutS_length z none (some (-b % (z.length : Int)))
    refine And.intro (Nat.le_trans (show _ ≤ 10000 by omega) (by decide)) ?_
    rw [ec, cut_rot h0 (by rw [← len_tl]; exact ec)]
    exact k
end
abbrev s__mirrored_row : Stmt := top 25
abbrev N__mirrored_row : List Str := ["row", "n", "at"]
theorem sc__mirrored_row : FnScope N__mirrored_row ["row", "n"] (defScope s__mirrored_row) := ⟨rfl, rfl, rfl, by decide +kernel, rfl, by decide +kernel, by decide +kernel⟩
section
variable {P : Program} {w : World} {K : PySem.W.Frag} {mg : Str → Option Value} {base : Heap}
def spMirroredRow : Sp := fun vs H Q _ => ∃ (z : Str) (n : Int), vs = [.str z, .int n] ∧ 0 < (tl z).length ∧ z.length ≤ 5000 ∧ ∀ H' : Hp, Same H H' → Q (.str (mirS (n - 2) z)) H'
theorem ok__mirrored_row {f : Addr} {fd : FuncData} (F : Fun K "_mirrored_row" "_mirrored_row" s__mirrored_row f fd) (B : Bi mg) : FnOk P w K mg base CX0 2 f fd ["row", "n"] spMirroredRow := by
  refine F.ok sc__mirrored_row (fun vs H Q E h => ?_) (fun cdv A outer s H vs Q E hr h => ?_)
  · obtain ⟨z, n, rfl, _⟩ := h
    rfl
  · obtain ⟨z, n, rfl, h0, hz, k⟩ := h
    have hzl : z.length ≤ sizeLine := Nat.le_trans hz (by decide)
    have hp : (0 : Int) < (z.length : Nat) := by rw [len_tl]; omega
    have hlz := len_tl z
    refine ⟨_, (pss_one (ps_ret (pe_join pe_str (pe_lc (own := [("at", 2)]) (g := gName 2) (tt := tYes) rfl sc__mirrored_row.nd (pi_range1 (by rfl) B.range_ (pa_cons (pe_callB call_len_str (by rfl) B.len_ PySem.boot_len (pa_cons (pv 0) pa_nil)) pa_nil)) (blkOk_by (N := N__mirrored_row) (sc := defScope s__mirrored_row) (by decide +kernel)) (fun _ _ _ _ _ => pg_name (i := 2) sc__mirrored_row.nd rfl (Or.inl rfl)) (fun _ _ _ _ _ => pts_nil) (fun _ _ _ _ _ => (pe_ix ix_str (pv 0) (pe_op op_mod (pe_op op_sub (pe_op op_sub (pv 1) pe_int) (pv 2)) (pe_callB call_len_str (by rfl) B.len_ PySem.boot_len (pa_cons (pv 0) pa_nil))) (fun _ _ => rfl))))))), ?_⟩
    walk_at "rd"
    intro D hD
    refine lc_range (lo := 0) (n := z.length) (fun j H2 => Same H H2 ∧ H2 D = some (.lst ((((pick (tl z) fun k => n - 2 - k).take j).map fun c => (⟨#[c]⟩ : Str)).map V.str))) ⟨L2.Same.upd hD, upd_same⟩ ?_ ?_
    · rintro j H2 hj ⟨sm, hD'⟩
      refine ⟨rfl, ?_⟩
      walk_at "rd"
      have hat : atI (z.cps.toList) ((n - 2 - (0 + (j : Int))) % (z.length : Int)) = some (sg (tl z) (n - 2 - (0 + (j : Int)))) := by
        have q := atI_sg h0 (n - 2 - (0 + (j : Int)))
        rw [← len_tl] at q
        exact q
      refine ⟨_, _, _, rfl, rfl, hzl, hat, ?_⟩
      have hjp : j < (pick (tl z) fun k => n - 2 - k).length := by rw [pick_len]; omega
      refine ⟨_, hD', by rw [List.length_map, List.length_map, List.length_take]; exact Nat.lt_of_le_of_lt (show min j _ ≤ 5000 by omega) (by decide), sm.put hD, ?_⟩
      have hg : (pick (tl z) fun k => n - 2 - k)[j] = sg (tl z) (n - 2 - (0 + (j : Int))) := by
        have q := pick_get (l := tl z) (f := fun k => n - 2 - k) (k := j) (by omega)
        rw [List.getElem?_eq_getElem hjp] at q
        rw [Option.some.inj q, Int.zero_add]
      rw [upd_same, List.take_add_one, List.getElem?_eq_getElem hjp, hg, List.map_append, List.map_append]
      rfl
    · rintro H2 ⟨sm, hD'⟩
      rw [List.take_of_length_le (by rw [pick_len]; omega)] at hD'
      refine ⟨_, D, _, rfl, rfl, .inl (SqL.of hD'), ?_, ?_⟩
      · rw [sum_singles, List.length_map, pick_len, show (Str.ofString "").length = 0 by decide +kernel]
        omega
      rw [join_singles]
      exact k H2 sm
end
abbrev s_Rule_rows : Stmt := inClass (top 26) 1
abbrev N_Rule_rows : List Str := ["self"]
theorem sc_Rule_rows : FnScope N_Rule_rows ["self"] (defScope s_Rule_rows) := ⟨rfl, rfl, rfl, by decide +kernel, rfl, by decide +kernel, by decide +kernel⟩
section
variable {P : Program} {w : World} {K : PySem.W.Frag} {mg : Str → Option Value} {base : Heap}
def spRows (C : Addr) : Sp := fun vs H Q _ => ∃ (p : Addr) (ls : List Str), vs = [.ref p] ∧ RuleAt C H p ls ∧ ∀ (q : Addr) (H' : Hp), Same H H' → H q = none → H' q = some (.lst (ls.map V.str)) → Q (.ref q) H'
theorem ok_Rule_rows {f C : Addr} {fd : FuncData} (F : Fun K "rows" "Rule.rows" s_Rule_rows f fd) (B : Bi mg) (T : Rl K C) : FnOk P w K mg base CX0 2 f fd ["self"] (spRows C) := by
  refine F.ok sc_Rule_rows (fun vs H Q E h => ?_) (fun cdv A outer s H vs Q E hr h => ?_)
  · obtain ⟨p, ls, rfl, _⟩ := h
    rfl
  · obtain ⟨p, ls, rfl, ⟨dx, u, hp, hu⟩, k⟩ := h
    refine ⟨_, (pss_one (ps_ret (pe_callTy call_list_of (by rfl) B.list_ (by decide +kernel) (pa_cons (pe_fld (pv 0) rfl) pa_nil)))), ?_⟩
    walk_at "rd"
    refine ⟨p, C, dx, _, _, rfl, hp, T.cl, T.nR, rfl, ?_⟩
    refine ⟨u, _, rfl, .inr (SqT.of hu), fun l hl => ?_⟩
    exact k l _ (Same.upd hl) hl upd_same
theorem rd_rows {C : Addr} {H : Hp} {p : Addr} {ls : List Str} {Q : VK} (R : RuleAt C H p ls) (k : ∀ (q : Addr) (H' : Hp), Same H H' → H q = none → H' q = some (.lst (ls.map V.str)) → Q (.ref q) H') :
    ∃ a dx fs, V.ref p = .ref a ∧ H a = some (.ins C dx fs) ∧ spRows C [.ref a] H Q E0 := by
  obtain ⟨dx, u, hp, _⟩ := id R
  exact ⟨p, dx, _, rfl, hp, p, ls, rfl, R, k⟩
end
abbrev s_Rule_inverse : Stmt := inClass (top 26) 4
abbrev N_Rule_inverse : List Str := ["self"]
theorem sc_Rule_inverse : FnScope N_Rule_inverse ["self"] (defScope s_Rule_inverse) := ⟨rfl, rfl, rfl, by decide +kernel, rfl, by decide +kernel, by decide +kernel⟩
section
variable {P : Program} {w : World} {K : PySem.W.Frag} {mg : Str → Option Value} {base : Heap}
def spInverse (C : Addr) : Sp := fun vs H Q _ => ∃ (p : Addr) (n : Nat) (ls : List Str), vs = [.ref p] ∧ RuleAt C H p ls ∧ Rows n ls ∧ n ≤ 5000 ∧ ∀ (q : Addr) (H' : Hp), Same H H' → H q = none → RuleAt C H' q ls.reverse → Q (.ref q) H'
theorem Rows.reverse {n : Nat} {ls : List Str} (R : Rows n ls) : Rows n ls.reverse := ⟨by rw [List.length_reverse]; exact R.ne, fun z hz => R.len z (List.mem_reverse.mp hz), fun z hz => R.row z (List.mem_reverse.mp hz)⟩
theorem ok_Rule_inverse {f C : Addr} {fd : FuncData} (F : Fun K "inverse" "Rule.inverse" s_Rule_inverse f fd) (B : Bi mg) (T : Rl K C) (M_Rule : Mkr P w K mg base "Rule" C 3 ["self", "texts"] (spInit C)) (P_rows : Pr P w K mg base C "rows" 2 (spRows C)) : FnOk P w K mg base CX0 5 f fd ["self"] (spInverse C) := by
  refine F.ok sc_Rule_inverse (fun vs H Q E h => ?_) (fun cdv A outer s H vs Q E hr h => ?_)
  · obtain ⟨p, n, ls, rfl, _⟩ := h
    rfl
  · obtain ⟨p, n, ls, rfl, R, W, hn, k⟩ := h
    refine ⟨_, (pss_one (ps_ret (pe_mk M_Rule (hr.mono (by first | decide | omega)) (by rfl) (pa_cons (pe_revL (pe_pr (pv 0) P_rows (hr.mono (by first | decide | omega)) rfl)) pa_nil)))), ?_⟩
    obtain ⟨dx, u, hp, hu⟩ := id R
    walk_at "rd"
    refine ⟨p, dx, _, rfl, hp, p, ls, rfl, R, fun q H1 s1 hq hq1 => ?_⟩
    refine ⟨q, _, rfl, SqL.of hq1, fun q2 hq2 => ?_⟩
    have s2 : Same H1 (upd H1 q2 (.lst (ls.map V.str).reverse)) := Same.upd hq2
    have h2 : (upd H1 q2 (.lst (ls.map V.str).reverse)) q2 = some (.lst (ls.reverse.map V.str)) := by rw [upd_same, List.map_reverse]
    generalize upd H1 q2 (.lst (ls.map V.str).reverse) = H2 at s2 h2 ⊢
    intro x dx nx ndx nex
    refine ⟨x, q2, dx, n, ls.reverse, rfl, upd_same, by rw [upd_ne (ne_of_none h2 nx), upd_ne (ne_of_none h2 ndx)]; exact h2, W.reverse, hn, fun H3 RA keep => ⟨rfl, ?_⟩⟩
    exact k x H3 ((s1.trans s2).trans (L2.Same.made nx ndx keep)) ((s1.trans s2).free nx) RA
theorem rd_inv {σ : St} {C : Addr} {H : Hp} {p : Addr} {n : Nat} {ls : List Str} {Q : VK} (R : RuleAt C H p ls) (W : Rows n ls) (hn : n ≤ 5000) (k : ∀ (q : Addr) (H' : Hp), Same H H' → H q = none → RuleAt C H' q ls.reverse → Q (.ref q) H') :
    ∃ a dx fs, V.ref p = .ref a ∧ H a = some (.ins C dx fs) ∧ fs.lookup ("inverse" : Str) = none ∧ tNil σ H (fun vs H2 => spInverse C (.ref p :: (vs ++ [])) H2 Q E0) := by
  obtain ⟨dx, u, hp, _⟩ := id R
  exact ⟨p, dx, _, rfl, hp, lkR _ (by decide +kernel), p, n, ls, rfl, R, W, hn, k⟩
end
abbrev s_Rule_shifted : Stmt := inClass (top 26) 5
abbrev N_Rule_shifted : List Str := ["self", "by", "row"]
theorem sc_Rule_shifted : FnScope N_Rule_shifted ["self", "by"] (defScope s_Rule_shifted) := ⟨rfl, rfl, rfl, by decide +kernel, rfl, by decide +kernel, by decide +kernel⟩
section
variable {P : Program} {w : World} {K : PySem.W.Frag} {mg : Str → Option Value} {base : Heap}
def spShifted (C : Addr) : Sp := fun vs H Q _ => ∃ (p : Addr) (b : Int) (n : Nat) (ls : List Str), vs = [.ref p, .int b] ∧ RuleAt C H p ls ∧ Rows n ls ∧ n ≤ 5000 ∧ ls.length ≤ 5000 ∧ ∀ (q : Addr) (H' : Hp), Same H H' → H q = none → RuleAt C H' q (ls.map (rotS b)) → Q (.ref q) H'
theorem ok_Rule_shifted {f C : Addr} {fd : FuncData} (F : Fun K "shifted" "Rule.shifted" s_Rule_shifted f fd) (B : Bi mg) (T : Rl K C) (M_Rule : Mkr P w K mg base "Rule" C 3 ["self", "texts"] (spInit C)) (D_shifted_row : Df P w K mg base "_shifted_row" 2 ["row", "by"] spShiftedRow) : FnOk P w K mg base CX0 5 f fd ["self", "by"] (spShifted C) := by
  refine F.ok sc_Rule_shifted (fun vs H Q E h => ?_) (fun cdv A outer s H vs Q E hr h => ?_)
  · obtain ⟨p, b, n, ls, rfl, _⟩ := h
    rfl
  · obtain ⟨p, b, n, ls, rfl, R, W, hn, hl, k⟩ := h
    refine ⟨_, (pss_one (ps_ret (pe_mk M_Rule (hr.mono (by first | decide | omega)) (by rfl) (pa_cons (pe_lc (own := [("row", 2)]) (g := gName 2) (tt := tYes) rfl sc_Rule_shifted.nd (pi_tup (pe_fld (pv 0) rfl)) (blkOk_by (N := N_Rule_shifted) (sc := defScope s_Rule_shifted) (by decide +kernel)) (fun _ _ _ _ _ => pg_name (i := 2) sc_Rule_shifted.nd rfl (Or.inl rfl)) (fun _ _ _ _ _ => pts_nil) (fun _ _ _ _ _ => (pe_df D_shifted_row (hr.mono (by first | decide | omega)) (by rfl) (pa_cons (pv 2) (pa_cons (pv 1) pa_nil))))) pa_nil)))), ?_⟩
    obtain ⟨dx, u, hp, hu⟩ := id R
    walk_at "rd"
    refine ⟨p, C, dx, _, _, rfl, hp, T.cl, T.nR, rfl, ?_⟩
    refine ⟨u, rfl, ⟨_, SqT.of hu⟩, fun D hD => ?_⟩
    refine lc_tup (K := K) (a := u) (xs := ls.map V.str) (fun i H' => Same H H' ∧ H' D = some (.lst (((ls.take i).map (rotS b)).map V.str))) ⟨L2.Same.upd hD, upd_same⟩ (fun i H' _ h => SqT.of (h.1 _ _ hu)) ?_ ?_
    · rintro i x H' hi ⟨sm, hD'⟩
      have hil : i < ls.length := by
        have := (List.getElem?_eq_some_iff.mp hi).1
        rw [List.length_map] at this
        exact this
      rw [getS hil] at hi
      obtain rfl := Option.some.inj hi
      refine ⟨rfl, ?_⟩
      walk_at "rd"
      refine ⟨_, b, rfl, (W.row _ (List.getElem_mem hil)).ne, by rw [W.lenS (List.getElem_mem hil)]; exact hn, ?_⟩
      refine ⟨_, hD', by rw [List.length_map, List.length_map, List.length_take]; exact Nat.lt_of_le_of_lt (Nat.le_trans (Nat.min_le_right _ _) hl) (by decide), sm.put hD, ?_⟩
      rw [upd_same, take_snoc hil, List.map_append]
      rfl
    · rintro H' ⟨sm, hD'⟩
      rw [List.length_map, List.take_length] at hD'
      intro x dx nx ndx _
      refine mk_at hD' (W.rot b) hn nx ndx fun H3 s3 RA => ⟨rfl, ?_⟩
      exact k x H3 (sm.trans s3) (sm.free nx) RA
theorem rd_sh {σ : St} {te : TE} {C : Addr} {H : Hp} {p : Addr} {b : Int} {n : Nat} {ls : List Str} {Q : VK} (R : RuleAt C H p ls) (W : Rows n ls) (hn : n ≤ 5000) (hl : ls.length ≤ 5000) (ht : ∀ Q' : VK, Q' (.int b) H → te σ H Q')
    (k : ∀ (q : Addr) (H' : Hp), Same H H' → H q = none → RuleAt C H' q (ls.map (rotS b)) → Q (.ref q) H') :
    ∃ a dx fs, V.ref p = .ref a ∧ H a = some (.ins C dx fs) ∧ fs.lookup ("shifted" : Str) = none ∧ tCons te tNil σ H (fun vs H2 => spShifted C (.ref p :: (vs ++ [])) H2 Q E0) := by
  obtain ⟨dx, u, hp, _⟩ := id R
  exact ⟨p, dx, _, rfl, hp, lkR _ (by decide +kernel), ht _ ⟨p, b, n, ls, rfl, R, W, hn, hl, k⟩⟩
end
abbrev s_Rule_then : Stmt := inClass (top 26) 6
abbrev N_Rule_then : List Str := ["self", "other", "width", "row"]
theorem sc_Rule_then : FnScope N_Rule_then ["self", "other"] (defScope s_Rule_then) := ⟨rfl, rfl, rfl, by decide +kernel, rfl, by decide +kernel, by decide +kernel⟩
section
variable {P : Program} {w : World} {K : PySem.W.Frag} {mg : Str → Option Value} {base : Heap}
def spThen (C : Addr) : Sp := fun vs H Q _ => ∃ (p q : Addr) (n m : Nat) (ls ms : List Str), vs = [.ref p, .ref q] ∧ RuleAt C H p ls ∧ RuleAt C H q ms ∧ Rows n ls ∧ Rows m ms ∧ n ≤ 5000 ∧ m ≤ 5000 ∧ Nat.lcm n m ≤ 1000 ∧ ls.length + ms.length ≤ 5000 ∧
  ∀ (r : Addr) (H' : Hp), Same H H' → H r = none → RuleAt C H' r (joinR (Nat.lcm n m) ls ms) → Q (.ref r) H'
theorem ok_Rule_then {f C : Addr} {fd : FuncData} (F : Fun K "then" "Rule.then" s_Rule_then f fd) (B : Bi mg) (T : Rl K C) (G_lcm : mg "lcm" = some (.builtin "math.lcm")) (M_Rule : Mkr P w K mg base "Rule" C 3 ["self", "texts"] (spInit C)) (P_rows : Pr P w K mg base C "rows" 2 (spRows C)) (P_width : Pr P w K mg base C "width" 2 (spWidth C)) : FnOk P w K mg base CX0 5 f fd ["self", "other"] (spThen C) := by
  refine F.ok sc_Rule_then (fun vs H Q E h => ?_) (fun cdv A outer s H vs Q E hr h => ?_)
  · obtain ⟨p, q, n, m, ls, ms, rfl, _⟩ := h
    rfl
  · obtain ⟨p, q, n, m, ls, ms, rfl, R, S, W, W2, hn, hm, hL, hl, k⟩ := h
    refine ⟨_, (pss_cons (ps_set (i := 2) sc_Rule_then.nd rfl (Or.inr rfl) (pe_callBfun cr_lcm (by rfl) G_lcm (pa_cons (pe_pr (pv 0) P_width (hr.mono (by first | decide | omega)) rfl) (pa_cons (pe_pr (pv 1) P_width (hr.mono (by first | decide | omega)) rfl) pa_nil))))
    (pss_one (ps_ret (pe_mk M_Rule (hr.mono (by first | decide | omega)) (by rfl) (pa_cons (pe_lc (own := [("row", 3)]) (g := gName 3) (tt := tYes) rfl sc_Rule_then.nd (pi_list (pe_op op_cat (pe_pr (pv 0) P_rows (hr.mono (by first | decide | omega)) rfl) (pe_pr (pv 1) P_rows (hr.mono (by first | decide | omega)) rfl))) (blkOk_by (N := N_Rule_then) (sc := defScope s_Rule_then) (by decide +kernel)) (fun _ _ _ _ _ => pg_name (i := 3) sc_Rule_then.nd rfl (Or.inl rfl)) (fun _ _ _ _ _ => pts_nil) (fun _ _ _ _ _ => (pe_op op_rep_str (pv 3) (pe_op op_fdiv (pv 2) (pe_callB call_len_str (by rfl) B.len_ PySem.boot_len (pa_cons (pv 3) pa_nil)))))) pa_nil))))), ?_⟩
    obtain ⟨dx, u, hp, hu⟩ := id R
    obtain ⟨dy, v, hq, hv⟩ := id S
    walk_at "rd"
    refine ⟨p, dx, _, rfl, hp, p, ls, n, rfl, R, W, hn, ?_⟩
    refine ⟨_, rfl, q, dy, _, rfl, hq, q, ms, m, rfl, S, W2, hm, ?_⟩
    refine ⟨n, m, rfl, by omega, by omega, ?_⟩
    walk_at "rd"
    refine rd_rows R fun g1 H1 s1 hg1 hg11 => ?_
    obtain ⟨dy1, v1, hq1, hv1⟩ := id (S.same s1)
    refine ⟨_, rfl, q, dy1, _, rfl, hq1, q, ms, rfl, S.same s1, fun g2 H2 s2 hg2 hg22 => ?_⟩
    refine ⟨_, _, _, _, rfl, rfl, s2 _ _ hg11, hg22, by rw [List.length_map, List.length_map]; exact Nat.le_trans hl (by decide), ?_⟩
    intro g3 zg3
    generalize eg3 : upd _ g3 _ = H3
    obtain ⟨s3, hg3⟩ := nw eg3 zg3
    rw [← List.map_append] at hg3
    refine ⟨g3, rfl, ⟨_, SqL.of hg3⟩, fun D hD => ?_⟩
    generalize eL : Nat.lcm n m = L at hL k ⊢
    have hLp : 0 < L := by rw [← eL]; exact Nat.lcm_pos W.pos W2.pos
    have key : ∀ z ∈ ls ++ ms, 0 < (tl z).length ∧ (tl z).length ∣ L ∧ (tl z).length ≤ 5000 := fun z hz => by
      rcases List.mem_append.mp hz with h | h
      · rw [W.len z h, ← eL]
        exact ⟨W.pos, Nat.dvd_lcm_left n m, hn⟩
      · rw [W2.len z h, ← eL]
        exact ⟨W2.pos, Nat.dvd_lcm_right n m, hm⟩
    refine lc_list (K := K) (a := g3) (xs := (ls ++ ms).map V.str) (fun i H' => Same H3 H' ∧ H' D = some (.lst ((((ls ++ ms).take i).map (strS L)).map V.str))) ⟨L2.Same.upd hD, upd_same⟩ (fun i H' _ h => SqL.of (h.1 _ _ hg3)) ?_ ?_
    · rintro i x H' hi ⟨sm, hD'⟩
      have hil : i < (ls ++ ms).length := by
        have := (List.getElem?_eq_some_iff.mp hi).1
        rw [List.length_map] at this
        exact this
      rw [getS hil] at hi
      obtain rfl := Option.some.inj hi
      obtain ⟨k1, k2, k3⟩ := key _ (List.getElem_mem hil)
      have hzl : ((ls ++ ms)[i]).length ≤ sizeLine := by rw [len_tl]; exact Nat.le_trans k3 (by decide)
      have hdv : (0 : Int) < (((ls ++ ms)[i]).length : Int) ∧ (((ls ++ ms)[i]).length : Int) < 1073741824 := by rw [len_tl]; omega
      refine ⟨rfl, ?_⟩
      walk_at "rd"
      have hq : (L : Int) / ((((ls ++ ms)[i]).length : Nat) : Int) = ((L / (tl (ls ++ ms)[i]).length : Nat) : Int) := by rw [len_tl]; rfl
      have hq1 : 1 ≤ L / (tl (ls ++ ms)[i]).length := Nat.div_pos (Nat.le_of_dvd hLp k2) k1
      have hq2 : L / (tl (ls ++ ms)[i]).length ≤ L := Nat.div_le_self _ _
      rw [hq]
      refine ⟨by omega, by omega, ?_, ?_⟩
      · rw [Int.toNat_natCast, len_tl, Nat.mul_div_cancel' k2]
        exact Nat.le_trans hL (by decide)
      refine ⟨_, hD', by rw [List.length_map, List.length_map, List.length_take, List.length_append]; exact Nat.lt_of_le_of_lt (Nat.le_trans (Nat.min_le_right _ _) hl) (by decide), sm.put hD, ?_⟩
      rw [upd_same, List.take_add_one, List.getElem?_eq_getElem hil, List.map_append, List.map_append, Int.toNat_natCast]
      rfl
    · rintro H' ⟨sm, hD'⟩
      rw [List.length_map, List.take_length] at hD'
      have J := joinR_rows W W2
      rw [eL] at J
      intro x dx2 nx ndx _
      refine mk_at hD' J (by omega) nx ndx fun H4 s4 RA => ⟨rfl, ?_⟩
      have s0 := s1.trans (s2.trans (s3.trans sm))
      exact k x H4 (s0.trans s4) (s0.free nx) RA
end
abbrev s_Rule_mirrored : Stmt := inClass (top 26) 8
abbrev N_Rule_mirrored : List Str := ["self", "n", "row"]
theorem sc_Rule_mirrored : FnScope N_Rule_mirrored ["self", "n"] (defScope s_Rule_mirrored) := ⟨rfl, rfl, rfl, by decide +kernel, rfl, by decide +kernel, by decide +kernel⟩
section
variable {P : Program} {w : World} {K : PySem.W.Frag} {mg : Str → Option Value} {base : Heap}
def spMirrored (C : Addr) : Sp := fun vs H Q _ => ∃ (p : Addr) (b : Int) (n : Nat) (ls : List Str), vs = [.ref p, .int b] ∧ RuleAt C H p ls ∧ Rows n ls ∧ n ≤ 5000 ∧ ls.length ≤ 5000 ∧ 1 ≤ b ∧ ∀ (q : Addr) (H' : Hp), Same H H' → H q = none → RuleAt C H' q (ls.map (mirS (b - 2))) → Q (.ref q) H'
theorem ok_Rule_mirrored {f C : Addr} {fd : FuncData} (F : Fun K "mirrored" "Rule.mirrored" s_Rule_mirrored f fd) (B : Bi mg) (T : Rl K C) (M_Rule : Mkr P w K mg base "Rule" C 3 ["self", "texts"] (spInit C)) (D_check_size : Df P w K mg base "check_size" 2 ["n"] spCheckSize) (D_mirrored_row : Df P w K mg base "_mirrored_row" 2 ["row", "n"] spMirroredRow) : FnOk P w K mg base CX0 5 f fd ["self", "n"] (spMirrored C) := by
  refine F.ok sc_Rule_mirrored (fun vs H Q E h => ?_) (fun cdv A outer s H vs Q E hr h => ?_)
  · obtain ⟨p, b, n, ls, rfl, _⟩ := h
    rfl
  · obtain ⟨p, b, n, ls, rfl, R, W, hn, hl, hb, k⟩ := h
    refine ⟨_, (pss_cons (ps_expr (pe_df D_check_size (hr.mono (by first | decide | omega)) (by rfl) (pa_cons (pv 1) pa_nil)))
    (pss_one (ps_ret (pe_mk M_Rule (hr.mono (by first | decide | omega)) (by rfl) (pa_cons (pe_lc (own := [("row", 2)]) (g := gName 2) (tt := tYes) rfl sc_Rule_mirrored.nd (pi_tup (pe_fld (pv 0) rfl)) (blkOk_by (N := N_Rule_mirrored) (sc := defScope s_Rule_mirrored) (by decide +kernel)) (fun _ _ _ _ _ => pg_name (i := 2) sc_Rule_mirrored.nd rfl (Or.inl rfl)) (fun _ _ _ _ _ => pts_nil) (fun _ _ _ _ _ => (pe_df D_mirrored_row (hr.mono (by first | decide | omega)) (by rfl) (pa_cons (pv 2) (pa_cons (pv 1) pa_nil))))) pa_nil))))), ?_⟩
    obtain ⟨dx, u, hp, hu⟩ := id R
    walk_at "rd"
    try (refine ⟨b, rfl, hb, ?_⟩; walk_at "rd")
    refine ⟨p, C, dx, _, _, rfl, hp, T.cl, T.nR, rfl, ?_⟩
    refine ⟨u, rfl, ⟨_, SqT.of hu⟩, fun D hD => ?_⟩
    refine lc_tup (K := K) (a := u) (xs := ls.map V.str) (fun i H' => Same H H' ∧ H' D = some (.lst (((ls.take i).map (mirS (b - 2))).map V.str))) ⟨L2.Same.upd hD, upd_same⟩ (fun i H' _ h => SqT.of (h.1 _ _ hu)) ?_ ?_
    · rintro i x H' hi ⟨sm, hD'⟩
      have hil : i < ls.length := by
        have := (List.getElem?_eq_some_iff.mp hi).1
        rw [List.length_map] at this
        exact this
      rw [getS hil] at hi
      obtain rfl := Option.some.inj hi
      refine ⟨rfl, ?_⟩
      walk_at "rd"
      refine ⟨_, b, rfl, (W.row _ (List.getElem_mem hil)).ne, by rw [W.lenS (List.getElem_mem hil)]; exact hn, fun H2 s2 => ?_⟩
      refine ⟨_, s2 _ _ hD', by rw [List.length_map, List.length_map, List.length_take]; exact Nat.lt_of_le_of_lt (Nat.le_trans (Nat.min_le_right _ _) hl) (by decide), (sm.trans s2).put hD, ?_⟩
      rw [upd_same, take_snoc hil, List.map_append]
      rfl
    · rintro H' ⟨sm, hD'⟩
      rw [List.length_map, List.take_length] at hD'
      intro x dx nx ndx _
      refine mk_at hD' (W.mir (b - 2)) hn nx ndx fun H3 s3 RA => ⟨rfl, ?_⟩
      exact k x H3 (sm.trans s3) (sm.free nx) RA
theorem rd_mi {σ : St} {te : TE} {C : Addr} {H : Hp} {p : Addr} {b : Int} {n : Nat} {ls : List Str} {Q : VK} (R : RuleAt C H p ls) (W : Rows n ls) (hn : n ≤ 5000) (hl : ls.length ≤ 5000) (hb : 1 ≤ b) (ht : ∀ Q' : VK, Q' (.int b) H → te σ H Q')
    (k : ∀ (q : Addr) (H' : Hp), Same H H' → H q = none → RuleAt C H' q (ls.map (mirS (b - 2))) → Q (.ref q) H') :
    ∃ a dx fs, V.ref p = .ref a ∧ H a = some (.ins C dx fs) ∧ fs.lookup ("mirrored" : Str) = none ∧ tCons te tNil σ H (fun vs H2 => spMirrored C (.ref p :: (vs ++ [])) H2 Q E0) := by
  obtain ⟨dx, u, hp, _⟩ := id R
  exact ⟨p, dx, _, rfl, hp, lkR _ (by decide +kernel), ht _ ⟨p, b, n, ls, rfl, R, W, hn, hl, hb, k⟩⟩
end
abbrev s_Rule_u__add_u_ : Stmt := inClass (top 26) 9
abbrev N_Rule_u__add_u_ : List Str := ["self", "other"]
theorem sc_Rule_u__add_u_ : FnScope N_Rule_u__add_u_ ["self", "other"] (defScope s_Rule_u__add_u_) := ⟨rfl, rfl, rfl, by decide +kernel, rfl, by decide +kernel, by decide +kernel⟩
section
variable {P : Program} {w : World} {K : PySem.W.Frag} {mg : Str → Option Value} {base : Heap}
theorem ok_Rule_add {f C : Addr} {fd : FuncData} (F : Fun K "__add__" "Rule.__add__" s_Rule_u__add_u_ f fd) (B : Bi mg) (T : Rl K C) (E_then : Me P w K mg base C "then" 5 ["self", "other"] (spThen C)) : FnOk P w K mg base CX0 6 f fd ["self", "other"] (spThen C) := by
  refine F.ok sc_Rule_u__add_u_ (fun vs H Q E h => ?_) (fun cdv A outer s H vs Q E hr h => ?_)
  · obtain ⟨p, q, n, m, ls, ms, rfl, _⟩ := h
    rfl
  · obtain ⟨p, q, n, m, ls, ms, rfl, R, S, h⟩ := h
    refine ⟨_, (pss_one (ps_ret (pe_me (pv 0) E_then (hr.mono (by first | decide | omega)) (pa_cons (pv 1) pa_nil)))), ?_⟩
    obtain ⟨dx, u, hp, hu⟩ := id R
    refine ⟨_, rfl, p, dx, _, rfl, hp, lkR _ (by decide +kernel), ?_⟩
    exact ⟨_, rfl, p, q, n, m, ls, ms, rfl, R, S, h⟩
theorem rd_add {C : Addr} {H : Hp} {p q : Addr} {n m : Nat} {ls ms : List Str} {Q : VK} (R : RuleAt C H p ls) (S : RuleAt C H q ms) (W : Rows n ls) (W2 : Rows m ms) (hn : n ≤ 5000) (hm : m ≤ 5000) (hL : Nat.lcm n m ≤ 1000) (hl : ls.length + ms.length ≤ 5000)
    (k : ∀ (r : Addr) (H' : Hp), Same H H' → H r = none → RuleAt C H' r (joinR (Nat.lcm n m) ls ms) → Q (.ref r) H') : rAddOwn C (spThen C) (.ref p) (.ref q) H Q := by
  obtain ⟨dx, u, hp, _⟩ := id R
  obtain ⟨dy, v, hq, _⟩ := id S
  exact ⟨p, q, dx, dy, _, _, rfl, rfl, hp, hq, p, q, n, m, ls, ms, rfl, R, S, W, W2, hn, hm, hL, hl, fun r H' s h RA => ⟨⟨r, rfl⟩, k r H' s h RA⟩⟩
end
abbrev s__law_source : Stmt := top 28
abbrev N__law_source : List Str := ["script", "great", "small", "cell"]
theorem sc__law_source : FnScope N__law_source ["script"] (defScope s__law_source) := ⟨rfl, rfl, rfl, by decide +kernel, rfl, by decide +kernel, by decide +kernel⟩
section
variable {P : Program} {w : World} {K : PySem.W.Frag} {mg : Str → Option Value} {base : Heap}
def spSource (K : PySem.W.Frag) : Sp := fun vs H Q _ => ∃ (a : Addr) (ns : List Int), vs = [.ref a] ∧ SqL K H a (ns.map V.int) ∧ ns.length ≤ 63 ∧ ∀ (s g r : Addr) (H' : Hp), Same H H' → H s = none → H g = none → H r = none → Src H' s g r 0 → Q (.ref s) H'
theorem ok__law_source {f : Addr} {fd : FuncData} (F : Fun K "_law_source" "_law_source" s__law_source f fd) (B : Bi mg) : FnOk P w K mg base CX0 2 f fd ["script"] (spSource K) := by
  refine F.ok sc__law_source (fun vs H Q E h => ?_) (fun cdv A outer s H vs Q E hr h => ?_)
  · obtain ⟨a, ns, rfl, _⟩ := h
    rfl
  · obtain ⟨a, ns, rfl, hS, hl, k⟩ := h
    refine ⟨_, (pss_cons (ps_setLc (i := 1) (own := [("cell", 3)]) (g := gName 3) (tt := _) rfl sc__law_source.nd rfl rfl (sw_true rfl rfl rfl (by decide +kernel)) (pi_list (pv 0)) (blkOk_by (N := N__law_source) (sc := defScope s__law_source) (by decide +kernel)) (fun _ _ _ _ _ => pg_name (i := 3) sc__law_source.nd rfl (Or.inl rfl)) (fun _ _ _ _ _ => pts_one (pt_cmpR op_ge (pe_callB call_abs (by rfl) B.abs_ (by decide +kernel) (pa_cons (pv 3) pa_nil)) (pe_op op_pow pe_int pe_int) (nomark _))) (fun _ _ _ _ _ => (pe_callB call_abs (by rfl) B.abs_ (by decide +kernel) (pa_cons (pv 3) pa_nil))))
    (pss_cons (ps_setLc (i := 2) (own := [("cell", 3)]) (g := gName 3) (tt := _) rfl sc__law_source.nd rfl rfl (sw_true rfl rfl rfl (by decide +kernel)) (pi_list (pv 0)) (blkOk_by (N := N__law_source) (sc := defScope s__law_source) (by decide +kernel)) (fun _ _ _ _ _ => pg_name (i := 3) sc__law_source.nd rfl (Or.inl rfl)) (fun _ _ _ _ _ => pts_one (pt_cmpR op_lt (pe_callB call_abs (by rfl) B.abs_ (by decide +kernel) (pa_cons (pv 3) pa_nil)) (pe_op op_pow pe_int pe_int) (nomark _))) (fun _ _ _ _ _ => (pv 3)))
    (pss_one (ps_ret (pe_lst (pa_cons (pv 1) (pa_cons (pv 2) (pa_cons pe_int (pa_cons pe_int pa_nil))))))))), ?_⟩
    have hcp := cp18
    have e18 : (10 : Int) ^ (18 : Int).toNat = 10 ^ 18 := rfl
    refine ⟨_, rfl, a, rfl, ⟨_, hS⟩, fun D hD => ?_⟩
    refine lc_list (K := K) (a := a) (xs := ns.map V.int) (fun i H' => Same H H' ∧ ∃ gs : List Int, gs.length ≤ i ∧ H' D = some (.lst (gs.map V.int))) ⟨L2.Same.upd hD, [], Nat.le_refl _, upd_same⟩ (fun i H' _ h => h.1.seq hS) ?_ ?_
    · rintro i x H' hi ⟨sm, gs, hgs, hD'⟩
      have hil : i < ns.length := by
        have := (List.getElem?_eq_some_iff.mp hi).1
        rw [List.length_map] at this
        exact this
      rw [getV hil] at hi
      obtain rfl := Option.some.inj hi
      refine ⟨rfl, ?_⟩
      walk_at "rd"
      refine ite2 (fun hc => ?_) (fun hc => ?_)
      · walk_at "rd"
        refine ⟨_, hD', by rw [List.length_map]; exact Nat.lt_of_le_of_lt hgs (Nat.lt_of_lt_of_le hil (Nat.le_trans hl (by decide))), sm.put hD, gs ++ [if ns[i] < 0 then -ns[i] else ns[i]], by rw [List.length_append]; exact Nat.add_le_add_right hgs 1, ?_⟩
        rw [upd_same, List.map_append]
        rfl
      · exact ⟨sm, gs, Nat.le_succ_of_le hgs, hD'⟩
    · rintro H' ⟨sm, gs, hgs, hD'⟩
      rw [List.length_map] at hgs
      walk_at "rd"
      refine ⟨⟨_, sm.seq hS⟩, fun D2 hD2 => ?_⟩
      refine lc_list (K := K) (a := a) (xs := ns.map V.int) (fun i H2 => Same H' H2 ∧ ∃ ss : List Int, ss.length ≤ i ∧ (∀ z ∈ ss, -(10 ^ 18) < z ∧ z < 10 ^ 18) ∧ H2 D2 = some (.lst (ss.map V.int))) ⟨L2.Same.upd hD2, [], Nat.le_refl _, (fun _ h => nomatch h), upd_same⟩ (fun i H2 _ h => (sm.trans h.1).seq hS) ?_ ?_
      · rintro i x H2 hi ⟨sm2, ss, hss, hb, hD2'⟩
        have hil : i < ns.length := by
          have := (List.getElem?_eq_some_iff.mp hi).1
          rw [List.length_map] at this
          exact this
        rw [getV hil] at hi
        obtain rfl := Option.some.inj hi
        refine ⟨rfl, ?_⟩
        walk_at "rd"
        refine ite2 (fun hc => ?_) (fun hc => ?_)
        · walk_at "rd"
          refine ⟨_, hD2', by rw [List.length_map]; exact Nat.lt_of_le_of_lt hss (Nat.lt_of_lt_of_le hil (Nat.le_trans hl (by decide))), sm2.put hD2, ss ++ [ns[i]], by rw [List.length_append]; exact Nat.add_le_add_right hss 1, fun z hz => ?_, ?_⟩
          · rcases List.mem_append.mp hz with h | h
            · exact hb z h
            · rw [List.mem_singleton.mp h]
              have := of_decide_eq_true hc
              rw [e18] at this
              split at this <;> omega
          · rw [upd_same, List.map_append]
            rfl
        · exact ⟨sm2, ss, Nat.le_succ_of_le hss, hb, hD2'⟩
      · rintro H2 ⟨sm2, ss, hss, hb, hD2'⟩
        rw [List.length_map] at hss
        walk_at "rd"
        intro s hs
        have ng : D ≠ s := ne_of_none (sm2 _ _ hD') hs
        have n2 : D2 ≠ s := ne_of_none hD2' hs
        have n3 : D2 ≠ D := fun e => by rw [e, hD'] at hD2; cases hD2
        refine k s D D2 _ ((sm.trans sm2).up hs) ((sm.trans sm2).free hs) hD (sm.free hD2) ⟨gs, ss, 0, 1, upd_same, ?_, ?_, n3, by omega, by omega, hb, by omega, by omega, by omega, by omega⟩
        · rw [upd_ne ng]
          exact sm2 _ _ hD'
        · rw [upd_ne n2]
          exact hD2'
end
abbrev s__law_draw : Stmt := top 29
abbrev N__law_draw : List Str := ["source", "limit", "great", "digit", "small", "place", "cell", "state"]
theorem sc__law_draw : FnScope N__law_draw ["source", "limit"] (defScope s__law_draw) := ⟨rfl, rfl, rfl, by decide +kernel, rfl, by decide +kernel, by decide +kernel⟩
section
variable {P : Program} {w : World} {K : PySem.W.Frag} {mg : Str → Option Value} {base : Heap}
def spDraw : Sp := fun vs H Q _ => ∃ (s g sm : Addr) (m : Nat) (b : Int), vs = [.ref s, .int b] ∧ Src H s g sm m ∧ m ≤ 2 ^ 40 ∧ 0 < b ∧ b < 1073741824 ∧ ∀ (c : Int) (H' : Hp), 0 ≤ c → c < b → Src H' s g sm (m + 1) → Same (out s g H) (out s g H') → Q (.int c) H'
theorem dp_ints {K : PySem.W.Frag} {H : Hp} : ∀ ns : List Int, DpAll K H (ns.map V.int) (ns.map PyData.int)
  | [] => .nil
  | z :: ns => .cons (.int z) (dp_ints ns)
theorem lay_ints : ∀ ns : List Int, PyData.canLayAll0 (ns.map PyData.int) = true
  | [] => rfl
  | z :: ns => by
    show (true && PyData.canLayAll0 (ns.map PyData.int)) = true
    rw [lay_ints ns]
    rfl
theorem depth_ints : ∀ ns : List Int, PyData.depthAll (ns.map PyData.int) ≤ 1
  | [] => Nat.zero_le _
  | z :: ns => by
    have ih := depth_ints ns
    simp only [List.map_cons, PyData.depthAll, PyData.depth]
    omega
theorem shaped_ints (ns : List Int) : SeqAt.shaped (.list (ns.map PyData.int)) = true := by
  have h1 := lay_ints ns
  have h2 := depth_ints ns
  show (PyData.canLayAll0 (ns.map PyData.int) && decide (PyData.depth (.list (ns.map PyData.int)) ≤ 64)) = true
  rw [h1, Bool.true_and, decide_eq_true_eq]
  simp only [PyData.depth]
  omega
/-- is a list of numbers empty? -/
theorem rd_some {K : PySem.W.Frag} {H : Hp} {p q : Addr} {ns : List Int} {Q : VK} (hp : H p = some (.lst (ns.map V.int))) (hq : H q = some (.lst [])) (k : Q (.bl (!decide (ns = []))) H) : rNeD K (.ref p) (.ref q) H Q := by
  refine ⟨_, _, .lst (SqL.of hp) (dp_ints ns), .lst (SqL.of hq) .nil, shaped_ints ns, shaped_ints [], ?_⟩
  cases ns with
  | nil => exact k
  | cons z ns => exact k
theorem ok__law_draw {f : Addr} {fd : FuncData} (F : Fun K "_law_draw" "_law_draw" s__law_draw f fd) (B : Bi mg) : FnOk P w K mg base CX0 2 f fd ["source", "limit"] spDraw := by
  refine F.ok sc__law_draw (fun vs H Q E h => ?_) (fun cdv A outer s0 H vs Q E hr h => ?_)
  · obtain ⟨s, g, sm, m, b, rfl, _⟩ := h
    rfl
  · obtain ⟨s, g, sm, m, b, rfl, S, hm, hb0, hb1, k⟩ := h
    refine ⟨_, (pss_cons (ps_set (i := 2) sc__law_draw.nd rfl (Or.inl rfl) (pe_ix ix_list (pv 0) pe_int (fun _ _ => rfl)))
    (pss_cons (ps_if (pt_cmpR (op_neD hr.units) (pv 2) (pe_lst pa_nil) (nomark _))
    (pss_cons (ps_set (i := 3) sc__law_draw.nd rfl (Or.inl rfl) (pe_op op_mod (pe_callTy call_int1 (by rfl) B.int_ (by decide +kernel) (pa_cons (pe_ix ix_list (pv 2) pe_int (fun _ _ => rfl)) pa_nil)) (pv 1)))
    (pss_cons (ps_asg (pe_op op_fdiv (pe_ix ix_list (pv 2) pe_int (fun _ _ => rfl)) (pv 1)) (pg_sub (pv 2) pe_int set_list))
    (pss_cons (ps_if (pt_cmpR op_eq (pe_ix ix_list (pv 2) pe_int (fun _ _ => rfl)) pe_int (nomark _))
    (pss_one (ps_expr (pe_bm PySem.F.plainAttrs_list PySem.F.slot_list_pop PySem.F.type_list_pop mt_popAt (pv 2) (pa_cons pe_int pa_nil))))
    pss_nil)
    (pss_one (ps_ret (pv 3))))))
    pss_nil)
    (pss_cons (ps_set (i := 4) sc__law_draw.nd rfl (Or.inl rfl) (pe_ix ix_list (pv 0) pe_int (fun _ _ => rfl)))
    (pss_cons (ps_set (i := 5) sc__law_draw.nd rfl (Or.inl rfl) (pe_ix ix_list (pv 0) pe_int (fun _ _ => rfl)))
    (pss_cons (ps_set (i := 6) sc__law_draw.nd rfl (Or.inl rfl) pe_int)
    (pss_cons (ps_if (pt_cmpR (op_neD hr.units) (pv 4) (pe_lst pa_nil) (nomark _))
    (pss_one (ps_set (i := 6) sc__law_draw.nd rfl (Or.inl rfl) (pe_ix ix_list (pv 4) (pe_op op_mod (pe_callTy call_int1 (by rfl) B.int_ (by decide +kernel) (pa_cons (pv 5) pa_nil)) (pe_callB call_len_seq (by rfl) B.len_ PySem.boot_len (pa_cons (pv 4) pa_nil))) (fun _ _ => rfl))))
    pss_nil)
    (pss_cons (ps_set (i := 7) sc__law_draw.nd rfl (Or.inl rfl) (pe_op op_mod (pe_callTy call_int1 (by rfl) B.int_ (by decide +kernel) (pa_cons (pe_op op_add (pe_op op_add (pe_op op_powW (pe_op op_add (pe_op op_add (pe_ix ix_list (pv 0) pe_int (fun _ _ => rfl)) (pv 6)) (pe_op op_mul pe_int (pv 5))) pe_int) (pe_op op_mul pe_int (pv 6))) pe_int) pa_nil)) pe_int))
    (pss_cons (ps_asg (pe_op op_add (pv 5) pe_int) (pg_sub (pv 0) pe_int set_list))
    (pss_cons (ps_asg (pv 7) (pg_sub (pv 0) pe_int set_list))
    (pss_one (ps_ret (pe_op op_mod (pe_callTy call_int1 (by rfl) B.int_ (by decide +kernel) (pa_cons (pe_op op_fdiv (pv 7) pe_int) pa_nil)) (pv 1))))))))))))), ?_⟩
    obtain ⟨gs, ss, pl, st, h1, h2, h3, nsg, hgl, hsl, hss, p0, p1, t0, t1⟩ := S.ex
    have nG : g ≠ s := fun e => by
      rw [e, h1] at h2
      cases gs with
      | nil => cases h2
      | cons => cases h2
    have nM : sm ≠ s := fun e => by
      rw [e, h1] at h3
      cases ss with
      | nil => cases h3
      | cons => cases h3
    have i0 : atI [V.ref g, V.ref sm, V.int pl, V.int st] 0 = some (V.ref g) := rfl
    have i1 : atI [V.ref g, V.ref sm, V.int pl, V.int st] 1 = some (V.ref sm) := rfl
    have i2 : atI [V.ref g, V.ref sm, V.int pl, V.int st] 2 = some (V.int pl) := rfl
    have i3 : atI [V.ref g, V.ref sm, V.int pl, V.int st] 3 = some (V.int st) := rfl
    walk_at "rd"
    intro e1 ze1
    generalize ee1 : upd _ e1 _ = H1
    obtain ⟨s1, he1⟩ := nw ee1 ze1
    have h1' := s1 _ _ h1
    have h2' := s1 _ _ h2
    have h3' := s1 _ _ h3
    refine rd_some h2' he1 ?_
    walk_at "rd"
    refine ite2 (fun hc => ?_) (fun hc => ?_)
    · obtain ⟨x, xs, rfl⟩ : ∃ x xs, gs = x :: xs := by
        cases gs with
        | nil => cases hc
        | cons x xs => exact ⟨x, xs, rfl⟩
      have j0 : atI ((x :: xs).map V.int) 0 = some (V.int x) := atI_k' (i := 0) 0 rfl rfl
      walk_at "rd"
      refine ⟨g, _, 0, 0, rfl, rfl, h2', ixN_nat (p := 0) (by rw [List.length_map]; exact Nat.succ_pos _), ?_⟩
      generalize eA : upd _ g _ = HA
      have hAg : HA g = some (.lst ((x / b :: xs).map V.int)) := by rw [← eA]; exact upd_same
      have hAs : HA s = some (.lst [V.ref g, V.ref sm, V.int pl, V.int st]) := by rw [← eA, upd_ne nG.symm]; exact h1'
      have hAm : HA sm = some (.lst (ss.map V.int)) := by rw [← eA, upd_ne nsg]; exact h3'
      have sA : Same (out s g H) (out s g HA) := s1.out.trans (eA ▸ out_put (.inr rfl))
      have j1 : atI ((x / b :: xs).map V.int) 0 = some (V.int (x / b)) := atI_k' (i := 0) 0 rfl rfl
      have c0 := Int.emod_nonneg x (show b ≠ 0 by omega)
      have c1 := Int.emod_lt_of_pos x hb0
      walk_at "rd"
      refine cutIf (fun σ H' => (∃ o, σ = [some (.ref s), some (.int b), some (.ref g), some (.int (x % b)), none, none, none, o]) ∧ Src H' s g sm (m + 1) ∧ Same (out s g H) (out s g H')) ?_ ?_ (fun _ => ⟨⟨_, rfl⟩, ⟨x / b :: xs, ss, pl, st, hAs, hAg, hAm, nsg, hgl, hsl, hss, p0, by omega, t0, t1⟩, sA⟩)
      · rintro σ H' ⟨⟨o, rfl⟩, S', s'⟩
        walk_at "rd"
        exact k _ _ c0 c1 S' s'
      · intro hT hc2
        walk_at "rd"
        refine ⟨g, _, 0, 0, _, rfl, rfl, hAg, by decide, by decide, seq0 (by rw [List.length_map]; exact Nat.succ_pos _), rfl, ?_⟩
        refine hT _ _ ⟨⟨_, rfl⟩, ⟨xs, ss, pl, st, ?_, ?_, ?_, nsg, Nat.le_of_succ_le hgl, hsl, hss, p0, by omega, t0, t1⟩, sA.trans (out_put (.inr rfl))⟩
        · rw [upd_ne nG.symm]; exact hAs
        · exact upd_same
        · rw [upd_ne nsg]; exact hAm
    · have hn : gs = [] := by
        cases gs with
        | nil => rfl
        | cons x xs => exact absurd rfl hc
      subst hn
      walk_at "rd"
      intro e2 ze2
      generalize ee2 : upd _ e2 _ = H2
      obtain ⟨s2, he2⟩ := nw ee2 ze2
      refine rd_some (s2 _ _ h3') he2 ?_
      walk_at "rd"
      have s02 := s1.trans s2
      have h12 := s02 _ _ h1
      have h22 := s02 _ _ h2
      have h32 := s02 _ _ h3
      refine cutIf (fun σ H' => H2 = H' ∧ ∃ c : Int, -(10 ^ 18) < c ∧ c < 10 ^ 18 ∧ σ = [some (.ref s), some (.int b), some (.ref g), none, some (.ref sm), some (.int pl), some (.int c), none]) ?_ ?_ (fun _ => ⟨rfl, 0, by omega, by omega, rfl⟩)
      rotate_left
      · intro hT hc2
        have hs0 : 0 < ss.length := by
          cases ss with
          | nil => cases hc2
          | cons => exact Nat.succ_pos _
        have hlv : ((ss.map V.int).length : Int) = (ss.length : Int) := by rw [List.length_map]
        have hp : (pl % ((ss.map V.int).length : Int)).toNat < ss.length := by
          rw [hlv]
          have q1 := Int.emod_nonneg pl (show (ss.length : Int) ≠ 0 by omega)
          have q2 := Int.emod_lt_of_pos pl (show (0 : Int) < (ss.length : Int) by omega)
          omega
        have iz : atI (ss.map V.int) (pl % ((ss.map V.int).length : Int)) = some (V.int (ss[(pl % ((ss.map V.int).length : Int)).toNat]'hp)) :=
          atI_k' _ (Int.toNat_of_nonneg (Int.emod_nonneg pl (by rw [hlv]; omega))).symm (getV hp)
        have hb := hss _ (List.getElem_mem hp)
        have pp : (0 : Int) < ((ss.map V.int).length : Int) := by rw [hlv]; omega
        repeat (first | exact hT _ _ ⟨rfl, _, hb.1, hb.2, rfl⟩ | walk_at "r")
      rintro σ _ ⟨rfl, c, c0, c1, rfl⟩
      have hpw : CPowW (st + c + 7919 * pl) 3 := ⟨by decide, 64, by omega, by decide⟩
      walk_at "rd"
      refine ⟨s, _, 2, 2, rfl, rfl, h12, rfl, ?_⟩
      generalize eA : upd _ s _ = HA
      have hAs : HA s = some (.lst [V.ref g, V.ref sm, V.int (pl + 1), V.int st]) := by rw [← eA]; exact upd_same
      have hAg : HA g = some (.lst (([] : List Int).map V.int)) := by rw [← eA, upd_ne nG]; exact h22
      have hAm : HA sm = some (.lst (ss.map V.int)) := by rw [← eA, upd_ne nM]; exact h32
      have sA : Same (out s g H) (out s g HA) := s02.out.trans (eA ▸ out_put (.inl rfl))
      walk_at "rd"
      refine ⟨s, _, 3, 3, rfl, rfl, hAs, rfl, ?_⟩
      have z0 := Int.emod_nonneg ((st + c + 7919 * pl) ^ (3 : Int).toNat + 48271 * c + 12345) (show (2147483629 : Int) ≠ 0 by decide)
      have z1 := Int.emod_lt_of_pos ((st + c + 7919 * pl) ^ (3 : Int).toNat + 48271 * c + 12345) (show (0 : Int) < 2147483629 by decide)
      walk_at "rd"
      refine k _ _ (Int.emod_nonneg _ (by omega)) (Int.emod_lt_of_pos _ hb0) ⟨[], ss, pl + 1, _, upd_same, ?_, ?_, nsg, by decide, hsl, hss, by omega, by omega, z0, z1⟩ (sA.trans (out_put (.inl rfl)))
      · rw [upd_ne nG]; exact hAg
      · rw [upd_ne nM]; exact hAm
end
abbrev s__law_lines : Stmt := top 30
abbrev N__law_lines : List Str := ["span", "lines", "k", "longer", "line"]
theorem sc__law_lines : FnScope N__law_lines ["span"] (defScope s__law_lines) := ⟨rfl, rfl, rfl, by decide +kernel, rfl, by decide +kernel, by decide +kernel⟩
section
variable {P : Program} {w : World} {K : PySem.W.Frag} {mg : Str → Option Value} {base : Heap}
/-- a part of a row: no two strokes side by side -/
def Half (k : Nat) (l : List Nat) : Prop := l.length = k ∧ Signs l ∧ ∀ i : Nat, ¬ (l[i]? = some 45 ∧ l[i + 1]? = some 45)
theorem Half.add {k c : Nat} {l : List Nat} (h : Half k l) (hc : c = 45 ∨ c = 46) (h1 : c = 45 → l.getLast? ≠ some 45) : Half (k + 1) (l ++ [c]) := by
  obtain ⟨h2, h3, h4⟩ := h
  refine ⟨by rw [List.length_append, h2]; rfl, fun x hx => ?_, fun i ⟨g1, g2⟩ => ?_⟩
  · rcases List.mem_append.mp hx with h | h
    · exact h3 x h
    · rw [List.mem_singleton.mp h]
      exact hc
  · have hi := (List.getElem?_eq_some_iff.mp g2).1
    rw [List.length_append, List.length_singleton] at hi
    by_cases hl : i + 1 < l.length
    · rw [List.getElem?_append_left (by omega)] at g1
      rw [List.getElem?_append_left hl] at g2
      exact h4 i ⟨g1, g2⟩
    · have e : i + 1 = l.length := by omega
      rw [List.getElem?_append_left (by omega)] at g1
      rw [e, List.getElem?_append_right (Nat.le_refl _), Nat.sub_self] at g2
      have ec : c = 45 := by simpa using g2
      refine h1 ec ?_
      rw [List.getLast?_eq_getElem?, show l.length - 1 = i by omega]
      exact g1
theorem Half.row {k : Nat} {l : List Nat} (h : Half k l) (h0 : 0 < k) (he : l[0]? = some 46 ∨ l[k - 1]? = some 46) : Row l := by
  obtain ⟨rfl, h3, h4⟩ := h
  exact Part.row (n := l.length) ⟨h3, h4, fun _ ⟨g1, g2⟩ => by rcases he with e | e <;> simp_all⟩ rfl h0
def dots (k : Nat) : Str := ⟨(List.replicate k 46).toArray⟩
theorem tl_dots (k : Nat) : tl (dots k) = List.replicate k 46 := rfl
theorem dots_add (k : Nat) : dots k ++ Str.ofString "." = dots (k + 1) := ext_tl (by
  rw [tl_append, tl_dots, tl_dots, show tl (Str.ofString ".") = [46] by decide +kernel, List.replicate_succ'])
theorem is_dot {c : Nat} (h : decide (V.str (⟨#[c]⟩ : Str) = V.str (Str.ofString ".")) = true) : c = 46 := by
  have e := of_decide_eq_true h
  injection e with e
  have e2 := congrArg tl e
  rw [show tl (Str.ofString ".") = [46] by decide +kernel] at e2
  injection e2
theorem no_dot {z : Str} {k : Nat} (h : z = dots k) {i c : Nat} (e : (tl z)[i]? = some c) : c = 46 := by
  rw [h, tl_dots, List.getElem?_replicate] at e
  split at e
  · exact (Option.some.inj e).symm
  · cases e
def spLinesSpan : Sp := fun vs H Q _ => ∃ n : Nat, vs = [.int n] ∧ 0 < n ∧ n ≤ 6 ∧ ∀ (ls : List Str) (q : Addr) (H' : Hp), Rows n ls → ls.length ≤ 64 → Same H H' → H q = none → H' q = some (.lst (ls.map V.str)) → Q (.ref q) H'
theorem ok__law_lines {f : Addr} {fd : FuncData} (F : Fun K "_law_lines" "_law_lines" s__law_lines f fd) (B : Bi mg) : FnOk P w K mg base CX0 2 f fd ["span"] spLinesSpan := by
  refine F.ok sc__law_lines (fun vs H Q E h => ?_) (fun cdv A outer s0 H vs Q E hr h => ?_)
  · obtain ⟨n, rfl, _⟩ := h
    rfl
  · obtain ⟨n, rfl, hn0, hn6, k⟩ := h
    refine ⟨_, (pss_cons (ps_set (i := 1) sc__law_lines.nd rfl (Or.inl rfl) (pe_lst (pa_cons pe_str pa_nil)))
    (pss_cons (ps_for PassesOwn.never rfl (pi_range1 (by rfl) B.range_ (pa_cons (pv 0) pa_nil)) (pg_name (i := 2) sc__law_lines.nd rfl (Or.inl rfl))
    (pss_cons (ps_set (i := 3) sc__law_lines.nd rfl (Or.inl rfl) (pe_lst pa_nil))
    (pss_cons (ps_for PassesOwn.never rfl (pi_list (pv 1)) (pg_name (i := 4) sc__law_lines.nd rfl (Or.inl rfl))
    (pss_cons (ps_expr (pe_bm PySem.F.plainAttrs_list PySem.F.slot_list_append PySem.F.type_list_append mt_append (pv 3) (pa_cons (pe_op op_add_str (pv 4) pe_str) pa_nil)))
    (pss_one (ps_if (pt_cmpR op_ne (pe_slice sl_str (pv 4) (po_some (pe_un un_neg pe_int)) po_none) pe_str (nomark _))
    (pss_one (ps_expr (pe_bm PySem.F.plainAttrs_list PySem.F.slot_list_append PySem.F.type_list_append mt_append (pv 3) (pa_cons (pe_op op_add_str (pv 4) pe_str) pa_nil))))
    pss_nil))))
    (pss_one (ps_set (i := 1) sc__law_lines.nd rfl (Or.inl rfl) (pv 3))))))
    (pss_one (ps_ret (pe_lc (own := [("line", 4)]) (g := gName 4) (tt := _) rfl sc__law_lines.nd (pi_list (pv 1)) (blkOk_by (N := N__law_lines) (sc := defScope s__law_lines) (by decide +kernel)) (fun _ _ _ _ _ => pg_name (i := 4) sc__law_lines.nd rfl (Or.inl rfl)) (fun _ _ _ _ _ => pts_one (PW.pt (pw_or (pt_cmpR op_eq (pe_ix ix_str (pv 4) pe_int (fun _ _ => rfl)) pe_str (nomark _)) (pw_or1 (pt_cmpR op_eq (pe_ix ix_str (pv 4) (pe_un un_neg pe_int) (fun _ _ => rfl)) pe_str (nomark _)))))) (fun _ _ _ _ _ => (pv 4))))))), ?_⟩
    have hn62 : (n : Int) < 2 ^ 62 := by omega
    have e45 : tl (Str.ofString "-") = [45] := by decide +kernel
    have e46 : tl (Str.ofString ".") = [46] := by decide +kernel
    walk_at "rd"
    intro l0 zl0
    generalize el0 : upd _ l0 _ = H1
    obtain ⟨s1, hl0⟩ := nw el0 zl0
    walk_at "rd"
    refine for_range (lo := 0) (n := (n : Int).toNat) (fun i σ H' => ∃ (ls : List Str) (q : Addr) (o2 o3 o4 : Option V), σ = [some (.int n), some (.ref q), o2, o3, o4] ∧ Same H H' ∧ H q = none ∧ H' q = some (.lst (ls.map V.str)) ∧ (∀ z ∈ ls, Half i (tl z)) ∧ dots i ∈ ls ∧ ls.length ≤ 2 ^ i)
      ⟨[Str.ofString ""], l0, none, none, none, rfl, s1, zl0, hl0, fun z hz => ?_, ?_, Nat.le_refl _⟩ ?_ ?_
    · rw [List.mem_singleton.mp hz, show tl (Str.ofString "") = [] by decide +kernel]
      exact ⟨rfl, (fun _ h => by cases h), fun i h => by simp at h⟩
    · exact List.mem_singleton.mpr (ext_tl (by rw [tl_dots]; decide +kernel))
    · rintro i σ H' hi ⟨ls, q, o2, o3, o4, rfl, s2, zq, hq, hH, hd, hl⟩
      have hi6 : i < 6 := by omega
      have hl64 : ls.length ≤ 32 := Nat.le_trans hl (by have := Nat.pow_le_pow_right (show 0 < 2 by decide) (show i ≤ 5 by omega); omega)
      walk_at "rd"
      intro D zD
      generalize eD : upd _ D _ = H2
      obtain ⟨s3, hD⟩ := nw eD zD
      have nqD : q ≠ D := ne_of_none hq zD
      walk_at "rd"
      refine ⟨⟨_, SqL.of (s3 _ _ hq)⟩, ?_⟩
      refine for_list (K := K) (a := q) (xs := ls.map V.str) (fun j σ H3 => ∃ (ms : List Str) (o4 : Option V), σ = [some (.int n), some (.ref q), some (.int (0 + (i : Int))), some (.ref D), o4] ∧ Same H' H3 ∧ H3 D = some (.lst (ms.map V.str)) ∧ (∀ z ∈ ms, Half (i + 1) (tl z)) ∧ (dots i ∈ ls.take j → dots (i + 1) ∈ ms) ∧ ms.length ≤ 2 * j)
        ⟨[], _, rfl, s3, hD, (fun _ h => nomatch h), (fun h => by simp at h), Nat.le_refl _⟩ (fun j σ H3 _ h => by
          obtain ⟨_, _, _, s, _⟩ := h
          exact SqL.of (s _ _ hq)) ?_ ?_
      · rintro j x σ H3 hj ⟨ms, o4, rfl, s4, hD3, hM, hdm, hml⟩
        have hjl : j < ls.length := by
          have := (List.getElem?_eq_some_iff.mp hj).1
          rw [List.length_map] at this
          exact this
        rw [getS hjl] at hj
        obtain rfl := Option.some.inj hj
        have hz := hH _ (List.getElem_mem hjl)
        have hzl : (ls[j]'hjl).length = i := by rw [len_tl]; exact hz.1
        have hs46 : (ls[j]'hjl).length + (Str.ofString ".").length ≤ sizeLine := by
          rw [hzl, show (Str.ofString ".").length = 1 by decide +kernel]
          exact Nat.le_trans (show i + 1 ≤ 7 by omega) (by decide)
        have hs45 : (ls[j]'hjl).length + (Str.ofString "-").length ≤ sizeLine := by
          rw [hzl, show (Str.ofString "-").length = 1 by decide +kernel]
          exact Nat.le_trans (show i + 1 ≤ 7 by omega) (by decide)
        have hzs : (ls[j]'hjl).length ≤ sizeLine := by rw [hzl]; exact Nat.le_trans (show i ≤ 7 by omega) (by decide)
        have hms : ∀ x : Nat, x ≤ 2 * 32 + 2 → x < sizeLine := fun x hx => Nat.lt_of_le_of_lt hx (by decide)
        walk_at "rd"
        refine ⟨D, _, _, rfl, rfl, hD3, by rw [List.length_map]; exact hms _ (by omega), ?_⟩
        generalize eA : upd _ D _ = HA
        have hA : HA D = some (.lst ((ms ++ [ls[j]'hjl ++ Str.ofString "."]).map V.str)) := by rw [← eA, upd_same, List.map_append]; rfl
        have sA : Same H' HA := by rw [← eA]; exact s4.put zD
        have mA : ∀ z ∈ ms ++ [ls[j]'hjl ++ Str.ofString "."], Half (i + 1) (tl z) := fun z hz2 => by
          rcases List.mem_append.mp hz2 with h | h
          · exact hM z h
          · rw [List.mem_singleton.mp h, tl_append, e46]
            exact hz.add (.inr rfl) (fun h => by cases h)
        have dA : dots i ∈ ls.take (j + 1) → dots (i + 1) ∈ ms ++ [ls[j]'hjl ++ Str.ofString "."] := fun h => by
          rw [List.take_add_one, List.getElem?_eq_getElem hjl] at h
          rcases List.mem_append.mp h with h | h
          · exact List.mem_append_left _ (hdm h)
          · rw [← dots_add, show dots i = ls[j]'hjl by simpa using h]
            exact List.mem_append_right _ (List.mem_singleton.mpr rfl)
        walk_at "rd"
        refine ite2 (fun hc => ?_) (fun hc => ?_)
        · have hm : (tl (ls[j]'hjl)).getLast? ≠ some 45 := fun h2 => by
            rw [cut_last h2] at hc
            exact absurd hc (by decide +kernel)
          walk_at "rd"
          refine ⟨D, _, _, rfl, rfl, hA, by rw [List.length_map, List.length_append]; exact hms _ (by simp; omega), ?_⟩
          refine ⟨(ms ++ [ls[j]'hjl ++ Str.ofString "."]) ++ [ls[j]'hjl ++ Str.ofString "-"], _, rfl, sA.put zD, by rw [upd_same]; simp, fun z hz2 => ?_, fun h => List.mem_append_left _ (dA h), by rw [List.length_append, List.length_append]; simp; omega⟩
          rcases List.mem_append.mp hz2 with h | h
          · exact mA z h
          · rw [List.mem_singleton.mp h, tl_append, e45]
            exact hz.add (.inl rfl) (fun _ => hm)
        · exact ⟨_, _, rfl, sA, hA, mA, dA, by rw [List.length_append]; simp; omega⟩
      · rintro σ H3 ⟨ms, o4, rfl, s4, hD3, hM, hdm, hml⟩
        rw [List.length_map] at hml hdm
        walk_at "rd"
        refine ⟨ms, D, _, _, _, rfl, s2.trans s4, s2.free zD, hD3, hM, hdm (by rw [List.take_length]; exact hd), ?_⟩
        rw [Nat.pow_succ]
        omega
    · rintro σ H' ⟨ls, q, o2, o3, o4, rfl, s2, zq, hq, hH, hd, hl⟩
      rw [show (n : Int).toNat = n from rfl] at hH hd hl
      have hl64 : ls.length ≤ 64 := Nat.le_trans hl (by have := Nat.pow_le_pow_right (show 0 < 2 by decide) (show n ≤ 6 by omega); omega)
      walk_at "rd"
      refine ⟨⟨_, SqL.of hq⟩, fun D hD => ?_⟩
      refine lc_list (K := K) (a := q) (xs := ls.map V.str) (fun j H3 => ∃ ms : List Str, Same H' H3 ∧ H3 D = some (.lst (ms.map V.str)) ∧ (∀ z ∈ ms, (tl z).length = n ∧ Row (tl z)) ∧ (dots n ∈ ls.take j → dots n ∈ ms) ∧ ms.length ≤ j)
        ⟨[], L2.Same.upd hD, upd_same, (fun _ h => by cases h), (fun h => by simp at h), Nat.le_refl _⟩ (fun j H3 _ h => by
          obtain ⟨_, s, _⟩ := h
          exact SqL.of (s _ _ hq)) ?_ ?_
      · rintro j x H3 hj ⟨ms, s4, hD3, hM, hdm, hml⟩
        have hjl : j < ls.length := by
          have := (List.getElem?_eq_some_iff.mp hj).1
          rw [List.length_map] at this
          exact this
        rw [getS hjl] at hj
        obtain rfl := Option.some.inj hj
        have hz := hH _ (List.getElem_mem hjl)
        have hz1 : (tl (ls[j]'hjl)).length = n := hz.1
        have hzl : (ls[j]'hjl).length ≤ sizeLine := by rw [len_tl, hz1]; exact Nat.le_trans hn6 (by decide)
        have ia : atI (tl (ls[j]'hjl)) 0 = some ((tl (ls[j]'hjl))[0]'(by omega)) := atI_k' (i := 0) 0 rfl (List.getElem?_eq_getElem (by omega))
        have ib : atI (tl (ls[j]'hjl)) (-1) = some ((tl (ls[j]'hjl))[n - 1]'(by omega)) := atI_back ((congrArg (fun m => (tl (ls[j]'hjl))[m - 1]?) hz1).trans (List.getElem?_eq_getElem (by omega)))
        have hdk : ∀ ms' : List Str, (∀ z ∈ ms, z ∈ ms') → (ls[j]'hjl = dots n → dots n ∈ ms') → dots n ∈ ls.take (j + 1) → dots n ∈ ms' := fun ms' h1 h2 h => by
          rw [List.take_add_one, List.getElem?_eq_getElem hjl] at h
          rcases List.mem_append.mp h with h | h
          · exact h1 _ (hdm h)
          · exact h2 (List.mem_singleton.mp (show dots n ∈ [ls[j]'hjl] from h)).symm
        refine ⟨rfl, ?_⟩
        walk_at "rd"
        have take : ((tl (ls[j]'hjl))[0]? = some 46 ∨ (tl (ls[j]'hjl))[n - 1]? = some 46) → ∃ acc : List V, H3 D = some (.lst acc) ∧ acc.length < sizeLine ∧ (fun j H3 => ∃ ms : List Str, Same H' H3 ∧ H3 D = some (.lst (ms.map V.str)) ∧ (∀ z ∈ ms, (tl z).length = n ∧ Row (tl z)) ∧ (dots n ∈ ls.take j → dots n ∈ ms) ∧ ms.length ≤ j) (j + 1) (upd H3 D (.lst (acc ++ [V.str (ls[j]'hjl)]))) := fun he =>
          ⟨_, hD3, by rw [List.length_map]; exact Nat.lt_of_le_of_lt (show ms.length ≤ 64 by omega) (by decide), ms ++ [ls[j]'hjl], s4.put hD, by rw [upd_same, List.map_append]; rfl, fun z hz2 => by
            rcases List.mem_append.mp hz2 with h | h
            · exact hM z h
            · rw [List.mem_singleton.mp h]
              exact ⟨hz1, hz.row hn0 he⟩, hdk _ (fun z h => List.mem_append_left _ h) (fun h => h ▸ List.mem_append_right _ (List.mem_singleton.mpr rfl)), by rw [List.length_append]; simp; omega⟩
        have q0 : (tl (ls[j]'hjl))[0]? = some _ := List.getElem?_eq_getElem (by omega)
        have qn : (tl (ls[j]'hjl))[n - 1]? = some _ := List.getElem?_eq_getElem (by omega)
        refine ⟨_, _, _, rfl, rfl, hzl, ia, ?_⟩
        walk_at "rd"
        refine ite2 (fun hc => ?_) (fun hc => ?_)
        · walk_at "rd"
          exact take (.inl (q0.trans (congrArg some (is_dot hc))))
        walk_at "rd"
        refine ⟨_, _, _, rfl, rfl, hzl, ib, ?_⟩
        walk_at "rd"
        refine ite2 (fun hc2 => ?_) (fun hc2 => ?_)
        · walk_at "rd"
          exact take (.inr (qn.trans (congrArg some (is_dot hc2))))
        · refine ⟨ms, s4, hD3, hM, hdk ms (fun z h => h) (fun h => ?_), by omega⟩
          have e := no_dot h qn
          rw [e] at hc2
          exact absurd (show decide (V.str (⟨#[46]⟩ : Str) = V.str (Str.ofString ".")) = true by decide +kernel) hc2
      · rintro H3 ⟨ms, s4, hD3, hM, hdm, hml⟩
        rw [List.length_map] at hml hdm
        rw [List.take_length] at hdm
        refine k ms D H3 ⟨List.length_pos_of_mem (hdm hd), fun z hz => (hM z hz).1, fun z hz => (hM z hz).2⟩ (by omega) (s2.trans s4) (s2.free hD) hD3
end
abbrev s__law_step : Stmt := top 32
abbrev N__law_step : List Str := ["texts", "start", "at", "line"]
theorem sc__law_step : FnScope N__law_step ["texts", "start"] (defScope s__law_step) := ⟨rfl, rfl, rfl, by decide +kernel, rfl, by decide +kernel, by decide +kernel⟩
section
variable {P : Program} {w : World} {K : PySem.W.Frag} {mg : Str → Option Value} {base : Heap}
def spLawStepZ : Sp := fun vs H Q _ => ∃ (t : Addr) (q : Int) (n : Nat) (ls : List Str), vs = [.ref t, .int q] ∧ H t = some (.lst (ls.map V.str)) ∧ Rows n ls ∧ n ≤ 5000 ∧ Q (.int (goZ ls q - q)) H
theorem ok__law_step {f : Addr} {fd : FuncData} (F : Fun K "_law_step" "_law_step" s__law_step f fd) (B : Bi mg) : FnOk P w K mg base CX0 2 f fd ["texts", "start"] spLawStepZ := by
  refine F.ok sc__law_step (fun vs H Q E h => ?_) (fun cdv A outer s0 H vs Q E hr h => ?_)
  · obtain ⟨t, q, n, ls, rfl, _⟩ := h
    rfl
  · obtain ⟨t, q, n, ls, rfl, ht, W, hn, k⟩ := h
    refine ⟨_, (pss_cons (ps_set (i := 2) sc__law_step.nd rfl (Or.inl rfl) (pv 1))
    (pss_cons (ps_for PassesOwn.never rfl (pi_list (pv 0)) (pg_name (i := 3) sc__law_step.nd rfl (Or.inl rfl))
    (pss_one (ps_if (pt_cmpR op_eq (pe_ix ix_str (pv 3) (pe_op op_mod (pe_callTy call_int1 (by rfl) B.int_ (by decide +kernel) (pa_cons (pv 2) pa_nil)) (pe_callB call_len_str (by rfl) B.len_ PySem.boot_len (pa_cons (pv 3) pa_nil))) (fun _ _ => rfl)) pe_str (nomark _))
    (pss_one (ps_set (i := 2) sc__law_step.nd rfl (Or.inl rfl) (pe_op op_add (pv 2) pe_int)))
    (pss_one (ps_if (pt_cmpR op_eq (pe_ix ix_str (pv 3) (pe_op op_mod (pe_callTy call_int1 (by rfl) B.int_ (by decide +kernel) (pa_cons (pe_op op_sub (pv 2) pe_int) pa_nil)) (pe_callB call_len_str (by rfl) B.len_ PySem.boot_len (pa_cons (pv 3) pa_nil))) (fun _ _ => rfl)) pe_str (nomark _))
    (pss_one (ps_set (i := 2) sc__law_step.nd rfl (Or.inl rfl) (pe_op op_sub (pv 2) pe_int)))
    pss_nil)))))
    (pss_one (ps_ret (pe_op op_sub (pv 2) (pv 1)))))), ?_⟩
    walk_at "rd"
    refine ⟨⟨_, SqL.of ht⟩, ?_⟩
    refine for_list (K := K) (a := t) (xs := ls.map V.str) (fun i σ H' => H = H' ∧ ∃ o, σ = [some (.ref t), some (.int q), some (.int (wkZ ls q i)), o]) ⟨rfl, none, rfl⟩ (fun i σ H' _ h => by rw [← h.1]; exact SqL.of ht) ?_ ?_
    · rintro i x σ _ hi ⟨rfl, o, rfl⟩
      have hil : i < ls.length := by
        have := (List.getElem?_eq_some_iff.mp hi).1
        rw [List.length_map] at this
        exact this
      rw [getS hil] at hi
      obtain rfl := Option.some.inj hi
      have e : rowAt ls i = ls[i] := by
        unfold rowAt
        rw [Nat.mod_eq_of_lt hil, List.getD_eq_getElem?_getD, List.getElem?_eq_getElem hil]
        rfl
      have hz0 := (W.row _ (List.getElem_mem hil)).ne
      have hz1 : (tl ls[i]).length ≤ 5000 := by rw [W.len _ (List.getElem_mem hil)]; exact hn
      have kk : ∀ y, y = cross1 (rungB ls[i]) (wkZ ls q i) → H = H ∧ ∃ o, [some (.ref t), some (.int q), some (.int y), some (.str ls[i])] = [some (V.ref t), some (V.int q), some (V.int (wkZ ls q (i + 1))), o] := fun y hy => by
        have e2 : wkZ ls q (i + 1) = y := by
          rw [hy, ← e]
          rfl
        rw [e2]
        exact ⟨rfl, _, rfl⟩
      generalize ls[i] = z at hz0 hz1 kk
      generalize wkZ ls q i = y at kk
      have hzl : z.length ≤ sizeLine := by rw [len_tl]; exact Nat.le_trans hz1 (by decide)
      have ic : ∀ q : Int, atI z.cps.toList (q % (z.length : Int)) = some (sg (tl z) q) := fun q => by
        rw [len_tl]
        exact atI_sg hz0 q
      have pn : (0 : Int) < (z.length : Int) := by rw [len_tl]; omega
      unfold cross1 at kk
      walk_at "rd"
      refine ⟨_, _, _, rfl, rfl, hzl, ic _, ?_⟩
      walk_at "rd"
      refine ite2 (fun hb => ?_) (fun hb => ?_)
      · walk_at "rd"
        exact (kk _ (by rw [if_pos (show rungB z y = true from hb)])).2
      walk_at "rd"
      refine ⟨_, _, _, rfl, rfl, hzl, ic _, ?_⟩
      walk_at "rd"
      refine ite2 (fun hc => ?_) (fun hc => ?_)
      · walk_at "rd"
        exact (kk _ (by rw [if_neg (show ¬ rungB z y = true from hb), if_pos (show rungB z (y - 1) = true from hc)])).2
      · exact kk _ (by rw [if_neg (show ¬ rungB z y = true from hb), if_neg (show ¬ rungB z (y - 1) = true from hc)])
    · rintro σ _ ⟨rfl, o, rfl⟩
      rw [List.length_map, wkZ_round]
      walk_at "rd"
      exact k
end
abbrev s__law_moved : Stmt := top 36
abbrev N__law_moved : List Str := ["texts", "rests", "rest"]
theorem sc__law_moved : FnScope N__law_moved ["texts", "rests"] (defScope s__law_moved) := ⟨rfl, rfl, rfl, by decide +kernel, rfl, by decide +kernel, by decide +kernel⟩
section
variable {P : Program} {w : World} {K : PySem.W.Frag} {mg : Str → Option Value} {base : Heap}
def spMoved : Sp := fun vs H Q _ => ∃ (t r : Addr) (n : Nat) (ls : List Str) (ns : List Int), vs = [.ref t, .ref r] ∧ H t = some (.lst (ls.map V.str)) ∧ Rows n ls ∧ n ≤ 1000 ∧ H r = some (.lst (ns.map V.int)) ∧ ns.length ≤ 5000 ∧ ∀ (z : Int) (H' : Hp), Same H H' → Q (.int z) H'
theorem ok__law_moved {f : Addr} {fd : FuncData} (F : Fun K "_law_moved" "_law_moved" s__law_moved f fd) (B : Bi mg) (D_law_step : Df P w K mg base "_law_step" 2 ["texts", "start"] spLawStepZ) : FnOk P w K mg base CX0 3 f fd ["texts", "rests"] spMoved := by
  refine F.ok sc__law_moved (fun vs H Q E h => ?_) (fun cdv A outer s0 H vs Q E hr h => ?_)
  · obtain ⟨t, r, n, ls, ns, rfl, _⟩ := h
    rfl
  · obtain ⟨t, r, n, ls, ns, rfl, ht, W, hn, hr1, hnl, k⟩ := h
    refine ⟨_, (pss_one (ps_ret (pe_callB (cr_sum rfl) (by rfl) B.sum_ (by decide +kernel) (pa_cons (pe_lc (own := [("rest", 2)]) (g := gName 2) (tt := tYes) rfl sc__law_moved.nd (pi_list (pv 1)) (blkOk_by (N := N__law_moved) (sc := defScope s__law_moved) (by decide +kernel)) (fun _ _ _ _ _ => pg_name (i := 2) sc__law_moved.nd rfl (Or.inl rfl)) (fun _ _ _ _ _ => pts_nil) (fun _ _ _ _ _ => (pe_df D_law_step (hr.mono (by first | decide | omega)) (by rfl) (pa_cons (pv 0) (pa_cons (pv 2) pa_nil))))) pa_nil)))), ?_⟩
    walk_at "rx"
    refine ⟨⟨_, SqL.of hr1⟩, fun D zD => ?_⟩
    refine lc_list (K := K) (a := r) (xs := ns.map V.int) (fun i H' => Same H H' ∧ ∃ ys : List Int, ys.length = i ∧ H' D = some (.lst (ys.map V.int))) ⟨L2.Same.upd zD, [], rfl, upd_same⟩ (fun i H' _ h => SqL.of (h.1 _ _ hr1)) ?_ ?_
    · rintro i v H' hv ⟨s', ys, hyl, hD⟩
      have hil := (List.getElem?_eq_some_iff.mp hv).1
      rw [List.length_map] at hil
      rw [List.getElem?_map] at hv
      obtain ⟨z, hz, rfl⟩ := Option.map_eq_some_iff.mp hv
      refine ⟨rfl, ?_⟩
      walk_at "rx"
      refine ⟨t, z, n, ls, rfl, s' _ _ ht, W, by omega, ?_⟩
      refine ⟨_, hD, by rw [List.length_map, hyl]; exact Nat.lt_of_lt_of_le (show i < 5000 by omega) (by decide), s'.put zD, ys ++ [goZ ls z - z], by rw [List.length_append, hyl]; rfl, ?_⟩
      rw [upd_same, List.map_append]
      rfl
    · rintro H2 ⟨s2, ys, hyl, hD⟩
      walk_at "rx"
      unfold tNil
      exact ⟨_, _, rfl, SqL.of hD, k _ H2 s2⟩
end
abbrev s__law_changed : Stmt := top 37
abbrev N__law_changed : List Str := ["source", "kind", "given", "texts", "span", "at", "other", "rests", "shift", "place", "sign", "later", "lanes", "others", "more", "first", "less", "parts", "part"]
theorem sc__law_changed : FnScope N__law_changed ["source", "kind", "given", "texts"] (defScope s__law_changed) := ⟨rfl, rfl, rfl, by decide +kernel, rfl, by decide +kernel, by decide +kernel⟩
section
variable {P : Program} {w : World} {K : PySem.W.Frag} {mg : Str → Option Value} {base : Heap}
/-- a lane that is told: a tuple with a list; l is another list -/
def LnV (H : Hp) (l : Addr) (v : V) (c : Nat := 1000) : Prop := ∃ (ta r : Addr) (ns : List Int) (sh : Int), v = .ref ta ∧ H ta = some (.tup [.ref r, .int sh]) ∧ H r = some (.lst (ns.map V.int)) ∧ r ≠ l ∧ ns.length ≤ c
theorem LnV.same {H H' : Hp} {l : Addr} {v : V} {c : Nat} (h : LnV H l v c) (s : Same H H') : LnV H' l v c := by
  obtain ⟨ta, r, ns, sh, a, b, c, d⟩ := h
  exact ⟨ta, r, ns, sh, a, s _ _ b, s _ _ c, d⟩
theorem LnV.put {H : Hp} {l : Addr} {v : V} {xs ys : List V} {c : Nat} (h : LnV H l v c) (e : H l = some (.lst xs)) : LnV (upd H l (.lst ys)) l v c := by
  obtain ⟨ta, r, ns, sh, a, b, c, d, f⟩ := h
  exact ⟨ta, r, ns, sh, a, by rw [upd_ne (ne_of b e (by intro z; cases z))]; exact b, by rw [upd_ne d]; exact c, d, f⟩
/-- for a new list -/
theorem LnV.new {H : Hp} {l l' : Addr} {v : V} {c : Nat} (h : LnV H l v c) (z : H l' = none) : LnV H l' v c := by
  obtain ⟨ta, r, ns, sh, a, b, c, d, f⟩ := h
  exact ⟨ta, r, ns, sh, a, b, c, ne_of_none c z, f⟩
theorem LnV.mono {H : Hp} {l : Addr} {v : V} {c d : Nat} (h : LnV H l v c) (hd : c ≤ d) : LnV H l v d := by
  obtain ⟨ta, r, ns, sh, a, b, c, d, f⟩ := h
  exact ⟨ta, r, ns, sh, a, b, c, d, Nat.le_trans f hd⟩
theorem out_upd {s g a : Addr} {H : Hp} {o : HO} (h1 : a ≠ s) (h2 : a ≠ g) : out s g (upd H a o) = upd (out s g H) a o := by
  funext b
  by_cases q : b = a
  · subst q
    rw [upd_same, out_at h1 h2, upd_same]
  · rw [out_ne q, upd_ne q]
/-- what is told: its list, the tuples, and the lists in them -/
structure GVL (H0 : Hp) (p : Addr) (ws : List V) (O : Hp) : Prop where
  top : O p = some (.lst ws)
  each : ∀ w ∈ ws, ∃ (ta r : Addr) (ns : List Int) (sh : Int), w = .ref ta ∧ O ta = some (.tup [.ref r, .int sh]) ∧ O r = some (.lst (ns.map V.int)) ∧ H0 r = none ∧ r ≠ p ∧ ns ≠ [] ∧ ns.length ≤ 100
theorem GVL.same {H0 O O' : Hp} {p : Addr} {ws : List V} (h : GVL H0 p ws O) (s : Same O O') : GVL H0 p ws O' :=
  ⟨s _ _ h.top, fun w hw => by
    obtain ⟨ta, r, ns, sh, a, b, c, d⟩ := h.each w hw
    exact ⟨ta, r, ns, sh, a, s _ _ b, s _ _ c, d⟩⟩
theorem GVL.put {H0 O : Hp} {p a : Addr} {ws xs : List V} {ms : List Int} (h : GVL H0 p ws O) (e : O a = some (.lst xs)) (ha : a ≠ p) (h0 : ms ≠ []) (h1 : ms.length ≤ 100) : GVL H0 p ws (upd O a (.lst (ms.map V.int))) :=
  ⟨by rw [upd_ne ha.symm]; exact h.top, fun w hw => by
    obtain ⟨ta, r, ns, sh, b, c, d, f, g, n0, n1⟩ := h.each w hw
    have nt : ta ≠ a := ne_of c e (by intro z; cases z)
    by_cases q : r = a
    · subst q
      exact ⟨ta, r, ms, sh, b, by rw [upd_ne nt]; exact c, upd_same, f, g, h0, h1⟩
    · exact ⟨ta, r, ns, sh, b, by rw [upd_ne nt]; exact c, by rw [upd_ne q]; exact d, f, g, n0, n1⟩⟩
theorem set_ints (ns : List Int) (j : Nat) (z : Int) : (ns.map V.int).set j (V.int z) = (ns.set j z).map V.int := (List.map_set ..).symm
theorem cutV_sub {xs : List V} {a b : Option Int} : (∀ w ∈ cutV xs a b, w ∈ xs) ∧ (cutV xs a b).length ≤ xs.length := by
  unfold cutV
  refine ⟨fun w hw => List.mem_of_mem_drop (List.mem_of_mem_take hw), ?_⟩
  rw [List.length_take, List.length_drop]
  omega
theorem cutV_ints {ms : List Int} {a b : Option Int} : ∃ ks : List Int, cutV (ms.map V.int) a b = ks.map V.int ∧ ks.length ≤ ms.length := by
  unfold cutV
  rw [← List.map_drop, ← List.map_take]
  refine ⟨_, rfl, ?_⟩
  rw [List.length_take, List.length_drop]
  omega
def spChanged : Sp := fun vs H Q _ => ∃ (s g sm p tx : Addr) (H0 : Hp) (m n : Nat) (kd : Int) (ws : List V) (ls : List Str), vs = [.ref s, .int kd, .ref p, .ref tx] ∧ Src H s g sm m ∧ Src H0 s g sm m ∧ m ≤ 2 ^ 39 ∧ Rows n ls ∧ n ≤ 60 ∧ out s g H tx = some (.lst (ls.map V.str)) ∧ H0 p = none ∧ 0 < ws.length ∧ ws.length ≤ 60 ∧
  GVL H0 p ws (out s g H) ∧ Same (out s g H0) (out s g H) ∧
  ∀ (t : Addr) (us : List V) (H' : Hp) (m' : Nat), Src H' s g sm m' → Same (out s g H0) (out s g H') → H' t = some (.lst us) → us.length ≤ 200 → (∀ u ∈ us, LnV H' t u 2000) → Q (.ref t) H'
theorem ok__law_changed {f : Addr} {fd : FuncData} (F : Fun K "_law_changed" "_law_changed" s__law_changed f fd) (B : Bi mg) (D_law_draw : Df P w K mg base "_law_draw" 2 ["source", "limit"] spDraw) (D_law_moved : Df P w K mg base "_law_moved" 3 ["texts", "rests"] spMoved) : FnOk P w K mg base CX0 4 f fd ["source", "kind", "given", "texts"] spChanged := by
  refine F.ok sc__law_changed (fun vs H Q E h => ?_) (fun cdv A outer s0 H vs Q E hr h => ?_)
  · obtain ⟨s, g, sm, p, tx, H0, m, n, kd, ws, ls, rfl, _⟩ := h
    rfl
  · obtain ⟨s, g, sm, p, tx, H0, m, n, kd, ws, ls, rfl, S0, S00, hm, W, hn, htx, zp, hw0, hw1, hws, sm0, k⟩ := h
    refine ⟨_, (pss_cons (ps_set (i := 4) sc__law_changed.nd rfl (Or.inl rfl) (pe_callB call_len_str (by rfl) B.len_ PySem.boot_len (pa_cons (pe_ix ix_list (pv 3) pe_int (fun _ _ => rfl)) pa_nil)))
    (pss_cons (ps_set (i := 5) sc__law_changed.nd rfl (Or.inl rfl) (pe_df D_law_draw (hr.mono (by first | decide | omega)) (by rfl) (pa_cons (pv 0) (pa_cons (pe_callB call_len_seq (by rfl) B.len_ PySem.boot_len (pa_cons (pv 2) pa_nil)) pa_nil))))
    (pss_cons (ps_set (i := 6) sc__law_changed.nd rfl (Or.inl rfl) (pe_ix ix_list (pv 2) (pe_op op_mod (pe_callTy call_int1 (by rfl) B.int_ (by decide +kernel) (pa_cons (pe_op op_add (pv 5) pe_int) pa_nil)) (pe_callB call_len_seq (by rfl) B.len_ PySem.boot_len (pa_cons (pv 2) pa_nil))) (fun _ _ => rfl)))
    (pss_cons (ps_asg (pe_ix ix_list (pv 2) (pv 5) (fun _ _ => rfl)) (pg_tup rfl (pgs_cons (pg_name (i := 7) sc__law_changed.nd rfl (Or.inl rfl)) (pgs_cons (pg_name (i := 8) sc__law_changed.nd rfl (Or.inl rfl)) pgs_nil))))
    (pss_cons (ps_set (i := 9) sc__law_changed.nd rfl (Or.inl rfl) (pe_df D_law_draw (hr.mono (by first | decide | omega)) (by rfl) (pa_cons (pv 0) (pa_cons (pe_callB call_len_seq (by rfl) B.len_ PySem.boot_len (pa_cons (pv 7) pa_nil)) pa_nil))))
    (pss_cons (ps_set (i := 10) sc__law_changed.nd rfl (Or.inl rfl) (pe_op op_sub pe_int (pe_op op_mulW pe_int (pe_df D_law_draw (hr.mono (by first | decide | omega)) (by rfl) (pa_cons (pv 0) (pa_cons pe_int pa_nil))))))
    (pss_cons (ps_if (pt_cmpR op_eq (pv 1) pe_int (nomark _))
    (pss_one (ps_asg (pe_op op_add (pe_ix ix_list (pv 7) (pv 9) (fun _ _ => rfl)) (pe_op op_mulW (pv 10) (pe_ix ix_list (pe_lst (pa_cons pe_int (pa_cons (pv 4) (pa_cons (pe_op op_pow pe_int pe_int) pa_nil)))) (pe_df D_law_draw (hr.mono (by first | decide | omega)) (by rfl) (pa_cons (pv 0) (pa_cons pe_int pa_nil))) (fun _ _ => rfl)))) (pg_sub (pv 7) (pv 9) set_list)))
    pss_nil)
    (pss_cons (ps_if (pt_cmpR op_eq (pv 1) pe_int (nomark _))
    (pss_one (ps_set (i := 8) sc__law_changed.nd rfl (Or.inl rfl) (pe_op op_add (pv 8) (pe_op op_mulW (pv 10) (pe_ix ix_list (pe_lst (pa_cons pe_int (pa_cons (pv 4) pa_nil))) (pe_df D_law_draw (hr.mono (by first | decide | omega)) (by rfl) (pa_cons (pv 0) (pa_cons pe_int pa_nil))) (fun _ _ => rfl))))))
    pss_nil)
    (pss_cons (ps_if (PW.pt (pw_and (pt_cmpR op_eq (pv 1) pe_int (nomark _)) (pw_and1 (pt_cmpR op_gt (pe_callB call_len_seq (by rfl) B.len_ PySem.boot_len (pa_cons (pv 7) pa_nil)) pe_int (nomark _)))))
    (pss_cons (ps_set (i := 11) sc__law_changed.nd rfl (Or.inl rfl) (pe_op op_mod (pe_callTy call_int1 (by rfl) B.int_ (by decide +kernel) (pa_cons (pe_op op_add (pv 9) pe_int) pa_nil)) (pe_callB call_len_seq (by rfl) B.len_ PySem.boot_len (pa_cons (pv 7) pa_nil))))
    (pss_one (ps_asg (pe_tup (pa_cons (pe_ix ix_list (pv 7) (pv 11) (fun _ _ => rfl)) (pa_cons (pe_ix ix_list (pv 7) (pv 9) (fun _ _ => rfl)) pa_nil))) (pg_tup rfl (pgs_cons (pg_sub (pv 7) (pv 9) set_list) (pgs_cons (pg_sub (pv 7) (pv 11) set_list) pgs_nil))))))
    pss_nil)
    (pss_cons (ps_if (pt_cmpR op_eq (pv 1) pe_int (nomark _))
    (pss_one (ps_set (i := 7) sc__law_changed.nd rfl (Or.inl rfl) (pe_op op_cat (pv 7) (pv 7))))
    pss_nil)
    (pss_cons (ps_set (i := 12) sc__law_changed.nd rfl (Or.inl rfl) (pe_op op_cat (pe_op op_cat (pe_slice sl_list (pv 2) po_none (po_some (pv 5))) (pe_lst (pa_cons (pe_tup (pa_cons (pv 7) (pa_cons (pv 8) pa_nil))) pa_nil))) (pe_slice sl_list (pv 2) (po_some (pe_op op_add (pv 5) pe_int)) po_none)))
    (pss_cons (ps_if (pt_cmpR op_eq (pv 1) pe_int (nomark _))
    (pss_one (ps_set (i := 12) sc__law_changed.nd rfl (Or.inl rfl) (pe_op op_cat (pe_slice sl_list (pv 2) po_none (po_some (pv 5))) (pe_slice sl_list (pv 2) (po_some (pe_op op_add (pv 5) pe_int)) po_none))))
    pss_nil)
    (pss_cons (ps_if (pt_cmpR op_eq (pv 1) pe_int (nomark _))
    (pss_one (ps_expr (pe_bm PySem.F.plainAttrs_list PySem.F.slot_list_append PySem.F.type_list_append mt_append (pv 12) (pa_cons (pe_tup (pa_cons (pe_callTy call_list_of (by rfl) B.list_ (by decide +kernel) (pa_cons (pv 7) pa_nil)) (pa_cons (pv 8) pa_nil))) pa_nil))))
    pss_nil)
    (pss_cons (ps_if (pt_cmpR op_eq (pv 1) pe_int (nomark _))
    (pss_one (ps_expr (pe_bm PySem.F.plainAttrs_list PySem.F.slot_list_append PySem.F.type_list_append mt_append (pv 12) (pa_cons (pe_tup (pa_cons (pe_lst pa_nil) (pa_cons pe_int pa_nil))) pa_nil))))
    pss_nil)
    (pss_cons (ps_if (PW.pt (pw_and (pt_cmpR op_eq (pv 1) pe_int (nomark _)) (pw_and1 (pt_cmpR op_gt (pe_callB call_len_seq (by rfl) B.len_ PySem.boot_len (pa_cons (pv 2) pa_nil)) pe_int (nomark _)))))
    (pss_cons (ps_asg (pe_bm0 PySem.F.plainAttrs_list PySem.F.slot_list_pop PySem.F.type_list_pop mt_pop (pv 12)) (pg_tup rfl (pgs_cons (pg_name (i := 13) sc__law_changed.nd rfl (Or.inl rfl)) (pgs_cons (pg_name (i := 14) sc__law_changed.nd rfl (Or.inl rfl)) pgs_nil))))
    (pss_cons (ps_asg (pe_ix ix_list (pv 12) pe_int (fun _ _ => rfl)) (pg_tup rfl (pgs_cons (pg_name (i := 15) sc__law_changed.nd rfl (Or.inl rfl)) (pgs_cons (pg_name (i := 16) sc__law_changed.nd rfl (Or.inl rfl)) pgs_nil))))
    (pss_one (ps_asg (pe_tup (pa_cons (pe_op op_cat (pv 15) (pv 13)) (pa_cons (pe_op op_add (pv 16) (pv 14)) pa_nil))) (pg_sub (pv 12) pe_int set_list)))))
    pss_nil)
    (pss_cons (ps_if (pt_cmpR op_eq (pv 1) pe_int (nomark _))
    (pss_one (ps_set (i := 12) sc__law_changed.nd rfl (Or.inl rfl) (pe_lst pa_nil)))
    pss_nil)
    (pss_cons (ps_if (PW.pt (pw_and (pt_cmpR op_eq (pv 1) pe_int (nomark _)) (pw_and1 (pt_cmpR op_gt (pe_callB call_len_seq (by rfl) B.len_ PySem.boot_len (pa_cons (pv 7) pa_nil)) pe_int (nomark _)))))
    (pss_cons (ps_set (i := 17) sc__law_changed.nd rfl (Or.inl rfl) (pe_lst (pa_cons (pe_slice sl_list (pv 7) po_none (po_some (pe_callB (call_max2 rfl) (by rfl) B.max_ (by decide +kernel) (pa_cons pe_int (pa_cons (pv 9) pa_nil))))) (pa_cons (pe_slice sl_list (pv 7) (po_some (pe_callB (call_max2 rfl) (by rfl) B.max_ (by decide +kernel) (pa_cons pe_int (pa_cons (pv 9) pa_nil)))) po_none) pa_nil))))
    (pss_one (ps_set (i := 12) sc__law_changed.nd rfl (Or.inl rfl) (pe_op op_cat (pe_op op_cat (pe_slice sl_list (pv 2) po_none (po_some (pv 5))) (pe_lc (own := [("part", 18)]) (g := gName 18) (tt := tYes) rfl sc__law_changed.nd (pi_list (pv 17)) (blkOk_by (N := N__law_changed) (sc := defScope s__law_changed) (by decide +kernel)) (fun _ _ _ _ _ => pg_name (i := 18) sc__law_changed.nd rfl (Or.inl rfl)) (fun _ _ _ _ _ => pts_nil) (fun _ _ _ _ _ => (pe_tup (pa_cons (pv 18) (pa_cons (pe_df D_law_moved (hr.mono (by first | decide | omega)) (by rfl) (pa_cons (pv 3) (pa_cons (pv 18) pa_nil))) pa_nil)))))) (pe_slice sl_list (pv 2) (po_some (pe_op op_add (pv 5) pe_int)) po_none)))))
    pss_nil)
    (pss_cons (ps_if (pt_cmpR op_eq (pv 1) pe_int (nomark _))
    (pss_one (ps_set (i := 12) sc__law_changed.nd rfl (Or.inl rfl) (pe_op op_cat (pe_op op_cat (pe_slice sl_list (pv 2) po_none (po_some (pv 5))) (pe_lst (pa_cons (pe_tup (pa_cons (pe_callTy call_list_of (by rfl) B.list_ (by decide +kernel) (pa_cons (pe_ix ix_tup (pv 6) pe_int (fun _ _ => rfl)) pa_nil)) (pa_cons (pe_ix ix_tup (pv 6) pe_int (fun _ _ => rfl)) pa_nil))) pa_nil))) (pe_slice sl_list (pv 2) (po_some (pe_op op_add (pv 5) pe_int)) po_none))))
    pss_nil)
    (pss_cons (ps_if (pt_cmpR op_eq (pv 1) pe_int (nomark _))
    (pss_cons (ps_set (i := 12) sc__law_changed.nd rfl (Or.inl rfl) (pe_op op_cat (pe_op op_cat (pe_slice sl_list (pv 2) po_none (po_some (pv 5))) (pe_lst (pa_cons (pe_tup (pa_cons (pv 7) (pa_cons (pe_ix ix_tup (pv 6) pe_int (fun _ _ => rfl)) pa_nil))) pa_nil))) (pe_slice sl_list (pv 2) (po_some (pe_op op_add (pv 5) pe_int)) po_none)))
    (pss_one (ps_asg (pe_tup (pa_cons (pe_ix ix_tup (pv 6) pe_int (fun _ _ => rfl)) (pa_cons (pv 8) pa_nil))) (pg_sub (pv 12) (pe_op op_mod (pe_callTy call_int1 (by rfl) B.int_ (by decide +kernel) (pa_cons (pe_op op_add (pv 5) pe_int) pa_nil)) (pe_callB call_len_seq (by rfl) B.len_ PySem.boot_len (pa_cons (pv 2) pa_nil))) set_list))))
    pss_nil)
    (pss_one (ps_ret (pv 12)))))))))))))))))))))), ?_⟩
    have hwl : (ws.length : Int) ≤ 400 := by omega
    have n0 := W.pos
    have iz0 := atI_k' (i := 0) 0 rfl (getS W.ne)
    have hz0 : (ls[0]'W.ne).length = n := W.lenS (List.getElem_mem W.ne)
    have hzl : (ls[0]'W.ne).length ≤ sizeLine := by rw [hz0]; exact Nat.le_trans hn (by decide)
    have htx0 := out_same _ _ htx
    have hp0 := out_same _ _ hws.top
    walk_at "rx"
    rw [hz0]
    walk_at "rx"
    unfold tNil
    refine ⟨s, g, sm, m, _, rfl, S0, by omega, by omega, by omega, fun at0 H1 at00 at1 S1 t1 => ?_⟩
    obtain ⟨j, rfl⟩ := Int.eq_ofNat_of_zero_le at00
    have hj : j < ws.length := by omega
    have pw : (0 : Int) < (ws.length : Int) := by omega
    obtain ⟨o2, ho2⟩ : ∃ o2 : Int, o2 = ((j : Int) + 1) % (ws.length : Int) := ⟨_, rfl⟩
    have o20 : 0 ≤ o2 := by rw [ho2]; exact Int.emod_nonneg _ (by omega)
    have o21 : o2 < (ws.length : Int) := by rw [ho2]; exact Int.emod_lt_of_pos _ pw
    obtain ⟨j2, hj2⟩ := Int.eq_ofNat_of_zero_le o20
    have hj2l : j2 < ws.length := by omega
    have G1 := hws.same t1
    have hp1 := out_same _ _ G1.top
    obtain ⟨ta, a, ns, sh0, ea, hta1o, ha1o, za, nap, ns0, nsl⟩ := G1.each _ (List.getElem_mem hj)
    obtain ⟨ob, b, ks, bsh, eb, hob1o, _⟩ := G1.each _ (List.getElem_mem hj2l)
    have ia : atI ws (j : Int) = some (.ref ta) := atI_k' j rfl (by rw [List.getElem?_eq_getElem hj, ea])
    have ib : atI ws (((j : Int) + 1) % (ws.length : Int)) = some (.ref ob) := by
      rw [← ho2]
      exact atI_k' j2 hj2 (by rw [List.getElem?_eq_getElem hj2l, eb])
    have ha1 := out_same _ _ ha1o
    have hta1 := out_same _ _ hta1o
    have hnp : 0 < ns.length := List.length_pos_iff.mpr ns0
    have enl : ((ns.map V.int).length : Int) = (ns.length : Int) := by rw [List.length_map]
    walk_at "rx"
    refine ⟨ta, _, rfl, SqT.of hta1, rfl, _, _, rfl, _, _, rfl, rfl, ?_⟩
    walk_at "rx"
    rw [enl]
    refine ⟨s, g, sm, m + 1, _, rfl, S1, by omega, by omega, by omega, fun pl0 H2 pl00 pl1 S2 t2 => ?_⟩
    obtain ⟨q, rfl⟩ := Int.eq_ofNat_of_zero_le pl00
    walk_at "rx"
    refine ⟨s, g, sm, m + 2, 2, rfl, S2, by omega, by omega, by omega, fun c2 H3 c20 c21 S3 t3 => ?_⟩
    have G3 := G1.same (t2.trans t3)
    have ha3o := t3 _ _ (t2 _ _ ha1o)
    have sm3 := sm0.trans (t1.trans (t2.trans t3))
    have htx3 := t3 _ _ (t2 _ _ (t1 _ _ htx))
    have ha3 := out_same _ _ ha3o
    have pr : (0 : Int) < ((ns.map V.int).length : Nat) := by omega
    have na := S00.new za
    clear G1 ha1 ha1o hp1 t1 t2 t3 S1 S2 S0 hws sm0 hp0 htx htx0 hta1 hta1o hob1o
    walk_at "rx"
    refine ⟨wide_mul (a := 3) (b := 3) (by decide) (by omega) (by decide) (by decide) (by decide), ?_⟩
    obtain ⟨sg, hsg⟩ : ∃ sg : Int, sg = 1 - 2 * c2 := ⟨_, rfl⟩
    have hql : q < ns.length := by omega
    walk_at "rx"
    let Wst : Nat → Hp → Prop := fun c H' => ∃ m', Src H' s g sm m' ∧ m' ≤ 2 ^ 39 + c ∧ Same (out s g H0) (out s g H') ∧ GVL H0 p ws (out s g H') ∧ out s g H' tx = some (.lst (ls.map V.str)) ∧ ∃ ms : List Int, out s g H' a = some (.lst (ms.map V.int)) ∧ ms.length = ns.length
    have W3 : Wst 4 H3 := ⟨_, S3, by omega, sm3, G3, htx3, ns, ha3o, rfl⟩
    have put : ∀ (c : Nat) (H' : Hp) (ms : List Int), Wst c H' → ms.length = ns.length → Wst c (upd H' a (.lst (ms.map V.int))) := by
      rintro c H' ms ⟨m', A1, A2, A3, A4, A4b, as, A5, A6⟩ hb
      refine ⟨m', A1.put S00 za, A2, out_set A3 za, ?_, ?_, ms, ?_, hb⟩
      · rw [out_upd na.1 na.2.1]
        exact A4.put A5 nap (fun e => by rw [e] at hb; rw [List.length_nil] at hb; omega) (by omega)
      · rw [out_upd na.1 na.2.1, upd_ne]
        · exact A4b
        · intro e
          rw [e, A5] at A4b
          injection A4b with h
          injection h with h
          cases as with
          | nil => rw [List.length_nil] at A6; omega
          | cons y ys =>
            cases ls with
            | nil => cases h
            | cons y2 ys2 => cases h
      · rw [out_upd na.1 na.2.1, upd_same]
    refine cutIf (fun σ H' => Wst 4 H' ∧ σ = [some (.ref s), some (.int kd), some (.ref p), some (.ref tx), some (.int n), some (.int j), some (.ref ob), some (.ref a), some (.int sh0), some (.int q), some (.int sg), none, none, none, none, none, none, none, none]) ?_ ?_ (fun _ => ⟨W3, by rw [hsg]; rfl⟩)
    rotate_left
    · intro hT hk
      obtain ⟨z, hz⟩ : ∃ z, ns[q]? = some z := ⟨_, List.getElem?_eq_getElem hql⟩
      have iz : atI (ns.map V.int) (q : Int) = some (V.int z) := atI_k' q rfl (by rw [List.getElem?_map, hz]; rfl)
      have hcp20 := cp20
      walk_at "rx"
      intro D zD
      generalize eD : upd _ D _ = H4
      obtain ⟨s4, hD⟩ := nw eD zD
      walk_at "rx"
      refine ⟨s, g, sm, m + 3, 3, rfl, S3.same s4, by omega, by omega, by omega, fun c3 H5 c30 c31 S5 t5 => ?_⟩
      have hD5 := out_same _ _ (t5 _ _ (S3.keep zD hD))
      have ha5o := t5 _ _ (s4.out _ _ ha3o)
      have ha5 := out_same _ _ ha5o
      have W5 : Wst 4 H5 := ⟨_, S5, by omega, sm3.trans (s4.out.trans t5), (G3.same s4.out).same t5, t5 _ _ (s4.out _ _ htx3), ns, ha5o, rfl⟩
      obtain ⟨x, hx, hxb⟩ : ∃ x : Int, atI [V.int 1, V.int (n : Int), V.int ((10 : Int) ^ (20 : Int).toNat)] c3 = some (V.int x) ∧ x.natAbs < 2 ^ 80 := by
        have h : c3 = 0 ∨ c3 = 1 ∨ c3 = 2 := by omega
        rcases h with rfl | rfl | rfl
        · exact ⟨_, rfl, by decide⟩
        · exact ⟨_, rfl, by omega⟩
        · exact ⟨_, rfl, by decide +kernel⟩
      walk_at "rx"
      refine ⟨wide_mul (a := 3) (b := 80) (by omega) hxb (by decide) (by decide) (by decide), ?_⟩
      walk_at "rx"
      refine ⟨a, _, _, q, rfl, rfl, ha5, ixN_nat (by rw [List.length_map]; exact hql), ?_⟩
      rw [set_ints]
      refine hT _ _ ⟨put 4 H5 _ W5 List.length_set, by rw [hsg]; rfl⟩
    rintro σ H4 ⟨W4, rfl⟩
    clear W3 ha3 ha3o G3 sm3 S3 htx3
    walk_at "rx"
    refine cutIf (fun σ H' => Wst 5 H' ∧ ∃ sh : Int, σ = [some (.ref s), some (.int kd), some (.ref p), some (.ref tx), some (.int n), some (.int j), some (.ref ob), some (.ref a), some (.int sh), some (.int q), some (.int sg), none, none, none, none, none, none, none, none]) ?_ ?_ (fun _ => ⟨by
      obtain ⟨m', A1, A2, A3⟩ := W4
      exact ⟨m', A1, by omega, A3⟩, _, rfl⟩)
    rotate_left
    · intro hT hk
      obtain ⟨m', A1, A2, A3, A4, A4b, ms, A5, A6⟩ := W4
      walk_at "rx"
      intro D zD
      generalize eD : upd _ D _ = H5
      obtain ⟨s4, hD⟩ := nw eD zD
      walk_at "rx"
      refine ⟨s, g, sm, m', 2, rfl, A1.same s4, by omega, by omega, by omega, fun c3 H6 c30 c31 S5 t5 => ?_⟩
      have hD5 := out_same _ _ (t5 _ _ (A1.keep zD hD))
      have W6 : Wst 5 H6 := ⟨_, S5, by omega, A3.trans (s4.out.trans t5), (A4.same s4.out).same t5, t5 _ _ (s4.out _ _ A4b), ms, t5 _ _ (s4.out _ _ A5), A6⟩
      obtain ⟨x, hx, hxb⟩ : ∃ x : Int, atI [V.int 1, V.int (n : Int)] c3 = some (V.int x) ∧ x.natAbs < 2 ^ 80 := by
        have h : c3 = 0 ∨ c3 = 1 := by omega
        rcases h with rfl | rfl
        · exact ⟨_, rfl, by decide⟩
        · exact ⟨_, rfl, by omega⟩
      walk_at "rx"
      refine ⟨wide_mul (a := 3) (b := 80) (by omega) hxb (by decide) (by decide) (by decide), ?_⟩
      repeat (first | exact hT _ _ ⟨W6, _, rfl⟩ | walk_at "r")
    rintro σ H5 ⟨W5, sh, rfl⟩
    clear W4
    walk_at "rx"
    refine cutAnd (fun σ H' => Wst 5 H' ∧ ∃ o11 : Option V, σ = [some (.ref s), some (.int kd), some (.ref p), some (.ref tx), some (.int n), some (.int j), some (.ref ob), some (.ref a), some (.int sh), some (.int q), some (.int sg), o11, none, none, none, none, none, none, none]) ?_ ?_ (fun _ => ⟨W5, none, rfl⟩)
    rotate_left
    · intro hT hk
      obtain ⟨m', A1, A2, A3, A4, A4b, ms, A5, A6⟩ := id W5
      have ha4 := out_same _ _ A5
      walk_at "rx"
      refine ite2 (fun hl2 => ?_) (fun _ => hT _ _ ⟨W5, none, rfl⟩)
      obtain ⟨ot, hot⟩ : ∃ ot : Int, ot = ((q : Int) + 1) % ((ms.map V.int).length : Nat) := ⟨_, rfl⟩
      have pr2 : (0 : Int) < ((ms.map V.int).length : Nat) := by rw [List.length_map]; omega
      have ot0 : 0 ≤ ot := by rw [hot]; exact Int.emod_nonneg _ (by omega)
      have ot1 : ot < ((ms.map V.int).length : Nat) := by rw [hot]; exact Int.emod_lt_of_pos _ pr2
      rw [List.length_map] at ot1
      obtain ⟨u, hu⟩ := Int.eq_ofNat_of_zero_le ot0
      have hqm : q < ms.length := by omega
      have hum : u < ms.length := by omega
      obtain ⟨z, hz⟩ : ∃ z, ms[q]? = some z := ⟨_, List.getElem?_eq_getElem hqm⟩
      obtain ⟨y, hy⟩ : ∃ y, ms[u]? = some y := ⟨_, List.getElem?_eq_getElem hum⟩
      have iz : atI (ms.map V.int) (q : Int) = some (V.int z) := atI_k' q rfl (by rw [List.getElem?_map, hz]; rfl)
      have iy : atI (ms.map V.int) (((q : Int) + 1) % ((ms.map V.int).length : Nat)) = some (V.int y) := by
        rw [← hot]
        exact atI_k' u hu (by rw [List.getElem?_map, hy]; rfl)
      walk_at "rx"
      intro tp ztp
      generalize etp : upd _ tp _ = H6
      obtain ⟨s5, htp⟩ := nw etp ztp
      have W6 : Wst 5 H6 := ⟨m', A1.same s5, A2, A3.trans s5.out, A4.same s5.out, s5.out _ _ A4b, ms, s5.out _ _ A5, A6⟩
      have ha5 := s5 _ _ ha4
      refine ⟨tp, _, rfl, SqT.of htp, rfl, _, _, rfl, ?_⟩
      walk_at "rx"
      refine ⟨a, _, _, q, rfl, rfl, ha5, ixN_nat (by rw [List.length_map]; exact hqm), ?_⟩
      rw [set_ints]
      have W7 := put 5 H6 (ms.set q y) W6 (by rw [List.length_set]; exact A6)
      have ha6 : upd H6 a (.lst ((ms.set q y).map V.int)) a = some (.lst ((ms.set q y).map V.int)) := upd_same
      generalize upd H6 a _ = H7 at W7 ha6
      refine ⟨_, _, rfl, ?_⟩
      walk_at "rx"
      refine ⟨a, _, _, u, rfl, rfl, ha6, by rw [← hot, hu]; exact ixN_nat (by rw [List.length_map, List.length_set]; exact hum), ?_⟩
      rw [set_ints]
      exact ⟨rfl, hT _ _ ⟨put 5 H7 ((ms.set q y).set u z) W7 (by rw [List.length_set, List.length_set]; exact A6), _, rfl⟩⟩
    rintro σ H6 ⟨W6, o11, rfl⟩
    clear W5 put
    walk_at "rx"
    refine cutIf (fun σ H' => Wst 5 H' ∧ ∃ ra : Addr, (∃ ms : List Int, H' ra = some (.lst (ms.map V.int)) ∧ ms.length ≤ 200) ∧ σ = [some (.ref s), some (.int kd), some (.ref p), some (.ref tx), some (.int n), some (.int j), some (.ref ob), some (.ref ra), some (.int sh), some (.int q), some (.int sg), o11, none, none, none, none, none, none, none]) ?_ ?_ (fun _ => ⟨W6, a, ?_, rfl⟩)
    rotate_left
    · intro hT hk
      obtain ⟨m', A1, A2, A3, A4, A4b, ms, A5, A6⟩ := W6
      have ha4 := out_same _ _ A5
      walk_at "rx"
      refine ⟨a, a, _, _, rfl, rfl, ha4, ha4, by rw [List.length_map]; exact Nat.le_trans (show _ ≤ 1000 by omega) (by decide), ?_⟩
      intro D zD
      generalize eD : upd _ D _ = H7
      obtain ⟨s7, hD⟩ := nw eD zD
      rw [← List.map_append] at hD
      exact hT _ _ ⟨⟨m', A1.same s7, A2, A3.trans s7.out, A4.same s7.out, s7.out _ _ A4b, ms, s7.out _ _ A5, A6⟩, D, ⟨_, hD, by rw [List.length_append]; omega⟩, rfl⟩
    · obtain ⟨m', A1, A2, A3, A4, A4b, ms, A5, A6⟩ := W6
      exact ⟨ms, out_same _ _ A5, by omega⟩
    rintro σ HB ⟨W7, ra, ⟨ms, hra, hml⟩, rfl⟩
    clear W6
    obtain ⟨m', A1, A2, A3, A4, A4b, _⟩ := W7
    have hpB := out_same _ _ A4.top
    have htxB := out_same _ _ A4b
    have tlB : ∀ (l : Addr), HB l = none → ∀ w ∈ ws, LnV HB l w := fun l zl w hw => by
      obtain ⟨ta2, r2, n2, s2, e1, e2, e3, _, _, _, e4⟩ := A4.each w hw
      exact ⟨ta2, r2, n2, s2, e1, out_same _ _ e2, out_same _ _ e3, ne_of_none (out_same _ _ e3) zl, by omega⟩
    obtain ⟨otb, br, bns, bsh2, eb2, hotb, hbr, _, _, _, bl⟩ := A4.each _ (List.getElem_mem hj2l)
    have hot := out_same _ _ hotb
    have hbrB := out_same _ _ hbr
    rw [eb] at eb2
    injection eb2 with eb2
    subst eb2
    have fin : ∀ (t : Addr) (us : List V) (H' : Hp), Same HB H' → H' t = some (.lst us) → us.length ≤ 200 → (∀ u ∈ us, LnV H' t u 2000) → Q (.ref t) H' := fun t us H' s' h1 h2 h3 => k t us H' m' (A1.same s') (A3.trans s'.out) h1 h2 h3
    clear A1 A3 A4 A4b hotb hbr
    walk_at "rx"
    refine ⟨p, _, rfl, SqL.of ((Same.refl HB) _ _ hpB), fun D1 zD1 => ?_⟩
    rw [cutV_to j rfl]
    generalize eD1 : upd _ D1 _ = E1
    obtain ⟨d1, hD1⟩ := nw eD1 zD1
    have c1 := (Same.refl HB).trans d1
    clear eD1
    walk_at "rx"
    intro D2 zD2
    generalize eD2 : upd _ D2 _ = E2
    obtain ⟨d2, hD2⟩ := nw eD2 zD2
    have c2 := (c1).trans d2
    clear eD2
    walk_at "rx"
    intro D3 zD3
    generalize eD3 : upd _ D3 _ = E3
    obtain ⟨d3, hD3⟩ := nw eD3 zD3
    have c3 := (c2).trans d3
    clear eD3
    walk_at "rx"
    refine ⟨D1, D3, _, _, rfl, rfl, (d3 _ _ (d2 _ _ hD1)), hD3, by
      (try simp only [List.length_append, List.length_cons, List.length_nil, List.length_map, List.length_take, List.length_drop])
      exact Nat.le_trans (show _ ≤ 10000 by omega) (by decide), ?_⟩
    intro D4 zD4
    generalize eD4 : upd _ D4 _ = E4
    obtain ⟨d4, hD4⟩ := nw eD4 zD4
    have c4 := (c3).trans d4
    clear eD4
    walk_at "rx"
    refine ⟨p, _, rfl, SqL.of ((c4) _ _ hpB), fun D5 zD5 => ?_⟩
    rw [cutV_from (i := (j : Int) + 1) (j + 1) rfl]
    generalize eD5 : upd _ D5 _ = E5
    obtain ⟨d5, hD5⟩ := nw eD5 zD5
    have c5 := (c4).trans d5
    clear eD5
    walk_at "rx"
    refine ⟨D4, D5, _, _, rfl, rfl, (d5 _ _ hD4), hD5, by
      (try simp only [List.length_append, List.length_cons, List.length_nil, List.length_map, List.length_take, List.length_drop])
      exact Nat.le_trans (show _ ≤ 10000 by omega) (by decide), ?_⟩
    intro D6 zD6
    generalize eD6 : upd _ D6 _ = E6
    obtain ⟨d6, hD6⟩ := nw eD6 zD6
    have c6 := (c5).trans d6
    clear eD6
    have w0 : (fun σ H' => ∃ (l : Addr) (us : List V) (o13 o14 o15 o16 o17 : Option V), σ = [some (.ref s), some (.int kd), some (.ref p), some (.ref tx), some (.int n), some (.int j), some (.ref ob), some (.ref ra), some (.int sh), some (.int q), some (.int sg), o11, some (.ref l), o13, o14, o15, o16, o17, none] ∧ Same HB H' ∧ HB l = none ∧ H' l = some (.lst us) ∧ us.length ≤ 100 ∧ (kd ≠ 5 → kd ≠ 9 → ws.length ≤ us.length) ∧ ∀ u ∈ us, LnV H' l u) ([some (.ref s), some (.int kd), some (.ref p), some (.ref tx), some (.int n), some (.int j), some (.ref ob), some (.ref ra), some (.int sh), some (.int q), some (.int sg), o11, some (.ref D6), none, none, none, none, none, none]) E6 := ⟨D6, _, none, none, none, none, none, rfl, c6, (c5.free zD6), hD6, by simp only [List.length_append, List.length_cons, List.length_nil, List.length_take, List.length_drop]; omega, fun _ _ => by simp only [List.length_append, List.length_cons, List.length_nil, List.length_take, List.length_drop]; omega, fun u hu => by
        rcases List.mem_append.mp hu with hu | hu
        · rcases List.mem_append.mp hu with hu | hu
          · exact (tlB D6 (c5.free zD6) u (List.mem_of_mem_take hu)).same c6
          · rw [List.mem_singleton.mp hu]
            exact ⟨D2, ra, ms, sh, rfl, d6 _ _ (d5 _ _ (d4 _ _ (d3 _ _ hD2))), c6 _ _ hra, ne_of_none (c5 _ _ hra) zD6, by omega⟩
        · exact (tlB D6 (c5.free zD6) u (List.mem_of_mem_drop hu)).same c6⟩
    clear hD1 hD2 hD3 hD4 hD5 zD1 zD2 zD3 zD4 zD5 zD6 c1 c2 c3 c4 c5 d1 d2 d3 d4 d5 d6
    walk_at "rx"
    refine cutIf (fun σ H' => ∃ (l : Addr) (us : List V) (o13 o14 o15 o16 o17 : Option V), σ = [some (.ref s), some (.int kd), some (.ref p), some (.ref tx), some (.int n), some (.int j), some (.ref ob), some (.ref ra), some (.int sh), some (.int q), some (.int sg), o11, some (.ref l), o13, o14, o15, o16, o17, none] ∧ Same HB H' ∧ HB l = none ∧ H' l = some (.lst us) ∧ us.length ≤ 100 ∧ (kd ≠ 5 → kd ≠ 9 → ws.length ≤ us.length) ∧ ∀ u ∈ us, LnV H' l u) ?_ ?_ (fun _ => w0)
    rotate_left
    · intro hT hk
      have hkd : kd = 5 := by
        have := of_decide_eq_true hk
        injection this
      walk_at "rx"
      refine ⟨p, _, rfl, SqL.of ((c6) _ _ hpB), fun D1 zD1 => ?_⟩
      rw [cutV_to j rfl]
      generalize eD1 : upd _ D1 _ = E1
      obtain ⟨d1, hD1⟩ := nw eD1 zD1
      have c1 := (c6).trans d1
      clear eD1
      walk_at "rx"
      refine ⟨p, _, rfl, SqL.of ((c1) _ _ hpB), fun D2 zD2 => ?_⟩
      rw [cutV_from (i := (j : Int) + 1) (j + 1) rfl]
      generalize eD2 : upd _ D2 _ = E2
      obtain ⟨d2, hD2⟩ := nw eD2 zD2
      have c2 := (c1).trans d2
      clear eD2
      walk_at "rx"
      refine ⟨D1, D2, _, _, rfl, rfl, (d2 _ _ hD1), hD2, by
        (try simp only [List.length_append, List.length_cons, List.length_nil, List.length_map, List.length_take, List.length_drop])
        exact Nat.le_trans (show _ ≤ 10000 by omega) (by decide), ?_⟩
      intro D3 zD3
      generalize eD3 : upd _ D3 _ = E3
      obtain ⟨d3, hD3⟩ := nw eD3 zD3
      have c3 := (c2).trans d3
      clear eD3
      have zD3' := c2.free zD3
      exact hT _ _ ⟨D3, _, none, none, none, none, none, rfl, c3, zD3', hD3, by simp only [List.length_append, List.length_cons, List.length_nil, List.length_take, List.length_drop]; omega, fun h => absurd hkd h, fun u hu => by
        rcases List.mem_append.mp hu with hu | hu
        · exact (tlB D3 zD3' u (List.mem_of_mem_take hu)).same c3
        · exact (tlB D3 zD3' u (List.mem_of_mem_drop hu)).same c3⟩
    clear w0 hD6 c6
    rintro σ H6 ⟨l, us, o13, o14, o15, o16, o17, rfl, s6, zl, hl6, ul, um, ut⟩
    walk_at "rx"
    refine cutIf (fun σ H' => ∃ (l : Addr) (us : List V) (o13 o14 o15 o16 o17 : Option V), σ = [some (.ref s), some (.int kd), some (.ref p), some (.ref tx), some (.int n), some (.int j), some (.ref ob), some (.ref ra), some (.int sh), some (.int q), some (.int sg), o11, some (.ref l), o13, o14, o15, o16, o17, none] ∧ Same HB H' ∧ HB l = none ∧ H' l = some (.lst us) ∧ us.length ≤ 110 ∧ (kd ≠ 5 → kd ≠ 9 → ws.length ≤ us.length) ∧ ∀ u ∈ us, LnV H' l u) ?_ ?_ (fun _ => ⟨l, us, _, _, _, _, _, rfl, s6, zl, hl6, by omega, um, ut⟩)
    rotate_left
    · intro hT hk
      have hra6 := s6 _ _ hra
      walk_at "rx"
      intro D1 zD1
      generalize eD1 : upd _ D1 _ = E1
      obtain ⟨d1, hD1⟩ := nw eD1 zD1
      have c1 := (Same.refl H6).trans d1
      clear eD1
      walk_at "rx"
      intro D2 zD2
      generalize eD2 : upd _ D2 _ = E2
      obtain ⟨d2, hD2⟩ := nw eD2 zD2
      have c2 := (c1).trans d2
      clear eD2
      have hl8 := c2 _ _ hl6
      have nr : D1 ≠ l := (ne_of_none hl6 zD1).symm
      have nt : D2 ≠ l := (ne_of_none (d1 _ _ hl6) zD2).symm
      refine ⟨l, _, _, rfl, rfl, hl8, Nat.lt_of_le_of_lt (show _ ≤ 1000 by omega) (by decide), ?_⟩
      refine hT _ _ ⟨l, us ++ [.ref D2], _, _, _, _, _, rfl, (s6.trans c2).put zl, zl, upd_same, by rw [List.length_append]; show _ + 1 ≤ _; omega, fun h1 h2 => by rw [List.length_append]; have := um h1 h2; omega, fun u hu => ?_⟩
      rcases List.mem_append.mp hu with hu | hu
      · exact ((ut u hu).same c2).put hl8
      · rw [List.mem_singleton.mp hu]
        exact ⟨D2, D1, ms, sh, rfl, by rw [upd_ne nt]; exact hD2, by rw [upd_ne nr]; exact d2 _ _ hD1, nr, by omega⟩
    clear hl6 ul um ut s6 zl
    rintro σ H7 ⟨l, us, o13, o14, o15, o16, o17, rfl, s6, zl, hl6, ul, um, ut⟩
    walk_at "rx"
    refine cutIf (fun σ H' => ∃ (l : Addr) (us : List V) (o13 o14 o15 o16 o17 : Option V), σ = [some (.ref s), some (.int kd), some (.ref p), some (.ref tx), some (.int n), some (.int j), some (.ref ob), some (.ref ra), some (.int sh), some (.int q), some (.int sg), o11, some (.ref l), o13, o14, o15, o16, o17, none] ∧ Same HB H' ∧ HB l = none ∧ H' l = some (.lst us) ∧ us.length ≤ 120 ∧ (kd ≠ 5 → kd ≠ 9 → ws.length ≤ us.length) ∧ ∀ u ∈ us, LnV H' l u) ?_ ?_ (fun _ => ⟨l, us, _, _, _, _, _, rfl, s6, zl, hl6, by omega, um, ut⟩)
    rotate_left
    · intro hT hk
      walk_at "rx"
      intro D1 zD1
      generalize eD1 : upd _ D1 _ = E1
      obtain ⟨d1, hD1⟩ := nw eD1 zD1
      have c1 := (Same.refl H7).trans d1
      clear eD1
      walk_at "rx"
      intro D2 zD2
      generalize eD2 : upd _ D2 _ = E2
      obtain ⟨d2, hD2⟩ := nw eD2 zD2
      have c2 := (c1).trans d2
      clear eD2
      have hl8 := c2 _ _ hl6
      have nr : D1 ≠ l := (ne_of_none hl6 zD1).symm
      have nt : D2 ≠ l := (ne_of_none (d1 _ _ hl6) zD2).symm
      refine ⟨l, _, _, rfl, rfl, hl8, Nat.lt_of_le_of_lt (show _ ≤ 1000 by omega) (by decide), ?_⟩
      refine hT _ _ ⟨l, us ++ [.ref D2], _, _, _, _, _, rfl, (s6.trans c2).put zl, zl, upd_same, by rw [List.length_append]; show _ + 1 ≤ _; omega, fun h1 h2 => by rw [List.length_append]; have := um h1 h2; omega, fun u hu => ?_⟩
      rcases List.mem_append.mp hu with hu | hu
      · exact ((ut u hu).same c2).put hl8
      · rw [List.mem_singleton.mp hu]
        exact ⟨D2, D1, [], 0, rfl, by rw [upd_ne nt]; exact hD2, by rw [upd_ne nr]; exact d2 _ _ hD1, nr, by decide⟩
    clear hl6 ul um ut s6 zl
    rintro σ H8 ⟨l, us, o13, o14, o15, o16, o17, rfl, s6, zl, hl6, ul, um, ut⟩
    walk_at "rx"
    refine cutAnd (fun σ H' => ∃ (l : Addr) (us : List V) (o13 o14 o15 o16 o17 : Option V), σ = [some (.ref s), some (.int kd), some (.ref p), some (.ref tx), some (.int n), some (.int j), some (.ref ob), some (.ref ra), some (.int sh), some (.int q), some (.int sg), o11, some (.ref l), o13, o14, o15, o16, o17, none] ∧ Same HB H' ∧ HB l = none ∧ H' l = some (.lst us) ∧ us.length ≤ 120 ∧ ∀ u ∈ us, LnV H' l u 2000) ?_ ?_ (fun _ => ⟨l, us, _, _, _, _, _, rfl, s6, zl, hl6, by omega, fun u hu => (ut u hu).mono (by decide)⟩)
    rotate_left
    · intro hT hk
      have hkd : kd = 8 := by
        have := of_decide_eq_true hk
        injection this
      have hpH := s6 _ _ hpB
      walk_at "rx"
      refine ite2 (fun hl2 => ?_) (fun _ => hT _ _ ⟨l, us, _, _, _, _, _, rfl, s6, zl, hl6, by omega, fun u hu => (ut u hu).mono (by decide)⟩)
      have hwl2 := of_decide_eq_true hl2
      have hul := um (by omega) (by omega)
      have hu2 : 2 ≤ us.length := by omega
      obtain ⟨y, hy⟩ : ∃ y, us[us.length - 1]? = some y := ⟨_, List.getElem?_eq_getElem (by omega)⟩
      obtain ⟨x, hx⟩ : ∃ x, us[0]? = some x := ⟨_, List.getElem?_eq_getElem (by omega)⟩
      obtain ⟨ty, ry, ny, sy, ey, hty, hry, nry, nyl⟩ := ut y (List.mem_of_getElem? hy)
      obtain ⟨tx1, rx, nx, sx, ex, htx1, hrx, nrx, nxl⟩ := ut x (List.mem_of_getElem? hx)
      have nty : ty ≠ l := ne_of hty hl6 (by intro z; cases z)
      have ntx : tx1 ≠ l := ne_of htx1 hl6 (by intro z; cases z)
      walk_at "rx"
      refine ⟨l, us, y, rfl, rfl, hl6, hy, ?_⟩
      have s9 := s6.put zl (o := .lst us.dropLast)
      have ut9 : ∀ u ∈ us, LnV (upd H8 l (.lst us.dropLast)) l u := fun u hu => (ut u hu).put hl6
      have hl9 : upd H8 l (.lst us.dropLast) l = some (.lst us.dropLast) := upd_same
      have hty9 : upd H8 l (.lst us.dropLast) ty = some (.tup [.ref ry, .int sy]) := by rw [upd_ne nty]; exact hty
      have htx9 : upd H8 l (.lst us.dropLast) tx1 = some (.tup [.ref rx, .int sx]) := by rw [upd_ne ntx]; exact htx1
      have hry9 : upd H8 l (.lst us.dropLast) ry = some (.lst (ny.map V.int)) := by rw [upd_ne nry]; exact hry
      have hrx9 : upd H8 l (.lst us.dropLast) rx = some (.lst (nx.map V.int)) := by rw [upd_ne nrx]; exact hrx
      generalize upd H8 l _ = H9 at s9 ut9 hl9 hty9 htx9 hry9 hrx9
      subst ey ex
      have hdl : us.dropLast.length = us.length - 1 := List.length_dropLast
      have ix0 : atI us.dropLast 0 = some (.ref tx1) := atI_k' 0 rfl (by rw [List.getElem?_dropLast, if_pos (by omega)]; exact hx)
      refine ⟨ty, _, rfl, SqT.of hty9, rfl, _, _, rfl, _, _, rfl, rfl, ?_⟩
      walk_at "rx"
      refine ⟨tx1, _, rfl, SqT.of htx9, rfl, _, _, rfl, _, _, rfl, rfl, ?_⟩
      walk_at "rx"
      refine ⟨rx, ry, _, _, rfl, rfl, hrx9, hry9, by
        (try simp only [List.length_append, List.length_cons, List.length_nil, List.length_map, List.length_take, List.length_drop])
        exact Nat.le_trans (show _ ≤ 10000 by omega) (by decide), ?_⟩
      intro D1 zD1
      generalize eD1 : upd _ D1 _ = E1
      obtain ⟨d1, hD1⟩ := nw eD1 zD1
      have c1 := (Same.refl H9).trans d1
      clear eD1
      rw [← List.map_append] at hD1
      walk_at "rx"
      intro D2 zD2
      generalize eD2 : upd _ D2 _ = E2
      obtain ⟨d2, hD2⟩ := nw eD2 zD2
      have c2 := (c1).trans d2
      clear eD2
      walk_at "rx"
      have hlB := c2 _ _ hl9
      have n1 : D1 ≠ l := (ne_of_none hl9 zD1).symm
      have n2 : D2 ≠ l := (ne_of_none (d1 _ _ hl9) zD2).symm
      refine ⟨l, _, 0, 0, rfl, rfl, hlB, ixN_nat (p := 0) (by omega), ?_⟩
      refine hT _ _ ⟨l, us.dropLast.set 0 (.ref D2), _, _, _, _, _, rfl, (s9.trans c2).put zl, zl, upd_same, by rw [List.length_set]; omega, fun u hu => ?_⟩
      rcases List.mem_or_eq_of_mem_set hu with hu | rfl
      · exact (((ut9 u ((List.dropLast_sublist us).subset hu)).same c2).put hlB).mono (by decide)
      · exact ⟨D2, D1, nx ++ ny, _, rfl, by rw [upd_ne n2]; exact hD2, by rw [upd_ne n1]; exact d2 _ _ hD1, n1, by rw [List.length_append]; omega⟩
    clear hl6 ul um ut s6 zl
    rintro σ H9 ⟨l, us, o13, o14, o15, o16, o17, rfl, s6, zl, hl6, ul, ut⟩
    walk_at "rx"
    refine cutIf (fun σ H' => ∃ (l : Addr) (us : List V) (o13 o14 o15 o16 o17 : Option V), σ = [some (.ref s), some (.int kd), some (.ref p), some (.ref tx), some (.int n), some (.int j), some (.ref ob), some (.ref ra), some (.int sh), some (.int q), some (.int sg), o11, some (.ref l), o13, o14, o15, o16, o17, none] ∧ Same HB H' ∧ HB l = none ∧ H' l = some (.lst us) ∧ us.length ≤ 120 ∧ ∀ u ∈ us, LnV H' l u 2000) ?_ ?_ (fun _ => ⟨l, us, _, _, _, _, _, rfl, s6, zl, hl6, by omega, ut⟩)
    rotate_left
    · intro hT hk
      walk_at "rx"
      intro D1 zD1
      generalize eD1 : upd _ D1 _ = E1
      obtain ⟨d1, hD1⟩ := nw eD1 zD1
      have c1 := (s6).trans d1
      clear eD1
      exact hT _ _ ⟨D1, [], _, _, _, _, _, rfl, c1, s6.free zD1, hD1, by decide, fun u hu => by cases hu⟩
    clear hl6 ul ut s6 zl
    rintro σ H10 ⟨l, us, o13, o14, o15, o16, o17, rfl, s6, zl, hl6, ul, ut⟩
    walk_at "rx"
    refine cutAnd (fun σ H' => ∃ (l : Addr) (us : List V) (o13 o14 o15 o16 o17 : Option V), σ = [some (.ref s), some (.int kd), some (.ref p), some (.ref tx), some (.int n), some (.int j), some (.ref ob), some (.ref ra), some (.int sh), some (.int q), some (.int sg), o11, some (.ref l), o13, o14, o15, o16, o17, none] ∧ Same HB H' ∧ HB l = none ∧ H' l = some (.lst us) ∧ us.length ≤ 120 ∧ ∀ u ∈ us, LnV H' l u 2000) ?_ ?_ (fun _ => ⟨l, us, _, _, _, _, _, rfl, s6, zl, hl6, by omega, ut⟩)
    rotate_left
    · intro hT hk
      have hraH := s6 _ _ hra
      walk_at "rx"
      refine ite2 (fun hl2 => ?_) (fun _ => hT _ _ ⟨l, us, _, _, _, _, _, rfl, s6, zl, hl6, by omega, ut⟩)
      walk_at "rx"
      refine ⟨1, (q : Int), rfl, ?_⟩
      walk_at "rx"
      refine ⟨ra, _, rfl, SqL.of ((s6) _ _ hra), fun D1 zD1 => ?_⟩
      generalize eD1 : upd _ D1 _ = E1
      obtain ⟨d1, hD1⟩ := nw eD1 zD1
      have c1 := (s6).trans d1
      clear eD1
      obtain ⟨k1, ek1, kl1⟩ := @cutV_ints ms _ _
      rw [ek1] at hD1
      walk_at "rx"
      refine ⟨1, (q : Int), rfl, ?_⟩
      walk_at "rx"
      refine ⟨ra, _, rfl, SqL.of ((c1) _ _ hra), fun D2 zD2 => ?_⟩
      generalize eD2 : upd _ D2 _ = E2
      obtain ⟨d2, hD2⟩ := nw eD2 zD2
      have c2 := (c1).trans d2
      clear eD2
      obtain ⟨k2, ek2, kl2⟩ := @cutV_ints ms _ _
      rw [ek2] at hD2
      walk_at "rx"
      intro D3 zD3
      generalize eD3 : upd _ D3 _ = E3
      obtain ⟨d3, hD3⟩ := nw eD3 zD3
      have c3 := (c2).trans d3
      clear eD3
      walk_at "rx"
      refine ⟨p, _, rfl, SqL.of ((c3) _ _ hpB), fun D4 zD4 => ?_⟩
      rw [cutV_to j rfl]
      generalize eD4 : upd _ D4 _ = E4
      obtain ⟨d4, hD4⟩ := nw eD4 zD4
      have c4 := (c3).trans d4
      clear eD4
      walk_at "rx"
      refine ⟨⟨_, SqL.of (d4 _ _ hD3)⟩, fun D5 zD5 => ?_⟩
      have hD14 := d4 _ _ (d3 _ _ (d2 _ _ hD1))
      have hD24 := d4 _ _ (d3 _ _ hD2)
      refine lc_list (K := K) (a := D3) (xs := [V.ref D1, V.ref D2]) (fun i H' => Same E4 H' ∧ ∃ ys : List V, H' D5 = some (.lst ys) ∧ ys.length = i ∧ ∀ y ∈ ys, ∃ (tt r : Addr) (rs : List Int) (z : Int), y = .ref tt ∧ H' tt = some (.tup [.ref r, .int z]) ∧ E4 r = some (.lst (rs.map V.int)) ∧ rs.length ≤ 1000 ∧ tt ≠ D5) ⟨L2.Same.upd zD5, [], upd_same, rfl, fun y hy => by cases hy⟩ (fun i H' _ h => SqL.of (h.1 _ _ (d4 _ _ hD3))) ?_ ?_
      · rintro i v H' hv ⟨s', ys, hD5, hyl, hys⟩
        obtain ⟨r, rs, rfl, hr, hrl⟩ : ∃ (r : Addr) (rs : List Int), v = .ref r ∧ E4 r = some (.lst (rs.map V.int)) ∧ rs.length ≤ 1000 := by
          match i, hv with
          | 0, hv => cases hv; exact ⟨D1, k1, rfl, hD14, by omega⟩
          | 1, hv => cases hv; exact ⟨D2, k2, rfl, hD24, by omega⟩
        have hi2 : i < 2 := (List.getElem?_eq_some_iff.mp hv).1
        refine ⟨rfl, ?_⟩
        walk_at "rx"
        refine ⟨tx, r, n, ls, rs, rfl, s' _ _ (c4 _ _ htxB), W, by omega, s' _ _ hr, by omega, fun z H2 s2 => ?_⟩
        walk_at "rx"
        intro tt ztt
        generalize ett : upd _ tt _ = H3
        obtain ⟨s3, htt⟩ := nw ett ztt
        have s13 := s2.trans s3
        have ntt : tt ≠ D5 := (ne_of_none (s2 _ _ hD5) ztt).symm
        walk_at "rx"
        refine ⟨ys, s13 _ _ hD5, by rw [hyl]; exact Nat.lt_of_lt_of_le (show i < 100 by omega) (by decide), (s'.trans s13).put zD5, ys ++ [.ref tt], upd_same, by rw [List.length_append, hyl]; rfl, fun y hy => ?_⟩
        rcases List.mem_append.mp hy with hy | hy
        · obtain ⟨t2, r2, rs2, z2, q1, q2, q3, q4, q5⟩ := hys y hy
          exact ⟨t2, r2, rs2, z2, q1, by rw [upd_ne q5]; exact s13 _ _ q2, q3, q4, q5⟩
        · rw [List.mem_singleton.mp hy]
          exact ⟨tt, r, rs, z, rfl, by rw [upd_ne ntt]; exact htt, hr, hrl, ntt⟩
      rintro E5 ⟨d5, ys, hD5, hyl, hys⟩
      have hyl : ys.length = 2 := hyl
      have c5 := c4.trans d5
      walk_at "rx"
      refine ⟨D4, D5, _, _, rfl, rfl, (d5 _ _ hD4), hD5, by
        (try simp only [List.length_append, List.length_cons, List.length_nil, List.length_map, List.length_take, List.length_drop])
        exact Nat.le_trans (show _ ≤ 10000 by omega) (by decide), ?_⟩
      intro D6 zD6
      generalize eD6 : upd _ D6 _ = E6
      obtain ⟨d6, hD6⟩ := nw eD6 zD6
      have c6 := (c5).trans d6
      clear eD6
      walk_at "rx"
      refine ⟨p, _, rfl, SqL.of ((c6) _ _ hpB), fun D7 zD7 => ?_⟩
      rw [cutV_from (i := (j : Int) + 1) (j + 1) rfl]
      generalize eD7 : upd _ D7 _ = E7
      obtain ⟨d7, hD7⟩ := nw eD7 zD7
      have c7 := (c6).trans d7
      clear eD7
      walk_at "rx"
      refine ⟨D6, D7, _, _, rfl, rfl, (d7 _ _ hD6), hD7, by
        (try simp only [List.length_append, List.length_cons, List.length_nil, List.length_map, List.length_take, List.length_drop])
        exact Nat.le_trans (show _ ≤ 10000 by omega) (by decide), ?_⟩
      intro D8 zD8
      generalize eD8 : upd _ D8 _ = E8
      obtain ⟨d8, hD8⟩ := nw eD8 zD8
      have c8 := (c7).trans d8
      clear eD8
      exact hT _ _ ⟨D8, _, _, _, _, _, _, rfl, c8, (c7.free zD8), hD8, by simp only [List.length_append, List.length_cons, List.length_nil, List.length_take, List.length_drop]; omega, fun u hu => by
        rcases List.mem_append.mp hu with hu | hu
        · rcases List.mem_append.mp hu with hu | hu
          · exact ((tlB D8 (c7.free zD8) u (List.mem_of_mem_take hu)).same c8).mono (by decide)
          · obtain ⟨t2, r2, rs2, z2, q1, q2, q3, q4, q5⟩ := hys u hu
            exact ⟨t2, r2, rs2, z2, q1, d8 _ _ (d7 _ _ (d6 _ _ q2)), d8 _ _ (d7 _ _ (d6 _ _ (d5 _ _ q3))), ne_of_none (d7 _ _ (d6 _ _ (d5 _ _ q3))) zD8, by omega⟩
        · exact ((tlB D8 (c7.free zD8) u (List.mem_of_mem_drop hu)).same c8).mono (by decide)⟩
    clear hl6 ul ut s6 zl
    rintro σ H11 ⟨l, us, o13, o14, o15, o16, o17, rfl, s6, zl, hl6, ul, ut⟩
    walk_at "rx"
    refine cutIf (fun σ H' => ∃ (l : Addr) (us : List V) (o13 o14 o15 o16 o17 : Option V), σ = [some (.ref s), some (.int kd), some (.ref p), some (.ref tx), some (.int n), some (.int j), some (.ref ob), some (.ref ra), some (.int sh), some (.int q), some (.int sg), o11, some (.ref l), o13, o14, o15, o16, o17, none] ∧ Same HB H' ∧ HB l = none ∧ H' l = some (.lst us) ∧ us.length ≤ 120 ∧ ∀ u ∈ us, LnV H' l u 2000) ?_ ?_ (fun _ => ⟨l, us, _, _, _, _, _, rfl, s6, zl, hl6, by omega, ut⟩)
    rotate_left
    · intro hT hk
      walk_at "rx"
      refine ⟨p, _, rfl, SqL.of ((s6) _ _ hpB), fun D1 zD1 => ?_⟩
      rw [cutV_to j rfl]
      generalize eD1 : upd _ D1 _ = E1
      obtain ⟨d1, hD1⟩ := nw eD1 zD1
      have c1 := (s6).trans d1
      clear eD1
      have ho1 := c1 _ _ hot
      have hb1 := c1 _ _ hbrB
      walk_at "rx"
      refine ⟨ob, _, _, _, rfl, rfl, SqT.of (ho1), rfl, ?_⟩
      walk_at "rx"
      intro D2 zD2
      generalize eD2 : upd _ D2 _ = E2
      obtain ⟨d2, hD2⟩ := nw eD2 zD2
      have c2 := (c1).trans d2
      clear eD2
      walk_at "rx"
      refine ⟨ob, _, _, _, rfl, rfl, SqT.of (d2 _ _ ho1), rfl, ?_⟩
      walk_at "rx"
      intro D3 zD3
      generalize eD3 : upd _ D3 _ = E3
      obtain ⟨d3, hD3⟩ := nw eD3 zD3
      have c3 := (c2).trans d3
      clear eD3
      walk_at "rx"
      intro D4 zD4
      generalize eD4 : upd _ D4 _ = E4
      obtain ⟨d4, hD4⟩ := nw eD4 zD4
      have c4 := (c3).trans d4
      clear eD4
      walk_at "rx"
      refine ⟨D1, D4, _, _, rfl, rfl, (d4 _ _ (d3 _ _ (d2 _ _ hD1))), hD4, by
        (try simp only [List.length_append, List.length_cons, List.length_nil, List.length_map, List.length_take, List.length_drop])
        exact Nat.le_trans (show _ ≤ 10000 by omega) (by decide), ?_⟩
      intro D5 zD5
      generalize eD5 : upd _ D5 _ = E5
      obtain ⟨d5, hD5⟩ := nw eD5 zD5
      have c5 := (c4).trans d5
      clear eD5
      walk_at "rx"
      refine ⟨p, _, rfl, SqL.of ((c5) _ _ hpB), fun D6 zD6 => ?_⟩
      rw [cutV_from (i := (j : Int) + 1) (j + 1) rfl]
      generalize eD6 : upd _ D6 _ = E6
      obtain ⟨d6, hD6⟩ := nw eD6 zD6
      have c6 := (c5).trans d6
      clear eD6
      walk_at "rx"
      refine ⟨D5, D6, _, _, rfl, rfl, (d6 _ _ hD5), hD6, by
        (try simp only [List.length_append, List.length_cons, List.length_nil, List.length_map, List.length_take, List.length_drop])
        exact Nat.le_trans (show _ ≤ 10000 by omega) (by decide), ?_⟩
      intro D7 zD7
      generalize eD7 : upd _ D7 _ = E7
      obtain ⟨d7, hD7⟩ := nw eD7 zD7
      have c7 := (c6).trans d7
      clear eD7
      exact hT _ _ ⟨D7, _, _, _, _, _, _, rfl, c7, (c6.free zD7), hD7, by simp only [List.length_append, List.length_cons, List.length_nil, List.length_take, List.length_drop]; omega, fun u hu => by
        rcases List.mem_append.mp hu with hu | hu
        · rcases List.mem_append.mp hu with hu | hu
          · exact ((tlB D7 (c6.free zD7) u (List.mem_of_mem_take hu)).same c7).mono (by decide)
          · rw [List.mem_singleton.mp hu]
            exact ⟨D3, D2, bns, bsh2, rfl, d7 _ _ (d6 _ _ (d5 _ _ (d4 _ _ hD3))), d7 _ _ (d6 _ _ (d5 _ _ (d4 _ _ (d3 _ _ hD2)))), ne_of_none (d6 _ _ (d5 _ _ (d4 _ _ (d3 _ _ hD2)))) zD7, by omega⟩
        · exact ((tlB D7 (c6.free zD7) u (List.mem_of_mem_drop hu)).same c7).mono (by decide)⟩
    clear hl6 ul ut s6 zl
    rintro σ H12 ⟨l, us, o13, o14, o15, o16, o17, rfl, s6, zl, hl6, ul, ut⟩
    walk_at "rx"
    refine cutIf (fun σ H' => ∃ (l : Addr) (us : List V) (o13 o14 o15 o16 o17 : Option V), σ = [some (.ref s), some (.int kd), some (.ref p), some (.ref tx), some (.int n), some (.int j), some (.ref ob), some (.ref ra), some (.int sh), some (.int q), some (.int sg), o11, some (.ref l), o13, o14, o15, o16, o17, none] ∧ Same HB H' ∧ HB l = none ∧ H' l = some (.lst us) ∧ us.length ≤ 120 ∧ ∀ u ∈ us, LnV H' l u 2000) ?_ ?_ (fun _ => ⟨l, us, _, _, _, _, _, rfl, s6, zl, hl6, by omega, ut⟩)
    rotate_left
    · intro hT hk
      walk_at "rx"
      refine ⟨p, _, rfl, SqL.of ((s6) _ _ hpB), fun D1 zD1 => ?_⟩
      rw [cutV_to j rfl]
      generalize eD1 : upd _ D1 _ = E1
      obtain ⟨d1, hD1⟩ := nw eD1 zD1
      have c1 := (s6).trans d1
      clear eD1
      have ho1 := c1 _ _ hot
      walk_at "rx"
      refine ⟨ob, _, _, _, rfl, rfl, SqT.of (ho1), rfl, ?_⟩
      walk_at "rx"
      intro D2 zD2
      generalize eD2 : upd _ D2 _ = E2
      obtain ⟨d2, hD2⟩ := nw eD2 zD2
      have c2 := (c1).trans d2
      clear eD2
      walk_at "rx"
      intro D3 zD3
      generalize eD3 : upd _ D3 _ = E3
      obtain ⟨d3, hD3⟩ := nw eD3 zD3
      have c3 := (c2).trans d3
      clear eD3
      walk_at "rx"
      refine ⟨D1, D3, _, _, rfl, rfl, (d3 _ _ (d2 _ _ hD1)), hD3, by
        (try simp only [List.length_append, List.length_cons, List.length_nil, List.length_map, List.length_take, List.length_drop])
        exact Nat.le_trans (show _ ≤ 10000 by omega) (by decide), ?_⟩
      intro D4 zD4
      generalize eD4 : upd _ D4 _ = E4
      obtain ⟨d4, hD4⟩ := nw eD4 zD4
      have c4 := (c3).trans d4
      clear eD4
      walk_at "rx"
      refine ⟨p, _, rfl, SqL.of ((c4) _ _ hpB), fun D5 zD5 => ?_⟩
      rw [cutV_from (i := (j : Int) + 1) (j + 1) rfl]
      generalize eD5 : upd _ D5 _ = E5
      obtain ⟨d5, hD5⟩ := nw eD5 zD5
      have c5 := (c4).trans d5
      clear eD5
      walk_at "rx"
      refine ⟨D4, D5, _, _, rfl, rfl, (d5 _ _ hD4), hD5, by
        (try simp only [List.length_append, List.length_cons, List.length_nil, List.length_map, List.length_take, List.length_drop])
        exact Nat.le_trans (show _ ≤ 10000 by omega) (by decide), ?_⟩
      intro D6 zD6
      generalize eD6 : upd _ D6 _ = E6
      obtain ⟨d6, hD6⟩ := nw eD6 zD6
      have c6 := (c5).trans d6
      clear eD6
      have hoc := c6 _ _ hot
      have hpc := c6 _ _ hpB
      walk_at "rx"
      refine ⟨ob, _, _, _, rfl, rfl, SqT.of (hoc), rfl, ?_⟩
      walk_at "rx"
      intro D7 zD7
      generalize eD7 : upd _ D7 _ = E7
      obtain ⟨d7, hD7⟩ := nw eD7 zD7
      have c7 := (c6).trans d7
      clear eD7
      have hl7 := d7 _ _ hD6
      have hp7 := d7 _ _ hpc
      have nl7 : D7 ≠ D6 := (ne_of_none hD6 zD7).symm
      have ull : (ws.take j ++ [V.ref D2] ++ ws.drop (j + 1)).length = ws.length := by simp only [List.length_append, List.length_cons, List.length_nil, List.length_take, List.length_drop]; omega
      have zl6 : HB D6 = none := c5.free zD6
      walk_at "rx"
      refine ⟨D6, _, _, j2, rfl, rfl, hl7, by rw [ull, ← ho2, hj2]; exact ixN_nat hj2l, ?_⟩
      refine hT _ _ ⟨D6, _, _, _, _, _, _, rfl, c7.put zl6, zl6, upd_same, by rw [List.length_set, ull]; omega, fun u hu => ?_⟩
      rcases List.mem_or_eq_of_mem_set hu with hu | rfl
      · refine LnV.put (xs := _) ?_ hl7
        rcases List.mem_append.mp hu with hu | hu
        · rcases List.mem_append.mp hu with hu | hu
          · exact ((tlB D6 zl6 u (List.mem_of_mem_take hu)).same c7).mono (by decide)
          · rw [List.mem_singleton.mp hu]
            exact ⟨D2, ra, ms, bsh2, rfl, d7 _ _ (d6 _ _ (d5 _ _ (d4 _ _ (d3 _ _ hD2)))), c7 _ _ hra, ne_of_none (c5 _ _ hra) zD6, by omega⟩
        · exact ((tlB D6 zl6 u (List.mem_of_mem_drop hu)).same c7).mono (by decide)
      · have nb : br ≠ D6 := ne_of_none (c5 _ _ hbrB) zD6
        exact ⟨D7, br, bns, sh, rfl, by rw [upd_ne nl7]; exact hD7, by rw [upd_ne nb]; exact c7 _ _ hbrB, nb, by omega⟩
    clear hl6 ul ut s6 zl
    rintro σ H13 ⟨l, us, o13, o14, o15, o16, o17, rfl, s6, zl, hl6, ul, ut⟩
    walk_at "rx"
    exact fin l us H13 s6 hl6 (by omega) ut
end
abbrev s__law_texts : Stmt := top 31
abbrev N__law_texts : List Str := ["source", "most", "way", "span", "lines", "texts", "k", "last"]
theorem sc__law_texts : FnScope N__law_texts ["source", "most"] (defScope s__law_texts) := ⟨rfl, rfl, rfl, by decide +kernel, rfl, by decide +kernel, by decide +kernel⟩
section
variable {P : Program} {w : World} {K : PySem.W.Frag} {mg : Str → Option Value} {base : Heap}
theorem sIx_back {n d : Nat} (h : 0 < n) : HT.sIx n d (some (-1)) = n - 1 := by
  show (if (-1 : Int) < 0 then ((-1 : Int) + (n : Int)).toNat else min (-1 : Int).toNat n) = _
  rw [if_pos (by decide)]
  omega
theorem tl_cut (z : Str) (i j : Option Int) : tl (cutS z i j) = ((tl z).drop (HT.sIx z.length 0 i)).take (HT.sIx z.length z.length j - HT.sIx z.length 0 i) := rfl
theorem tl_back {z : Str} (h : 0 < (tl z).length) : tl (cutS z (some (-1)) none) = (tl z).drop ((tl z).length - 1) := by
  rw [tl_cut, sIx_back (by rw [len_tl]; exact h)]
  show ((tl z).drop (z.length - 1)).take (z.length - (z.length - 1)) = _
  rw [len_tl, List.take_of_length_le (by rw [List.length_drop]; omega)]
theorem tl_front {z : Str} (h : 0 < (tl z).length) : tl (cutS z none (some (-1))) = (tl z).take ((tl z).length - 1) := by
  rw [tl_cut, sIx_back (by rw [len_tl]; exact h)]
  show ((tl z).drop 0).take (z.length - 1 - 0) = _
  rw [List.drop_zero, Nat.sub_zero, len_tl]
theorem tl_from {z : Str} (c : Nat) : tl (cutS z (some (c : Int)) none) = (tl z).drop c := by
  rw [tl_cut, sIx_nat]
  show ((tl z).drop (min c z.length)).take (z.length - min c z.length) = _
  rw [len_tl]
  by_cases h : c ≤ (tl z).length
  · rw [Nat.min_eq_left h, List.take_of_length_le (by rw [List.length_drop]; exact Nat.le_refl _)]
  · rw [Nat.min_eq_right (by omega), Nat.sub_self, List.take_zero, List.drop_of_length_le (by omega)]
theorem tl_to {z : Str} (c : Nat) : tl (cutS z none (some (c : Int))) = (tl z).take c := by
  rw [tl_cut, sIx_nat]
  show ((tl z).drop 0).take (min c z.length - 0) = _
  rw [List.drop_zero, Nat.sub_zero, len_tl]
  by_cases h : c ≤ (tl z).length
  · rw [Nat.min_eq_left h]
  · rw [Nat.min_eq_right (by omega), List.take_of_length_le (Nat.le_refl _), List.take_of_length_le (by omega)]
theorem sg_turn {l : List Nat} (h : 0 < l.length) {c : Nat} (hc : c ≤ l.length) : ∀ k : Nat, k < (l.drop c ++ l.take c).length → (l.drop c ++ l.take c)[k]? = some (sg l ((k : Int) + (c : Int))) := fun k hk => by
  have hlen : (l.drop c ++ l.take c).length = l.length := by rw [List.length_append, List.length_drop, List.length_take, Nat.min_eq_left hc]; omega
  rw [hlen] at hk
  by_cases h1 : k < l.length - c
  · rw [List.getElem?_append_left (by rw [List.length_drop]; exact h1), List.getElem?_drop]
    have e : (k : Int) + (c : Int) = ((c + k : Nat) : Int) := by omega
    rw [e]
    exact sg_nat (by omega)
  · rw [List.getElem?_append_right (by rw [List.length_drop]; omega), List.length_drop, List.getElem?_take_of_lt (by omega)]
    have e : (k : Int) + (c : Int) = ((k - (l.length - c) : Nat) : Int) + (l.length : Int) := by omega
    rw [e, sg_add]
    exact sg_nat (by omega)
theorem Row.turn {l : List Nat} (R : Row l) {c : Nat} (hc : c ≤ l.length) : Row (l.drop c ++ l.take c) := by
  have hlen : (l.drop c ++ l.take c).length = l.length := by rw [List.length_append, List.length_drop, List.length_take, Nat.min_eq_left hc]; omega
  refine R.move (f := fun i => i + (c : Int)) (by rw [hlen]; exact R.ne) (sg_turn R.ne hc) (fun i => sg_congr ?_) (fun i => .inl (by show i + 1 + (c : Int) = i + (c : Int) + 1; omega))
  show (i % _ + (c : Int)) % _ = (i + (c : Int)) % _
  rw [hlen, Int.emod_add_emod]
theorem at_lt {ls : List Str} {c : Int} (h0 : 0 ≤ c) (h : c < ((ls.map V.str).length : Nat)) : ∃ z, z ∈ ls ∧ atI (ls.map V.str) c = some (V.str z) := by
  rw [List.length_map] at h
  have hc : c.toNat < ls.length := by omega
  exact ⟨ls[c.toNat], List.getElem_mem hc, atI_k' c.toNat (by omega) (getS hc)⟩
def spTexts : Sp := fun vs H Q _ => ∃ (s g sm : Addr) (m : Nat) (mo : Int), vs = [.ref s, .int mo] ∧ Src H s g sm m ∧ m + 30 ≤ 2 ^ 40 ∧ 6 ≤ mo ∧
  ∀ (n : Nat) (ls : List Str) (q : Addr) (H' : Hp), Rows n ls → n ≤ 6 → ls.length ≤ 9 → Src H' s g sm (m + 30) → Same (out s g H) (out s g H') → H q = none → out s g H' q = some (.lst (ls.map V.str)) → Q (.ref q) H'
theorem or_go {c : Bool} {H' : Hp} {σ : St} {K : Bool → Hp → Prop} {t : TT} (W : Hp → Prop) (hK : ∀ b H2, W H2 → K b H2) (h0 : W H') (ht : (∀ b H2, W H2 → K b H2) → t σ H' K) : if c = true then K true H' else t σ H' K := by
  cases c with
  | true => exact hK true H' h0
  | false => exact ht hK
structure TxAt (H : Hp) (s g sm L D : Addr) (sp m i : Nat) (ls ms : List Str) (H' : Hp) : Prop where
  d : H' D = some (.lst (ms.map V.str))
  w : Rows sp ms
  l : ms.length ≤ 1 + i
  src : Src H' s g sm (m + 4 + 2 * i)
  fr : Same (out s g H) (out s g H')
  o : out s g H' L = some (.lst (ls.map V.str))
theorem TxAt.add {H : Hp} {s g sm L D : Addr} {sp m i j m2 r : Nat} {ls ms : List Str} {H' H2 : Hp} {y : Str} (T : TxAt H s g sm L D sp m i ls ms H') (S0 : Src H s g sm r) (zD : H D = none) (nLD : L ≠ D) (hd : H2 D = some (.lst (ms.map V.str))) (S2 : Src H2 s g sm m2) (hm : m2 ≤ m + 4 + 2 * (i + 1)) (t2 : Same (out s g H) (out s g H2)) (o2 : out s g H2 L = some (.lst (ls.map V.str)))
    (hy : (tl y).length = sp) (ry : Row (tl y)) (hj : j = i + 1) : TxAt H s g sm L D sp m j ls (ms ++ [y]) (upd H2 D (.lst (ms.map V.str ++ [V.str y]))) := by
  subst hj
  refine ⟨by rw [upd_same, List.map_append]; rfl, ⟨by rw [List.length_append]; exact Nat.succ_pos _, fun z hz => ?_, fun z hz => ?_⟩, by rw [List.length_append]; exact Nat.succ_le_succ T.l, (S2.put S0 zD).mono hm, out_set t2 zD, by rw [out_ne nLD]; exact o2⟩
  · rcases List.mem_append.mp hz with h | h
    · exact T.w.len z h
    · rw [List.mem_singleton.mp h]; exact hy
  · rcases List.mem_append.mp hz with h | h
    · exact T.w.row z h
    · rw [List.mem_singleton.mp h]; exact ry
theorem ok__law_texts {f : Addr} {fd : FuncData} (F : Fun K "_law_texts" "_law_texts" s__law_texts f fd) (B : Bi mg) (D_law_draw : Df P w K mg base "_law_draw" 2 ["source", "limit"] spDraw) (D_law_lines : Df P w K mg base "_law_lines" 2 ["span"] spLinesSpan) : FnOk P w K mg base CX0 3 f fd ["source", "most"] spTexts := by
  refine F.ok sc__law_texts (fun vs H Q E h => ?_) (fun cdv A outer s0 H vs Q E hr h => ?_)
  · obtain ⟨s, g, sm, m, mo, rfl, _⟩ := h
    rfl
  · obtain ⟨s, g, sm, m, mo, rfl, S, hm, hmo, k⟩ := h
    refine ⟨_, (pss_cons (ps_set (i := 2) sc__law_texts.nd rfl (Or.inl rfl) (pe_df D_law_draw (hr.mono (by first | decide | omega)) (by rfl) (pa_cons (pv 0) (pa_cons pe_int pa_nil))))
    (pss_cons (ps_set (i := 3) sc__law_texts.nd rfl (Or.inl rfl) (pe_ix ix_list (pe_lst (pa_cons pe_int (pa_cons pe_int (pa_cons pe_int (pa_cons pe_int (pa_cons pe_int (pa_cons pe_int (pa_cons pe_int (pa_cons pe_int (pa_cons pe_int pa_nil)))))))))) (pe_df D_law_draw (hr.mono (by first | decide | omega)) (by rfl) (pa_cons (pv 0) (pa_cons pe_int pa_nil))) (fun _ _ => rfl)))
    (pss_cons (ps_set (i := 4) sc__law_texts.nd rfl (Or.inl rfl) (pe_df D_law_lines (hr.mono (by first | decide | omega)) (by rfl) (pa_cons (pv 3) pa_nil)))
    (pss_cons (ps_set (i := 5) sc__law_texts.nd rfl (Or.inl rfl) (pe_lst (pa_cons (pe_ix ix_list (pv 4) (pe_df D_law_draw (hr.mono (by first | decide | omega)) (by rfl) (pa_cons (pv 0) (pa_cons (pe_callB call_len_seq (by rfl) B.len_ PySem.boot_len (pa_cons (pv 4) pa_nil)) pa_nil))) (fun _ _ => rfl)) pa_nil)))
    (pss_cons (ps_for PassesOwn.never rfl (pi_range1 (by rfl) B.range_ (pa_cons (pe_df D_law_draw (hr.mono (by first | decide | omega)) (by rfl) (pa_cons (pv 0) (pa_cons (pe_callB (call_min2 rfl) (by rfl) B.min_ (by decide +kernel) (pa_cons pe_int (pa_cons (pe_op op_fdiv (pv 1) (pv 3)) pa_nil))) pa_nil))) pa_nil)) (pg_name (i := 6) sc__law_texts.nd rfl (Or.inl rfl))
    (pss_cons (ps_set (i := 7) sc__law_texts.nd rfl (Or.inl rfl) (pe_ix ix_list (pv 5) (pe_un un_neg pe_int) (fun _ _ => rfl)))
    (pss_one (ps_if (PW.pt (pw_or (pt_cmpR op_eq (pv 2) pe_int (nomark _)) (pw_or1 (PW.pt (pw_and (pt_cmpR op_eq (pv 2) pe_int (nomark _)) (pw_and1 (pt_cmpR op_eq (pe_df D_law_draw (hr.mono (by first | decide | omega)) (by rfl) (pa_cons (pv 0) (pa_cons pe_int pa_nil))) pe_int (nomark _))))))))
    (pss_one (ps_expr (pe_bm PySem.F.plainAttrs_list PySem.F.slot_list_append PySem.F.type_list_append mt_append (pv 5) (pa_cons (pe_op op_add_str (pe_slice sl_str (pv 7) (po_some (pe_un un_neg pe_int)) po_none) (pe_slice sl_str (pv 7) po_none (po_some (pe_un un_neg pe_int)))) pa_nil))))
    (pss_one (ps_if (pt_cmpR op_eq (pv 2) pe_int (nomark _))
    (pss_one (ps_expr (pe_bm PySem.F.plainAttrs_list PySem.F.slot_list_append PySem.F.type_list_append mt_append (pv 5) (pa_cons (pe_op op_add_str (pe_slice sl_str (pv 7) (po_some pe_int) po_none) (pe_slice sl_str (pv 7) po_none (po_some pe_int))) pa_nil))))
    (pss_one (ps_expr (pe_bm PySem.F.plainAttrs_list PySem.F.slot_list_append PySem.F.type_list_append mt_append (pv 5) (pa_cons (pe_ix ix_list (pv 4) (pe_df D_law_draw (hr.mono (by first | decide | omega)) (by rfl) (pa_cons (pv 0) (pa_cons (pe_callB call_len_seq (by rfl) B.len_ PySem.boot_len (pa_cons (pv 4) pa_nil)) pa_nil))) (fun _ _ => rfl)) pa_nil))))))))))
    (pss_one (ps_ret (pv 5)))))))), ?_⟩
    walk_at "rd"
    refine ⟨s, g, sm, m, _, rfl, S, by omega, by decide, by decide, fun way H1 w0 w1 S1 t1 => ?_⟩
    walk_at "rd"
    intro p1 zp1
    generalize ep1 : upd _ p1 _ = H2
    obtain ⟨s2, hp1⟩ := nw ep1 zp1
    have S2 := S1.same s2
    walk_at "rd"
    refine ⟨s, g, sm, m + 1, _, rfl, S2, by omega, by decide, by decide, fun c H3 c0 c1 S3 t3 => ?_⟩
    have hp13 : H3 p1 = some _ := out_same _ _ (t3 _ _ (S1.keep zp1 hp1))
    obtain ⟨sp, ic, sp0, sp6⟩ : ∃ sp : Nat, atI [V.int 1, V.int 2, V.int 2, V.int 3, V.int 3, V.int 4, V.int 4, V.int 5, V.int 6] c = some (V.int sp) ∧ 0 < sp ∧ sp ≤ 6 := by
      have hc : c = 0 ∨ c = 1 ∨ c = 2 ∨ c = 3 ∨ c = 4 ∨ c = 5 ∨ c = 6 ∨ c = 7 ∨ c = 8 := by omega
      rcases hc with rfl | rfl | rfl | rfl | rfl | rfl | rfl | rfl | rfl
      · exact ⟨1, rfl, by decide, by decide⟩
      · exact ⟨2, rfl, by decide, by decide⟩
      · exact ⟨2, rfl, by decide, by decide⟩
      · exact ⟨3, rfl, by decide, by decide⟩
      · exact ⟨3, rfl, by decide, by decide⟩
      · exact ⟨4, rfl, by decide, by decide⟩
      · exact ⟨4, rfl, by decide, by decide⟩
      · exact ⟨5, rfl, by decide, by decide⟩
      · exact ⟨6, rfl, by decide, by decide⟩
    walk_at "rd"
    intro ls L H4 W hl64 s4 zL hL
    have S4 := S3.same s4
    have hl0 := W.ne
    walk_at "rd"
    have pL : (0 : Int) < ((ls.map V.str).length : Nat) := by rw [List.length_map]; omega
    have pL2 : ((ls.map V.str).length : Int) < 1073741824 := by rw [List.length_map]; omega
    refine ⟨s, g, sm, m + 2, _, rfl, S4, by omega, pL, pL2, fun c2 H5 c20 c21 S5 t5 => ?_⟩
    have tt : Same (out s g H) (out s g H5) := t1.trans (s2.out.trans (t3.trans (s4.out.trans t5)))
    have oL : out s g H5 L = some (.lst (ls.map V.str)) := t5 _ _ (S3.keep zL hL)
    have hL5 := out_same _ _ oL
    obtain ⟨z0, hz0, iz0⟩ := at_lt c20 c21
    walk_at "rd"
    intro D zD
    generalize eD : upd _ D _ = H6
    obtain ⟨s6, hD⟩ := nw eD zD
    have S6 := S5.same s6
    have oL6 := s6.out _ _ oL
    have zDH : H D = none := S5.free tt zD
    have hsp : (0 : Int) < (sp : Int) := by omega
    have hdv : 1 ≤ mo / (sp : Int) := by
      rw [Int.le_ediv_iff_mul_le hsp]
      omega
    walk_at "rd"
    refine ⟨_, _, rfl, ?_⟩
    generalize elim : (if mo / (sp : Int) < 9 then mo / (sp : Int) else 9) = lim
    have hlim : 1 ≤ lim ∧ lim ≤ 9 := by
      rw [← elim]
      split <;> omega
    walk_at "rd"
    refine ⟨s, g, sm, m + 3, _, rfl, S6, by omega, by omega, by omega, fun c3 H7 c30 c31 S7 t7 => ?_⟩
    have nLD : L ≠ D := fun e => by rw [e] at hL5; rw [hL5] at zD; cases zD
    have oD7 : H7 D = some (.lst [V.str z0]) := out_same _ _ (t7 _ _ (S5.keep zD hD))
    walk_at "rd"
    refine for_range (lo := 0) (n := c3.toNat) (fun i σ H' => ∃ (ms : List Str) (o6 o7 : Option V), σ = [some (.ref s), some (.int mo), some (.int way), some (.int sp), some (.ref L), some (.ref D), o6, o7] ∧ TxAt H s g sm L D sp m i ls ms H')
      ⟨[z0], none, none, rfl, oD7, ⟨Nat.succ_pos 0, fun z hz => by rw [List.mem_singleton.mp hz]; exact W.len _ hz0, fun z hz => by rw [List.mem_singleton.mp hz]; exact W.row _ hz0⟩, Nat.le_refl _, S7, (tt.trans s6.out).trans t7, t7 _ _ oL6⟩ ?_ ?_
    · rintro i σ H' hi ⟨ms, o6, o7, rfl, TX⟩
      have hi8 : i < 9 := by omega
      have hm0 := TX.w.ne
      have hml := TX.l
      have hlast : ms[ms.length - 1]'(by omega) ∈ ms := List.getElem_mem (by omega)
      generalize ez : ms[ms.length - 1]'(by omega) = z at hlast
      have iz : atI (ms.map V.str) (-1) = some (V.str z) := atI_back (by rw [List.length_map, List.getElem?_map, List.getElem?_eq_getElem (by omega), ez]; rfl)
      have hzn : (tl z).length = sp := TX.w.len _ hlast
      have hzr := TX.w.row _ hlast
      have hz0' : 0 < (tl z).length := by omega
      have big : ∀ x : Nat, x ≤ 100 → x < sizeLine := fun x hx => Nat.lt_of_le_of_lt hx (by decide)
      have hzl : z.length ≤ sizeLine := Nat.le_of_lt (big _ (by rw [len_tl]; omega))
      have hdl : (ms.map V.str).length < sizeLine := big _ (by rw [List.length_map]; omega)
      have hD' := TX.d
      have hL' := out_same _ _ TX.o
      have hyl1 : (cutS z (some (-1)) none).length + (cutS z none (some (-1))).length ≤ sizeLine := Nat.le_of_lt (big _ (by rw [len_tl, len_tl, tl_back hz0', tl_front hz0', List.length_drop, List.length_take]; omega))
      have e1 : tl (cutS z (some (-1)) none ++ cutS z none (some (-1))) = (tl z).drop ((tl z).length - 1) ++ (tl z).take ((tl z).length - 1) := by rw [tl_append, tl_back hz0', tl_front hz0']
      have r1 := hzr.turn (c := (tl z).length - 1) (by omega)
      have n1 : ((tl z).drop ((tl z).length - 1) ++ (tl z).take ((tl z).length - 1)).length = sp := by rw [List.length_append, List.length_drop, List.length_take]; omega
      rw [← e1] at r1 n1
      have hyl2 : (cutS z (some 1) none).length + (cutS z none (some 1)).length ≤ sizeLine := Nat.le_of_lt (big _ (by
        have a1 := tl_from (z := z) 1
        have a2 := tl_to (z := z) 1
        rw [len_tl, len_tl]
        rw [show ((1 : Nat) : Int) = 1 from rfl] at a1 a2
        rw [a1, a2, List.length_drop, List.length_take]; omega))
      have e2 : tl (cutS z (some 1) none ++ cutS z none (some 1)) = (tl z).drop 1 ++ (tl z).take 1 := by
        have a1 := tl_from (z := z) 1
        have a2 := tl_to (z := z) 1
        rw [show ((1 : Nat) : Int) = 1 from rfl] at a1 a2
        rw [tl_append, a1, a2]
      have r2 := hzr.turn (c := 1) (by omega)
      have n2 : ((tl z).drop 1 ++ (tl z).take 1).length = sp := by rw [List.length_append, List.length_drop, List.length_take]; omega
      rw [← e2] at r2 n2
      walk_at "rd"
      refine or_go (fun H2 => ∃ m2, m2 ≤ m + 4 + 2 * i + 1 ∧ Src H2 s g sm m2 ∧ Same (out s g H) (out s g H2) ∧ H2 D = some (.lst (ms.map V.str)) ∧ out s g H2 L = some (.lst (ls.map V.str))) ?_ ⟨_, by omega, TX.src, TX.fr, TX.d, TX.o⟩ ?_
      · rintro b H2 ⟨m2, hm2, S2', f2, hd2, ho2⟩
        have hL2 := out_same _ _ ho2
        refine ite2 (fun hb => ?_) (fun hb => ?_)
        · walk_at "rd"
          refine ⟨D, _, _, rfl, rfl, hd2, hdl, ?_⟩
          exact ⟨_, _, _, rfl, TX.add S zDH nLD hd2 S2' (by omega) f2 ho2 n1 r1 rfl⟩
        · walk_at "rd"
          refine ite2 (fun hw => ?_) (fun hw => ?_)
          · walk_at "rd"
            refine ⟨D, _, _, rfl, rfl, hd2, hdl, ?_⟩
            exact ⟨_, _, _, rfl, TX.add S zDH nLD hd2 S2' (by omega) f2 ho2 n2 r2 rfl⟩
          · walk_at "rd"
            refine ⟨s, g, sm, m2, _, rfl, S2', by omega, pL, pL2, fun c4 H8 c40 c41 S8 t8 => ?_⟩
            obtain ⟨z4, hz4, iz4⟩ := at_lt c40 c41
            have oD8 : H8 D = some (.lst (ms.map V.str)) := by
              obtain ⟨q1, q2, _⟩ := S.new zDH
              have : out s g H2 D = some (.lst (ms.map V.str)) := by rw [out_at q1 q2]; exact hd2
              exact out_same _ _ (t8 _ _ this)
            have hL8 := out_same _ _ (t8 _ _ ho2)
            walk_at "rd"
            refine ⟨D, _, _, rfl, rfl, oD8, hdl, ?_⟩
            exact ⟨_, _, _, rfl, TX.add S zDH nLD oD8 S8 (by omega) (f2.trans t8) (t8 _ _ ho2) (W.len _ hz4) (W.row _ hz4) rfl⟩
      · intro hK
        walk_at "rd"
        refine ite2 (fun _ => ?_) (fun _ => ?_)
        · walk_at "rd"
          refine ⟨s, g, sm, m + 4 + 2 * i, _, rfl, TX.src, by omega, by decide, by decide, fun c5 H9 _ _ S9 t9 => ?_⟩
          walk_at "rd"
          have oD9 : H9 D = some (.lst (ms.map V.str)) := by
            obtain ⟨q1, q2, _⟩ := S.new zDH
            have : out s g H' D = some (.lst (ms.map V.str)) := by rw [out_at q1 q2]; exact TX.d
            exact out_same _ _ (t9 _ _ this)
          exact hK _ _ ⟨_, Nat.le_refl _, S9, TX.fr.trans t9, oD9, t9 _ _ TX.o⟩
        · exact hK _ _ ⟨_, by omega, TX.src, TX.fr, TX.d, TX.o⟩
    · rintro σ H' ⟨ms, o6, o7, rfl, TX⟩
      walk_at "rd"
      have hD2 : out s g H' D = some (.lst (ms.map V.str)) := by
        obtain ⟨n1, n2, _⟩ := S.new zDH
        rw [out_at n1 n2]
        exact TX.d
      have hml := TX.l
      exact k sp ms D H' TX.w sp6 (by omega) (TX.src.mono (by omega)) TX.fr zDH hD2
end
abbrev s__law_lanes : Stmt := top 33
abbrev N__law_lanes : List Str := ["texts", "span", "rest", "steps", "lanes", "known", "first", "rests", "shift", "k"]
theorem sc__law_lanes : FnScope N__law_lanes ["texts"] (defScope s__law_lanes) := ⟨rfl, rfl, rfl, by decide +kernel, rfl, by decide +kernel, by decide +kernel⟩
section
variable {P : Program} {w : World} {K : PySem.W.Frag} {mg : Str → Option Value} {base : Heap}
def spLawLanes : Sp := fun vs H Q _ => ∃ (t : Addr) (n : Nat) (ls : List Str), vs = [.ref t] ∧ H t = some (.lst (ls.map V.str)) ∧ Rows n ls ∧ n ≤ 60 ∧ ls.length ≤ 5000 ∧ ∀ (p : Addr) (H' : Hp), Same H H' → LnsAt H H' p (lanesL ls n) → Q (.ref p) H'
theorem ok__law_lanes {f : Addr} {fd : FuncData} (F : Fun K "_law_lanes" "_law_lanes" s__law_lanes f fd) (B : Bi mg) (D_law_step : Df P w K mg base "_law_step" 2 ["texts", "start"] spLawStepZ) : FnOk P w K mg base CX0 3 f fd ["texts"] spLawLanes := by
  refine F.ok sc__law_lanes (fun vs H Q E h => ?_) (fun cdv A outer s0 H vs Q E hr h => ?_)
  · obtain ⟨t, n, ls, rfl, _⟩ := h
    rfl
  · obtain ⟨t, n, ls, rfl, ht, W, hn, hl, k⟩ := h
    refine ⟨_, (pss_cons (ps_set (i := 1) sc__law_lanes.nd rfl (Or.inl rfl) (pe_callB call_len_str (by rfl) B.len_ PySem.boot_len (pa_cons (pe_ix ix_list (pv 0) pe_int (fun _ _ => rfl)) pa_nil)))
    (pss_cons (ps_setLc (i := 3) (own := [("rest", 2)]) (g := gName 2) (tt := tYes) rfl sc__law_lanes.nd rfl rfl (sw_true rfl rfl rfl (by decide +kernel)) (pi_range1 (by rfl) B.range_ (pa_cons (pv 1) pa_nil)) (blkOk_by (N := N__law_lanes) (sc := defScope s__law_lanes) (by decide +kernel)) (fun _ _ _ _ _ => pg_name (i := 2) sc__law_lanes.nd rfl (Or.inl rfl)) (fun _ _ _ _ _ => pts_nil) (fun _ _ _ _ _ => (pe_df D_law_step (hr.mono (by first | decide | omega)) (by rfl) (pa_cons (pv 0) (pa_cons (pv 2) pa_nil)))))
    (pss_cons (ps_set (i := 4) sc__law_lanes.nd rfl (Or.inl rfl) (pe_lst pa_nil))
    (pss_cons (ps_setLc (i := 5) (own := [("rest", 2)]) (g := gName 2) (tt := tYes) rfl sc__law_lanes.nd rfl rfl (sw_true rfl rfl rfl (by decide +kernel)) (pi_range1 (by rfl) B.range_ (pa_cons (pv 1) pa_nil)) (blkOk_by (N := N__law_lanes) (sc := defScope s__law_lanes) (by decide +kernel)) (fun _ _ _ _ _ => pg_name (i := 2) sc__law_lanes.nd rfl (Or.inl rfl)) (fun _ _ _ _ _ => pts_nil) (fun _ _ _ _ _ => pe_bl))
    (pss_cons (ps_for PassesOwn.never rfl (pi_range1 (by rfl) B.range_ (pa_cons (pv 1) pa_nil)) (pg_name (i := 6) sc__law_lanes.nd rfl (Or.inl rfl))
    (pss_cons (ps_set (i := 7) sc__law_lanes.nd rfl (Or.inl rfl) (pe_lst pa_nil))
    (pss_cons (ps_set (i := 8) sc__law_lanes.nd rfl (Or.inl rfl) pe_int)
    (pss_cons (ps_set (i := 2) sc__law_lanes.nd rfl (Or.inl rfl) (pv 6))
    (pss_cons (ps_for PassesOwn.never rfl (pi_range1 (by rfl) B.range_ (pa_cons (pv 1) pa_nil)) (pg_name (i := 9) sc__law_lanes.nd rfl (Or.inl rfl))
    (pss_one (ps_if (pt_not (pt_val (pe_ix ix_list (pv 5) (pv 2) (fun _ _ => rfl))))
    (pss_cons (ps_asg pe_bl (pg_sub (pv 5) (pv 2) set_list))
    (pss_cons (ps_expr (pe_bm PySem.F.plainAttrs_list PySem.F.slot_list_append PySem.F.type_list_append mt_append (pv 7) (pa_cons (pv 2) pa_nil)))
    (pss_cons (ps_set (i := 8) sc__law_lanes.nd rfl (Or.inl rfl) (pe_op op_add (pv 8) (pe_ix ix_list (pv 3) (pv 2) (fun _ _ => rfl))))
    (pss_one (ps_set (i := 2) sc__law_lanes.nd rfl (Or.inl rfl) (pe_op op_mod (pe_callTy call_int1 (by rfl) B.int_ (by decide +kernel) (pa_cons (pe_op op_add (pv 2) (pe_ix ix_list (pv 3) (pv 2) (fun _ _ => rfl))) pa_nil)) (pv 1)))))))
    pss_nil)))
    (pss_one (ps_if (pt_cmpR (op_neD hr.units) (pv 7) (pe_lst pa_nil) (nomark _))
    (pss_one (ps_expr (pe_bm PySem.F.plainAttrs_list PySem.F.slot_list_append PySem.F.type_list_append mt_append (pv 4) (pa_cons (pe_tup (pa_cons (pv 7) (pa_cons (pv 8) pa_nil))) pa_nil))))
    pss_nil)))))))
    (pss_one (ps_ret (pv 4)))))))), ?_⟩
    have iz := atI_k' (i := 0) 0 rfl (getS W.ne)
    have hz0 : (ls[0]'W.ne).length = n := W.lenS (List.getElem_mem W.ne)
    have hzl : (ls[0]'W.ne).length ≤ sizeLine := by rw [hz0]; exact Nat.le_trans hn (by decide)
    have pn : (0 : Int) < (n : Int) := by have := W.pos; omega
    have hn62 : (n : Int) < 2 ^ 62 := by omega
    have big : ∀ x : Nat, x ≤ 10000 → x < sizeLine := fun x hx => Nat.lt_of_le_of_lt hx (by decide)
    walk_at "rx"
    rw [hz0]
    walk_at "rx"
    intro S zS
    refine lc_range (lo := 0) (n := n) (fun j H2 => Same H H2 ∧ H2 S = some (.lst (((List.range j).map fun z : Nat => moveZ ls (z : Int)).map V.int))) ⟨L2.Same.upd zS, upd_same⟩ ?_ ?_
    · rintro j H2 hj ⟨s2, hS⟩
      refine ⟨rfl, ?_⟩
      walk_at "rx"
      rw [Int.zero_add]
      refine ⟨t, (j : Int), n, ls, rfl, s2 _ _ ht, W, by omega, ?_⟩
      refine ⟨_, hS, by rw [List.length_map, List.length_map, List.length_range]; exact big _ (by omega), s2.put zS, ?_⟩
      rw [upd_same, List.range_succ, List.map_append, List.map_append]
      rfl
    rintro H1 ⟨s1, hS1⟩
    walk_at "rx"
    intro D zD
    obtain ⟨H2, eD⟩ : ∃ H2, upd H1 D (.lst []) = H2 := ⟨_, rfl⟩
    rw [eD]
    obtain ⟨s2, hD2⟩ := nw eD zD
    have zD0 := s1.free zD
    have hS2 := s2 _ _ hS1
    walk_at "rx"
    intro Kn zK
    refine lc_range (lo := 0) (n := n) (fun j H3 => Same H2 H3 ∧ H3 Kn = some (.lst (blsV j fun _ => false))) ⟨L2.Same.upd zK, upd_same⟩ ?_ ?_
    · rintro j H3 hj ⟨s3, hK⟩
      refine ⟨rfl, ?_⟩
      refine ⟨_, hK, by rw [blsV_len]; exact big _ (by omega), s3.put zK, ?_⟩
      rw [upd_same]
      unfold blsV
      rw [List.range_succ, List.map_append]
      rfl
    rintro H3 ⟨s3, hK3⟩
    have nDK : D ≠ Kn := ne_of_none hD2 zK
    have nSD : S ≠ D := ne_of_none hS1 zD
    have nSK : S ≠ Kn := ne_of_none hS2 zK
    have zK1 : H1 Kn = none := s2.free zK
    have s13 := s2.trans s3
    have ht1 := s1 _ _ ht
    have dom : ∀ {H' : Hp} {x : Addr} {vs : List V}, Same H1 H' → H' D = some (.lst vs) → H' x = none → H2 x = none := fun {H' x vs} s h z => by
      rw [← eD, upd_ne (ne_of_none h z).symm]
      exact s.free z
    walk_at "rx"
    refine for_range (lo := 0) (n := n) (fun i σ H' => ∃ (o2 o6 o7 o8 o9 : Option V), σ = [some (.ref t), some (.int n), o2, some (.ref S), some (.ref D), some (.ref Kn), o6, o7, o8, o9] ∧ Same H1 H' ∧ H' Kn = some (.lst (blsV n (knB ls n i))) ∧ ∃ ws : List V, H' D = some (.lst ws) ∧ ws.length ≤ i ∧ Fa2 (fun v e => LnAt H2 H' v e ∧ ∃ b r, v = .ref b ∧ H' b = some (.tup [.ref r, .int e.2]) ∧ b ≠ Kn ∧ r ≠ Kn) ws (((((List.range i).map fun j : Nat => (j : Int))).filter (isFirst ls n)).map fun c => (orb ls n c, shiftZ ls n c)))
      ⟨_, _, _, _, _, rfl, s13, by rw [hK3]; exact congrArg _ (congrArg _ (blsV_congr fun z _ => (knB_zero ls n z).symm)), [], s3 _ _ hD2, Nat.le_refl _, Fa2.nil⟩ ?_ ?_
    · rintro i σ H' hi ⟨o2, o6, o7, o8, o9, rfl, s', hK', ws, hD', hwl, hws⟩
      have hS' := s' _ _ hS1
      walk_at "rx"
      intro R zR
      generalize eR : upd _ R _ = H4
      obtain ⟨s4, hR4⟩ := nw eR zR
      have zR1 := s'.free zR
      have nRK : R ≠ Kn := (ne_of_none hK' zR).symm
      have nRD : R ≠ D := (ne_of_none hD' zR).symm
      have s14 := s'.trans s4
      have lp := lane_pos W (i : Int)
      walk_at "rx"
      refine for_range (lo := 0) (n := n) (fun j σ H5 => ∃ (o9 : Option V) (m : Nat), σ = [some (.ref t), some (.int n), some (.int (itG (goZ ls) m (i : Int) % (n : Int))), some (.ref S), some (.ref D), some (.ref Kn), some (.int (0 + (i : Int))), some (.ref R), some (.int (((orb ls n (i : Int)).take m).map (moveZ ls)).sum), o9] ∧ m = (if knB ls n i i = true then 0 else min j (laneLen ls n (i : Int))) ∧ Same H1 H5 ∧ (∀ b u, b ≠ Kn → b ≠ R → H4 b = some u → H5 b = some u) ∧ H5 Kn = some (.lst (blsV n fun z => knB ls n i z || ((orb ls n (i : Int)).take m).contains (z : Int))) ∧ H5 R = some (.lst (((orb ls n (i : Int)).take m).map V.int)))
        ⟨_, 0, by rw [show itG (goZ ls) 0 (i : Int) % (n : Int) = 0 + (i : Int) by
            show (i : Int) % (n : Int) = _
            rw [Int.emod_eq_of_lt (by omega) (by omega)]
            omega]; rfl, by split <;> omega, s14, fun b u _ _ h => h, by
            rw [s4 _ _ hK', List.take_zero]
            exact congrArg _ (congrArg _ (blsV_congr fun z _ => by rw [List.contains_nil, Bool.or_false])), by rw [hR4, List.take_zero]; rfl⟩ ?_ ?_
      · rintro j σ H5 hj ⟨o9', m, rfl, hm, s5, keep, hK5, hR5⟩
        have hzm : itG (goZ ls) m (i : Int) % (n : Int) ∈ orb ls n (i : Int) := orb_any W _ _
        have hstep : ∀ q : Int, q = itG (goZ ls) m (i : Int) % (n : Int) → (q + moveZ ls q) % (n : Int) = itG (goZ ls) (m + 1) (i : Int) % (n : Int) := fun q hq => by
          subst hq
          unfold moveZ
          rw [show itG (goZ ls) m (i : Int) % (n : Int) + (goZ ls (itG (goZ ls) m (i : Int) % (n : Int)) - itG (goZ ls) m (i : Int) % (n : Int)) = goZ ls (itG (goZ ls) m (i : Int) % (n : Int)) by omega]
          exact itG_congR (goZ_perM W) 1 (i := itG (goZ ls) m (i : Int) % (n : Int)) (j := itG (goZ ls) m (i : Int)) (Int.emod_emod _ _)
        have hno : m < laneLen ls n (i : Int) → itG (goZ ls) m (i : Int) % (n : Int) ∉ (orb ls n (i : Int)).take m := orb_take_no W (i : Int)
        have hin : m = laneLen ls n (i : Int) → itG (goZ ls) m (i : Int) % (n : Int) ∈ (orb ls n (i : Int)).take m := fun e => by
          rw [e]
          exact orb_take_in W _
        have hsucc : m < laneLen ls n (i : Int) → (orb ls n (i : Int)).take (m + 1) = (orb ls n (i : Int)).take m ++ [itG (goZ ls) m (i : Int) % (n : Int)] := orb_take_succ
        have hm0 : m = 0 → itG (goZ ls) m (i : Int) % (n : Int) = (i : Int) := fun e => by
          rw [e]
          show (i : Int) % (n : Int) = _
          exact Int.emod_eq_of_lt (by omega) (by omega)
        obtain ⟨z0, z1⟩ := orb_range W hzm
        generalize ez : itG (goZ ls) m (i : Int) % (n : Int) = z at *
        obtain ⟨zN, rfl⟩ := Int.eq_ofNat_of_zero_le z0
        have hzN : zN < n := by omega
        have ixk : atI (blsV n fun z => knB ls n i z || ((orb ls n (i : Int)).take m).contains (z : Int)) (zN : Int) = some (V.bl (knB ls n i zN || ((orb ls n (i : Int)).take m).contains (zN : Int))) := atI_k' zN rfl (blsV_get hzN)
        have ixs : atI (((List.range n).map fun z : Nat => moveZ ls (z : Int)).map V.int) (zN : Int) = some (V.int (moveZ ls (zN : Int))) := atI_k' zN rfl (by rw [List.getElem?_map, List.getElem?_map, List.getElem?_range hzN]; rfl)
        have hS5 := s5 _ _ hS1
        walk_at "rx"
        refine ite2 (fun hb => ?_) (fun hb => ?_)
        · have hb' : (knB ls n i zN || ((orb ls n (i : Int)).take m).contains (zN : Int)) = false := by
            rw [Bool.not_eq_true'] at hb
            exact hb
          rw [Bool.or_eq_false_iff] at hb'
          obtain ⟨hb1, hb2⟩ := hb'
          have nk : knB ls n i i = false := by
            cases e : knB ls n i i with
            | false => rfl
            | true =>
              rw [if_pos e] at hm
              have := hm0 hm
              have : zN = i := by omega
              rw [this, e] at hb1
              cases hb1
          rw [nk, if_neg (by decide)] at hm
          have hlt : m < laneLen ls n (i : Int) := by
            refine Nat.lt_of_le_of_ne (by omega) fun e => ?_
            have := List.contains_iff_mem.mpr (hin e)
            rw [hb2] at this
            cases this
          have hmj : m = j := by omega
          have ixp : ixN (blsV n fun z => knB ls n i z || ((orb ls n (i : Int)).take m).contains (z : Int)).length (zN : Int) = some zN := ixN_nat (by rw [blsV_len]; exact hzN)
          walk_at "rx"
          refine ⟨Kn, _, _, zN, rfl, rfl, hK5, ixp, ?_⟩
          rw [blsV_set]
          generalize eA : upd H5 Kn _ = H6
          have hK6 : H6 Kn = some (.lst (blsV n fun z => (knB ls n i z || ((orb ls n (i : Int)).take m).contains (z : Int)) || decide (z = zN))) := by rw [← eA]; exact upd_same
          have hR6 : H6 R = some (.lst (((orb ls n (i : Int)).take m).map V.int)) := by rw [← eA, upd_ne nRK]; exact hR5
          have s6 : Same H1 H6 := eA ▸ s5.put zK1
          have keep6 : ∀ b u, b ≠ Kn → b ≠ R → H4 b = some u → H6 b = some u := fun b u h1 h2 h3 => by
            rw [← eA, upd_ne h1]
            exact keep b u h1 h2 h3
          walk_at "rx"
          refine ⟨R, _, _, rfl, rfl, hR6, by rw [List.length_map, List.length_take, orb_len]; exact big _ (by omega), ?_⟩
          generalize eB : upd H6 R _ = H7
          have hR7 : H7 R = some (.lst (((orb ls n (i : Int)).take (m + 1)).map V.int)) := by
            rw [← eB, upd_same, hsucc hlt, List.map_append]
            rfl
          have hK7 : H7 Kn = some (.lst (blsV n fun z => (knB ls n i z || ((orb ls n (i : Int)).take m).contains (z : Int)) || decide (z = zN))) := by rw [← eB, upd_ne nRK.symm]; exact hK6
          have s7 : Same H1 H7 := eB ▸ s6.put zR1
          have keep7 : ∀ b u, b ≠ Kn → b ≠ R → H4 b = some u → H7 b = some u := fun b u h1 h2 h3 => by
            rw [← eB, upd_ne h2]
            exact keep6 b u h1 h2 h3
          have hS7 := s7 _ _ hS1
          walk_at "rx"
          have esum : (((orb ls n (i : Int)).take m).map (moveZ ls)).sum + moveZ ls (zN : Int) = (((orb ls n (i : Int)).take (m + 1)).map (moveZ ls)).sum := by
            rw [hsucc hlt, List.map_append, sum_appI]
            show _ = _ + (moveZ ls (zN : Int) + 0)
            omega
          refine ⟨_, m + 1, by rw [← hstep _ rfl, ← esum]; rfl, by rw [nk, if_neg (by decide)]; omega, s7, keep7, ?_, hR7⟩
          rw [hK7, hsucc hlt]
          refine congrArg _ (congrArg _ (blsV_congr fun z _ => ?_))
          rw [Bool.eq_iff_iff, Bool.or_eq_true, Bool.or_eq_true, Bool.or_eq_true, decide_eq_true_eq, List.contains_iff_mem, List.contains_iff_mem, List.mem_append, List.mem_singleton]
          constructor
          · rintro ((h | h) | h)
            · exact .inl h
            · exact .inr (.inl h)
            · exact .inr (.inr (by omega))
          · rintro (h | h | h)
            · exact .inl (.inl h)
            · exact .inl (.inr h)
            · exact .inr (by omega)
        · have hb' : (knB ls n i zN || ((orb ls n (i : Int)).take m).contains (zN : Int)) = true := by
            rw [Bool.not_eq_true', Bool.not_eq_false] at hb
            exact hb
          refine ⟨_, m, by rw [ez]; rfl, ?_, s5, keep, hK5, hR5⟩
          cases e : knB ls n i i with
          | true => rw [if_pos e] at hm; rw [if_pos rfl]; exact hm
          | false =>
            rw [e, if_neg (by decide)] at hm
            rw [if_neg (by decide)]
            have h1 := knB_out W hi e hzm
            rw [h1, Bool.false_or, List.contains_iff_mem] at hb'
            have h2 : ¬ m < laneLen ls n (i : Int) := fun q => hno q hb'
            omega
      · rintro σ H5 ⟨o9', m, rfl, hm, s5, keep, hK5, hR5⟩
        walk_at "rx"
        intro em zem
        generalize eem : upd H5 em _ = H6
        obtain ⟨s6, hem⟩ := nw eem zem
        refine rd_neI (ms := []) (s6 _ _ hR5) hem ?_
        have hfl : (List.range (i + 1)).map (fun j : Nat => (j : Int)) = (List.range i).map (fun j : Nat => (j : Int)) ++ [(i : Int)] := by
          rw [List.range_succ, List.map_append]
          rfl
        have k46 : ∀ b u, b ≠ Kn → b ≠ R → H4 b = some u → H6 b = some u := fun b u h1 h2 h3 => s6 _ _ (keep b u h1 h2 h3)
        have hD6 : H6 D = some (.lst ws) := k46 D _ nDK nRD.symm (s4 _ _ hD')
        have s16 := s5.trans s6
        have hK6 := s6 _ _ hK5
        have zR2 := dom s' hD' zR
        have old : Fa2 (fun v e => LnAt H2 H6 v e ∧ ∃ b r, v = .ref b ∧ H6 b = some (.tup [.ref r, .int e.2]) ∧ b ≠ Kn ∧ r ≠ Kn) ws (((((List.range i).map fun j : Nat => (j : Int))).filter (isFirst ls n)).map fun c => (orb ls n c, shiftZ ls n c)) := hws.imp fun v e h => by
          obtain ⟨⟨b, r, e1, e2, e3, e4, e5⟩, b', r', f1, f2, f3, f4⟩ := h
          subst e1
          cases f1
          have q := e2.symm.trans f2
          injection q with q
          injection q with q
          injection q with q
          injection q with q
          subst q
          have g2 := k46 b _ f3 (fun z => by rw [z, zR] at e2; cases e2) (s4 _ _ e2)
          have g3 := k46 r _ f4 (fun z => by rw [z, zR] at e3; cases e3) (s4 _ _ e3)
          exact ⟨⟨b, r, rfl, g2, g3, e4, e5⟩, b, r, rfl, g2, f3, f4⟩
        cases eK : knB ls n i i with
        | true =>
          rw [if_pos eK] at hm
          subst hm
          rw [decide_eq_true (show (orb ls n (i : Int)).take 0 = [] from List.take_zero)]
          walk_at "rx"
          refine ⟨_, _, _, _, _, rfl, s16, ?_, ws, hD6, by omega, ?_⟩
          · rw [hK6]
            refine congrArg _ (congrArg _ (blsV_congr fun z _ => ?_))
            rw [knB_succ W hi, eK, List.take_zero, List.contains_nil]
            rfl
          · rw [hfl, List.filter_append, List.filter_cons_of_neg (by rw [knB_first W hi, eK]; decide), List.filter_nil, List.append_nil]
            exact old
        | false =>
          rw [eK, if_neg (by decide)] at hm
          have hml : m = laneLen ls n (i : Int) := by omega
          subst hml
          have htk : (orb ls n (i : Int)).take (laneLen ls n (i : Int)) = orb ls n (i : Int) := List.take_of_length_le (by rw [orb_len]; exact Nat.le_refl _)
          have hne : orb ls n (i : Int) ≠ [] := fun e => by
            have := orb_len ls n (i : Int)
            rw [e, List.length_nil] at this
            omega
          rw [htk] at hR5 hK6
          rw [htk, decide_eq_false hne, ← shiftZ_sum W]
          have hR6 := s6 _ _ hR5
          walk_at "rx"
          intro t1 zt1
          generalize et1 : upd H6 t1 _ = H7
          obtain ⟨s7, ht1'⟩ := nw et1 zt1
          have hD7 := s7 _ _ hD6
          walk_at "rx"
          refine ⟨D, _, _, rfl, rfl, hD7, by exact big _ (by omega), ?_⟩
          have n1D : t1 ≠ D := (ne_of_none hD6 zt1).symm
          have n1K : t1 ≠ Kn := (ne_of_none hK6 zt1).symm
          have z12 : H2 t1 = none := dom s16 hD6 zt1
          refine ⟨_, _, _, _, _, rfl, (s16.trans s7).put zD, ?_, ws ++ [.ref t1], upd_same, by rw [List.length_append]; exact Nat.succ_le_succ hwl, ?_⟩
          · rw [upd_ne nDK.symm, s7 _ _ hK6]
            refine congrArg _ (congrArg _ (blsV_congr fun z _ => ?_))
            rw [knB_succ W hi, eK]
            rfl
          · rw [hfl, List.filter_append, List.filter_cons_of_pos (by rw [knB_first W hi, eK]; decide), List.filter_nil, List.map_append]
            refine (old.imp fun v e h => ?_).snoc ⟨LnAt.put ⟨t1, R, rfl, ht1', s7 _ _ hR6, z12, zR2⟩ hD2, t1, R, rfl, by rw [upd_ne n1D]; exact ht1', n1K, nRK⟩
            obtain ⟨h1, b, r, h2, h3, h4, h5⟩ := h
            have hbD : b ≠ D := fun z => by
              obtain ⟨b', r', q1, q2, q3, q4, q5⟩ := h1.ex
              rw [h2] at q1
              cases q1
              rw [z, hD2] at q4
              cases q4
            exact ⟨(h1.same s7).put hD2, b, r, h2, by rw [upd_ne hbD]; exact s7 _ _ h3, h4, h5⟩
    · rintro σ H' ⟨o2, o6, o7, o8, o9, rfl, s', hK', ws, hD', hwl, hws⟩
      walk_at "rx"
      exact k D H' (s1.trans s') (LnsAt.old ⟨ws, hD', zD, (hws.imp fun v e h => h.1.old s2)⟩ s1)
end
abbrev s__law_turned : Stmt := top 34
abbrev N__law_turned : List Str := ["entries", "by", "at"]
theorem sc__law_turned : FnScope N__law_turned ["entries", "by"] (defScope s__law_turned) := ⟨rfl, rfl, rfl, by decide +kernel, rfl, by decide +kernel, by decide +kernel⟩
section
variable {P : Program} {w : World} {K : PySem.W.Frag} {mg : Str → Option Value} {base : Heap}
def spTurned : Sp := fun vs H Q _ => ∃ (p : Addr) (xs : List V) (b : Int) (d : PyData), vs = [.ref p, .int b] ∧ H p = some (.lst xs) ∧ (∀ H1, Same H H1 → Dp K H1 (.ref p) d) ∧ PlD d ∧ d ≠ .list [] ∧ 0 < xs.length ∧ xs.length ≤ 5000 ∧
  ∀ (t : Addr) (H' : Hp), Same H H' → H t = none → H' t = some (.lst (xs.drop (b % (xs.length : Int)).toNat ++ xs.take (b % (xs.length : Int)).toNat)) → Q (.ref t) H'
theorem ok__law_turned {f : Addr} {fd : FuncData} (F : Fun K "_law_turned" "_law_turned" s__law_turned f fd) (B : Bi mg) : FnOk P w K mg base CX0 2 f fd ["entries", "by"] (spTurned (K := K)) := by
  refine F.ok sc__law_turned (fun vs H Q E h => ?_) (fun cdv A outer s0 H vs Q E hr h => ?_)
  · obtain ⟨p, xs, b, d, rfl, _⟩ := h
    rfl
  · obtain ⟨p, xs, b, d, rfl, hp, hd, pd, nd, h0, hl, k⟩ := h
    refine ⟨_, (pss_cons (ps_if (pt_cmpR (op_eqD hr.units) (pv 0) (pe_lst pa_nil) (nomark _))
    (pss_one (ps_ret (pe_lst pa_nil)))
    pss_nil)
    (pss_cons (ps_set (i := 2) sc__law_turned.nd rfl (Or.inl rfl) (pe_op op_mod (pe_callTy call_int1 (by rfl) B.int_ (by decide +kernel) (pa_cons (pv 1) pa_nil)) (pe_callB call_len_seq (by rfl) B.len_ PySem.boot_len (pa_cons (pv 0) pa_nil))))
    (pss_one (ps_ret (pe_op op_cat (pe_slice sl_list (pv 0) (po_some (pv 2)) po_none) (pe_slice sl_list (pv 0) po_none (po_some (pv 2)))))))), ?_⟩
    have pn : (0 : Int) < (xs.length : Int) := by omega
    have m0 := Int.emod_nonneg b (show (xs.length : Int) ≠ 0 by omega)
    have m1 := Int.emod_lt_of_pos b pn
    obtain ⟨j, hj⟩ := Int.eq_ofNat_of_zero_le m0
    have ej : (b % (xs.length : Int)).toNat = j := by rw [hj]; rfl
    rw [ej] at k
    walk_at "rx"
    intro e0 ze0
    generalize ee0 : upd _ e0 _ = H1
    obtain ⟨s1, he0⟩ := nw ee0 ze0
    have hd1 : Dp K H1 (.ref p) d := hd _ s1
    refine rd_eqD hd1 (.lst (SqL.of he0) .nil) pd ⟨rfl, by decide⟩ (fun e => absurd e nd) (fun _ => ?_)
    have hp1 := s1 _ _ hp
    walk_at "rx"
    refine ⟨p, _, rfl, SqL.of hp1, fun u zu => ?_⟩
    rw [cutV_from j hj]
    generalize eu : upd _ u _ = H2
    obtain ⟨s2, hu⟩ := nw eu zu
    walk_at "rx"
    refine ⟨p, _, rfl, SqL.of (s2 _ _ hp1), fun u2 zu2 => ?_⟩
    rw [cutV_to j hj]
    generalize eu2 : upd _ u2 _ = H3
    obtain ⟨s3, hu2⟩ := nw eu2 zu2
    walk_at "rx"
    refine ⟨u, u2, _, _, rfl, rfl, s3 _ _ hu, hu2, by rw [List.length_drop, List.length_take]; exact Nat.le_trans (show _ ≤ 10000 by omega) (by decide), ?_⟩
    intro t zt
    generalize et : upd _ t _ = H4
    obtain ⟨s4, ht⟩ := nw et zt
    exact k t H4 (s1.trans (s2.trans (s3.trans s4))) (s1.free (s2.free (s3.free zt))) ht
end
abbrev s__law_right : Stmt := top 35
abbrev N__law_right : List Str := ["texts", "given", "span", "seen", "rests", "shift", "moved", "k", "step", "rest"]
theorem sc__law_right : FnScope N__law_right ["texts", "given"] (defScope s__law_right) := ⟨rfl, rfl, rfl, by decide +kernel, rfl, by decide +kernel, by decide +kernel⟩
section
variable {P : Program} {w : World} {K : PySem.W.Frag} {mg : Str → Option Value} {base : Heap}
theorem flat_le {L : List (List Int)} {r : List Int} (h : r ∈ L) : r.length ≤ L.flatten.length := by
  obtain ⟨A, B, rfl⟩ := List.append_of_mem h
  rw [List.flatten_append, List.flatten_cons, List.length_append, List.length_append]
  omega
theorem sorted_range {N : Nat} {s ns : List Int} (p : s.Perm ns) (h : s.Pairwise (· ≤ ·)) : s = ((List.range N).map fun k : Nat => (k : Int)) ↔ ns.Perm ((List.range N).map fun k : Nat => (k : Int)) := by
  constructor
  · intro e
    rw [← e]
    exact p.symm
  · intro q
    refine List.Perm.eq_of_pairwise (le := fun a b : Int => a ≤ b) (fun a b _ _ h1 h2 => Int.le_antisymm h1 h2) h ?_ (p.trans q)
    rw [List.pairwise_map]
    exact List.pairwise_lt_range.imp fun {a b} hab => Int.ofNat_le.mpr (Nat.le_of_lt hab)
def spRight (K : PySem.W.Frag) : Sp := fun vs H Q _ => ∃ (t p : Addr) (n : Nat) (ls : List Str) (L : List (List Int × Int)), vs = [.ref t, .ref p] ∧ H t = some (.lst (ls.map V.str)) ∧ Rows n ls ∧ n ≤ 1000 ∧ ls.length ≤ 5000 ∧ LnsIn H p L ∧ L.length ≤ 5000 ∧ (L.map (·.1)).flatten.length ≤ 2000000 ∧
  ∀ (b : Bool) (H' : Hp), Same H H' → (b = true ↔ RightL ls n L) → Q (.bl b) H'
theorem sumS_take {ls : List Str} {r : List Int} {j : Nat} {z : Int} (h : r[j]? = some z) : sumS ls (r.take (j + 1)) = sumS ls (r.take j) + moveZ ls z := by
  unfold sumS
  rw [List.take_add_one, h, List.map_append, List.sum_append]
  simp
theorem ok__law_right {f : Addr} {fd : FuncData} (F : Fun K "_law_right" "_law_right" s__law_right f fd) (B : Bi mg) (D_law_step : Df P w K mg base "_law_step" 2 ["texts", "start"] spLawStepZ) : FnOk P w K mg base CX0 4 f fd ["texts", "given"] (spRight K) := by
  refine F.ok sc__law_right (fun vs H Q E h => ?_) (fun cdv A outer s0 H vs Q E hr h => ?_)
  · obtain ⟨t, p, n, ls, L, rfl, _⟩ := h
    rfl
  · obtain ⟨t, p, n, ls, L, rfl, ht, W, hn, hl, RI, hL, hF, k⟩ := h
    refine ⟨_, (pss_cons (ps_set (i := 2) sc__law_right.nd rfl (Or.inl rfl) (pe_callB call_len_str (by rfl) B.len_ PySem.boot_len (pa_cons (pe_ix ix_list (pv 0) pe_int (fun _ _ => rfl)) pa_nil)))
    (pss_cons (ps_set (i := 3) sc__law_right.nd rfl (Or.inl rfl) (pe_lst pa_nil))
    (pss_cons (ps_for PassesOwn.never rfl (pi_list (pv 1)) (pg_tup rfl (pgs_cons (pg_name (i := 4) sc__law_right.nd rfl (Or.inl rfl)) (pgs_cons (pg_name (i := 5) sc__law_right.nd rfl (Or.inl rfl)) pgs_nil)))
    (pss_cons (ps_set (i := 6) sc__law_right.nd rfl (Or.inl rfl) pe_int)
    (pss_cons (ps_for PassesOwn.never rfl (pi_range1 (by rfl) B.range_ (pa_cons (pe_callB call_len_seq (by rfl) B.len_ PySem.boot_len (pa_cons (pv 4) pa_nil)) pa_nil)) (pg_name (i := 7) sc__law_right.nd rfl (Or.inl rfl))
    (pss_cons (ps_if (PW.pt (pw_or (pt_cmpR op_lt (pe_ix ix_list (pv 4) (pv 7) (fun _ _ => rfl)) pe_int (nomark _)) (pw_or1 (pt_cmpR op_ge (pe_ix ix_list (pv 4) (pv 7) (fun _ _ => rfl)) (pv 2) (nomark _)))))
    (pss_one (ps_ret pe_bl))
    pss_nil)
    (pss_cons (ps_expr (pe_bm PySem.F.plainAttrs_list PySem.F.slot_list_append PySem.F.type_list_append mt_append (pv 3) (pa_cons (pe_ix ix_list (pv 4) (pv 7) (fun _ _ => rfl)) pa_nil)))
    (pss_cons (ps_set (i := 8) sc__law_right.nd rfl (Or.inl rfl) (pe_df D_law_step (hr.mono (by first | decide | omega)) (by rfl) (pa_cons (pv 0) (pa_cons (pe_ix ix_list (pv 4) (pv 7) (fun _ _ => rfl)) pa_nil))))
    (pss_cons (ps_set (i := 6) sc__law_right.nd rfl (Or.inl rfl) (pe_op op_add (pv 6) (pv 8)))
    (pss_one (ps_if (pt_cmpR op_ne (pe_ix ix_list (pv 4) (pe_op op_mod (pe_op op_add (pv 7) pe_int) (pe_callB call_len_seq (by rfl) B.len_ PySem.boot_len (pa_cons (pv 4) pa_nil))) (fun _ _ => rfl)) (pe_op op_mod (pe_callTy call_int1 (by rfl) B.int_ (by decide +kernel) (pa_cons (pe_op op_add (pe_ix ix_list (pv 4) (pv 7) (fun _ _ => rfl)) (pv 8)) pa_nil)) (pv 2)) (nomark _))
    (pss_one (ps_ret pe_bl))
    pss_nil)))))))
    (pss_one (ps_if (PW.pt (pw_or (pt_cmpR (op_eqD hr.units) (pv 4) (pe_lst pa_nil) (nomark _)) (pw_or1 (pt_cmpR op_ne (pv 6) (pv 5) (nomark _)))))
    (pss_one (ps_ret pe_bl))
    pss_nil)))))
    (pss_one (ps_ret (pe_cmpR (op_eqD hr.units) (pe_callB cr_sortedI (by rfl) B.sorted_ (by decide +kernel) (pa_cons (pv 3) pa_nil)) (pe_lc (own := [("rest", 9)]) (g := gName 9) (tt := tYes) rfl sc__law_right.nd (pi_range1 (by rfl) B.range_ (pa_cons (pv 2) pa_nil)) (blkOk_by (N := N__law_right) (sc := defScope s__law_right) (by decide +kernel)) (fun _ _ _ _ _ => pg_name (i := 9) sc__law_right.nd rfl (Or.inl rfl)) (fun _ _ _ _ _ => pts_nil) (fun _ _ _ _ _ => (pv 9))) (nomark _))))))), ?_⟩
    obtain ⟨ws, hp, hws⟩ := id RI
    have n0 := W.pos
    have hn62 : (n : Int) < 2 ^ 62 := by omega
    have pn : (0 : Int) < (n : Int) := by omega
    have iz0 := atI_k' (i := 0) 0 rfl (getS W.ne)
    have hz0 : (ls[0]'W.ne).length = n := W.lenS (List.getElem_mem W.ne)
    have hzl : (ls[0]'W.ne).length ≤ sizeLine := by rw [hz0]; exact Nat.le_trans hn (by decide)
    walk_at "rx"
    rw [hz0]
    walk_at "rx"
    intro S zS
    generalize eS : upd _ S _ = H1
    obtain ⟨s1, hS⟩ := nw eS zS
    walk_at "rx"
    refine ⟨⟨_, SqL.of (s1 _ _ hp)⟩, ?_⟩
    refine for_list (K := K) (a := p) (xs := ws) (fun i σ H' => ∃ (o4 o5 o6 o7 o8 : Option V), σ = [some (.ref t), some (.ref p), some (.int n), some (.ref S), o4, o5, o6, o7, o8, none] ∧ Same H H' ∧ H' S = some (.lst ((((L.take i).map (·.1)).flatten).map V.int)) ∧ ∀ e ∈ L.take i, Goes n (stF ls n) e.1 ∧ e.2 = sumS ls e.1)
      ⟨none, none, none, none, none, rfl, s1, hS, fun r hr => by rw [List.take_zero] at hr; cases hr⟩ (fun i σ H' _ h => by
        obtain ⟨_, _, _, _, _, _, s, _⟩ := h
        exact SqL.of (s _ _ hp)) ?_ ?_
    · rintro i v σ H' hv ⟨o4, o5, o6, o7, o8, rfl, s2, hS2, hG⟩
      obtain ⟨e, he, ta, a, rfl, hta0, ha0⟩ := hws.of hv
      obtain ⟨r, sh⟩ := e
      have hil := (List.getElem?_eq_some_iff.mp he).1
      have hem := List.mem_of_getElem? he
      have hrl : r.length ≤ (L.map (·.1)).flatten.length := flat_le (List.mem_map.mpr ⟨(r, sh), hem, rfl⟩)
      have hta := s2 _ _ hta0
      have ha : H' a = some (.lst (r.map V.int)) := s2 _ _ ha0
      have ht2 := s2 _ _ ht
      have no : ¬ (Goes n (stF ls n) r ∧ sh = sumS ls r) → ∀ H3, Same H H3 → Q (.bl false) H3 := fun h H3 s3 => k false H3 s3 ⟨fun q => (nomatch q), fun q => absurd (q.1 (r, sh) hem) h⟩
      refine ⟨ta, _, rfl, SqT.of hta, rfl, _, _, rfl, _, _, rfl, rfl, ?_⟩
      have nSa : a ≠ S := fun e => by
        have h1 : H S = none := zS
        rw [← e, ha0] at h1
        cases h1
      have hr62 : (r.length : Int) < 2 ^ 62 := by omega
      have erl : ((r.map V.int).length : Int) = (r.length : Int) := by rw [List.length_map]
      walk_at "rx"
      rw [erl]
      walk_at "rx"
      refine for_range (lo := 0) (n := r.length) (fun j σ H' => ∃ (o7 o8 : Option V), σ = [some (.ref t), some (.ref p), some (.int n), some (.ref S), some (.ref a), some (.int sh), some (.int (sumS ls (r.take j))), o7, o8, none] ∧ Same H H' ∧ H' S = some (.lst ((((L.take i).map (·.1)).flatten ++ r.take j).map V.int)) ∧ (∀ q : Nat, q < j → ∀ z, r[q]? = some z → (0 ≤ z ∧ z < (n : Int)) ∧ r[(q + 1) % r.length]? = some (stF ls n z)))
        ⟨o7, o8, rfl, s2, by rw [List.take_zero, List.append_nil]; exact hS2, fun q hq => absurd hq (by omega)⟩ ?_ ?_
      · rintro j σ H4 hj ⟨o7, o8, rfl, s4, hS4, hq4⟩
        have hrp : 0 < r.length := by omega
        obtain ⟨z, hz⟩ : ∃ z, r[j]? = some z := ⟨_, List.getElem?_eq_getElem hj⟩
        have iz : atI (r.map V.int) (0 + (j : Int)) = some (V.int z) := atI_k' j (Int.zero_add _) (by rw [List.getElem?_map, hz]; rfl)
        have ha4 : H4 a = some (.lst (r.map V.int)) := s4 _ _ ha0
        have ht4 := s4 _ _ ht
        walk_at "rx"
        refine ite2 (fun hc => ?_) (fun hc => ?_)
        · have hz0 : z < 0 := of_decide_eq_true hc
          walk_at "rx"
          exact no (fun g => by have := g.1.on z (List.mem_of_getElem? hz); omega) _ s4
        have hz0 : 0 ≤ z := Int.not_lt.mp fun h => hc (decide_eq_true h)
        walk_at "rx"
        refine ite2 (fun hc => ?_) (fun hc => ?_)
        · have hz1 : z ≥ (n : Int) := of_decide_eq_true hc
          walk_at "rx"
          exact no (fun g => by have := g.1.on z (List.mem_of_getElem? hz); omega) _ s4
        have hz1 : z < (n : Int) := Int.not_le.mp fun h => hc (decide_eq_true h)
        have hsl : ((((L.take i).map (·.1)).flatten ++ r.take j).map V.int).length ≤ 2000000 := by
          have e : (L.take (i + 1)).map (·.1) = (L.take i).map (·.1) ++ [r] := by rw [List.take_add_one, he, List.map_append]; rfl
          have h1 : (((L.take (i + 1)).map (·.1)).flatten).length ≤ (L.map (·.1)).flatten.length := by
            conv => rhs; rw [← List.take_append_drop (i + 1) L, List.map_append]
            rw [List.flatten_append, List.length_append]
            omega
          rw [e, List.flatten_append, List.length_append] at h1
          rw [List.length_map, List.length_append, List.length_take]
          have : ([r].flatten).length = r.length := by rw [List.flatten_cons, List.flatten_nil, List.append_nil]
          omega
        walk_at "rx"
        refine ⟨S, _, _, rfl, rfl, hS4, Nat.lt_of_le_of_lt hsl (by decide), ?_⟩
        have s5 : Same H (upd H4 S (.lst ((((L.take i).map (·.1)).flatten ++ r.take j).map V.int ++ [V.int z]))) := s4.put zS
        have hS5 : upd H4 S (.lst ((((L.take i).map (·.1)).flatten ++ r.take j).map V.int ++ [V.int z])) S = some (.lst ((((L.take i).map (·.1)).flatten ++ r.take (j + 1)).map V.int)) := by
          have ap : ∀ X : List Int, X.map V.int ++ [V.int z] = (X ++ [z]).map V.int := fun X => by rw [List.map_append]; rfl
          rw [upd_same, ap, List.take_add_one, hz, List.append_assoc]
          rfl
        generalize upd H4 S _ = H5 at s5 hS5
        have ha5 : H5 a = some (.lst (r.map V.int)) := s5 _ _ ha0
        have ht5 := s5 _ _ ht
        have pr : (0 : Int) < ((r.map V.int).length : Nat) := by rw [List.length_map]; omega
        obtain ⟨z2, hz2⟩ : ∃ z2, r[(j + 1) % r.length]? = some z2 := ⟨_, List.getElem?_eq_getElem (Nat.mod_lt _ hrp)⟩
        have iz2 : atI (r.map V.int) ((0 + (j : Int) + 1) % ((r.map V.int).length : Nat)) = some (V.int z2) := by
          rw [List.length_map]
          refine atI_k' ((j + 1) % r.length) (by rw [Int.zero_add]; rfl) ?_
          rw [List.getElem?_map, hz2]
          rfl
        walk_at "rx"
        refine ⟨t, z, n, ls, rfl, ht5, W, by omega, ?_⟩
        walk_at "rx"
        have estep : z + (goZ ls z - z) = goZ ls z := by omega
        have key : decide (V.int z2 = V.int ((z + (goZ ls z - z)) % (n : Int))) = decide (z2 = stF ls n z) := by
          rw [estep]
          exact decide_eq_decide.mpr ⟨fun h => by injection h, fun h => congrArg V.int h⟩
        refine ite2 (fun hc => ?_) (fun hc => ?_)
        · replace hc : (!decide (V.int z2 = V.int ((z + (goZ ls z - z)) % (n : Int)))) = true := hc
          rw [key] at hc
          walk_at "rx"
          refine no (fun g => ?_) _ s5
          have := g.1.next j z hz
          rw [hz2] at this
          injection this with this
          rw [this, decide_eq_true (rfl : stF ls n z = stF ls n z)] at hc
          cases hc
        · replace hc : ¬ (!decide (V.int z2 = V.int ((z + (goZ ls z - z)) % (n : Int)))) = true := hc
          rw [key] at hc
          have e : z2 = stF ls n z := by
            rw [Bool.not_eq_true, Bool.not_eq_false', decide_eq_true_eq] at hc
            exact hc
          have esum : sumS ls (r.take (j + 1)) = sumS ls (r.take j) + (goZ ls z - z) := sumS_take hz
          refine ⟨some (.int (0 + (j : Int))), some (.int (goZ ls z - z)), ?_, s5, hS5, fun q hq w hw => ?_⟩
          · rw [esum]
            rfl
          by_cases hqj : q = j
          · subst hqj
            rw [hz] at hw
            injection hw with hw
            subst hw
            exact ⟨⟨hz0, hz1⟩, by rw [hz2, e]⟩
          · exact hq4 q (by omega) w hw
      · rintro σ H4 ⟨o7, o8, rfl, s4, hS4, hq4⟩
        rw [List.take_length] at hS4
        have ha4 : H4 a = some (.lst (r.map V.int)) := s4 _ _ ha0
        walk_at "rx"
        intro e0 ze0
        generalize ee0 : upd _ e0 _ = H3
        obtain ⟨s3, he0⟩ := nw ee0 ze0
        refine rd_eqI (ms := []) (s3 _ _ ha4) he0 ?_
        have s43 := s4.trans s3
        by_cases hr0 : r = []
        · rw [decide_eq_true hr0]
          walk_at "rx"
          exact no (fun g => g.1.ne hr0) _ s43
        rw [decide_eq_false hr0]
        have Gr : Goes n (stF ls n) r := by
          refine ⟨hr0, fun z hz => ?_, fun q z hz => ?_⟩
          · obtain ⟨q, hq⟩ := List.mem_iff_getElem?.mp hz
            exact (hq4 q (List.getElem?_eq_some_iff.mp hq).1 z hq).1
          · exact (hq4 q (List.getElem?_eq_some_iff.mp hz).1 z hz).2
        rw [List.take_length]
        walk_at "rx"
        refine ite2 (fun hc => ?_) (fun hc => ?_)
        · walk_at "rx"
          refine no (fun g => ?_) _ s43
          rw [g.2] at hc
          have e : decide (V.int (sumS ls r) = V.int (sumS ls r)) = true := decide_eq_true rfl
          rw [e] at hc
          cases hc
        · have e : sh = sumS ls r := by
            rw [Bool.not_eq_true, Bool.not_eq_false', decide_eq_true_eq] at hc
            injection hc with hc
            exact hc.symm
          refine ⟨_, _, _, _, _, rfl, s43, ?_, fun x hx => ?_⟩
          · have e2 : ((L.take (i + 1)).map (·.1)).flatten = ((L.take i).map (·.1)).flatten ++ r := by
              rw [List.take_add_one, he]
              simp
            rw [s3 _ _ hS4, e2]
          · rw [List.take_add_one, he] at hx
            rcases List.mem_append.mp hx with h | h
            · exact hG x h
            · obtain rfl := List.mem_singleton.mp h
              exact ⟨Gr, e⟩
    · rintro σ H' ⟨o4, o5, o6, o7, o8, rfl, s2, hS2, hG⟩
      rw [hws.1, List.take_length] at hS2 hG
      walk_at "rx"
      unfold tNil
      refine ⟨S, _, rfl, SqL.of hS2, fun sr q pm srt zq => ?_⟩
      generalize eq1 : upd H' q _ = H3
      obtain ⟨s3, hq⟩ := nw eq1 zq
      walk_at "rx"
      intro D zD
      refine lc_range (lo := 0) (n := n) (fun i H' => Same H3 H' ∧ H' D = some (.lst (((List.range i).map fun k : Nat => (k : Int)).map V.int))) ⟨L2.Same.upd zD, upd_same⟩ ?_ ?_
      · rintro i H4 hi ⟨s4, hD⟩
        refine ⟨rfl, ?_⟩
        walk_at "rx"
        refine ⟨_, hD, by rw [List.length_map, List.length_map, List.length_range]; exact Nat.lt_of_lt_of_le hi (Nat.le_trans hn (by decide)), s4.put zD, ?_⟩
        rw [upd_same, List.range_succ, List.map_append, List.map_append, Int.zero_add]
        rfl
      · rintro H4 ⟨s4, hD⟩
        walk_at "rx"
        refine rd_eqI (s4 _ _ hq) hD ?_
        refine k _ H4 (s2.trans (s3.trans s4)) ?_
        rw [decide_eq_true_eq, sorted_range pm srt]
        exact ⟨fun h => ⟨hG, h⟩, fun h => h.2⟩
end
abbrev s__law_base : Stmt := top 38
abbrev N__law_base : List Str := ["texts", "road", "by", "span", "line", "at"]
theorem sc__law_base : FnScope N__law_base ["texts", "road", "by"] (defScope s__law_base) := ⟨rfl, rfl, rfl, by decide +kernel, rfl, by decide +kernel, by decide +kernel⟩
section
variable {P : Program} {w : World} {K : PySem.W.Frag} {mg : Str → Option Value} {base : Heap}
/-- the rows that lead to the given ones on the road -/
def baseL (ls : List Str) (road b : Int) : List Str :=
  if road = 1 then ls.map (fun z => (⟨(pick (tl z) fun k => k + b).toArray⟩ : Str)) else if road = 2 then ls.reverse else if road = 3 then ls.map (mirS (b - 1)) else if road = 4 then ls.take (1 + (b % (ls.length : Int)).toNat) else ls
theorem base_rot (b : Int) : (fun z => (⟨(pick (tl z) fun k => k + b).toArray⟩ : Str)) = rotS (-b) := by
  funext z
  unfold rotS
  have e : (fun k : Int => k + b) = fun i => i - -b := by
    funext k
    omega
  rw [e]
theorem Rows.baseR {n : Nat} {ls : List Str} (W : Rows n ls) (road b : Int) : Rows n (baseL ls road b) := by
  unfold baseL
  split
  · rw [base_rot]
    exact W.rot _
  split
  · exact W.reverse
  split
  · exact W.mir _
  split
  · have h := W.ne
    refine ⟨by rw [List.length_take]; omega, fun z hz => W.len z (List.mem_of_mem_take hz), fun z hz => W.row z (List.mem_of_mem_take hz)⟩
  · exact W
theorem base_len (ls : List Str) (road b : Int) : (baseL ls road b).length ≤ ls.length := by
  unfold baseL
  split
  · rw [List.length_map]; exact Nat.le_refl _
  split
  · rw [List.length_reverse]; exact Nat.le_refl _
  split
  · rw [List.length_map]; exact Nat.le_refl _
  split
  · rw [List.length_take]; omega
  · exact Nat.le_refl _
theorem cut_to {xs : List V} {i : Int} (p : Nat) (e : i = (p : Int)) : cutV xs none (some i) = xs.take p := by
  subst e
  unfold cutV
  rw [sIx_nat]
  show (xs.drop 0).take (min p xs.length - 0) = _
  rw [List.drop_zero, Nat.sub_zero]
  by_cases h : p ≤ xs.length
  · rw [Nat.min_eq_left h]
  · rw [Nat.min_eq_right (by omega), List.take_of_length_le (Nat.le_refl _), List.take_of_length_le (by omega)]
theorem cut_from {xs : List V} {i : Int} (p : Nat) (e : i = (p : Int)) : cutV xs (some i) none = xs.drop p := by
  subst e
  unfold cutV
  rw [sIx_nat]
  show (xs.drop (min p xs.length)).take (xs.length - min p xs.length) = _
  by_cases h : p ≤ xs.length
  · rw [Nat.min_eq_left h, List.take_of_length_le (by rw [List.length_drop]; exact Nat.le_refl _)]
  · rw [Nat.min_eq_right (by omega), Nat.sub_self, List.take_zero, List.drop_of_length_le (by omega)]
def spBase : Sp := fun vs H Q _ => ∃ (l : Addr) (road b : Int) (n : Nat) (ls : List Str), vs = [.ref l, .int road, .int b] ∧ H l = some (.lst (ls.map V.str)) ∧ Rows n ls ∧ n ≤ 5000 ∧ ls.length ≤ 5000 ∧
  ∀ (q : Addr) (H' : Hp), Same H H' → H q = none → H' q = some (.lst ((baseL ls road b).map V.str)) → Q (.ref q) H'
theorem ok__law_base {f : Addr} {fd : FuncData} (F : Fun K "_law_base" "_law_base" s__law_base f fd) (B : Bi mg) : FnOk P w K mg base CX0 2 f fd ["texts", "road", "by"] spBase := by
  refine F.ok sc__law_base (fun vs H Q E h => ?_) (fun cdv A outer s H vs Q E hr h => ?_)
  · obtain ⟨l, road, b, n, ls, rfl, _⟩ := h
    rfl
  · obtain ⟨l, road, b, n, ls, rfl, hL, W, hn, hl, k⟩ := h
    refine ⟨_, (pss_cons (ps_set (i := 3) sc__law_base.nd rfl (Or.inr rfl) (pe_callB call_len_str (by rfl) B.len_ PySem.boot_len (pa_cons (pe_ix ix_list (pv 0) pe_int (fun _ _ => rfl)) pa_nil)))
    (pss_cons (ps_if (pt_cmpR op_eq (pv 1) pe_int (nomark _))
    (pss_one (ps_ret (pe_lc (own := [("line", 4)]) (g := gName 4) (tt := tYes) rfl sc__law_base.nd (pi_list (pv 0)) (blkOk_by (N := N__law_base) (sc := defScope s__law_base) (by decide +kernel)) (fun _ _ _ _ _ => pg_name (i := 4) sc__law_base.nd rfl (Or.inr rfl)) (fun _ _ _ _ _ => pts_nil) (fun _ _ _ _ _ => (pe_m1 PySem.F.slot_str_join PySem.F.type_str_join (show MtR _ _ (rJoin K) from mt_join) pe_str (pe_lc (own := [("at", 5)]) (g := gName 5) (tt := tYes) rfl sc__law_base.nd (pi_range1 (by rfl) B.range_ (pa_cons (pv 3) pa_nil)) (blkOk_by (N := N__law_base) (sc := relS { kind := PySem.ScopeKind.function, names := [ (PySem.Str.ofString ".0", PySem.NameKind.local), (PySem.Str.ofString "line", PySem.NameKind.cell), (PySem.Str.ofString "range", PySem.NameKind.globalImplicit), (PySem.Str.ofString "by", PySem.NameKind.free), (PySem.Str.ofString "span", PySem.NameKind.free)], isGenerator := false, isCoroutine := false, more := [] : PySem.Scope } (defScope s__law_base)) (by decide +kernel)) (fun _ _ _ _ _ => pg_name (i := 5) sc__law_base.nd rfl (Or.inl rfl)) (fun _ _ _ _ _ => pts_nil) (fun _ _ _ _ _ => (pe_ix ix_str (pv 4) (pe_op op_mod (pe_callTy call_int1 (by rfl) B.int_ (by decide +kernel) (pa_cons (pe_op op_add (pv 5) (pv 2)) pa_nil)) (pv 3)) (fun _ _ => rfl)))))))))
    pss_nil)
    (pss_cons (ps_if (pt_cmpR op_eq (pv 1) pe_int (nomark _))
    (pss_one (ps_ret (pe_revL (pv 0))))
    pss_nil)
    (pss_cons (ps_if (pt_cmpR op_eq (pv 1) pe_int (nomark _))
    (pss_one (ps_ret (pe_lc (own := [("line", 4)]) (g := gName 4) (tt := tYes) rfl sc__law_base.nd (pi_list (pv 0)) (blkOk_by (N := N__law_base) (sc := defScope s__law_base) (by decide +kernel)) (fun _ _ _ _ _ => pg_name (i := 4) sc__law_base.nd rfl (Or.inr rfl)) (fun _ _ _ _ _ => pts_nil) (fun _ _ _ _ _ => (pe_m1 PySem.F.slot_str_join PySem.F.type_str_join (show MtR _ _ (rJoin K) from mt_join) pe_str (pe_lc (own := [("at", 5)]) (g := gName 5) (tt := tYes) rfl sc__law_base.nd (pi_range1 (by rfl) B.range_ (pa_cons (pv 3) pa_nil)) (blkOk_by (N := N__law_base) (sc := relS { kind := PySem.ScopeKind.function, names := [ (PySem.Str.ofString ".0", PySem.NameKind.local), (PySem.Str.ofString "line", PySem.NameKind.cell), (PySem.Str.ofString "range", PySem.NameKind.globalImplicit), (PySem.Str.ofString "by", PySem.NameKind.free), (PySem.Str.ofString "span", PySem.NameKind.free)], isGenerator := false, isCoroutine := false, more := [] : PySem.Scope } (defScope s__law_base)) (by decide +kernel)) (fun _ _ _ _ _ => pg_name (i := 5) sc__law_base.nd rfl (Or.inl rfl)) (fun _ _ _ _ _ => pts_nil) (fun _ _ _ _ _ => (pe_ix ix_str (pv 4) (pe_op op_mod (pe_callTy call_int1 (by rfl) B.int_ (by decide +kernel) (pa_cons (pe_op op_sub (pe_op op_sub (pv 2) pe_int) (pv 5)) pa_nil)) (pv 3)) (fun _ _ => rfl)))))))))
    pss_nil)
    (pss_cons (ps_if (pt_cmpR op_eq (pv 1) pe_int (nomark _))
    (pss_one (ps_ret (pe_slice sl_list (pv 0) po_none (po_some (pe_op op_add pe_int (pe_op op_mod (pe_callTy call_int1 (by rfl) B.int_ (by decide +kernel) (pa_cons (pv 2) pa_nil)) (pe_callB call_len_seq (by rfl) B.len_ PySem.boot_len (pa_cons (pv 0) pa_nil))))))))
    pss_nil)
    (pss_one (ps_ret (pe_callTy call_list_of (by rfl) B.list_ (by decide +kernel) (pa_cons (pv 0) pa_nil))))))))), ?_⟩
    have iz := atI_k' (i := 0) 0 rfl (getS W.ne)
    have hz0 : (ls[0]'W.ne).length = n := W.lenS (List.getElem_mem W.ne)
    have hzl : (ls[0]'W.ne).length ≤ sizeLine := by rw [hz0]; exact Nat.le_trans hn (by decide)
    have hn0 := W.pos
    have hl0 := W.ne
    have hn62 : (n : Int) < 2 ^ 62 := by omega
    walk_at "rd"
    rw [hz0]
    refine ite2 (fun hc => ?_) (fun hc1 => ?_)
    · have er : road = 1 := by
        have e := of_decide_eq_true hc
        injection e
      walk_at "rd"
      refine ⟨⟨_, SqL.of hL⟩, fun D hD => ?_⟩
      refine lc_list (K := K) (a := l) (xs := ls.map V.str) (fun i H' => Same H H' ∧ H' D = some (.lst (((ls.take i).map (fun z => (⟨(pick (tl z) fun k => k + b).toArray⟩ : Str))).map V.str))) ⟨L2.Same.upd hD, upd_same⟩ (fun i H' _ h => SqL.of (h.1 _ _ hL)) ?_ ?_
      · rintro i x H' hi ⟨sm, hD'⟩
        have hil : i < ls.length := by
          have := (List.getElem?_eq_some_iff.mp hi).1
          rw [List.length_map] at this
          exact this
        rw [getS hil] at hi
        obtain rfl := Option.some.inj hi
        have hzi : (tl ls[i]).length = n := W.len _ (List.getElem_mem hil)
        refine ⟨rfl, ?_⟩
        walk_at "rd"
        intro D2 hD2
        refine lc_range (lo := 0) (n := n) (fun j H2 => Same H' H2 ∧ H2 D2 = some (.lst ((((pick (tl ls[i]) fun k => k + b).take j).map fun c => (⟨#[c]⟩ : Str)).map V.str))) ⟨L2.Same.upd hD2, upd_same⟩ ?_ ?_
        · rintro j H2 hj ⟨sm2, hD2'⟩
          refine ⟨rfl, ?_⟩
          have hpz : (0 : Int) < (n : Int) := by omega
          have hzs : ls[i].length ≤ sizeLine := by rw [len_tl, hzi]; exact Nat.le_trans hn (by decide)
          have hat : atI (ls[i].cps.toList) ((0 + (j : Int) + b) % (n : Int)) = some (sg (tl ls[i]) (0 + (j : Int) + b)) := by
            have q := atI_sg (W.row _ (List.getElem_mem hil)).ne (0 + (j : Int) + b)
            rw [hzi] at q
            exact q
          walk_at "rd"
          refine ⟨_, _, _, rfl, rfl, hzs, hat, ?_⟩
          have hjp : j < (pick (tl ls[i]) fun k => k + b).length := by rw [pick_len, hzi]; exact hj
          refine ⟨_, hD2', by rw [List.length_map, List.length_map, List.length_take]; exact Nat.lt_of_le_of_lt (Nat.le_trans (Nat.min_le_left _ _) (Nat.le_of_lt (Nat.lt_of_lt_of_le hj hn))) (by decide), sm2.put hD2, ?_⟩
          have hg : (pick (tl ls[i]) fun k => k + b)[j] = sg (tl ls[i]) (0 + (j : Int) + b) := by
            have q := pick_get (l := tl ls[i]) (f := fun k => k + b) (k := j) (by omega)
            rw [List.getElem?_eq_getElem hjp] at q
            rw [Option.some.inj q, Int.zero_add]
          rw [upd_same, List.take_add_one, List.getElem?_eq_getElem hjp, hg, List.map_append, List.map_append]
          rfl
        · rintro H2 ⟨sm2, hD2'⟩
          have hlp : (pick (tl ls[i]) fun k => k + b).length = n := by rw [pick_len, hzi]
          rw [List.take_of_length_le (by omega)] at hD2'
          refine ⟨_, D2, _, rfl, rfl, .inl (SqL.of hD2'), ?_, ?_⟩
          · rw [sum_singles, List.length_map, hlp, show (Str.ofString "").length = 0 by decide +kernel]
            omega
          rw [join_singles]
          refine ⟨_, sm2 _ _ hD', by rw [List.length_map, List.length_map, List.length_take]; exact Nat.lt_of_le_of_lt (Nat.le_trans (Nat.min_le_right _ _) hl) (by decide), (sm.trans sm2).put hD, ?_⟩
          rw [upd_same, take_snoc hil, List.map_append]
          rfl
      · rintro H' ⟨sm, hD'⟩
        rw [List.length_map, List.take_length] at hD'
        exact k D H' sm hD (by unfold baseL; rw [if_pos er]; exact hD')
    have n1 : ¬ road = 1 := fun e => hc1 (decide_eq_true (congrArg V.int e))
    walk_at "rd"
    refine ite2 (fun hc => ?_) (fun hc2 => ?_)
    · have er : road = 2 := by
        have e := of_decide_eq_true hc
        injection e
      walk_at "rd"
      refine ⟨l, _, rfl, SqL.of hL, fun q hq => ?_⟩
      generalize eq : upd _ q _ = H5
      obtain ⟨s5, hq5⟩ := nw eq hq
      rw [← List.map_reverse] at hq5
      exact k q H5 s5 hq (by unfold baseL; rw [if_neg n1, if_pos er]; exact hq5)
    have n2 : ¬ road = 2 := fun e => hc2 (decide_eq_true (congrArg V.int e))
    walk_at "rd"
    refine ite2 (fun hc => ?_) (fun hc3 => ?_)
    · have er : road = 3 := by
        have e := of_decide_eq_true hc
        injection e
      walk_at "rd"
      refine ⟨⟨_, SqL.of hL⟩, fun D hD => ?_⟩
      refine lc_list (K := K) (a := l) (xs := ls.map V.str) (fun i H' => Same H H' ∧ H' D = some (.lst (((ls.take i).map (mirS (b - 1))).map V.str))) ⟨L2.Same.upd hD, upd_same⟩ (fun i H' _ h => SqL.of (h.1 _ _ hL)) ?_ ?_
      · rintro i x H' hi ⟨sm, hD'⟩
        have hil : i < ls.length := by
          have := (List.getElem?_eq_some_iff.mp hi).1
          rw [List.length_map] at this
          exact this
        rw [getS hil] at hi
        obtain rfl := Option.some.inj hi
        have hzi : (tl ls[i]).length = n := W.len _ (List.getElem_mem hil)
        refine ⟨rfl, ?_⟩
        walk_at "rd"
        intro D2 hD2
        refine lc_range (lo := 0) (n := n) (fun j H2 => Same H' H2 ∧ H2 D2 = some (.lst ((((pick (tl ls[i]) fun k => b - 1 - k).take j).map fun c => (⟨#[c]⟩ : Str)).map V.str))) ⟨L2.Same.upd hD2, upd_same⟩ ?_ ?_
        · rintro j H2 hj ⟨sm2, hD2'⟩
          refine ⟨rfl, ?_⟩
          have hpz : (0 : Int) < (n : Int) := by omega
          have hzs : ls[i].length ≤ sizeLine := by rw [len_tl, hzi]; exact Nat.le_trans hn (by decide)
          have hat : atI (ls[i].cps.toList) ((b - 1 - (0 + (j : Int))) % (n : Int)) = some (sg (tl ls[i]) (b - 1 - (0 + (j : Int)))) := by
            have q := atI_sg (W.row _ (List.getElem_mem hil)).ne (b - 1 - (0 + (j : Int)))
            rw [hzi] at q
            exact q
          walk_at "rd"
          refine ⟨_, _, _, rfl, rfl, hzs, hat, ?_⟩
          have hjp : j < (pick (tl ls[i]) fun k => b - 1 - k).length := by rw [pick_len, hzi]; exact hj
          refine ⟨_, hD2', by rw [List.length_map, List.length_map, List.length_take]; exact Nat.lt_of_le_of_lt (Nat.le_trans (Nat.min_le_left _ _) (Nat.le_of_lt (Nat.lt_of_lt_of_le hj hn))) (by decide), sm2.put hD2, ?_⟩
          have hg : (pick (tl ls[i]) fun k => b - 1 - k)[j] = sg (tl ls[i]) (b - 1 - (0 + (j : Int))) := by
            have q := pick_get (l := tl ls[i]) (f := fun k => b - 1 - k) (k := j) (by omega)
            rw [List.getElem?_eq_getElem hjp] at q
            rw [Option.some.inj q, Int.zero_add]
          rw [upd_same, List.take_add_one, List.getElem?_eq_getElem hjp, hg, List.map_append, List.map_append]
          rfl
        · rintro H2 ⟨sm2, hD2'⟩
          have hlp : (pick (tl ls[i]) fun k => b - 1 - k).length = n := by rw [pick_len, hzi]
          rw [List.take_of_length_le (by omega)] at hD2'
          refine ⟨_, D2, _, rfl, rfl, .inl (SqL.of hD2'), ?_, ?_⟩
          · rw [sum_singles, List.length_map, hlp, show (Str.ofString "").length = 0 by decide +kernel]
            omega
          rw [join_singles]
          refine ⟨_, sm2 _ _ hD', by rw [List.length_map, List.length_map, List.length_take]; exact Nat.lt_of_le_of_lt (Nat.le_trans (Nat.min_le_right _ _) hl) (by decide), (sm.trans sm2).put hD, ?_⟩
          rw [upd_same, take_snoc hil, List.map_append]
          rfl
      · rintro H' ⟨sm, hD'⟩
        rw [List.length_map, List.take_length] at hD'
        exact k D H' sm hD (by unfold baseL; rw [if_neg n1, if_neg n2, if_pos er]; exact hD')
    have n3 : ¬ road = 3 := fun e => hc3 (decide_eq_true (congrArg V.int e))
    walk_at "rd"
    have pl : (0 : Int) < ((ls.map V.str).length : Nat) := by rw [List.length_map]; omega
    refine ite2 (fun hc => ?_) (fun hc4 => ?_)
    · have er : road = 4 := by
        have e := of_decide_eq_true hc
        injection e
      walk_at "rd"
      refine ⟨l, _, rfl, SqL.of hL, fun q hq => ?_⟩
      generalize eq : upd _ q _ = H5
      obtain ⟨s5, hq5⟩ := nw eq hq
      refine k q H5 s5 hq ?_
      unfold baseL
      rw [if_neg n1, if_neg n2, if_neg n3, if_pos er, hq5, cut_to (1 + (b % (ls.length : Int)).toNat) (by
        have h0 := Int.emod_nonneg b (show (ls.length : Int) ≠ 0 by omega)
        rw [List.length_map]
        omega), List.map_take]
    have n4 : ¬ road = 4 := fun e => hc4 (decide_eq_true (congrArg V.int e))
    walk_at "rd"
    intro q hq
    generalize eq : upd _ q _ = H5
    obtain ⟨s5, hq5⟩ := nw eq hq
    exact k q H5 s5 hq (by unfold baseL; rw [if_neg n1, if_neg n2, if_neg n3, if_neg n4]; exact hq5)
end
abbrev s__law_led : Stmt := top 39
abbrev N__law_led : List Str := ["base", "texts", "road", "by", "cut"]
theorem sc__law_led : FnScope N__law_led ["base", "texts", "road", "by"] (defScope s__law_led) := ⟨rfl, rfl, rfl, by decide +kernel, rfl, by decide +kernel, by decide +kernel⟩
section
variable {P : Program} {w : World} {K : PySem.W.Frag} {mg : Str → Option Value} {base : Heap}
theorem led_rows {n : Nat} {ls : List Str} (W : Rows n ls) {c : Nat} : joinR (Nat.lcm n n) (ls.take c) (ls.drop c) = ls := by
  unfold joinR
  rw [List.take_append_drop, Nat.lcm_self]
  refine Eq.trans (List.map_congr_left fun z hz => ?_) (List.map_id ls)
  refine ext_tl ?_
  unfold strS
  rw [tl_repS, W.len z hz, Nat.div_self W.pos]
  simp
theorem rot_zero (ls : List Str) : ls.map (rotS 0) = ls := by
  refine Eq.trans (List.map_congr_left fun z hz => ?_) (List.map_id ls)
  refine ext_tl ?_
  rw [tl_rotS]
  refine pick_id fun i => ?_
  rw [Int.sub_zero]
theorem Rows.dropR {n : Nat} {ls : List Str} (W : Rows n ls) {c : Nat} (h : c < ls.length) : Rows n (ls.drop c) :=
  ⟨by rw [List.length_drop]; omega, fun z hz => W.len z (List.mem_of_mem_drop hz), fun z hz => W.row z (List.mem_of_mem_drop hz)⟩
def spLed (C : Addr) : Sp := fun vs H Q _ => ∃ (p l : Addr) (road b : Int) (n : Nat) (ls : List Str), vs = [.ref p, .ref l, .int road, .int b] ∧ RuleAt C H p (baseL ls road b) ∧ H l = some (.lst (ls.map V.str)) ∧ Rows n ls ∧ n ≤ 1000 ∧ ls.length ≤ 5000 ∧ 0 ≤ b ∧
  ∀ (q : Addr) (H' : Hp), Same H H' → RuleAt C H' q ls → Q (.ref q) H'
theorem ok__law_led {f C : Addr} {fd : FuncData} (F : Fun K "_law_led" "_law_led" s__law_led f fd) (B : Bi mg) (T : Rl K C) (M_Rule : Mkr P w K mg base "Rule" C 3 ["self", "texts"] (spInit C)) (E_inverse : Me P w K mg base C "inverse" 5 ["self"] (spInverse C)) (E_shifted : Me P w K mg base C "shifted" 5 ["self", "by"] (spShifted C))
    (E_mirrored : Me P w K mg base C "mirrored" 5 ["self", "n"] (spMirrored C)) (O_add : Me P w K mg base C "__add__" 6 ["self", "other"] (spThen C)) : FnOk P w K mg base CX0 7 f fd ["base", "texts", "road", "by"] (spLed C) := by
  refine F.ok sc__law_led (fun vs H Q E h => ?_) (fun cdv A outer s H vs Q E hr h => ?_)
  · obtain ⟨p, l, road, b, n, ls, rfl, _⟩ := h
    rfl
  · obtain ⟨p, l, road, b, n, ls, rfl, R, hL, W, hn, hl, hb, k⟩ := h
    refine ⟨_, (pss_cons (ps_if (pt_cmpR op_eq (pv 2) pe_int (nomark _))
    (pss_one (ps_ret (pe_me (pv 0) E_shifted (hr.mono (by first | decide | omega)) (pa_cons (pv 3) pa_nil))))
    pss_nil)
    (pss_cons (ps_if (pt_cmpR op_eq (pv 2) pe_int (nomark _))
    (pss_one (ps_ret (pe_me0 (pv 0) E_inverse (hr.mono (by first | decide | omega)))))
    pss_nil)
    (pss_cons (ps_if (pt_cmpR op_eq (pv 2) pe_int (nomark _))
    (pss_one (ps_ret (pe_me (pv 0) E_mirrored (hr.mono (by first | decide | omega)) (pa_cons (pe_op op_add (pv 3) pe_int) pa_nil))))
    pss_nil)
    (pss_cons (ps_set (i := 4) sc__law_led.nd rfl (Or.inl rfl) (pe_op op_add pe_int (pe_op op_mod (pe_callTy call_int1 (by rfl) B.int_ (by decide +kernel) (pa_cons (pv 3) pa_nil)) (pe_callB call_len_seq (by rfl) B.len_ PySem.boot_len (pa_cons (pv 1) pa_nil)))))
    (pss_cons (ps_if (PW.pt (pw_and (pt_cmpR op_eq (pv 2) pe_int (nomark _)) (pw_and1 (pt_cmpR op_lt (pv 4) (pe_callB call_len_seq (by rfl) B.len_ PySem.boot_len (pa_cons (pv 1) pa_nil)) (nomark _)))))
    (pss_one (ps_ret (pe_op (op_addOwn O_add T.sf (hr.mono (by first | decide | omega))) (pv 0) (pe_mk M_Rule (hr.mono (by first | decide | omega)) (by rfl) (pa_cons (pe_slice sl_list (pv 1) (po_some (pv 4)) po_none) pa_nil)))))
    pss_nil)
    (pss_one (ps_ret (pv 0)))))))), ?_⟩
    have WB := W.baseR road b
    have lB := base_len ls road b
    have hl0 := W.ne
    walk_at "rd"
    refine ite2 (fun hc => ?_) (fun hc1 => ?_)
    · have er : road = 1 := by
        have e := of_decide_eq_true hc
        injection e
      walk_at "rd"
      refine rd_sh R WB (by omega) (by omega) (fun Q' q => ⟨_, rfl, q⟩) fun r H4 s4 zr RR => ?_
      refine k r H4 s4 ?_
      have e : (baseL ls road b).map (rotS b) = ls := by
        unfold baseL
        rw [if_pos er, base_rot, rot_rot W]
        rw [show -b + b = 0 by omega]
        exact rot_zero ls
      rw [← e]
      exact RR
    have n1 : ¬ road = 1 := fun e => hc1 (decide_eq_true (congrArg V.int e))
    walk_at "rd"
    refine ite2 (fun hc => ?_) (fun hc2 => ?_)
    · have er : road = 2 := by
        have e := of_decide_eq_true hc
        injection e
      walk_at "rd"
      refine rd_inv R WB (by omega) fun r H4 s4 zr RR => ?_
      refine k r H4 s4 ?_
      have e : (baseL ls road b).reverse = ls := by
        unfold baseL
        rw [if_neg n1, if_pos er, List.reverse_reverse]
      rw [← e]
      exact RR
    have n2 : ¬ road = 2 := fun e => hc2 (decide_eq_true (congrArg V.int e))
    walk_at "rd"
    refine ite2 (fun hc => ?_) (fun hc3 => ?_)
    · have er : road = 3 := by
        have e := of_decide_eq_true hc
        injection e
      walk_at "rd"
      refine rd_mi R WB (by omega) (by omega) (show 1 ≤ b + 1 by omega) (fun Q' q => ⟨_, rfl, _, _, rfl, rfl, q⟩) fun r H4 s4 zr RR => ?_
      refine k r H4 s4 ?_
      have e : (baseL ls road b).map (mirS (b + 1 - 2)) = ls := by
        unfold baseL
        rw [if_neg n1, if_neg n2, if_pos er, show b + 1 - 2 = b - 1 by omega, mir_mir W, show b - 1 - (b - 1) = 0 by omega]
        exact rot_zero ls
      rw [← e]
      exact RR
    have n3 : ¬ road = 3 := fun e => hc3 (decide_eq_true (congrArg V.int e))
    have pl : (0 : Int) < ((ls.map V.str).length : Nat) := by rw [List.length_map]; omega
    have h0 := Int.emod_nonneg b (show (ls.length : Int) ≠ 0 by omega)
    have h1 := Int.emod_lt_of_pos b (show (0 : Int) < (ls.length : Int) by omega)
    have ec : 1 + b % ((ls.map V.str).length : Int) = ((1 + (b % (ls.length : Int)).toNat : Nat) : Int) := by
      rw [List.length_map]
      omega
    have hlm : (ls.map V.str).length = ls.length := List.length_map _
    walk_at "rd"
    generalize ek : 1 + (b % (ls.length : Int)).toNat = c at ec
    refine cutAnd (fun σ H' => H = H' ∧ baseL ls road b = ls ∧ σ = [some (.ref p), some (.ref l), some (.int road), some (.int b), some (.int (1 + b % ((ls.map V.str).length : Int)))]) ?_ ?_ ?_
    · rintro σ _ ⟨rfl, e, rfl⟩
      rw [e] at R
      walk_at "rd"
      exact k p H (Same.refl _) R
    · intro hT hc
      have er : road = 4 := by
        have e := of_decide_eq_true hc
        injection e
      have eB : baseL ls road b = ls.take c := by
        unfold baseL
        rw [if_neg n1, if_neg n2, if_neg n3, if_pos er, ek]
      rw [eB] at R WB
      walk_at "rd"
      refine ite2 (fun hx => ?_) (fun hx => ?_)
      · have hcl : c < ls.length := by
          have := of_decide_eq_true hx
          rw [ec, hlm] at this
          omega
        walk_at "rd"
        refine ⟨l, _, rfl, SqL.of hL, fun q hq => ?_⟩
        generalize eq : upd _ q _ = H5
        obtain ⟨s5, hq5⟩ := nw eq hq
        rw [cut_from c ec, ← List.map_drop] at hq5
        walk_at "rd"
        intro x dx nx ndx _
        refine mk_at hq5 (W.dropR hcl) (by omega) nx ndx fun H9 s9 RX => ⟨rfl, ?_⟩
        have s59 := s5.trans s9
        refine rd_add (R.same s59) RX WB (W.dropR hcl) (by omega) (by omega) (by rw [Nat.lcm_self]; omega) (by rw [List.length_take, List.length_drop]; omega) fun r H6 s6 zr RR => ?_
        rw [led_rows W] at RR
        exact k r H6 (s59.trans s6) RR
      · refine hT _ _ ⟨rfl, ?_, rfl⟩
        have : ¬ ((c : Int) < (ls.length : Int)) := fun z => hx (decide_eq_true (by rw [ec, hlm]; exact z))
        rw [eB, List.take_of_length_le (by omega)]
    · intro hc
      have n4 : ¬ road = 4 := fun e => by
        rw [decide_eq_true (congrArg V.int e)] at hc
        cases hc
      refine ⟨rfl, ?_, rfl⟩
      unfold baseL
      rw [if_neg n1, if_neg n2, if_neg n3, if_neg n4]
end
abbrev s_law : Stmt := top 40
abbrev N_law : List Str := ["script", "source", "road", "by", "ahead", "kind", "turns", "texts", "lines", "base", "made", "good", "given", "passed", "answer", "rests", "shift"]
theorem sc_law : FnScope N_law ["script"] (defScope s_law) := ⟨rfl, rfl, rfl, by decide +kernel, rfl, by decide +kernel, by decide +kernel⟩
section
variable {P : Program} {w : World} {K : PySem.W.Frag} {mg : Str → Option Value} {base : Heap}
def spLaw (K : PySem.W.Frag) : Sp := fun vs H Q _ => ∃ (a : Addr) (ns : List Int), vs = [.ref a] ∧ SqL K H a (ns.map V.int) ∧ ns.length ≤ 63 ∧ ∀ H', Q (.bl true) H'
abbrev gApp : List V → List V → List V := fun vs zs => vs ++ zs
theorem Goes.turn {n : Nat} {f : Int → Int} {r : List Int} (G : Goes n f r) {i : Nat} (hi : i < r.length) : Goes n f (r.drop i ++ r.take i) := by
  by_cases h0 : i = 0
  · subst h0
    rw [List.drop_zero, List.take_zero, List.append_nil]
    exact G
  · have hl : (r.drop i ++ r.take i).length = r.length := by rw [List.length_append, List.length_drop, List.length_take]; omega
    have e : (r.drop i ++ r.take i).drop (r.length - i) ++ (r.drop i ++ r.take i).take (r.length - i) = r := by
      rw [List.drop_left' (by rw [List.length_drop]), List.take_left' (by rw [List.length_drop]), List.take_append_drop]
    exact Goes.of_turn (i := r.length - i) (by rw [hl]; omega) (by rw [e]; exact G)
theorem turn_perm {α : Type} (r : List α) (i : Nat) : (r.drop i ++ r.take i).Perm r := by
  have := List.perm_append_comm (l₁ := r.drop i) (l₂ := r.take i)
  rw [List.take_append_drop] at this
  exact this
theorem flat_map {L : List (List Int)} (h : List Int → List Int) (p : ∀ r, (h r).Perm r) : ((L.map h).flatten).Perm L.flatten := by
  induction L with
  | nil => exact List.Perm.refl _
  | cons r L ih =>
    rw [List.map_cons, List.flatten_cons, List.flatten_cons]
    exact (p r).append ih
theorem rings_right {N : Nat} {f : Int → Int} (C : Cyc N f) : (∀ r ∈ ringsL f N, Goes N f r) ∧ (ringsL f N).flatten.Perm ((List.range N).map fun k : Nat => (k : Int)) := by
  refine ⟨fun r hr => ?_, C.perm⟩
  unfold ringsL at hr
  obtain ⟨c, hc, rfl⟩ := List.mem_map.mp hr
  obtain ⟨c0, c1, _⟩ := mem_heads.mp hc
  exact Goes.of_ring C c0 c1
theorem flat_len {N : Nat} {L : List (List Int)} (p : L.flatten.Perm ((List.range N).map fun k : Nat => (k : Int))) : L.flatten.length = N := by
  rw [p.length_eq, List.length_map, List.length_range]
theorem many_le {L : List (List Int)} (h : ∀ r ∈ L, r ≠ []) : L.length ≤ L.flatten.length := by
  induction L with
  | nil => exact Nat.le_refl _
  | cons r L ih =>
    have := ih fun y hy => h y (List.mem_cons_of_mem _ hy)
    have h0 := List.length_pos_iff.mpr (h r (List.mem_cons_self ..))
    rw [List.flatten_cons, List.length_append, List.length_cons]
    omega
theorem flat_bound {L : List (List Int)} {c : Nat} (h : ∀ r ∈ L, r.length ≤ c) : L.flatten.length ≤ L.length * c := by
  induction L with
  | nil => exact Nat.zero_le _
  | cons r L ih =>
    have := ih fun y hy => h y (List.mem_cons_of_mem _ hy)
    have h0 := h r (List.mem_cons_self ..)
    rw [List.flatten_cons, List.length_append, List.length_cons, Nat.add_mul, Nat.one_mul]
    omega
theorem fa2_turn {α : Type} {R : V → α → Prop} {us : List V} {L : List α} (F : Fa2 R us L) {j : Nat} (hj : j ≤ us.length) : Fa2 R (us.drop j ++ us.take j) (L.drop j ++ L.take j) := by
  have hl := F.1
  refine ⟨by rw [List.length_append, List.length_append, List.length_drop, List.length_drop, List.length_take, List.length_take, hl], fun i v e hv he => ?_⟩
  by_cases h : i < us.length - j
  · rw [List.getElem?_append_left (by rw [List.length_drop]; exact h), List.getElem?_drop] at hv
    rw [List.getElem?_append_left (by rw [List.length_drop]; omega), List.getElem?_drop] at he
    exact F.2 _ _ _ hv he
  · rw [List.getElem?_append_right (by rw [List.length_drop]; omega), List.length_drop] at hv
    rw [List.getElem?_append_right (by rw [List.length_drop]; omega), List.length_drop, ← hl] at he
    have h2 := (List.getElem?_eq_some_iff.mp hv).1
    rw [List.length_take] at h2
    rw [List.getElem?_take_of_lt (by omega)] at hv he
    exact F.2 _ _ _ hv he
theorem RuleAt.out28 {C : Addr} {H : Hp} {s g sm p : Addr} {m : Nat} {ls : List Str} (R : RuleAt C H p ls) (S : Src H s g sm m) : RuleAt C (out s g H) p ls := by
  obtain ⟨dx, u, h1, h2⟩ := R
  obtain ⟨gs, ss, pl, st, e1, e2, _⟩ := S.ex
  refine ⟨dx, u, ?_, ?_⟩
  · rw [out_at (ne_of h1 e1 (by intro z; cases z)) (ne_of h1 e2 (by intro z; cases z))]
    exact h1
  · rw [out_at (ne_of h2 e1 (by intro z; cases z)) (ne_of h2 e2 (by intro z; cases z))]
    exact h2
/-- a lane told from another rest on -/
def tnL (tu : Int) (e : List Int × Int) : List Int × Int := (e.1.drop ((tu + (e.1.length : Int) / 2) % (e.1.length : Int)).toNat ++ e.1.take ((tu + (e.1.length : Int) / 2) % (e.1.length : Int)).toNat, e.2)
theorem tn_lt {tu : Int} {r : List Int} (h : r ≠ []) : ((tu + (r.length : Int) / 2) % (r.length : Int)).toNat < r.length := by
  have hp := List.length_pos_iff.mpr h
  have := Int.emod_lt_of_pos (tu + (r.length : Int) / 2) (show (0 : Int) < (r.length : Int) by omega)
  have := Int.emod_nonneg (tu + (r.length : Int) / 2) (show (r.length : Int) ≠ 0 by omega)
  omega
theorem lanes_right {n : Nat} {ls : List Str} (W : Rows n ls) : RightL ls n (lanesL ls n) := by
  have C := stF_cyc W
  obtain ⟨g1, g2⟩ := rings_right C
  rw [lanes_rings W]
  refine ⟨fun e he => ?_, ?_⟩
  · obtain ⟨r, hr, rfl⟩ := List.mem_map.mp he
    exact ⟨g1 r hr, rfl⟩
  · rw [List.map_map]
    have e : (ringsL (stF ls n) n).map ((·.1) ∘ fun r => (r, sumS ls r)) = ringsL (stF ls n) n := (List.map_congr_left fun x _ => rfl).trans (List.map_id _)
    rw [e]
    exact g2
theorem right_turn {n : Nat} {ls : List Str} {L : List (List Int × Int)} (tu : Int) (j : Nat) (R : RightL ls n L) : RightL ls n ((L.map (tnL tu)).drop j ++ (L.map (tnL tu)).take j) := by
  obtain ⟨h1, h2⟩ := R
  refine ⟨fun e he => ?_, ?_⟩
  · have he := ((turn_perm _ j).mem_iff).mp he
    obtain ⟨x, hx, rfl⟩ := List.mem_map.mp he
    obtain ⟨g, gs⟩ := h1 x hx
    exact ⟨g.turn (tn_lt g.ne), gs.trans (sumS_perm (turn_perm x.1 _).symm)⟩
  · refine List.Perm.trans (List.Perm.flatten ((turn_perm _ j).map _)) ?_
    rw [List.map_map]
    have e : L.map ((·.1) ∘ tnL tu) = (L.map (·.1)).map fun r => r.drop ((tu + (r.length : Int) / 2) % (r.length : Int)).toNat ++ r.take ((tu + (r.length : Int) / 2) % (r.length : Int)).toNat := by
      rw [List.map_map]
      rfl
    rw [e]
    exact (flat_map _ fun r => turn_perm r _).trans h2
theorem lns_of {H : Hp} {l : Addr} : ∀ {us : List V}, (∀ u ∈ us, LnV H l u 2000) → ∃ L : List (List Int × Int), Fa2 (LnR H) us L ∧ ∀ e ∈ L, e.1.length ≤ 2000
  | [], _ => ⟨[], Fa2.nil, fun e he => by cases he⟩
  | u :: us, h => by
    obtain ⟨L, h1, h2⟩ := lns_of (us := us) fun v hv => h v (List.mem_cons_of_mem _ hv)
    obtain ⟨ta, r, ns, sh, a, b, c, _, d⟩ := h u (List.mem_cons_self ..)
    refine ⟨(ns, sh) :: L, ⟨by rw [List.length_cons, List.length_cons, h1.1], fun i v e hv he => ?_⟩, fun e he => ?_⟩
    · cases i with
      | zero => cases hv; cases he; exact ⟨ta, r, a, b, c⟩
      | succ i => exact h1.2 i v e hv he
    · rcases List.mem_cons.mp he with rfl | he
      · exact d
      · exact h2 e he
theorem ok_law {f C : Addr} {fd : FuncData} (F : Fun K "law" "law" s_law f fd) (B : Bi mg) (T : Rl K C) (G_Rule : mg "Rule" = some (.ref C)) (D_law_source : Df P w K mg base "_law_source" 2 ["script"] (spSource K)) (D_law_draw : Df P w K mg base "_law_draw" 2 ["source", "limit"] spDraw)
    (D_law_texts : Df P w K mg base "_law_texts" 3 ["source", "most"] spTexts) (D_law_base : Df P w K mg base "_law_base" 2 ["texts", "road", "by"] spBase) (D_law_led : Df P w K mg base "_law_led" 7 ["base", "texts", "road", "by"] (spLed C)) (D_law_lanes : Df P w K mg base "_law_lanes" 3 ["texts"] spLawLanes)
    (D_law_turned : Df P w K mg base "_law_turned" 2 ["entries", "by"] (spTurned (K := K))) (D_law_changed : Df P w K mg base "_law_changed" 4 ["source", "kind", "given", "texts"] spChanged) (D_law_right : Df P w K mg base "_law_right" 4 ["texts", "given"] (spRight K))
    (D_judge_lanes : Df P w K mg base "judge_lanes" 9 ["rule", "told"] (spJudgeLanes C)) (DK_judge_lanes_rule_told : DfK P w K mg base "judge_lanes" 9 ["rule", "told"] (spJudgeLanes C) ["rule", "told"] gApp) (M_Rule : Mkr P w K mg base "Rule" C 3 ["self", "texts"] (spInit C)) : FnOk P w K mg base CX0 10 f fd ["script"] (spLaw K) := by
  refine F.ok sc_law (fun vs H Q E h => ?_) (fun cdv A outer s0 H vs Q E hr h => ?_)
  · obtain ⟨a, ns, rfl, _⟩ := h
    rfl
  · obtain ⟨a, ns, rfl, hS, hlen, k⟩ := h
    refine ⟨_, (pss_cons (ps_set (i := 1) sc_law.nd rfl (Or.inl rfl) (pe_df D_law_source (hr.mono (by first | decide | omega)) (by rfl) (pa_cons (pv 0) pa_nil)))
    (pss_cons (ps_set (i := 2) sc_law.nd rfl (Or.inl rfl) (pe_df D_law_draw (hr.mono (by first | decide | omega)) (by rfl) (pa_cons (pv 1) (pa_cons pe_int pa_nil))))
    (pss_cons (ps_set (i := 3) sc_law.nd rfl (Or.inl rfl) (pe_df D_law_draw (hr.mono (by first | decide | omega)) (by rfl) (pa_cons (pv 1) (pa_cons pe_int pa_nil))))
    (pss_cons (ps_set (i := 4) sc_law.nd rfl (Or.inl rfl) (pe_cmpR op_eq (pe_df D_law_draw (hr.mono (by first | decide | omega)) (by rfl) (pa_cons (pv 1) (pa_cons pe_int pa_nil))) pe_int (nomark _)))
    (pss_cons (ps_set (i := 5) sc_law.nd rfl (Or.inl rfl) (pe_df D_law_draw (hr.mono (by first | decide | omega)) (by rfl) (pa_cons (pv 1) (pa_cons pe_int pa_nil))))
    (pss_cons (ps_set (i := 6) sc_law.nd rfl (Or.inr rfl) (pe_df D_law_draw (hr.mono (by first | decide | omega)) (by rfl) (pa_cons (pv 1) (pa_cons pe_int pa_nil))))
    (pss_cons (ps_set (i := 7) sc_law.nd rfl (Or.inl rfl) (pe_df D_law_texts (hr.mono (by first | decide | omega)) (by rfl) (pa_cons (pv 1) (pa_cons pe_int pa_nil))))
    (pss_cons (ps_set (i := 8) sc_law.nd rfl (Or.inl rfl) (pe_df D_law_base (hr.mono (by first | decide | omega)) (by rfl) (pa_cons (pv 7) (pa_cons (pv 2) (pa_cons (pv 3) pa_nil)))))
    (pss_cons (ps_set (i := 9) sc_law.nd rfl (Or.inl rfl) (pe_mk M_Rule (hr.mono (by first | decide | omega)) (by rfl) (pa_cons (pe_callTy call_list_of (by rfl) B.list_ (by decide +kernel) (pa_cons (pv 8) pa_nil)) pa_nil)))
    (pss_cons (ps_if (PW.pt (pw_and (pt_val (pv 4)) (pw_and1 (pt_not (pt_val (pe_df D_judge_lanes (hr.mono (by first | decide | omega)) (by rfl) (pa_cons (pv 9) (pa_cons (pe_df D_law_lanes (hr.mono (by first | decide | omega)) (by rfl) (pa_cons (pv 8) pa_nil)) pa_nil))))))))
    (pss_one (ps_ret pe_bl))
    pss_nil)
    (pss_cons (ps_set (i := 10) sc_law.nd rfl (Or.inl rfl) (pe_df D_law_led (hr.mono (by first | decide | omega)) (by rfl) (pa_cons (pv 9) (pa_cons (pv 7) (pa_cons (pv 2) (pa_cons (pv 3) pa_nil))))))
    (pss_cons (ps_setLc (i := 11) (own := [("rests", 15), ("shift", 16)]) (g := gTup K 2 (gCons (gName 15) (gCons (gName 16) (gNil)))) (tt := tYes) rfl sc_law.nd rfl rfl (sw_true rfl rfl rfl (by decide +kernel)) (pi_list (pe_df D_law_lanes (hr.mono (by first | decide | omega)) (by rfl) (pa_cons (pv 7) pa_nil))) (blkOk_by (N := N_law) (sc := defScope s_law) (by decide +kernel)) (fun _ _ _ _ _ => pg_tup rfl (pgs_cons (pg_name (i := 15) sc_law.nd rfl (Or.inl rfl)) (pgs_cons (pg_name (i := 16) sc_law.nd rfl (Or.inl rfl)) (pgs_nil)))) (fun _ _ _ _ _ => pts_nil) (fun _ _ _ _ _ => (pe_tup (pa_cons (pe_df D_law_turned (hr.mono (by first | decide | omega)) (by rfl) (pa_cons (pv 15) (pa_cons (pe_op op_add (pv 6) (pe_op op_fdiv (pe_callB (show CallR _ _ (rLenSeq K) from call_len_seq) (by rfl) B.len_ PySem.boot_len (pa_cons (pv 15) pa_nil)) pe_int)) pa_nil))) (pa_cons (pv 16) pa_nil)))))
    (pss_cons (ps_set (i := 11) sc_law.nd rfl (Or.inl rfl) (pe_df D_law_turned (hr.mono (by first | decide | omega)) (by rfl) (pa_cons (pv 11) (pa_cons (pv 6) pa_nil))))
    (pss_cons (ps_set (i := 12) sc_law.nd rfl (Or.inl rfl) (pe_df D_law_changed (hr.mono (by first | decide | omega)) (by rfl) (pa_cons (pv 1) (pa_cons (pv 5) (pa_cons (pe_lc (own := [("rests", 15), ("shift", 16)]) (g := gTup K 2 (gCons (gName 15) (gCons (gName 16) (gNil)))) (tt := tYes) rfl sc_law.nd (pi_list (pv 11)) (blkOk_by (N := N_law) (sc := defScope s_law) (by decide +kernel)) (fun _ _ _ _ _ => pg_tup rfl (pgs_cons (pg_name (i := 15) sc_law.nd rfl (Or.inl rfl)) (pgs_cons (pg_name (i := 16) sc_law.nd rfl (Or.inl rfl)) (pgs_nil)))) (fun _ _ _ _ _ => pts_nil) (fun _ _ _ _ _ => (pe_tup (pa_cons (pe_callTy (show CallR _ _ (fun xs H Q => ∃ p ys, xs = [V.ref p] ∧ (SqL K H p ys ∨ SqT K H p ys) ∧ ∀ l, H l = none → Q (V.ref l) (upd H l (.lst ys))) from call_list_of) (by rfl) B.list_ (by decide +kernel) (pa_cons (pv 15) pa_nil)) (pa_cons (pv 16) pa_nil))))) (pa_cons (pv 7) pa_nil))))))
    (pss_cons (ps_setLc (i := 13) (own := [("rests", 15), ("shift", 16)]) (g := gTup K 2 (gCons (gName 15) (gCons (gName 16) (gNil)))) (tt := tYes) rfl sc_law.nd rfl rfl (sw_true rfl rfl rfl (by decide +kernel)) (pi_list (pv 12)) (blkOk_by (N := N_law) (sc := defScope s_law) (by decide +kernel)) (fun _ _ _ _ _ => pg_tup rfl (pgs_cons (pg_name (i := 15) sc_law.nd rfl (Or.inl rfl)) (pgs_cons (pg_name (i := 16) sc_law.nd rfl (Or.inl rfl)) (pgs_nil)))) (fun _ _ _ _ _ => pts_nil) (fun _ _ _ _ _ => (pe_tup (pa_cons (pe_callTy (show CallR _ _ (fun xs H Q => ∃ p ys, xs = [V.ref p] ∧ (SqL K H p ys ∨ SqT K H p ys) ∧ ∀ l, H l = none → Q (V.ref l) (upd H l (.lst ys))) from call_list_of) (by rfl) B.list_ (by decide +kernel) (pa_cons (pv 15) pa_nil)) (pa_cons (pv 16) pa_nil)))))
    (pss_cons (ps_set (i := 14) sc_law.nd rfl (Or.inl rfl) (pe_df D_judge_lanes (hr.mono (by first | decide | omega)) (by rfl) (pa_cons (pv 10) (pa_cons (pv 13) pa_nil))))
    (pss_cons (ps_if (PW.pt (pw_or (pt_not (pt_val (pe_callB call_isi (by rfl) B.isinstance_ (by decide +kernel) (pa_cons (pv 14) (pa_cons (pe_bltn (v := .ty "bool") (u := .type "bool") (by rfl) B.bool_ (by decide +kernel) rfl) pa_nil))))) (pw_or (pt_cmpR op_ne (pv 14) (pe_df D_law_right (hr.mono (by first | decide | omega)) (by rfl) (pa_cons (pv 7) (pa_cons (pv 12) pa_nil))) (nomark _)) (pw_or1 (pt_cmpR (op_neD hr.units) (pv 13) (pv 12) (nomark _))))))
    (pss_one (ps_ret pe_bl))
    pss_nil)
    (pss_one (ps_ret (pe_cmpR op_isBl (pe_dfN0 DK_judge_lanes_rule_told (hr.mono (by first | decide | omega)) (by rfl) (pk_cons (pv 10) (pk_cons (pv 11) pk_nil))) pe_bl (nomark _))))))))))))))))))))), ?_⟩
    walk_at "rx"
    refine ⟨a, ns, rfl, hS, hlen, fun s g sm H1 s1 _ _ _ S1 => ?_⟩
    clear s1
    walk_at "rx"
    refine ⟨s, g, sm, 0, _, rfl, S1, by decide, by decide, by decide, fun road H2 _ _ S2 t2 => ?_⟩
    clear t2
    walk_at "rx"
    refine ⟨s, g, sm, _, _, rfl, S2, by decide, by decide, by decide, fun b H3 b0 _ S3 t3 => ?_⟩
    clear t3
    walk_at "rx"
    refine ⟨s, g, sm, _, _, rfl, S3, by decide, by decide, by decide, fun c3 H4 _ _ S4 t4 => ?_⟩
    clear t4
    walk_at "rx"
    generalize eb3 : decide (V.int c3 = V.int 1) = b3
    refine ⟨s, g, sm, _, _, rfl, S4, by decide, by decide, by decide, fun kd H4b _ _ S4b t4b => ?_⟩
    clear t4b
    walk_at "rx"
    refine ⟨s, g, sm, _, _, rfl, S4b, by decide, by decide, by decide, fun tu HC tu0 tu1 SC t5 => ?_⟩
    clear t5 S1 S2 S3 S4 S4b
    walk_at "rx"
    refine ⟨s, g, sm, _, _, rfl, SC, by decide, by decide, fun n1 ls1 tx1 HT W1 hn1 hl1 ST t5 _ otx1 => ?_⟩
    clear t5
    walk_at "rx"
    have htx1 := out_same _ _ otx1
    refine ⟨tx1, road, b, n1, ls1, rfl, htx1, W1, by omega, by omega, fun ln H7 s7 _ hln => ?_⟩
    have WB := W1.baseR road b
    have lB := base_len ls1 road b
    walk_at "rx"
    intro h1 zh1
    generalize eh1 : upd _ h1 _ = H8
    obtain ⟨s8, hh1⟩ := nw eh1 zh1
    walk_at "rx"
    intro x0 dx0 nx0 ndx0 _
    refine mk_at hh1 WB (by omega) nx0 ndx0 fun H9 s9 RX0 => ⟨rfl, ?_⟩
    have s79 := s8.trans s9
    have sT9 := s7.trans s79
    have hln9 := s79 _ _ hln
    clear s8 s9 s79 hln hh1 zh1 eh1 nx0 ndx0 s7
    walk_at "rx"
    refine cutAnd (fun σ HB => σ = [some (.ref a), some (.ref s), some (.int road), some (.int b), some (.bl b3), some (.int kd), some (.int tu), some (.ref tx1), some (.ref ln), some (.ref x0), none, none, none, none, none, none, none] ∧ Same H9 HB) ?_ ?_ (fun _ => ⟨rfl, Same.refl _⟩)
    rotate_left
    · intro hT hc
      walk_at "rx"
      refine ⟨ln, n1, _, rfl, hln9, WB, by omega, by omega, fun t HA sA LA => ?_⟩
      have RB := lanes_right WB
      have hfl := flat_len RB.2
      have hml := many_le (L := (lanesL (baseL ls1 road b) n1).map (·.1)) fun r hr => by
        obtain ⟨e, he, rfl⟩ := List.mem_map.mp hr
        exact (RB.1 e he).1.ne
      rw [List.length_map] at hml
      walk_at "rx"
      refine ⟨x0, t, n1, _, _, rfl, RX0.same sA, WB, by omega, by omega, LA.in_, by omega, fun e he => Nat.le_trans (flat_le (List.mem_map.mpr ⟨e, he, rfl⟩)) (by rw [hfl]; omega), fun HB sB => ?_⟩
      rw [decide_eq_true (lane_right_to WB RB)]
      repeat (first | exact hT _ _ ⟨rfl, sA.trans sB⟩ | walk_at "x")
    rintro σ HB ⟨rfl, sB⟩
    have sTB := sT9.trans sB
    have RX0B := RX0.same sB
    clear sB hln9 RX0 sT9
    walk_at "rx"
    refine ⟨x0, tx1, road, b, n1, ls1, rfl, RX0B, sTB _ _ htx1, W1, by omega, by omega, b0, fun x1 HC sC RX1 => ?_⟩
    have sTC := sTB.trans sC
    clear sTB sC RX0B
    have RR := lanes_right W1
    have hfl := flat_len RR.2
    have hml := many_le (L := (lanesL ls1 n1).map (·.1)) fun r hr => by
      obtain ⟨e, he, rfl⟩ := List.mem_map.mp hr
      exact (RR.1 e he).1.ne
    rw [List.length_map] at hml
    walk_at "rx"
    refine ⟨tx1, n1, ls1, rfl, sTC _ _ htx1, W1, by omega, by omega, fun rg HD sD LD => ?_⟩
    have sTD := sTC.trans sD
    have RX1D := RX1.same sD
    have n0 := W1.pos
    obtain ⟨ws, hw, hws⟩ : ∃ ws, HD rg = some (.lst ws) ∧ Fa2 (LnR HD) ws (lanesL ls1 n1) := LD.in_
    have SD := ST.same sTD
    have hwl : ws.length ≤ 60 := by rw [hws.1]; omega
    have wl0 : 0 < (lanesL ls1 n1).length := by
      rcases Nat.eq_zero_or_pos (lanesL ls1 n1).length with h | h
      · rw [List.length_eq_zero_iff.mp h] at hfl
        rw [List.map_nil, List.flatten_nil, List.length_nil] at hfl
        omega
      · exact h
    have big : ∀ x : Nat, x ≤ 10000 → x < sizeLine := fun x hx => Nat.lt_of_le_of_lt hx (by decide)
    have LLle : ∀ e ∈ lanesL ls1 n1, e.1.length ≤ n1 := fun e he => by
      rw [← hfl]
      exact flat_le (List.mem_map.mpr ⟨e, he, rfl⟩)
    generalize lanesL ls1 n1 = LL at hws wl0 RR hml hfl LLle
    refine ⟨rg, rfl, ⟨_, SqL.of hw⟩, fun D zD => ?_⟩
    refine lc_list (K := K) (a := rg) (xs := ws) (fun i H' => Same HD H' ∧ ∃ us : List V, H' D = some (.lst us) ∧ us.length = i ∧ Fa2 (LnN HD H' D) us ((LL.take i).map (tnL tu))) ⟨L2.Same.upd zD, [], upd_same, rfl, by rw [List.take_zero]; exact Fa2.nil⟩ (fun i H' _ h => SqL.of (h.1 _ _ hw)) ?_ ?_
    · rintro i v H' hv ⟨s', us, hD, hul, hus⟩
      obtain ⟨e, he, ta, r, rfl, hta0, hr0⟩ := hws.of hv
      have hta := s' _ _ hta0
      have hr' := s' _ _ hr0
      have hem := List.mem_of_getElem? he
      have hene := (RR.1 e hem).1.ne
      have hep := List.length_pos_iff.mpr hene
      have hel := LLle e hem
      have hil := (List.getElem?_eq_some_iff.mp he).1
      refine ⟨ta, _, rfl, SqT.of hta, rfl, _, _, rfl, _, _, rfl, rfl, ?_⟩
      refine ⟨rfl, ?_⟩
      walk_at "rx"
      unfold tNil
      have ell : ((e.1.map V.int).length : Int) = (e.1.length : Int) := by rw [List.length_map]
      refine ⟨r, e.1.map V.int, tu + (e.1.length : Int) / 2, intsD e.1, by rw [← ell]; rfl, hr', fun H1 s1 => dp_intsL (s1 _ _ hr'), pl_ints e.1, fun q => ?_, by rw [List.length_map]; exact hep, by rw [List.length_map]; omega, fun t H2 s2 zt ht => ?_⟩
      · unfold intsD at q
        injection q with q
        exact hene (List.map_eq_nil_iff.mp q)
      · rw [List.length_map, ← List.map_drop, ← List.map_take, ← List.map_append] at ht
        walk_at "rx"
        intro tt ztt
        generalize ett : upd _ tt _ = H3
        obtain ⟨s3, htt⟩ := nw ett ztt
        have s13 := s2.trans s3
        have n1' : t ≠ D := (ne_of_none hD zt).symm
        have n2' : tt ≠ D := (ne_of_none (s2 _ _ hD) ztt).symm
        walk_at "rx"
        refine ⟨us, s13 _ _ hD, big _ (by omega), (s'.trans s13).put zD, us ++ [.ref tt], upd_same, by rw [List.length_append, hul]; rfl, ?_⟩
        rw [List.take_add_one, he, List.map_append]
        exact (hus.imp fun v e h => h.put s13).snoc ⟨tt, t, rfl, by rw [upd_ne n2']; exact htt, by rw [upd_ne n1']; exact s3 _ _ ht, s'.free (s2.free ztt), s'.free zt, n2', n1'⟩
    rintro HE ⟨sE, us, hDE, hul, hus⟩
    have hLl := hws.1
    rw [hLl, List.take_length] at hus
    have hul2 : us.length = LL.length := by rw [hul, hLl]
    have RI : LnsIn HE D (LL.map (tnL tu)) := ⟨us, hDE, hus.imp fun v e h => h.r⟩
    walk_at "rx"
    refine ⟨D, us, tu, lnsD (LL.map (tnL tu)), rfl, hDE, fun H1 s1 => dp_lns (RI.same s1), pl_lns _, fun q => ?_, by omega, by omega, fun t HF sF zt ht => ?_⟩
    · unfold lnsD at q
      injection q with q
      have := List.map_eq_nil_iff.mp (List.map_eq_nil_iff.mp q)
      rw [this] at wl0
      cases wl0
    obtain ⟨j, hj⟩ : ∃ j, j = (tu % (us.length : Int)).toNat := ⟨_, rfl⟩
    rw [← hj] at ht
    have hjl : j ≤ us.length := by
      have := Int.emod_lt_of_pos tu (show (0 : Int) < (us.length : Int) by omega)
      have := Int.emod_nonneg tu (show (us.length : Int) ≠ 0 by omega)
      omega
    have husG := fa2_turn hus hjl
    have GR := right_turn tu j RR
    obtain ⟨GL, eGL⟩ : ∃ GL, GL = (LL.map (tnL tu)).drop j ++ (LL.map (tnL tu)).take j := ⟨_, rfl⟩
    obtain ⟨gu, egu⟩ : ∃ gu, gu = us.drop j ++ us.take j := ⟨_, rfl⟩
    rw [← eGL, ← egu] at husG
    rw [← egu] at ht
    rw [← eGL] at GR
    have Gfl := flat_len GR.2
    have Gle : ∀ e ∈ GL, e.1.length ≤ n1 := fun e he => by
      rw [← Gfl]
      exact flat_le (List.mem_map.mpr ⟨e, he, rfl⟩)
    have Gml := many_le (L := GL.map (·.1)) fun r hr => by
      obtain ⟨e, he, rfl⟩ := List.mem_map.mp hr
      exact (GR.1 e he).1.ne
    rw [List.length_map] at Gml
    have gul : gu.length = GL.length := husG.1
    have gu0 : 0 < gu.length := by rw [egu, List.length_append, List.length_drop, List.length_take]; omega
    have SF := SD.same (sE.trans sF)
    have sTF := sTD.trans (sE.trans sF)
    have RXF := RX1D.same (sE.trans sF)
    have tnew : HD t = none := sE.free zt
    have husF : Fa2 (fun v e => ∃ a r, v = .ref a ∧ HF a = some (.tup [.ref r, .int e.2]) ∧ HF r = some (.lst (e.1.map V.int)) ∧ HD a = none ∧ HD r = none) gu GL := husG.imp fun v e h => by
      obtain ⟨a, r, q1, q2, q3, q4, q5, _⟩ := h
      exact ⟨a, r, q1, sF _ _ q2, sF _ _ q3, q4, q5⟩
    clear husG hus RI hDE hws hw eGL egu hwl hul hul2 hLl wl0 hml hfl RR sE sF zt hj hjl RX1D sTD LLle
    walk_at "rx"
    refine ⟨⟨_, SqL.of ht⟩, fun p zp => ?_⟩
    refine lc_list (K := K) (a := t) (xs := gu) (fun i H' => Same HF H' ∧ ∃ vs : List V, H' p = some (.lst vs) ∧ vs.length = i ∧ ∀ v ∈ vs, ∃ (ta r : Addr) (ns : List Int) (sh : Int), v = .ref ta ∧ H' ta = some (.tup [.ref r, .int sh]) ∧ H' r = some (.lst (ns.map V.int)) ∧ HF ta = none ∧ HF r = none ∧ ta ≠ p ∧ r ≠ p ∧ ns ≠ [] ∧ ns.length ≤ 100) ⟨L2.Same.upd zp, [], upd_same, rfl, fun v hv => by cases hv⟩ (fun i H' _ h => SqL.of (h.1 _ _ ht)) ?_ ?_
    · rintro i v H' hv ⟨s', vs, hp, hvl, hvs⟩
      obtain ⟨e, he, ta, r, rfl, hta0, hr0, _⟩ := husF.of hv
      have hta := s' _ _ hta0
      have hr' := s' _ _ hr0
      have hem := List.mem_of_getElem? he
      have hel := Gle e hem
      have hil := (List.getElem?_eq_some_iff.mp he).1
      refine ⟨ta, _, rfl, SqT.of hta, rfl, _, _, rfl, _, _, rfl, rfl, ?_⟩
      refine ⟨rfl, ?_⟩
      walk_at "rx"
      intro l zl
      generalize el : upd _ l _ = H2
      obtain ⟨s2, hl2⟩ := nw el zl
      walk_at "rx"
      intro tt ztt
      generalize ett : upd _ tt _ = H3
      obtain ⟨s3, htt⟩ := nw ett ztt
      have s13 := s2.trans s3
      have nlp : l ≠ p := (ne_of_none hp zl).symm
      have ntp : tt ≠ p := (ne_of_none (s2 _ _ hp) ztt).symm
      walk_at "rx"
      refine ⟨vs, s13 _ _ hp, big _ (by omega), (s'.trans s13).put zp, vs ++ [.ref tt], upd_same, by rw [List.length_append, hvl]; rfl, fun w hw => ?_⟩
      rcases List.mem_append.mp hw with hw | hw
      · obtain ⟨t2, r2, n2, sh2, q1, q2, q3, q4, q5, q6, q7, q8⟩ := hvs w hw
        exact ⟨t2, r2, n2, sh2, q1, by rw [upd_ne q6]; exact s13 _ _ q2, by rw [upd_ne q7]; exact s13 _ _ q3, q4, q5, q6, q7, q8⟩
      · rw [List.mem_singleton.mp hw]
        exact ⟨tt, l, e.1, e.2, rfl, by rw [upd_ne ntp]; exact htt, by rw [upd_ne nlp]; exact s3 _ _ hl2, s'.free (s2.free ztt), s'.free zl, ntp, nlp, (GR.1 e hem).1.ne, by omega⟩
    rintro HG ⟨sG, vs, hp, hvl, hvs⟩
    walk_at "rx"
    refine ⟨s, g, sm, p, tx1, HF, _, n1, kd, vs, ls1, rfl, SF.same sG, SF, by decide, W1, by omega, sG.out _ _ (sTF.out _ _ otx1), zp, by omega, by omega, ⟨SF.keep zp hp, fun w hw => ?_⟩, sG.out, fun gt us2 HH m' SH oH hgt hgl hrv => ?_⟩
    · obtain ⟨t2, r2, n2, sh2, q1, q2, q3, q4, q5, q6, q7, q8, q9⟩ := hvs w hw
      exact ⟨t2, r2, n2, sh2, q1, SF.keep q4 q2, SF.keep q5 q3, q5, q7, q8, q9⟩
    obtain ⟨L', hL', hLe⟩ := lns_of hrv
    have RG : LnsIn HH gt L' := ⟨us2, hgt, hL'⟩
    have hLl : L'.length ≤ 200 := by rw [← hL'.1]; exact hgl
    have RXH : RuleAt C HH x1 ls1 := ((RXF.out28 SF).same oH).same out_same
    have htxH := out_same _ _ (oH _ _ (sTF.out _ _ otx1))
    have GH : LnsIn HH t GL := ⟨gu, out_same _ _ (oH _ _ (SD.keep tnew ht)), husF.imp fun v e h => by
      obtain ⟨a2, r2, q1, q2, q3, q4, q5⟩ := h
      exact ⟨a2, r2, q1, out_same _ _ (oH _ _ (SD.keep q4 q2)), out_same _ _ (oH _ _ (SD.keep q5 q3))⟩⟩
    clear hvs hp SF SD RXF sTF ht husF oH hrv SH sG
    walk_at "rx"
    refine ⟨⟨_, SqL.of hgt⟩, fun pp zpp => ?_⟩
    refine lc_list (K := K) (a := gt) (xs := us2) (fun i H' => Same HH H' ∧ ∃ vs : List V, H' pp = some (.lst vs) ∧ vs.length = i ∧ Fa2 (LnN HH H' pp) vs (L'.take i)) ⟨L2.Same.upd zpp, [], upd_same, rfl, by rw [List.take_zero]; exact Fa2.nil⟩ (fun i H' _ h => SqL.of (h.1 _ _ hgt)) ?_ ?_
    · rintro i v H' hv ⟨s', vs, hp, hvl, hvs⟩
      obtain ⟨e, he, ta, r, rfl, hta0, hr0⟩ := hL'.of hv
      have hta := s' _ _ hta0
      have hr' := s' _ _ hr0
      have hil := (List.getElem?_eq_some_iff.mp he).1
      refine ⟨ta, _, rfl, SqT.of hta, rfl, _, _, rfl, _, _, rfl, rfl, ?_⟩
      refine ⟨rfl, ?_⟩
      walk_at "rx"
      intro l zl
      generalize el : upd _ l _ = H2
      obtain ⟨s2, hl2⟩ := nw el zl
      walk_at "rx"
      intro tt ztt
      generalize ett : upd _ tt _ = H3
      obtain ⟨s3, htt⟩ := nw ett ztt
      have s13 := s2.trans s3
      have nlp : l ≠ pp := (ne_of_none hp zl).symm
      have ntp : tt ≠ pp := (ne_of_none (s2 _ _ hp) ztt).symm
      walk_at "rx"
      refine ⟨vs, s13 _ _ hp, big _ (by omega), (s'.trans s13).put zpp, vs ++ [.ref tt], upd_same, by rw [List.length_append, hvl]; rfl, ?_⟩
      rw [List.take_add_one, he]
      exact (hvs.imp fun v e h => h.put s13).snoc ⟨tt, l, rfl, by rw [upd_ne ntp]; exact htt, by rw [upd_ne nlp]; exact s3 _ _ hl2, s'.free (s2.free ztt), s'.free zl, ntp, nlp⟩
    rintro HI ⟨sI, vs, hpp, hvl, hvs⟩
    rw [hL'.1, List.take_length] at hvs
    have RP : LnsIn HI pp L' := ⟨vs, hpp, hvs.imp fun v e h => h.r⟩
    have hfb := flat_bound (L := L'.map (·.1)) (c := 2000) fun r hr => by
      obtain ⟨e, he, rfl⟩ := List.mem_map.mp hr
      exact hLe e he
    rw [List.length_map] at hfb
    have hfb2 : L'.length * 2000 ≤ 200 * 2000 := Nat.mul_le_mul_right _ hLl
    clear hvs hpp hvl
    walk_at "rx"
    refine ⟨x1, pp, n1, ls1, L', rfl, RXH.same sI, W1, by omega, by omega, RP, by omega, fun e he => Nat.le_trans (hLe e he) (by decide), fun HJ sJ => ?_⟩
    have sIJ := sI.trans sJ
    walk_at "rx"
    refine ⟨_, _, _, _, true, rfl, .ty _, .base (.bl _), kit_ty (by decide +kernel), ?_⟩
    walk_at "rx"
    refine ⟨tx1, gt, n1, ls1, L', rfl, sIJ _ _ htxH, W1, by omega, by omega, RG.same sIJ, by omega, Nat.le_trans hfb (by omega), fun bb HK sK hbb => ?_⟩
    have ebb : decide (sortLn (L'.map fun e => (fromL e.1, e.2)) = lanesL ls1 n1) = bb := by
      rw [Bool.eq_iff_iff, decide_eq_true_eq, hbb]
      exact ⟨fun h => lane_right_of W1 h, fun h => lane_right_to W1 h⟩
    rw [ebb]
    have sIK := sIJ.trans sK
    walk_at "rx"
    rw [decide_eq_true (rfl : V.bl bb = V.bl bb)]
    walk_at "rx"
    refine rd_neLn (RP.same (sJ.trans sK)) (RG.same sIK) ?_
    rw [decide_eq_true (rfl : L' = L')]
    walk_at "rx"
    refine ⟨x1, t, n1, ls1, GL, rfl, RXH.same sIK, W1, by omega, by omega, GH.same sIK, by omega, fun e he => Nat.le_trans (Gle e he) (by omega), fun HL sL => ?_⟩
    rw [decide_eq_true (lane_right_to W1 GR)]
    walk_at "rx"
    exact k _
end
theorem all_mk {l : PySem.W.OpenLaw} {w : World} {K : PySem.W.Frag} {h : Heap} {mg : Str → Option Value} {fa : Addr} (X : K.In h) (G : h.Ns mainGlobals mg) (hfa : mg "law" = some (.ref fa))
    {C : Addr}
    {f1 : Addr} {od1 an1 : Option Addr} {sl1 : Array (Option Value)} {oc1 kV1 dc1 pm1 cd1 ct1 : Value}
    {f2 : Addr} {od2 an2 : Option Addr} {sl2 : Array (Option Value)} {oc2 kV2 dc2 pm2 cd2 ct2 : Value}
    {f3 : Addr} {od3 an3 : Option Addr} {sl3 : Array (Option Value)} {oc3 kV3 dc3 pm3 cd3 ct3 : Value}
    {f4 : Addr} {od4 an4 : Option Addr} {sl4 : Array (Option Value)} {oc4 kV4 dc4 pm4 cd4 ct4 : Value}
    {f5 : Addr} {od5 an5 : Option Addr} {sl5 : Array (Option Value)} {oc5 kV5 dc5 pm5 cd5 ct5 : Value}
    {f6 : Addr} {od6 an6 : Option Addr} {sl6 : Array (Option Value)} {oc6 kV6 dc6 pm6 cd6 ct6 : Value}
    {f7 : Addr} {od7 an7 : Option Addr} {sl7 : Array (Option Value)} {oc7 kV7 dc7 pm7 cd7 ct7 : Value}
    {f8 : Addr} {od8 an8 : Option Addr} {sl8 : Array (Option Value)} {oc8 kV8 dc8 pm8 cd8 ct8 : Value}
    {p8 : Addr} {re8 : List Value}
    {f9 : Addr} {od9 an9 : Option Addr} {sl9 : Array (Option Value)} {oc9 kV9 dc9 pm9 cd9 ct9 : Value}
    {p9 : Addr} {re9 : List Value}
    {f10 : Addr} {od10 an10 : Option Addr} {sl10 : Array (Option Value)} {oc10 kV10 dc10 pm10 cd10 ct10 : Value}
    {f11 : Addr} {od11 an11 : Option Addr} {sl11 : Array (Option Value)} {oc11 kV11 dc11 pm11 cd11 ct11 : Value}
    {f12 : Addr} {od12 an12 : Option Addr} {sl12 : Array (Option Value)} {oc12 kV12 dc12 pm12 cd12 ct12 : Value}
    {f13 : Addr} {od13 an13 : Option Addr} {sl13 : Array (Option Value)} {oc13 kV13 dc13 pm13 cd13 ct13 : Value}
    {f14 : Addr} {od14 an14 : Option Addr} {sl14 : Array (Option Value)} {oc14 kV14 dc14 pm14 cd14 ct14 : Value}
    {f15 : Addr} {od15 an15 : Option Addr} {sl15 : Array (Option Value)} {oc15 kV15 dc15 pm15 cd15 ct15 : Value}
    {f16 : Addr} {od16 an16 : Option Addr} {sl16 : Array (Option Value)} {oc16 kV16 dc16 pm16 cd16 ct16 : Value}
    {f17 : Addr} {od17 an17 : Option Addr} {sl17 : Array (Option Value)} {oc17 kV17 dc17 pm17 cd17 ct17 : Value}
    {f18 : Addr} {od18 an18 : Option Addr} {sl18 : Array (Option Value)} {oc18 kV18 dc18 pm18 cd18 ct18 : Value}
    {f19 : Addr} {od19 an19 : Option Addr} {sl19 : Array (Option Value)} {oc19 kV19 dc19 pm19 cd19 ct19 : Value}
    {p19 : Addr} {re19 : List Value}
    {f20 : Addr} {od20 an20 : Option Addr} {sl20 : Array (Option Value)} {oc20 kV20 dc20 pm20 cd20 ct20 : Value}
    {f21 : Addr} {od21 an21 : Option Addr} {sl21 : Array (Option Value)} {oc21 kV21 dc21 pm21 cd21 ct21 : Value}
    {f22 : Addr} {od22 an22 : Option Addr} {sl22 : Array (Option Value)} {oc22 kV22 dc22 pm22 cd22 ct22 : Value}
    {f23 : Addr} {od23 an23 : Option Addr} {sl23 : Array (Option Value)} {oc23 kV23 dc23 pm23 cd23 ct23 : Value}
    {f24 : Addr} {od24 an24 : Option Addr} {sl24 : Array (Option Value)} {oc24 kV24 dc24 pm24 cd24 ct24 : Value}
    {f25 : Addr} {od25 an25 : Option Addr} {sl25 : Array (Option Value)} {oc25 kV25 dc25 pm25 cd25 ct25 : Value}
    {f26 : Addr} {od26 an26 : Option Addr} {sl26 : Array (Option Value)} {oc26 kV26 dc26 pm26 cd26 ct26 : Value}
    {f27 : Addr} {od27 an27 : Option Addr} {sl27 : Array (Option Value)} {oc27 kV27 dc27 pm27 cd27 ct27 : Value}
    {f28 : Addr} {od28 an28 : Option Addr} {sl28 : Array (Option Value)} {oc28 kV28 dc28 pm28 cd28 ct28 : Value}
    {f29 : Addr} {od29 an29 : Option Addr} {sl29 : Array (Option Value)} {oc29 kV29 dc29 pm29 cd29 ct29 : Value}
    {f30 : Addr} {od30 an30 : Option Addr} {sl30 : Array (Option Value)} {oc30 kV30 dc30 pm30 cd30 ct30 : Value}
    {f31 : Addr} {od31 an31 : Option Addr} {sl31 : Array (Option Value)} {oc31 kV31 dc31 pm31 cd31 ct31 : Value}
    {f32 : Addr} {od32 an32 : Option Addr} {sl32 : Array (Option Value)} {oc32 kV32 dc32 pm32 cd32 ct32 : Value}
    {f33 : Addr} {od33 an33 : Option Addr} {sl33 : Array (Option Value)} {oc33 kV33 dc33 pm33 cd33 ct33 : Value}
    {f34 : Addr} {od34 an34 : Option Addr} {sl34 : Array (Option Value)} {oc34 kV34 dc34 pm34 cd34 ct34 : Value}
    {f35 : Addr} {od35 an35 : Option Addr} {sl35 : Array (Option Value)} {oc35 kV35 dc35 pm35 cd35 ct35 : Value}
    {f36 : Addr} {od36 an36 : Option Addr} {sl36 : Array (Option Value)} {oc36 kV36 dc36 pm36 cd36 ct36 : Value}
    {f37 : Addr} {od37 an37 : Option Addr} {sl37 : Array (Option Value)} {oc37 kV37 dc37 pm37 cd37 ct37 : Value}
    (aCRule : PySem.W.nsIn K mainGlobals "Rule" = some (some (.ref C)))
    (a1 : PySem.W.nsIn K mainGlobals "check_size" = some (some (.ref f1)))
    (l1 : K.lookup f1 = some ⟨oc1, od1, .func (PySem.W.fnOf "check_size" "check_size" (defArgs s_check_size) (defBody s_check_size) (defScope s_check_size) .none kV1 dc1 pm1 an1 cd1 ct1), sl1⟩)
    (c1 : PySem.W.codeIn K cd1 "check_size" = true)
    (k1 : PySem.W.keepIn K (.ref f1) = true)
    (a2 : PySem.W.nsIn K mainGlobals "check_half_post" = some (some (.ref f2)))
    (l2 : K.lookup f2 = some ⟨oc2, od2, .func (PySem.W.fnOf "check_half_post" "check_half_post" (defArgs s_check_half_post) (defBody s_check_half_post) (defScope s_check_half_post) .none kV2 dc2 pm2 an2 cd2 ct2), sl2⟩)
    (c2 : PySem.W.codeIn K cd2 "check_half_post" = true)
    (k2 : PySem.W.keepIn K (.ref f2) = true)
    (a3 : PySem.W.nsIn K mainGlobals "check_number" = some (some (.ref f3)))
    (l3 : K.lookup f3 = some ⟨oc3, od3, .func (PySem.W.fnOf "check_number" "check_number" (defArgs s_check_number) (defBody s_check_number) (defScope s_check_number) .none kV3 dc3 pm3 an3 cd3 ct3), sl3⟩)
    (c3 : PySem.W.codeIn K cd3 "check_number" = true)
    (k3 : PySem.W.keepIn K (.ref f3) = true)
    (a4 : PySem.W.nsIn K mainGlobals "from_least" = some (some (.ref f4)))
    (l4 : K.lookup f4 = some ⟨oc4, od4, .func (PySem.W.fnOf "from_least" "from_least" (defArgs s_from_least) (defBody s_from_least) (defScope s_from_least) .none kV4 dc4 pm4 an4 cd4 ct4), sl4⟩)
    (c4 : PySem.W.codeIn K cd4 "from_least" = true)
    (k4 : PySem.W.keepIn K (.ref f4) = true)
    (a5 : PySem.W.nsIn K mainGlobals "is_marked" = some (some (.ref f5)))
    (l5 : K.lookup f5 = some ⟨oc5, od5, .func (PySem.W.fnOf "is_marked" "is_marked" (defArgs s_is_marked) (defBody s_is_marked) (defScope s_is_marked) .none kV5 dc5 pm5 an5 cd5 ct5), sl5⟩)
    (c5 : PySem.W.codeIn K cd5 "is_marked" = true)
    (k5 : PySem.W.keepIn K (.ref f5) = true)
    (a6 : PySem.W.nsIn K mainGlobals "is_row" = some (some (.ref f6)))
    (l6 : K.lookup f6 = some ⟨oc6, od6, .func (PySem.W.fnOf "is_row" "is_row" (defArgs s_is_row) (defBody s_is_row) (defScope s_is_row) .none kV6 dc6 pm6 an6 cd6 ct6), sl6⟩)
    (c6 : PySem.W.codeIn K cd6 "is_row" = true)
    (k6 : PySem.W.keepIn K (.ref f6) = true)
    (a7 : PySem.W.findIn K (.ref C) "__init__" = some (some (.ref f7)))
    (i7 : PySem.W.isFn K (.ref f7) = true)
    (l7 : K.lookup f7 = some ⟨oc7, od7, .func (PySem.W.fnOf "__init__" "Rule.__init__" (defArgs s_Rule_u__init_u_) (defBody s_Rule_u__init_u_) (defScope s_Rule_u__init_u_) .none kV7 dc7 pm7 an7 cd7 ct7), sl7⟩)
    (c7 : PySem.W.codeIn K cd7 "Rule.__init__" = true)
    (k7 : PySem.W.keepIn K (.ref f7) = true)
    (a8 : PySem.W.findIn K (.ref C) "width" = some (some (.ref p8)))
    (g8 : PySem.W.specialIn K (.ref p8) "__get__" = some (some (.builtin "property.__get__")))
    (t8 : PySem.W.takesIn K (.ref p8) = some true)
    (r8 : PySem.W.recIn K p8 "property" = some (.ref f8 :: re8))
    (l8 : K.lookup f8 = some ⟨oc8, od8, .func (PySem.W.fnOf "width" "Rule.width" (defArgs s_Rule_width) (defBody s_Rule_width) (defScope s_Rule_width) .none kV8 dc8 pm8 an8 cd8 ct8), sl8⟩)
    (c8 : PySem.W.codeIn K cd8 "Rule.width" = true)
    (k8 : PySem.W.keepIn K (.ref f8) = true)
    (a9 : PySem.W.findIn K (.ref C) "height" = some (some (.ref p9)))
    (g9 : PySem.W.specialIn K (.ref p9) "__get__" = some (some (.builtin "property.__get__")))
    (t9 : PySem.W.takesIn K (.ref p9) = some true)
    (r9 : PySem.W.recIn K p9 "property" = some (.ref f9 :: re9))
    (l9 : K.lookup f9 = some ⟨oc9, od9, .func (PySem.W.fnOf "height" "Rule.height" (defArgs s_Rule_height) (defBody s_Rule_height) (defScope s_Rule_height) .none kV9 dc9 pm9 an9 cd9 ct9), sl9⟩)
    (c9 : PySem.W.codeIn K cd9 "Rule.height" = true)
    (k9 : PySem.W.keepIn K (.ref f9) = true)
    (a10 : PySem.W.findIn K (.ref C) "has_rung" = some (some (.ref f10)))
    (i10 : PySem.W.isFn K (.ref f10) = true)
    (l10 : K.lookup f10 = some ⟨oc10, od10, .func (PySem.W.fnOf "has_rung" "Rule.has_rung" (defArgs s_Rule_has_rung) (defBody s_Rule_has_rung) (defScope s_Rule_has_rung) .none kV10 dc10 pm10 an10 cd10 ct10), sl10⟩)
    (c10 : PySem.W.codeIn K cd10 "Rule.has_rung" = true)
    (k10 : PySem.W.keepIn K (.ref f10) = true)
    (a11 : PySem.W.nsIn K mainGlobals "_past_row" = some (some (.ref f11)))
    (l11 : K.lookup f11 = some ⟨oc11, od11, .func (PySem.W.fnOf "_past_row" "_past_row" (defArgs s__past_row) (defBody s__past_row) (defScope s__past_row) .none kV11 dc11 pm11 an11 cd11 ct11), sl11⟩)
    (c11 : PySem.W.codeIn K cd11 "_past_row" = true)
    (k11 : PySem.W.keepIn K (.ref f11) = true)
    (a12 : PySem.W.nsIn K mainGlobals "step_of" = some (some (.ref f12)))
    (l12 : K.lookup f12 = some ⟨oc12, od12, .func (PySem.W.fnOf "step_of" "step_of" (defArgs s_step_of) (defBody s_step_of) (defScope s_step_of) .none kV12 dc12 pm12 an12 cd12 ct12), sl12⟩)
    (c12 : PySem.W.codeIn K cd12 "step_of" = true)
    (k12 : PySem.W.keepIn K (.ref f12) = true)
    (a13 : PySem.W.nsIn K mainGlobals "steps_of" = some (some (.ref f13)))
    (l13 : K.lookup f13 = some ⟨oc13, od13, .func (PySem.W.fnOf "steps_of" "steps_of" (defArgs s_steps_of) (defBody s_steps_of) (defScope s_steps_of) .none kV13 dc13 pm13 an13 cd13 ct13), sl13⟩)
    (c13 : PySem.W.codeIn K cd13 "steps_of" = true)
    (k13 : PySem.W.keepIn K (.ref f13) = true)
    (a14 : PySem.W.nsIn K mainGlobals "lane_with" = some (some (.ref f14)))
    (l14 : K.lookup f14 = some ⟨oc14, od14, .func (PySem.W.fnOf "lane_with" "lane_with" (defArgs s_lane_with) (defBody s_lane_with) (defScope s_lane_with) .none kV14 dc14 pm14 an14 cd14 ct14), sl14⟩)
    (c14 : PySem.W.codeIn K cd14 "lane_with" = true)
    (k14 : PySem.W.keepIn K (.ref f14) = true)
    (a15 : PySem.W.nsIn K mainGlobals "lanes_of" = some (some (.ref f15)))
    (l15 : K.lookup f15 = some ⟨oc15, od15, .func (PySem.W.fnOf "lanes_of" "lanes_of" (defArgs s_lanes_of) (defBody s_lanes_of) (defScope s_lanes_of) .none kV15 dc15 pm15 an15 cd15 ct15), sl15⟩)
    (c15 : PySem.W.codeIn K cd15 "lanes_of" = true)
    (k15 : PySem.W.keepIn K (.ref f15) = true)
    (a16 : PySem.W.nsIn K mainGlobals "judge_lanes" = some (some (.ref f16)))
    (l16 : K.lookup f16 = some ⟨oc16, od16, .func (PySem.W.fnOf "judge_lanes" "judge_lanes" (defArgs s_judge_lanes) (defBody s_judge_lanes) (defScope s_judge_lanes) .none kV16 dc16 pm16 an16 cd16 ct16), sl16⟩)
    (c16 : PySem.W.codeIn K cd16 "judge_lanes" = true)
    (k16 : PySem.W.keepIn K (.ref f16) = true)
    (a17 : PySem.W.nsIn K mainGlobals "_shifted_row" = some (some (.ref f17)))
    (l17 : K.lookup f17 = some ⟨oc17, od17, .func (PySem.W.fnOf "_shifted_row" "_shifted_row" (defArgs s__shifted_row) (defBody s__shifted_row) (defScope s__shifted_row) .none kV17 dc17 pm17 an17 cd17 ct17), sl17⟩)
    (c17 : PySem.W.codeIn K cd17 "_shifted_row" = true)
    (k17 : PySem.W.keepIn K (.ref f17) = true)
    (a18 : PySem.W.nsIn K mainGlobals "_mirrored_row" = some (some (.ref f18)))
    (l18 : K.lookup f18 = some ⟨oc18, od18, .func (PySem.W.fnOf "_mirrored_row" "_mirrored_row" (defArgs s__mirrored_row) (defBody s__mirrored_row) (defScope s__mirrored_row) .none kV18 dc18 pm18 an18 cd18 ct18), sl18⟩)
    (c18 : PySem.W.codeIn K cd18 "_mirrored_row" = true)
    (k18 : PySem.W.keepIn K (.ref f18) = true)
    (a19 : PySem.W.findIn K (.ref C) "rows" = some (some (.ref p19)))
    (g19 : PySem.W.specialIn K (.ref p19) "__get__" = some (some (.builtin "property.__get__")))
    (t19 : PySem.W.takesIn K (.ref p19) = some true)
    (r19 : PySem.W.recIn K p19 "property" = some (.ref f19 :: re19))
    (l19 : K.lookup f19 = some ⟨oc19, od19, .func (PySem.W.fnOf "rows" "Rule.rows" (defArgs s_Rule_rows) (defBody s_Rule_rows) (defScope s_Rule_rows) .none kV19 dc19 pm19 an19 cd19 ct19), sl19⟩)
    (c19 : PySem.W.codeIn K cd19 "Rule.rows" = true)
    (k19 : PySem.W.keepIn K (.ref f19) = true)
    (a20 : PySem.W.findIn K (.ref C) "inverse" = some (some (.ref f20)))
    (i20 : PySem.W.isFn K (.ref f20) = true)
    (l20 : K.lookup f20 = some ⟨oc20, od20, .func (PySem.W.fnOf "inverse" "Rule.inverse" (defArgs s_Rule_inverse) (defBody s_Rule_inverse) (defScope s_Rule_inverse) .none kV20 dc20 pm20 an20 cd20 ct20), sl20⟩)
    (c20 : PySem.W.codeIn K cd20 "Rule.inverse" = true)
    (k20 : PySem.W.keepIn K (.ref f20) = true)
    (a21 : PySem.W.findIn K (.ref C) "shifted" = some (some (.ref f21)))
    (i21 : PySem.W.isFn K (.ref f21) = true)
    (l21 : K.lookup f21 = some ⟨oc21, od21, .func (PySem.W.fnOf "shifted" "Rule.shifted" (defArgs s_Rule_shifted) (defBody s_Rule_shifted) (defScope s_Rule_shifted) .none kV21 dc21 pm21 an21 cd21 ct21), sl21⟩)
    (c21 : PySem.W.codeIn K cd21 "Rule.shifted" = true)
    (k21 : PySem.W.keepIn K (.ref f21) = true)
    (a22 : PySem.W.findIn K (.ref C) "then" = some (some (.ref f22)))
    (i22 : PySem.W.isFn K (.ref f22) = true)
    (l22 : K.lookup f22 = some ⟨oc22, od22, .func (PySem.W.fnOf "then" "Rule.then" (defArgs s_Rule_then) (defBody s_Rule_then) (defScope s_Rule_then) .none kV22 dc22 pm22 an22 cd22 ct22), sl22⟩)
    (c22 : PySem.W.codeIn K cd22 "Rule.then" = true)
    (k22 : PySem.W.keepIn K (.ref f22) = true)
    (a23 : PySem.W.findIn K (.ref C) "mirrored" = some (some (.ref f23)))
    (i23 : PySem.W.isFn K (.ref f23) = true)
    (l23 : K.lookup f23 = some ⟨oc23, od23, .func (PySem.W.fnOf "mirrored" "Rule.mirrored" (defArgs s_Rule_mirrored) (defBody s_Rule_mirrored) (defScope s_Rule_mirrored) .none kV23 dc23 pm23 an23 cd23 ct23), sl23⟩)
    (c23 : PySem.W.codeIn K cd23 "Rule.mirrored" = true)
    (k23 : PySem.W.keepIn K (.ref f23) = true)
    (a24 : PySem.W.findIn K (.ref C) "__add__" = some (some (.ref f24)))
    (i24 : PySem.W.isFn K (.ref f24) = true)
    (l24 : K.lookup f24 = some ⟨oc24, od24, .func (PySem.W.fnOf "__add__" "Rule.__add__" (defArgs s_Rule_u__add_u_) (defBody s_Rule_u__add_u_) (defScope s_Rule_u__add_u_) .none kV24 dc24 pm24 an24 cd24 ct24), sl24⟩)
    (c24 : PySem.W.codeIn K cd24 "Rule.__add__" = true)
    (k24 : PySem.W.keepIn K (.ref f24) = true)
    (a25 : PySem.W.nsIn K mainGlobals "_law_source" = some (some (.ref f25)))
    (l25 : K.lookup f25 = some ⟨oc25, od25, .func (PySem.W.fnOf "_law_source" "_law_source" (defArgs s__law_source) (defBody s__law_source) (defScope s__law_source) .none kV25 dc25 pm25 an25 cd25 ct25), sl25⟩)
    (c25 : PySem.W.codeIn K cd25 "_law_source" = true)
    (k25 : PySem.W.keepIn K (.ref f25) = true)
    (a26 : PySem.W.nsIn K mainGlobals "_law_draw" = some (some (.ref f26)))
    (l26 : K.lookup f26 = some ⟨oc26, od26, .func (PySem.W.fnOf "_law_draw" "_law_draw" (defArgs s__law_draw) (defBody s__law_draw) (defScope s__law_draw) .none kV26 dc26 pm26 an26 cd26 ct26), sl26⟩)
    (c26 : PySem.W.codeIn K cd26 "_law_draw" = true)
    (k26 : PySem.W.keepIn K (.ref f26) = true)
    (a27 : PySem.W.nsIn K mainGlobals "_law_lines" = some (some (.ref f27)))
    (l27 : K.lookup f27 = some ⟨oc27, od27, .func (PySem.W.fnOf "_law_lines" "_law_lines" (defArgs s__law_lines) (defBody s__law_lines) (defScope s__law_lines) .none kV27 dc27 pm27 an27 cd27 ct27), sl27⟩)
    (c27 : PySem.W.codeIn K cd27 "_law_lines" = true)
    (k27 : PySem.W.keepIn K (.ref f27) = true)
    (a28 : PySem.W.nsIn K mainGlobals "_law_step" = some (some (.ref f28)))
    (l28 : K.lookup f28 = some ⟨oc28, od28, .func (PySem.W.fnOf "_law_step" "_law_step" (defArgs s__law_step) (defBody s__law_step) (defScope s__law_step) .none kV28 dc28 pm28 an28 cd28 ct28), sl28⟩)
    (c28 : PySem.W.codeIn K cd28 "_law_step" = true)
    (k28 : PySem.W.keepIn K (.ref f28) = true)
    (a29 : PySem.W.nsIn K mainGlobals "_law_moved" = some (some (.ref f29)))
    (l29 : K.lookup f29 = some ⟨oc29, od29, .func (PySem.W.fnOf "_law_moved" "_law_moved" (defArgs s__law_moved) (defBody s__law_moved) (defScope s__law_moved) .none kV29 dc29 pm29 an29 cd29 ct29), sl29⟩)
    (c29 : PySem.W.codeIn K cd29 "_law_moved" = true)
    (k29 : PySem.W.keepIn K (.ref f29) = true)
    (a30 : PySem.W.nsIn K mainGlobals "_law_changed" = some (some (.ref f30)))
    (l30 : K.lookup f30 = some ⟨oc30, od30, .func (PySem.W.fnOf "_law_changed" "_law_changed" (defArgs s__law_changed) (defBody s__law_changed) (defScope s__law_changed) .none kV30 dc30 pm30 an30 cd30 ct30), sl30⟩)
    (c30 : PySem.W.codeIn K cd30 "_law_changed" = true)
    (k30 : PySem.W.keepIn K (.ref f30) = true)
    (a31 : PySem.W.nsIn K mainGlobals "_law_texts" = some (some (.ref f31)))
    (l31 : K.lookup f31 = some ⟨oc31, od31, .func (PySem.W.fnOf "_law_texts" "_law_texts" (defArgs s__law_texts) (defBody s__law_texts) (defScope s__law_texts) .none kV31 dc31 pm31 an31 cd31 ct31), sl31⟩)
    (c31 : PySem.W.codeIn K cd31 "_law_texts" = true)
    (k31 : PySem.W.keepIn K (.ref f31) = true)
    (a32 : PySem.W.nsIn K mainGlobals "_law_lanes" = some (some (.ref f32)))
    (l32 : K.lookup f32 = some ⟨oc32, od32, .func (PySem.W.fnOf "_law_lanes" "_law_lanes" (defArgs s__law_lanes) (defBody s__law_lanes) (defScope s__law_lanes) .none kV32 dc32 pm32 an32 cd32 ct32), sl32⟩)
    (c32 : PySem.W.codeIn K cd32 "_law_lanes" = true)
    (k32 : PySem.W.keepIn K (.ref f32) = true)
    (a33 : PySem.W.nsIn K mainGlobals "_law_turned" = some (some (.ref f33)))
    (l33 : K.lookup f33 = some ⟨oc33, od33, .func (PySem.W.fnOf "_law_turned" "_law_turned" (defArgs s__law_turned) (defBody s__law_turned) (defScope s__law_turned) .none kV33 dc33 pm33 an33 cd33 ct33), sl33⟩)
    (c33 : PySem.W.codeIn K cd33 "_law_turned" = true)
    (k33 : PySem.W.keepIn K (.ref f33) = true)
    (a34 : PySem.W.nsIn K mainGlobals "_law_right" = some (some (.ref f34)))
    (l34 : K.lookup f34 = some ⟨oc34, od34, .func (PySem.W.fnOf "_law_right" "_law_right" (defArgs s__law_right) (defBody s__law_right) (defScope s__law_right) .none kV34 dc34 pm34 an34 cd34 ct34), sl34⟩)
    (c34 : PySem.W.codeIn K cd34 "_law_right" = true)
    (k34 : PySem.W.keepIn K (.ref f34) = true)
    (a35 : PySem.W.nsIn K mainGlobals "_law_base" = some (some (.ref f35)))
    (l35 : K.lookup f35 = some ⟨oc35, od35, .func (PySem.W.fnOf "_law_base" "_law_base" (defArgs s__law_base) (defBody s__law_base) (defScope s__law_base) .none kV35 dc35 pm35 an35 cd35 ct35), sl35⟩)
    (c35 : PySem.W.codeIn K cd35 "_law_base" = true)
    (k35 : PySem.W.keepIn K (.ref f35) = true)
    (a36 : PySem.W.nsIn K mainGlobals "_law_led" = some (some (.ref f36)))
    (l36 : K.lookup f36 = some ⟨oc36, od36, .func (PySem.W.fnOf "_law_led" "_law_led" (defArgs s__law_led) (defBody s__law_led) (defScope s__law_led) .none kV36 dc36 pm36 an36 cd36 ct36), sl36⟩)
    (c36 : PySem.W.codeIn K cd36 "_law_led" = true)
    (k36 : PySem.W.keepIn K (.ref f36) = true)
    (a37 : PySem.W.nsIn K mainGlobals "law" = some (some (.ref f37)))
    (l37 : K.lookup f37 = some ⟨oc37, od37, .func (PySem.W.fnOf "law" "law" (defArgs s_law) (defBody s_law) (defScope s_law) .none kV37 dc37 pm37 an37 cd37 ct37), sl37⟩)
    (c37 : PySem.W.codeIn K cd37 "law" = true)
    (k37 : PySem.W.keepIn K (.ref f37) = true)
    (pg : PySem.W.plainGet K C Str.empty = true)
    (hd : PySem.W.hasDictIn K C = true)
    (po : PySem.W.plainOver K C = true)
    (sa : PySem.W.findIn K (.ref C) "__setattr__" = some (some (.builtin "object.__setattr__")))
    (mk : PySem.W.makesIn K C = true)
    (kc : PySem.W.keepIn K (.ref C) = true)
    (nR : PySem.W.findIn K (.ref C) "_rows" = some none)
    (cl1 : PySem.W.findIn K (.ref C) "__class__" = some (some (.builtin "object.__class__")))
    (cl2 : PySem.W.specialIn K (.builtin "object.__class__") "__get__" = some (some (.builtin "getset_descriptor.__get__")))
    (cl3 : PySem.W.takesIn K (.builtin "object.__class__") = some true)
    (cl4 : PySem.W.mroIn K C (.type "object") = some true)
    (sf : PySem.W.selfFirst K C = true)
    (zlen : PySem.W.nsIn K mainGlobals "len" = some none)
    (zint : PySem.W.nsIn K mainGlobals "int" = some none)
    (zrange : PySem.W.nsIn K mainGlobals "range" = some none)
    (zlist : PySem.W.nsIn K mainGlobals "list" = some none)
    (ztuple : PySem.W.nsIn K mainGlobals "tuple" = some none)
    (zisinstance : PySem.W.nsIn K mainGlobals "isinstance" = some none)
    (zall : PySem.W.nsIn K mainGlobals "all" = some none)
    (zany : PySem.W.nsIn K mainGlobals "any" = some none)
    (zbool : PySem.W.nsIn K mainGlobals "bool" = some none)
    (zstr : PySem.W.nsIn K mainGlobals "str" = some none)
    (zmin : PySem.W.nsIn K mainGlobals "min" = some none)
    (zmax : PySem.W.nsIn K mainGlobals "max" = some none)
    (zabs : PySem.W.nsIn K mainGlobals "abs" = some none)
    (zsum : PySem.W.nsIn K mainGlobals "sum" = some none)
    (zsorted : PySem.W.nsIn K mainGlobals "sorted" = some none)
    (zset : PySem.W.nsIn K mainGlobals "set" = some none)
    (zValueError : PySem.W.nsIn K mainGlobals "ValueError" = some none)
    (zlcm : PySem.W.nsIn K mainGlobals "lcm" = some (some (.builtin "math.lcm"))) :
    ∃ fd : FuncData, (∀ (s : Shared) (v : Value), BindsTo s fd ⟨[v], []⟩ [("script", v)]) ∧ ∀ base : Heap, K.In base → base.Ns mainGlobals mg → FnOk l.prog w K mg base CX0 10 fa fd ["script"] (spLaw K) := by
  have e := hfa.symm.trans (PySem.W.mg_of X G a37)
  cases e
  have B : Bi mg := ⟨PySem.W.mg_none_of X G zlen, PySem.W.mg_none_of X G zint, PySem.W.mg_none_of X G zrange, PySem.W.mg_none_of X G zlist, PySem.W.mg_none_of X G ztuple, PySem.W.mg_none_of X G zisinstance, PySem.W.mg_none_of X G zall, PySem.W.mg_none_of X G zany, PySem.W.mg_none_of X G zbool, PySem.W.mg_none_of X G zstr, PySem.W.mg_none_of X G zmin, PySem.W.mg_none_of X G zmax, PySem.W.mg_none_of X G zabs, PySem.W.mg_none_of X G zsum, PySem.W.mg_none_of X G zsorted, PySem.W.mg_none_of X G zset, PySem.W.mg_none_of X G zValueError⟩
  have G_Rule := PySem.W.mg_of X G aCRule
  have T : Rl K C := ⟨⟨pg, hd, po, sa⟩, nR, cl1, cl2, cl3, cl4, sf⟩
  have F1 := fun_mk (st := s_check_size) l1 c1 k1
  have b1 := F1.binds (ps := ["n"]) fun _ _ _ _ _ _ us hl => match us, hl with | [_], _ => rfl
  have F2 := fun_mk (st := s_check_half_post) l2 c2 k2
  have b2 := F2.binds (ps := ["post"]) fun _ _ _ _ _ _ us hl => match us, hl with | [_], _ => rfl
  have F3 := fun_mk (st := s_check_number) l3 c3 k3
  have b3 := F3.binds (ps := ["number"]) fun _ _ _ _ _ _ us hl => match us, hl with | [_], _ => rfl
  have F4 := fun_mk (st := s_from_least) l4 c4 k4
  have b4 := F4.binds (ps := ["entries"]) fun _ _ _ _ _ _ us hl => match us, hl with | [_], _ => rfl
  have F5 := fun_mk (st := s_is_marked) l5 c5 k5
  have b5 := F5.binds (ps := ["text"]) fun _ _ _ _ _ _ us hl => match us, hl with | [_], _ => rfl
  have F6 := fun_mk (st := s_is_row) l6 c6 k6
  have b6 := F6.binds (ps := ["text"]) fun _ _ _ _ _ _ us hl => match us, hl with | [_], _ => rfl
  have F7 := fun_mk (st := s_Rule_u__init_u_) l7 c7 k7
  have b7 := F7.binds (ps := ["self", "texts"]) fun _ _ _ _ _ _ us hl => match us, hl with | [_, _], _ => rfl
  have F8 := fun_mk (st := s_Rule_width) l8 c8 k8
  have b8 := F8.binds (ps := ["self"]) fun _ _ _ _ _ _ us hl => match us, hl with | [_], _ => rfl
  have F9 := fun_mk (st := s_Rule_height) l9 c9 k9
  have b9 := F9.binds (ps := ["self"]) fun _ _ _ _ _ _ us hl => match us, hl with | [_], _ => rfl
  have F10 := fun_mk (st := s_Rule_has_rung) l10 c10 k10
  have b10 := F10.binds (ps := ["self", "row", "post"]) fun _ _ _ _ _ _ us hl => match us, hl with | [_, _, _], _ => rfl
  have F11 := fun_mk (st := s__past_row) l11 c11 k11
  have b11 := F11.binds (ps := ["rule", "row", "post"]) fun _ _ _ _ _ _ us hl => match us, hl with | [_, _, _], _ => rfl
  have F12 := fun_mk (st := s_step_of) l12 c12 k12
  have b12 := F12.binds (ps := ["rule", "post"]) fun _ _ _ _ _ _ us hl => match us, hl with | [_, _], _ => rfl
  have F13 := fun_mk (st := s_steps_of) l13 c13 k13
  have b13 := F13.binds (ps := ["rule"]) fun _ _ _ _ _ _ us hl => match us, hl with | [_], _ => rfl
  have F14 := fun_mk (st := s_lane_with) l14 c14 k14
  have b14 := F14.binds (ps := ["steps", "post"]) fun _ _ _ _ _ _ us hl => match us, hl with | [_, _], _ => rfl
  have F15 := fun_mk (st := s_lanes_of) l15 c15 k15
  have b15 := F15.binds (ps := ["rule"]) fun _ _ _ _ _ _ us hl => match us, hl with | [_], _ => rfl
  have F16 := fun_mk (st := s_judge_lanes) l16 c16 k16
  have b16 := F16.binds (ps := ["rule", "told"]) fun _ _ _ _ _ _ us hl => match us, hl with | [_, _], _ => rfl
  have F17 := fun_mk (st := s__shifted_row) l17 c17 k17
  have b17 := F17.binds (ps := ["row", "by"]) fun _ _ _ _ _ _ us hl => match us, hl with | [_, _], _ => rfl
  have F18 := fun_mk (st := s__mirrored_row) l18 c18 k18
  have b18 := F18.binds (ps := ["row", "n"]) fun _ _ _ _ _ _ us hl => match us, hl with | [_, _], _ => rfl
  have F19 := fun_mk (st := s_Rule_rows) l19 c19 k19
  have b19 := F19.binds (ps := ["self"]) fun _ _ _ _ _ _ us hl => match us, hl with | [_], _ => rfl
  have F20 := fun_mk (st := s_Rule_inverse) l20 c20 k20
  have b20 := F20.binds (ps := ["self"]) fun _ _ _ _ _ _ us hl => match us, hl with | [_], _ => rfl
  have F21 := fun_mk (st := s_Rule_shifted) l21 c21 k21
  have b21 := F21.binds (ps := ["self", "by"]) fun _ _ _ _ _ _ us hl => match us, hl with | [_, _], _ => rfl
  have F22 := fun_mk (st := s_Rule_then) l22 c22 k22
  have b22 := F22.binds (ps := ["self", "other"]) fun _ _ _ _ _ _ us hl => match us, hl with | [_, _], _ => rfl
  have F23 := fun_mk (st := s_Rule_mirrored) l23 c23 k23
  have b23 := F23.binds (ps := ["self", "n"]) fun _ _ _ _ _ _ us hl => match us, hl with | [_, _], _ => rfl
  have F24 := fun_mk (st := s_Rule_u__add_u_) l24 c24 k24
  have b24 := F24.binds (ps := ["self", "other"]) fun _ _ _ _ _ _ us hl => match us, hl with | [_, _], _ => rfl
  have F25 := fun_mk (st := s__law_source) l25 c25 k25
  have b25 := F25.binds (ps := ["script"]) fun _ _ _ _ _ _ us hl => match us, hl with | [_], _ => rfl
  have F26 := fun_mk (st := s__law_draw) l26 c26 k26
  have b26 := F26.binds (ps := ["source", "limit"]) fun _ _ _ _ _ _ us hl => match us, hl with | [_, _], _ => rfl
  have F27 := fun_mk (st := s__law_lines) l27 c27 k27
  have b27 := F27.binds (ps := ["span"]) fun _ _ _ _ _ _ us hl => match us, hl with | [_], _ => rfl
  have F28 := fun_mk (st := s__law_step) l28 c28 k28
  have b28 := F28.binds (ps := ["texts", "start"]) fun _ _ _ _ _ _ us hl => match us, hl with | [_, _], _ => rfl
  have F29 := fun_mk (st := s__law_moved) l29 c29 k29
  have b29 := F29.binds (ps := ["texts", "rests"]) fun _ _ _ _ _ _ us hl => match us, hl with | [_, _], _ => rfl
  have F30 := fun_mk (st := s__law_changed) l30 c30 k30
  have b30 := F30.binds (ps := ["source", "kind", "given", "texts"]) fun _ _ _ _ _ _ us hl => match us, hl with | [_, _, _, _], _ => rfl
  have F31 := fun_mk (st := s__law_texts) l31 c31 k31
  have b31 := F31.binds (ps := ["source", "most"]) fun _ _ _ _ _ _ us hl => match us, hl with | [_, _], _ => rfl
  have F32 := fun_mk (st := s__law_lanes) l32 c32 k32
  have b32 := F32.binds (ps := ["texts"]) fun _ _ _ _ _ _ us hl => match us, hl with | [_], _ => rfl
  have F33 := fun_mk (st := s__law_turned) l33 c33 k33
  have b33 := F33.binds (ps := ["entries", "by"]) fun _ _ _ _ _ _ us hl => match us, hl with | [_, _], _ => rfl
  have F34 := fun_mk (st := s__law_right) l34 c34 k34
  have b34 := F34.binds (ps := ["texts", "given"]) fun _ _ _ _ _ _ us hl => match us, hl with | [_, _], _ => rfl
  have F35 := fun_mk (st := s__law_base) l35 c35 k35
  have b35 := F35.binds (ps := ["texts", "road", "by"]) fun _ _ _ _ _ _ us hl => match us, hl with | [_, _, _], _ => rfl
  have F36 := fun_mk (st := s__law_led) l36 c36 k36
  have b36 := F36.binds (ps := ["base", "texts", "road", "by"]) fun _ _ _ _ _ _ us hl => match us, hl with | [_, _, _, _], _ => rfl
  have F37 := fun_mk (st := s_law) l37 c37 k37
  have b37 := F37.binds (ps := ["script"]) fun _ _ _ _ _ _ us hl => match us, hl with | [_], _ => rfl
  have G_lcm := PySem.W.mg_of X G zlcm
  refine ⟨PySem.W.fnOf "law" "law" (defArgs s_law) (defBody s_law) (defScope s_law) .none kV37 dc37 pm37 an37 cd37 ct37, fun s v => .of_eq rfl, fun base _ _ => ?_⟩
  have G1 : FnOk l.prog w K mg base CX0 2 f1 _ ["n"] spCheckSize := ok_check_size F1 B
  have D_check_size := Df.mk' F1 G1 (PySem.W.mg_of X G a1) b1
  have G2 : FnOk l.prog w K mg base CX0 2 f2 _ ["post"] spCheckHalf := ok_check_half_post F2 B
  have D_check_half_post := Df.mk' F2 G2 (PySem.W.mg_of X G a2) b2
  have G3 : FnOk l.prog w K mg base CX0 2 f3 _ ["number"] spCheckNumber := ok_check_number F3 B
  have D_check_number := Df.mk' F3 G3 (PySem.W.mg_of X G a3) b3
  have G4 : FnOk l.prog w K mg base CX0 2 f4 _ ["entries"] spFromLeast := ok_from_least F4 B
  have D_from_least := Df.mk' F4 G4 (PySem.W.mg_of X G a4) b4
  have G5 : FnOk l.prog w K mg base CX0 1 f5 _ ["text"] spIsMarked := ok_is_marked F5 B
  have D_is_marked := Df.mk' F5 G5 (PySem.W.mg_of X G a5) b5
  have G6 : FnOk l.prog w K mg base CX0 2 f6 _ ["text"] spIsRow := ok_is_row F6 B D_is_marked
  have D_is_row := Df.mk' F6 G6 (PySem.W.mg_of X G a6) b6
  have G7 : FnOk l.prog w K mg base CX0 3 f7 _ ["self", "texts"] (spInit C) := ok_Rule_init F7 B T D_is_row
  have M_Rule : Mkr l.prog w K mg base "Rule" C 3 ["self", "texts"] (spInit C) := ⟨_, _, PySem.W.mg_of X G aCRule, ⟨mk, a7, i7, kc⟩, G7, b7⟩
  have G8 : FnOk l.prog w K mg base CX0 2 f8 _ ["self"] (spWidth C) := ok_Rule_width F8 B T
  have P_width : Pr l.prog w K mg base C "width" 2 (spWidth C) := ⟨_, _, _, T.cl, ⟨a8, g8, t8, _, r8⟩, G8, b8⟩
  have G9 : FnOk l.prog w K mg base CX0 2 f9 _ ["self"] (spHeight C) := ok_Rule_height F9 B T
  have P_height : Pr l.prog w K mg base C "height" 2 (spHeight C) := ⟨_, _, _, T.cl, ⟨a9, g9, t9, _, r9⟩, G9, b9⟩
  have G10 : FnOk l.prog w K mg base CX0 4 f10 _ ["self", "row", "post"] (spHasRung C) := ok_Rule_has_rung F10 B T D_check_number D_check_half_post P_width P_height
  have E_has_rung : Me l.prog w K mg base C "has_rung" 4 ["self", "row", "post"] (spHasRung C) := ⟨_, _, T.cl, ⟨a10, i10, k10⟩, G10, b10⟩
  have G11 : FnOk l.prog w K mg base CX0 5 f11 _ ["rule", "row", "post"] (spPastZ C) := ok__past_row F11 B E_has_rung P_width
  have D_past_row := Df.mk' F11 G11 (PySem.W.mg_of X G a11) b11
  have G12 : FnOk l.prog w K mg base CX0 6 f12 _ ["rule", "post"] (spStepOf C) := ok_step_of F12 B D_past_row P_height
  have D_step_of := Df.mk' F12 G12 (PySem.W.mg_of X G a12) b12
  have G13 : FnOk l.prog w K mg base CX0 7 f13 _ ["rule"] (spStepsOf C) := ok_steps_of F13 B D_step_of P_width
  have D_steps_of := Df.mk' F13 G13 (PySem.W.mg_of X G a13) b13
  have G14 : FnOk l.prog w K mg base CX0 2 f14 _ ["steps", "post"] (spLaneWith C) := ok_lane_with C F14 B
  have D_lane_with := Df.mk' F14 G14 (PySem.W.mg_of X G a14) b14
  have G15 : FnOk l.prog w K mg base CX0 8 f15 _ ["rule"] (spLanesOf C) := ok_lanes_of F15 B D_steps_of D_lane_with
  have D_lanes_of := Df.mk' F15 G15 (PySem.W.mg_of X G a15) b15
  have G16 : FnOk l.prog w K mg base CX0 9 f16 _ ["rule", "told"] (spJudgeLanes C) := ok_judge_lanes F16 B D_from_least D_lanes_of
  have D_judge_lanes := Df.mk' F16 G16 (PySem.W.mg_of X G a16) b16
  have DK_judge_lanes_rule_told : DfK l.prog w K mg base "judge_lanes" 9 ["rule", "told"] (spJudgeLanes C) ["rule", "told"] gApp := ⟨_, _, _, PySem.W.mg_of X G a16, G16, k16, kb_app fun us ws h1 h2 => match us, ws, h1, h2 with | [], [_, _], _, _ => rfl⟩
  have G17 : FnOk l.prog w K mg base CX0 2 f17 _ ["row", "by"] spShiftedRow := ok__shifted_row F17 B
  have D_shifted_row := Df.mk' F17 G17 (PySem.W.mg_of X G a17) b17
  have G18 : FnOk l.prog w K mg base CX0 2 f18 _ ["row", "n"] spMirroredRow := ok__mirrored_row F18 B
  have D_mirrored_row := Df.mk' F18 G18 (PySem.W.mg_of X G a18) b18
  have G19 : FnOk l.prog w K mg base CX0 2 f19 _ ["self"] (spRows C) := ok_Rule_rows F19 B T
  have P_rows : Pr l.prog w K mg base C "rows" 2 (spRows C) := ⟨_, _, _, T.cl, ⟨a19, g19, t19, _, r19⟩, G19, b19⟩
  have G20 : FnOk l.prog w K mg base CX0 5 f20 _ ["self"] (spInverse C) := ok_Rule_inverse F20 B T M_Rule P_rows
  have E_inverse : Me l.prog w K mg base C "inverse" 5 ["self"] (spInverse C) := ⟨_, _, T.cl, ⟨a20, i20, k20⟩, G20, b20⟩
  have G21 : FnOk l.prog w K mg base CX0 5 f21 _ ["self", "by"] (spShifted C) := ok_Rule_shifted F21 B T M_Rule D_shifted_row
  have E_shifted : Me l.prog w K mg base C "shifted" 5 ["self", "by"] (spShifted C) := ⟨_, _, T.cl, ⟨a21, i21, k21⟩, G21, b21⟩
  have G22 : FnOk l.prog w K mg base CX0 5 f22 _ ["self", "other"] (spThen C) := ok_Rule_then F22 B T G_lcm M_Rule P_rows P_width
  have E_then : Me l.prog w K mg base C "then" 5 ["self", "other"] (spThen C) := ⟨_, _, T.cl, ⟨a22, i22, k22⟩, G22, b22⟩
  have G23 : FnOk l.prog w K mg base CX0 5 f23 _ ["self", "n"] (spMirrored C) := ok_Rule_mirrored F23 B T M_Rule D_check_size D_mirrored_row
  have E_mirrored : Me l.prog w K mg base C "mirrored" 5 ["self", "n"] (spMirrored C) := ⟨_, _, T.cl, ⟨a23, i23, k23⟩, G23, b23⟩
  have G24 : FnOk l.prog w K mg base CX0 6 f24 _ ["self", "other"] (spThen C) := ok_Rule_add F24 B T E_then
  have O_add : Me l.prog w K mg base C "__add__" 6 ["self", "other"] (spThen C) := ⟨_, _, T.cl, ⟨a24, i24, k24⟩, G24, b24⟩
  have G25 : FnOk l.prog w K mg base CX0 2 f25 _ ["script"] (spSource K) := ok__law_source F25 B
  have D_law_source := Df.mk' F25 G25 (PySem.W.mg_of X G a25) b25
  have G26 : FnOk l.prog w K mg base CX0 2 f26 _ ["source", "limit"] spDraw := ok__law_draw F26 B
  have D_law_draw := Df.mk' F26 G26 (PySem.W.mg_of X G a26) b26
  have G27 : FnOk l.prog w K mg base CX0 2 f27 _ ["span"] spLinesSpan := ok__law_lines F27 B
  have D_law_lines := Df.mk' F27 G27 (PySem.W.mg_of X G a27) b27
  have G28 : FnOk l.prog w K mg base CX0 2 f28 _ ["texts", "start"] spLawStepZ := ok__law_step F28 B
  have D_law_step := Df.mk' F28 G28 (PySem.W.mg_of X G a28) b28
  have G29 : FnOk l.prog w K mg base CX0 3 f29 _ ["texts", "rests"] spMoved := ok__law_moved F29 B D_law_step
  have D_law_moved := Df.mk' F29 G29 (PySem.W.mg_of X G a29) b29
  have G30 : FnOk l.prog w K mg base CX0 4 f30 _ ["source", "kind", "given", "texts"] spChanged := ok__law_changed F30 B D_law_draw D_law_moved
  have D_law_changed := Df.mk' F30 G30 (PySem.W.mg_of X G a30) b30
  have G31 : FnOk l.prog w K mg base CX0 3 f31 _ ["source", "most"] spTexts := ok__law_texts F31 B D_law_draw D_law_lines
  have D_law_texts := Df.mk' F31 G31 (PySem.W.mg_of X G a31) b31
  have G32 : FnOk l.prog w K mg base CX0 3 f32 _ ["texts"] spLawLanes := ok__law_lanes F32 B D_law_step
  have D_law_lanes := Df.mk' F32 G32 (PySem.W.mg_of X G a32) b32
  have G33 : FnOk l.prog w K mg base CX0 2 f33 _ ["entries", "by"] (spTurned (K := K)) := ok__law_turned F33 B
  have D_law_turned := Df.mk' F33 G33 (PySem.W.mg_of X G a33) b33
  have G34 : FnOk l.prog w K mg base CX0 4 f34 _ ["texts", "given"] (spRight K) := ok__law_right F34 B D_law_step
  have D_law_right := Df.mk' F34 G34 (PySem.W.mg_of X G a34) b34
  have G35 : FnOk l.prog w K mg base CX0 2 f35 _ ["texts", "road", "by"] spBase := ok__law_base F35 B
  have D_law_base := Df.mk' F35 G35 (PySem.W.mg_of X G a35) b35
  have G36 : FnOk l.prog w K mg base CX0 7 f36 _ ["base", "texts", "road", "by"] (spLed C) := ok__law_led F36 B T M_Rule E_inverse E_shifted E_mirrored O_add
  have D_law_led := Df.mk' F36 G36 (PySem.W.mg_of X G a36) b36
  exact ok_law F37 B T G_Rule D_law_source D_law_draw D_law_texts D_law_base D_law_led D_law_lanes D_law_turned D_law_changed D_law_right D_judge_lanes DK_judge_lanes_rule_told M_Rule
theorem walk {l : PySem.W.OpenLaw} {q : Program} {loose : List Str} {XP : (Str → Option Value) → Heap → Prop} {YP : World → Heap → Prop} {d : DefRec} {K : Params → PySem.W.Frag} (hn : l.most = some 63) (hdf : d.params.defaults = [])
    (hY : ∀ (w : World) (h : Heap), YP w h → (K w.params).In h)
    (F : ∀ (w : World) (mg : Str → Option Value) (fa : Addr) (h : Heap), (K w.params).In h → h.Ns mainGlobals mg → mg d.name = some (.ref fa) →
      ∃ fd : FuncData, (∀ (s : Shared) (u : Value), BindsTo s fd ⟨[u], []⟩ [("script", u)]) ∧ ∀ base : Heap, (K w.params).In base → base.Ns mainGlobals mg → FnOk l.prog w (K w.params) mg base CX0 10 fa fd ["script"] (spLaw (K w.params))) :
    PySem.W.WalkO q loose XP YP l.row.toRowW d [] (fun f vs => PySem.call f vs) :=
  L2.walk_of (n := 63) (k := 10) (x := "script") (CX := fun _ => CX0) (sp := fun w => spLaw (K w.params)) hn (by decide) hdf ⟨rfl, by decide, by decide⟩ hY F (fun _ _ a ns hl _ hS => ⟨a, ns, rfl, hS, hl, fun _ => rfl⟩) fun _ _ _ _ _ z => z
end Rg
open PySem PySem.W PyProof.Rows
set_option maxRecDepth 100000 in
set_option maxHeartbeats 0 in
theorem PySem.Challenge.cw_rungrepeats_k24_lanes_judged_holds : PySem.Challenge.rw_rungrepeats_k24_lanes_judged.Holds := by
  w_on; o_law; k_head; (case hw => w_witness2)
  k_fill
  refine Rg.walk (l := PySem.Challenge.rw_rungrepeats_k24_lanes_judged) rfl rfl (fun w h Y => PySem.W.kIn_of Y) ?F
  case F =>
    intro w mg fa h KX G hmg
    refine' Rg.all_mk KX G hmg ?aCRule ?a1 ?l1 ?c1 ?k1 ?a2 ?l2 ?c2 ?k2 ?a3 ?l3 ?c3 ?k3 ?a4 ?l4 ?c4 ?k4 ?a5 ?l5 ?c5 ?k5 ?a6 ?l6 ?c6 ?k6 ?a7 ?i7 ?l7 ?c7 ?k7 ?a8 ?g8 ?t8 ?r8 ?l8 ?c8 ?k8 ?a9 ?g9 ?t9 ?r9 ?l9 ?c9 ?k9 ?a10 ?i10 ?l10 ?c10 ?k10 ?a11 ?l11 ?c11 ?k11 ?a12 ?l12 ?c12 ?k12 ?a13 ?l13 ?c13 ?k13 ?a14 ?l14 ?c14 ?k14 ?a15 ?l15 ?c15 ?k15 ?a16 ?l16 ?c16 ?k16 ?a17 ?l17 ?c17 ?k17 ?a18 ?l18 ?c18 ?k18 ?a19 ?g19 ?t19 ?r19 ?l19 ?c19 ?k19 ?a20 ?i20 ?l20 ?c20 ?k20 ?a21 ?i21 ?l21 ?c21 ?k21 ?a22 ?i22 ?l22 ?c22 ?k22 ?a23 ?i23 ?l23 ?c23 ?k23 ?a24 ?i24 ?l24 ?c24 ?k24 ?a25 ?l25 ?c25 ?k25 ?a26 ?l26 ?c26 ?k26 ?a27 ?l27 ?c27 ?k27 ?a28 ?l28 ?c28 ?k28 ?a29 ?l29 ?c29 ?k29 ?a30 ?l30 ?c30 ?k30 ?a31 ?l31 ?c31 ?k31 ?a32 ?l32 ?c32 ?k32 ?a33 ?l33 ?c33 ?k33 ?a34 ?l34 ?c34 ?k34 ?a35 ?l35 ?c35 ?k35 ?a36 ?l36 ?c36 ?k36 ?a37 ?l37 ?c37 ?k37 ?pg ?hd ?po ?sa ?mk ?kc ?nR ?cl1 ?cl2 ?cl3 ?cl4 ?sf ?zlen ?zint ?zrange ?zlist ?ztuple ?zisinstance ?zall ?zany ?zbool ?zstr ?zmin ?zmax ?zabs ?zsum ?zsorted ?zset ?zValueError ?zlcm
    (case aCRule => k_is)
    (case a1 => k_is)
    (case l1 => k_is)
    (case c1 => k_is)
    (case k1 => k_is)
    (case a2 => k_is)
    (case l2 => k_is)
    (case c2 => k_is)
    (case k2 => k_is)
    (case a3 => k_is)
    (case l3 => k_is)
    (case c3 => k_is)
    (case k3 => k_is)
    (case a4 => k_is)
    (case l4 => k_is)
    (case c4 => k_is)
    (case k4 => k_is)
    (case a5 => k_is)
    (case l5 => k_is)
    (case c5 => k_is)
    (case k5 => k_is)
    (case a6 => k_is)
    (case l6 => k_is)
    (case c6 => k_is)
    (case k6 => k_is)
    (case a7 => k_is)
    (case i7 => k_is)
    (case l7 => k_is)
    (case c7 => k_is)
    (case k7 => k_is)
    (case a8 => k_is)
    (case g8 => k_is)
    (case t8 => k_is)
    (case r8 => k_is)
    (case l8 => k_is)
    (case c8 => k_is)
    (case k8 => k_is)
    (case a9 => k_is)
    (case g9 => k_is)
    (case t9 => k_is)
    (case r9 => k_is)
    (case l9 => k_is)
    (case c9 => k_is)
    (case k9 => k_is)
    (case a10 => k_is)
    (case i10 => k_is)
    (case l10 => k_is)
    (case c10 => k_is)
    (case k10 => k_is)
    (case a11 => k_is)
    (case l11 => k_is)
    (case c11 => k_is)
    (case k11 => k_is)
    (case a12 => k_is)
    (case l12 => k_is)
    (case c12 => k_is)
    (case k12 => k_is)
    (case a13 => k_is)
    (case l13 => k_is)
    (case c13 => k_is)
    (case k13 => k_is)
    (case a14 => k_is)
    (case l14 => k_is)
    (case c14 => k_is)
    (case k14 => k_is)
    (case a15 => k_is)
    (case l15 => k_is)
    (case c15 => k_is)
    (case k15 => k_is)
    (case a16 => k_is)
    (case l16 => k_is)
    (case c16 => k_is)
    (case k16 => k_is)
    (case a17 => k_is)
    (case l17 => k_is)
    (case c17 => k_is)
    (case k17 => k_is)
    (case a18 => k_is)
    (case l18 => k_is)
    (case c18 => k_is)
    (case k18 => k_is)
    (case a19 => k_is)
    (case g19 => k_is)
    (case t19 => k_is)
    (case r19 => k_is)
    (case l19 => k_is)
    (case c19 => k_is)
    (case k19 => k_is)
    (case a20 => k_is)
    (case i20 => k_is)
    (case l20 => k_is)
    (case c20 => k_is)
    (case k20 => k_is)
    (case a21 => k_is)
    (case i21 => k_is)
    (case l21 => k_is)
    (case c21 => k_is)
    (case k21 => k_is)
    (case a22 => k_is)
    (case i22 => k_is)
    (case l22 => k_is)
    (case c22 => k_is)
    (case k22 => k_is)
    (case a23 => k_is)
    (case i23 => k_is)
    (case l23 => k_is)
    (case c23 => k_is)
    (case k23 => k_is)
    (case a24 => k_is)
    (case i24 => k_is)
    (case l24 => k_is)
    (case c24 => k_is)
    (case k24 => k_is)
    (case a25 => k_is)
    (case l25 => k_is)
    (case c25 => k_is)
    (case k25 => k_is)
    (case a26 => k_is)
    (case l26 => k_is)
    (case c26 => k_is)
    (case k26 => k_is)
    (case a27 => k_is)
    (case l27 => k_is)
    (case c27 => k_is)
    (case k27 => k_is)
    (case a28 => k_is)
    (case l28 => k_is)
    (case c28 => k_is)
    (case k28 => k_is)
    (case a29 => k_is)
    (case l29 => k_is)
    (case c29 => k_is)
    (case k29 => k_is)
    (case a30 => k_is)
    (case l30 => k_is)
    (case c30 => k_is)
    (case k30 => k_is)
    (case a31 => k_is)
    (case l31 => k_is)
    (case c31 => k_is)
    (case k31 => k_is)
    (case a32 => k_is)
    (case l32 => k_is)
    (case c32 => k_is)
    (case k32 => k_is)
    (case a33 => k_is)
    (case l33 => k_is)
    (case c33 => k_is)
    (case k33 => k_is)
    (case a34 => k_is)
    (case l34 => k_is)
    (case c34 => k_is)
    (case k34 => k_is)
    (case a35 => k_is)
    (case l35 => k_is)
    (case c35 => k_is)
    (case k35 => k_is)
    (case a36 => k_is)
    (case l36 => k_is)
    (case c36 => k_is)
    (case k36 => k_is)
    (case a37 => k_is)
    (case l37 => k_is)
    (case c37 => k_is)
    (case k37 => k_is)
    (case pg => k_is)
    (case hd => k_is)
    (case po => k_is)
    (case sa => k_is)
    (case mk => k_is)
    (case kc => k_is)
    (case nR => k_is)
    (case cl1 => k_is)
    (case cl2 => k_is)
    (case cl3 => k_is)
    (case cl4 => k_is)
    (case sf => k_is)
    (case zlen => k_is)
    (case zint => k_is)
    (case zrange => k_is)
    (case zlist => k_is)
    (case ztuple => k_is)
    (case zisinstance => k_is)
    (case zall => k_is)
    (case zany => k_is)
    (case zbool => k_is)
    (case zstr => k_is)
    (case zmin => k_is)
    (case zmax => k_is)
    (case zabs => k_is)
    (case zsum => k_is)
    (case zsorted => k_is)
    (case zset => k_is)
    (case zValueError => k_is)
    (case zlcm => k_is)
