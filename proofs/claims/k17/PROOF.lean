import PyProof.Rows.All
import Wide.All
import OpenK.AllK
import Wide.FinOn
import HandS.ForMost
import HandS.IsInst
import HandS.Property
import HandS.Wide
import HandS.Gcd
import HandS.More
import HandS.OwnEq
import HandS.Style
import KE.KMathGC
import HandS.Defaults
import HandS.MakeKwOnly
import HandS.Strs
import HandS.Conv
import HandS.ForExc
import HandS.ExcInit
import HandS.ExcField
import HandS.ExcIs
import KE.KExcIs
import PySem.Challenge.RW_rungrepeats_k17_errors_of_walks
set_option Elab.async false
set_option maxRecDepth 100000
set_option maxHeartbeats 4000000
set_option linter.unusedVariables false
/-! own words, shared by the proofs of this program's laws -/
namespace Rg
open PySem L2 TL

/-- the built-ins that are read are not shadowed -/
structure Bi (mg : Str → Option Value) : Prop where
  len_ : mg "len" = none
  int_ : mg "int" = none
  range_ : mg "range" = none
  list_ : mg "list" = none
  tuple_ : mg "tuple" = none
  isinstance_ : mg "isinstance" = none
  all_ : mg "all" = none
  any_ : mg "any" = none
  bool_ : mg "bool" = none
  str_ : mg "str" = none
  min_ : mg "min" = none
  max_ : mg "max" = none
  abs_ : mg "abs" = none
  sum_ : mg "sum" = none
  sorted_ : mg "sorted" = none
  set_ : mg "set" = none
  ValueError_ : mg "ValueError" = none

/-- a def of the module that keeps a promise -/
structure Df (P : Program) (w : World) (K : PySem.W.Frag) (mg : Str → Option Value) (base : Heap) (x : Str) (k : Nat) (ps : List Str) (sp : Sp) : Prop where
  ex : ∃ f fd, mg x = some (.ref f) ∧ FnOk P w K mg base CX0 k f fd ps sp ∧ PySem.W.keepIn K (.ref f) = true ∧ Binds K fd ps []
section
variable {X : Cx} {x : Str} {k : Nat} {ps : List Str} {sp : Sp} {e : Expr} {es : List Expr} {t : TA} {p pos : Pos}
theorem pe_df (D : Df X.prog X.w X.K X.mg X.base x k ps sp) (hr : Room k X.A) (hg : Gl X x) (ha : PA X (e :: es) t) (hdb : (x == ("__debug__" : Str)) = false := by decide)
    (he : starEach (e :: es) X.env = (false, eval e X.env) :: starEach es X.env := by rfl) (hpl : (backTo pos (starEach es X.env)).any (·.1) = false := by rfl) :
    PE X (.Call (.Name x p) (e :: es) [] pos) (tCall sp [] E0 t) := by
  obtain ⟨f, fd, hm, F, hk, hb⟩ := D.ex
  exact pe_call F hr hg hm hk hb .nil pass0 ha hdb he hpl
end
theorem Df.mk' {P : Program} {w : World} {K : PySem.W.Frag} {mg : Str → Option Value} {base : Heap} {x q : Str} {st : Stmt} {k : Nat} {ps : List Str} {sp : Sp} {f : Addr} {fd : FuncData} (F : Fun K x q st f fd) (G : FnOk P w K mg base CX0 k f fd ps sp)
    (hm : mg x = some (.ref f)) (hb : Binds K fd ps []) : Df P w K mg base x k ps sp := ⟨f, fd, hm, G, F.kp, hb⟩

/-- an own class: made by an __init__ that keeps sp -/
structure Mkr (P : Program) (w : World) (K : PySem.W.Frag) (mg : Str → Option Value) (base : Heap) (x : Str) (C : Addr) (k : Nat) (ps : List Str) (sp : Sp) : Prop where
  ex : ∃ f fd, mg x = some (.ref C) ∧ Mk K C f ∧ FnOk P w K mg base CX0 k f fd ps sp ∧ Binds K fd ps []
/-- a property of the class at C -/
structure Pr (P : Program) (w : World) (K : PySem.W.Frag) (mg : Str → Option Value) (base : Heap) (C : Addr) (x : Str) (k : Nat) (sp : Sp) : Prop where
  ex : ∃ p g fd, Cls K C ∧ PropOf K C x p g ∧ FnOk P w K mg base CX0 k g fd ["self"] sp ∧ Binds K fd ["self"] []
/-- a method of the class at C -/
structure Me (P : Program) (w : World) (K : PySem.W.Frag) (mg : Str → Option Value) (base : Heap) (C : Addr) (x : Str) (k : Nat) (ps : List Str) (sp : Sp) : Prop where
  ex : ∃ f fd, Cls K C ∧ Meth K C x f ∧ FnOk P w K mg base CX0 k f fd ps sp ∧ Binds K fd ps []
section
variable {X : Cx} {x m : Str} {k : Nat} {C : Addr} {ps : List Str} {sp : Sp} {o e : Expr} {es : List Expr} {ta : TE} {t : TA} {p pos apos : Pos}
theorem pe_mk (M : Mkr X.prog X.w X.K X.mg X.base x C k ps sp) (hr : Room (k + 1) X.A) (hg : Gl X x) (ha : PA X (e :: es) t) (hdb : (x == ("__debug__" : Str)) = false := by decide)
    (he : starEach (e :: es) X.env = (false, eval e X.env) :: starEach es X.env := by rfl) (hpl : (backTo pos (starEach es X.env)).any (·.1) = false := by rfl) :
    PE X (.Call (.Name x p) (e :: es) [] pos) (tMake C sp [] E0 t) := by
  obtain ⟨f, fd, hm, M, F, hb⟩ := M.ex
  exact pe_make M F hr hg hm hb .nil pass0 ha hdb he hpl
theorem pe_pr (he : PE X o ta) (D : Pr X.prog X.w X.K X.mg X.base C x k sp) (hr : Room (k + 1) X.A) (hab : attributeBase o x X.env (eval o X.env) = eval o X.env) : PE X (.Attribute o x pos) (tProp C sp [] E0 ta) := by
  obtain ⟨p, g, fd, c, hp, F, hb⟩ := D.ex
  exact pe_prop he c hp F hr hb .nil pass0 hab
theorem pe_me {pl : Sem Bool} (he : PE X o ta) (D : Me X.prog X.w X.K X.mg X.base C m k ps sp) (hr : Room k X.A) (ha : PA X (e :: es) t)
    (hst : starEach (e :: es) X.env = (false, eval e X.env) :: starEach es X.env := by rfl) (hpl : (backTo pos (starEach es X.env)).any (·.1) = false := by rfl)
    (ht : eval (.Call (.Attribute o m apos) (e :: es) [] pos) X.env = (do
      let ov ← eval o X.env
      standAt apos.atName
      let (f, first) ← holding [ov] (getMethod ov m pl)
      callWith pos f first (backTo pos (starEach (e :: es) X.env)) (backToKw pos (keywordEach [] X.env))) := by rfl) :
    PE X (.Call (.Attribute o m apos) (e :: es) [] pos) (tMeth C m sp [] E0 ta t) := by
  obtain ⟨f, fd, c, hm, F, hb⟩ := D.ex
  exact pe_meth he c hm F hr hb .nil pass0 ha hst hpl ht
theorem pe_me0 {pl : Sem Bool} (he : PE X o ta) (D : Me X.prog X.w X.K X.mg X.base C m k ps sp) (hr : Room k X.A)
    (ht : eval (.Call (.Attribute o m apos) [] [] pos) X.env = (do
      let ov ← eval o X.env
      standAt apos.atName
      let (f, first) ← holding [ov] (getMethod ov m pl)
      callWith pos f first (backTo pos (starEach [] X.env)) (backToKw pos (keywordEach [] X.env))) := by rfl) :
    PE X (.Call (.Attribute o m apos) [] [] pos) (tMeth C m sp [] E0 ta tNil) := by
  obtain ⟨f, fd, c, hm, F, hb⟩ := D.ex
  exact pe_meth0 he c hm F hr hb .nil pass0 ht
end

/-! ### a text many times -/
theorem foldl_nat (items : Array Nat) : ∀ (k : Nat) (acc : Array Nat), List.foldl (fun x1 x2 => x1 ++ x2) acc (List.replicate k items) = (acc.toList ++ (List.replicate k items.toList).flatten).toArray
  | 0, acc => by simp
  | k + 1, acc => by simp [List.replicate_succ, foldl_nat items k, List.append_assoc]
theorem mul_tl (z : Str) (n : Int) (h : 1 ≤ n) : Txt.mul z n = ⟨((List.replicate n.toNat (tl z)).flatten).toArray⟩ := by
  unfold Txt.mul
  rw [if_neg (by omega)]
  by_cases h1 : (n == 1 || z.length == 0) = true
  · rw [if_pos h1]
    refine ext_tl ?_
    show tl z = (List.replicate n.toNat (tl z)).flatten
    rw [Bool.or_eq_true, beq_iff_eq, beq_iff_eq] at h1
    rcases h1 with e | e
    · subst e
      simp
    · have e2 : tl z = [] := by
        rw [len_tl] at e
        exact List.length_eq_zero_iff.mp e
      rw [e2]
      simp
  · rw [if_neg h1]
    congr 1
    show List.foldl (fun x1 x2 => x1 ++ x2) #[] (List.replicate n.toNat z.cps) = _
    rw [foldl_nat]
    simp [tl]
def rRepS : R2 := fun x y H Q => ∃ z n, x = .str z ∧ y = .int n ∧ 1 ≤ n ∧ n < 2 ^ 63 ∧ z.length * n.toNat ≤ sizeLine ∧ Q (.str ⟨((List.replicate n.toNat (tl z)).flatten).toArray⟩) H
theorem op_rep_str {X : Cx} : OpR X (binaryOp .Mult) rRepS := by
  intro pins s σ H x y v u Q I rx ry h
  obtain ⟨z, n, rfl, rfl, h1, h63, hz, q⟩ := h
  obtain ⟨t, rfl⟩ := rx
  obtain ⟨t', rfl⟩ := ry
  have hp : ((z.length : Int)) * n ≤ 2 ^ 24 := by
    have e : ((z.length * n.toNat : Nat) : Int) ≤ ((2 ^ 24 : Nat) : Int) := Int.ofNat_le.mpr hz
    rw [Int.natCast_mul, Int.toNat_of_nonneg (by omega)] at e
    exact e
  refine SB.mul ⟨?_, fun _ _ => ?_, fun _ _ => ?_⟩ fun t2 k => ?_
  · rw [decide_eq_false (by omega), decide_eq_false (by omega)]
    rfl
  · have := (Int.le_ediv_iff_mul_le (a := (z.length : Int)) (b := 2 ^ 63 - 1) (c := n) (by omega)).mpr (by omega)
    omega
  · exact decide_eq_false (by omega)
  · rw [mul_tl z n h1]
    exact ⟨.str _, H, I.tok _, ⟨_, rfl⟩, q⟩

abbrev rLenSeq (K : PySem.W.Frag) : List V → Hp → VK → Prop := fun xs H Q => ∃ p ys, xs = [.ref p] ∧ (SqL K H p ys ∨ SqT K H p ys) ∧ Q (.int ys.length) H
abbrev rJoin (K : PySem.W.Frag) : V → List V → Hp → VK → Prop := fun x xs H Q => ∃ a p, ∃ ys : List Str, x = .str a ∧ xs = [.ref p] ∧ (SqL K H p (ys.map V.str) ∨ SqT K H p (ys.map V.str)) ∧
    (ys.map (·.length)).sum + ys.length * a.length ≤ 16777216 ∧ Q (.str (Txt.join a ys)) H
/-! ### sides -/
theorem cp60 : CPow 10 60 := ⟨by decide, by decide, by decide⟩
theorem cp18 : CPow 10 18 := ⟨by decide, by decide, by decide⟩
theorem cp61 : CPow 10 61 := ⟨by decide, by decide, by decide⟩
theorem cp20 : CPow 10 20 := ⟨by decide, by decide, by decide⟩
theorem cp30 : CPow 10 30 := ⟨by decide, by decide, by decide⟩
theorem cm60 : CMulW ((10 : Int) ^ (60 : Int).toNat) ((10 : Int) ^ (60 : Int).toNat) := by
  show _ < _
  decide +kernel
theorem ps60 : (0 : Int) < (10 : Int) ^ (60 : Int).toNat * (10 : Int) ^ (60 : Int).toNat := by decide +kernel
/-- what is drawn: as many as the limits, each from 0 on below its limit -/
def Drawn (ds ls : List Int) : Prop := ds.length = ls.length ∧ ∀ (i : Nat) (d l : Int), ds[i]? = some d → ls[i]? = some l → 0 ≤ d ∧ d < l
theorem Drawn.at {ds ls : List Int} (h : Drawn ds ls) {i : Nat} {l : Int} (e : ls[i]? = some l) : ∃ d, (ds.map V.int)[i]? = some (V.int d) ∧ ds[i]? = some d ∧ 0 ≤ d ∧ d < l := by
  have hi := (List.getElem?_eq_some_iff.mp e).1
  rw [← h.1] at hi
  refine ⟨ds[i], ?_, List.getElem?_eq_getElem hi, h.2 i _ l (List.getElem?_eq_getElem hi) e⟩
  rw [List.getElem?_map, List.getElem?_eq_getElem hi]
  rfl
theorem getV {ns : List Int} {i : Nat} (h : i < ns.length) : (ns.map V.int)[i]? = some (V.int ns[i]) := by
  rw [List.getElem?_map, List.getElem?_eq_getElem h]
  rfl
theorem getS {ns : List Str} {i : Nat} (h : i < ns.length) : (ns.map V.str)[i]? = some (V.str ns[i]) := by
  rw [List.getElem?_map, List.getElem?_eq_getElem h]
  rfl
/-- an index that is a number -/
theorem atI_k {xs : List V} {i : Int} {v : V} (k : Nat) (e : i = (k : Int)) (h : xs[k]? = some v) : atI xs i = some v := by
  subst e
  exact atI_nat h
theorem atI_k' {α : Type} {xs : List α} {i : Int} {v : α} (k : Nat) (e : i = (k : Int)) (h : xs[k]? = some v) : atI xs i = some v := by
  subst e
  exact atI_nat h
theorem ixN_nat {n p : Nat} (h : p < n) : ixN n (p : Int) = some p := by
  unfold ixN
  rw [if_pos (by omega), if_pos (by omega)]
  rfl
theorem _root_.L2.Same.upd {H : Hp} {p : Addr} {o : HO} (h : H p = none) : Same H (upd H p o) := fun b u e => by rw [upd_ne (ne_of_none e h)]; exact e
theorem _root_.L2.Same.up {H H1 : Hp} {p : Addr} {o : HO} (s : Same H H1) (h : H1 p = none) : Same H (L2.upd H1 p o) := s.trans (L2.Same.upd h)
/-- an object that is new with regard to H may be changed -/
theorem _root_.L2.Same.put {H H1 : Hp} {p : Addr} {o : HO} (s : Same H H1) (h : H p = none) : Same H (L2.upd H1 p o) := fun b u e => by rw [upd_ne (ne_of_none e h)]; exact s b u e

/-! ### len of an object with its own __len__ -/
def rLenOwn (C : Addr) (sp : Sp) : List V → Hp → VK → Prop := fun xs H Q => ∃ a dx fs, xs = [.ref a] ∧ H a = some (.ins C dx fs) ∧ sp [.ref a] H (fun v H' => ∃ n : Int, v = .int n ∧ (0 ≤ n ∧ n < 2 ^ 63) ∧ Q (.int n) H') E0
theorem call_lenR {X : Cx} {C : Addr} {k : Nat} {sp : Sp} (D : Me X.prog X.w X.K X.mg X.base C "__len__" k ["self"] sp) (hr : Room (k + 1) X.A) : CallR X (.builtin "len") (rLenOwn C sp) := by
  intro pins s σ H xs us Q I r h
  obtain ⟨a, dx, fs, rfl, ea, q⟩ := h
  obtain ⟨f, fd, c, hm, F, hb⟩ := D.ex
  cases r with
  | cons rv rn =>
    cases rn
    obtain rfl := (show _ = Value.ref a from rv)
    obtain ⟨mA, O, _⟩ := ins_get I.hok ea
    obtain ⟨od, J, _⟩ := O.look
    refine Calls.call_function_entry PySem.kind_len PySem.plain_len PySem.entry_len (PySem.args_len1 _) ?_
    unfold Builtin.«len»
    refine wpAny_bind (m := oneArg "len" _) (wpAny_pure ?_)
    refine wpAny_bind (m := callSpecial? (.ref a) (Str.ofString "__len__")) (PySem.W.special_fn I.kIn J hm.at_ (beq_iff_eq.mp hm.fn) ?_)
    refine wpAny_call (codeAny_mono (F.run X.A.in1 X.stack s H ⟨[.ref a], []⟩ [.ref a] [.ref a] _ E0 hr.in1 I.env0.in1 (hb _ [.ref a] I.kIn rfl) (.cons rfl .nil) q) fun r s' hq => ?_)
    cases r with
    | error e => exact False.elim hq
    | ok fl =>
      cases fl with
      | ret u =>
        obtain ⟨v, H', I3, rv, n, rfl, ⟨h0, h1⟩, q3⟩ := I.after hq
        obtain ⟨t, rfl⟩ := rv
        refine wpAny_bind (wpAny_holding (wpAny_pure ?_))
        refine wpAny_bind (wpAny_letGo ?_)
        show wpAny _ _ (if n < 0 then _ else _) _ _ _
        rw [if_neg (by omega)]
        show wpAny _ _ (if n ≥ 2 ^ 63 then _ else _) _ _ _
        rw [if_neg (by omega)]
        exact wpAny_bind (wpAny_mkInt (wpAny_pure ⟨_, rfl, ⟨.int n, H', I3.tok _, ⟨_, rfl⟩, q3⟩⟩))
      | next => exact False.elim hq
      | brk => exact False.elim hq
      | cont => exact False.elim hq
theorem atI_back {α : Type} {xs : List α} {v : α} (h : xs[xs.length - 1]? = some v) : atI xs (-1) = some v := by
  have hl := (List.getElem?_eq_some_iff.mp h).1
  unfold atI ixN
  rw [if_neg (by omega), if_pos (by omega)]
  show xs[((-1 : Int) + (xs.length : Int)).toNat]? = some v
  rw [show ((-1 : Int) + (xs.length : Int)).toNat = xs.length - 1 by omega]
  exact h
/-- what follows an if is shown once, for all that W says -/
theorem cutIf {b : Bool} {A : Prop} {D : Ends} {σ : St} {H : Hp} (W : St → Hp → Prop) (hT : ∀ σ' H', W σ' H' → D.nx σ' H') (hA : (∀ σ' H', W σ' H' → D.nx σ' H') → b = true → A) (hB : b = false → W σ H) : if b = true then A else tNext D σ H := by
  cases b with
  | true => exact hA hT rfl
  | false => exact hT σ H (hB rfl)
theorem cutIf2 {b : Bool} {A B : Prop} {D : Ends} (W : St → Hp → Prop) (hT : ∀ σ' H', W σ' H' → D.nx σ' H') (hA : (∀ σ' H', W σ' H' → D.nx σ' H') → b = true → A) (hB : (∀ σ' H', W σ' H' → D.nx σ' H') → b = false → B) : if b = true then A else B := by
  cases b with
  | true => exact hA hT rfl
  | false => exact hB hT rfl
/-- a new object -/
theorem nw {H H1 : Hp} {p : Addr} {o : HO} (e : upd H p o = H1) (h : H p = none) : Same H H1 ∧ H1 p = some o := by
  subst e
  exact ⟨L2.Same.upd h, upd_same⟩
theorem cutAnd {b : Bool} {A A2 : Prop} {D : Ends} {σ : St} {H : Hp} (W : St → Hp → Prop) (hT : ∀ σ' H', W σ' H' → D.nx σ' H') (hA : (∀ σ' H', W σ' H' → D.nx σ' H') → b = true → A) (hB : b = false → W σ H) :
    if b = true then A else (if false = true then A2 else tNext D σ H) := by
  cases b with
  | true => exact hA hT rfl
  | false => exact hT σ H (hB rfl)
/-- a power of a great number -/
def CPowW (i j : Int) : Prop := 0 ≤ j ∧ ∃ k : Nat, i.natAbs < 2 ^ k ∧ (k : Int) * j ≤ 2 ^ 27
theorem op_powW {X : Cx} : OpR X (binaryOp .Pow) (rI CPowW fun i j => .int (i ^ j.toNat)) := opI fun _ _ _ _ _ _ _ hc q => by
  obtain ⟨h0, k, hk, hz⟩ := hc
  refine PyProof.Rows.pow_int h0 (Int.le_trans (Int.mul_le_mul_of_nonneg_right (Int.ofNat_le.mpr (PyProof.Rows.intBits_le hk)) h0) hz) q
end Rg
/-! own mathematics: rows -/
namespace Rg
open PySem L2 TL

/-! ### how often one sign stands in a text -/
theorem cnt_run (x : Str) (c limit : Nat) : ∀ (m cur : Nat) (st : Array Nat × Nat), st.snd ≤ cur → st.fst.size + m ≤ limit →
    (forIn (List.range' cur m) st (StrLaws.occBody x ⟨#[c]⟩ x.length limit)).run.fst.size = st.fst.size + (((x.cps.toList).drop cur).take m).count c
  | 0, cur, st, h, _ => by simp
  | m + 1, cur, st, h, hl => by
    rw [List.range'_succ, List.forIn_cons]
    unfold StrLaws.occBody
    by_cases hc : x.cps.toList[cur]? = some c
    · have h2 := (StrLaws.subAt_one x c cur).mpr hc
      rw [if_pos ⟨⟨⟨by omega, h⟩, h2.1⟩, h2.2⟩]
      have ih := cnt_run x c limit m (cur + 1) (st.fst.push cur, cur + 1) (Nat.le_refl _) (by show (st.fst.push cur).size + m ≤ limit; rw [Array.size_push]; omega)
      obtain ⟨hlt, hget⟩ := List.getElem?_eq_some_iff.mp hc
      have e : (x.cps.toList.drop cur).take (m + 1) = c :: (x.cps.toList.drop (cur + 1)).take m := by
        rw [List.drop_eq_getElem_cons hlt, List.take_succ_cons, hget]
      refine Eq.trans ih ?_
      rw [e, List.count_cons_self]
      show (st.fst.push cur).size + _ = _
      rw [Array.size_push]
      omega
    · rw [if_neg fun z => hc ((StrLaws.subAt_one x c cur).mp ⟨z.1.2, z.2⟩)]
      have ih := cnt_run x c limit m (cur + 1) (st.fst, st.snd) (Nat.le_succ_of_le h) (by show st.fst.size + m ≤ limit; omega)
      refine Eq.trans ih ?_
      show st.fst.size + _ = _
      by_cases hlt : cur < x.cps.toList.length
      · have e : (x.cps.toList.drop cur).take (m + 1) = x.cps.toList[cur] :: (x.cps.toList.drop (cur + 1)).take m := by
          rw [List.drop_eq_getElem_cons hlt, List.take_succ_cons]
        have hne : ¬ (x.cps.toList[cur] == c) = true := fun z => hc (by rw [List.getElem?_eq_getElem hlt, beq_iff_eq.mp z])
        rw [e, List.count_cons_of_ne (fun z => hne (beq_iff_eq.mpr z))]
      · rw [List.drop_of_length_le (by omega), List.drop_of_length_le (by omega)]
        simp
theorem count_one (x : Str) (c : Nat) : Txt.count x ⟨#[c]⟩ = ((tl x).count c : Nat) := by
  show (((Builtin.Str.occurrences x ⟨#[c]⟩ 0 x.length (x.length + 1)).length : Nat) : Int) = _
  rw [StrLaws.occ_eq]
  have h := cnt_run x c (x.length + 1) (x.length + 1 - 0) 0 ((#[] : Array Nat), 0) (Nat.le_refl _) (by simp)
  rw [Array.length_toList, h]
  have e : ((x.cps.toList.drop 0).take (x.length + 1 - 0)) = x.cps.toList := by
    rw [List.drop_zero, List.take_of_length_le]
    show x.cps.toList.length ≤ x.cps.size + 1
    simp
  rw [e]
  simp [tl]

/-! ### rows -/
/-- the sign number i, modulo the length -/
def sg (l : List Nat) (i : Int) : Nat := l.getD (i % (l.length : Int)).toNat 0
def Signs (l : List Nat) : Prop := ∀ c ∈ l, c = 45 ∨ c = 46
structure Row (l : List Nat) : Prop where
  ne : 0 < l.length
  sgn : Signs l
  gap : ∀ i : Int, ¬ (sg l i = 45 ∧ sg l (i + 1) = 45)
theorem place_lt {l : List Nat} (h : 0 < l.length) (i : Int) : (i % (l.length : Int)).toNat < l.length := by
  have h1 := Int.emod_nonneg i (show (l.length : Int) ≠ 0 by omega)
  have h2 := Int.emod_lt_of_pos i (show (0 : Int) < l.length by omega)
  omega
theorem sg_get {l : List Nat} (h : 0 < l.length) (i : Int) : l[(i % (l.length : Int)).toNat]? = some (sg l i) := by
  unfold sg
  rw [List.getD_eq_getElem?_getD, List.getElem?_eq_getElem (place_lt h i)]
  rfl
theorem sg_nat {l : List Nat} {k : Nat} (h : k < l.length) : l[k]? = some (sg l (k : Int)) := by
  have e : ((k : Int) % (l.length : Int)).toNat = k := by
    rw [Int.emod_eq_of_lt (by omega) (by omega)]
    omega
  have q := sg_get (l := l) (by omega) (k : Int)
  rw [e] at q
  exact q
theorem sg_mem {l : List Nat} (h : 0 < l.length) (i : Int) : sg l i ∈ l := List.mem_of_getElem? (sg_get h i)
theorem sg_congr {l : List Nat} {i j : Int} (h : i % (l.length : Int) = j % (l.length : Int)) : sg l i = sg l j := by
  unfold sg
  rw [h]
theorem sg_add {l : List Nat} (i : Int) : sg l (i + (l.length : Int)) = sg l i := sg_congr (Int.add_emod_right i _)
theorem sg_first {l : List Nat} (h : 0 < l.length) : l[0]? = some (sg l 0) := sg_nat h
/-- what the program looks at: the signs and the first one behind them -/
theorem gap_iff {l : List Nat} (h : 0 < l.length) : (∀ i : Int, ¬ (sg l i = 45 ∧ sg l (i + 1) = 45)) ↔ ∀ i : Nat, ¬ ((l ++ l.take 1)[i]? = some 45 ∧ (l ++ l.take 1)[i + 1]? = some 45) := by
  have hn : ∀ k : Nat, k ≤ l.length → (l ++ l.take 1)[k]? = some (sg l (k : Int)) := fun k hk => by
    by_cases h1 : k < l.length
    · rw [List.getElem?_append_left h1]
      exact sg_nat h1
    · have e : k = l.length := by omega
      subst e
      rw [List.getElem?_append_right (Nat.le_refl _), Nat.sub_self, List.getElem?_take_of_lt (by omega), sg_first h]
      have q := sg_add (l := l) 0
      rw [Int.zero_add] at q
      rw [q]
  have hlen : (l ++ l.take 1).length = l.length + 1 := by
    rw [List.length_append, List.length_take]
    omega
  constructor
  · rintro g i ⟨h1, h2⟩
    have hi := (List.getElem?_eq_some_iff.mp h2).1
    rw [hlen] at hi
    rw [hn i (by omega)] at h1
    rw [hn (i + 1) (by omega)] at h2
    exact g (i : Int) ⟨Option.some.inj h1, by simpa using h2⟩
  · rintro g i ⟨h1, h2⟩
    have hp := place_lt h i
    have h0 := Int.emod_nonneg i (show (l.length : Int) ≠ 0 by omega)
    have e : (((i % (l.length : Int)).toNat : Nat) : Int) = i % (l.length : Int) := Int.toNat_of_nonneg h0
    have a1 : sg l (((i % (l.length : Int)).toNat : Nat) : Int) = sg l i := sg_congr (by rw [e, Int.emod_emod])
    have a2 : sg l ((((i % (l.length : Int)).toNat + 1 : Nat) : Nat) : Int) = sg l (i + 1) := sg_congr (by
      rw [Int.natCast_add, e]
      show (i % (l.length : Int) + 1) % (l.length : Int) = (i + 1) % (l.length : Int)
      rw [Int.emod_add_emod])
    refine g (i % (l.length : Int)).toNat ⟨?_, ?_⟩
    · rw [hn _ (by omega), a1, h1]
    · rw [hn _ (by omega), a2, h2]
theorem signs_count : ∀ l : List Nat, l.count 45 + l.count 46 ≤ l.length ∧ (l.count 45 + l.count 46 = l.length ↔ Signs l)
  | [] => ⟨by simp, by simp [Signs]⟩
  | a :: l => by
    obtain ⟨h1, h2⟩ := signs_count l
    by_cases e : a = 45
    · subst e
      rw [List.count_cons_self, List.count_cons_of_ne (by decide)]
      refine ⟨by simp; omega, ⟨fun h c hc => ?_, fun h => ?_⟩⟩
      · rcases List.mem_cons.mp hc with rfl | hc
        · exact .inl rfl
        · exact h2.mp (by simp at h; omega) c hc
      · have := h2.mpr fun c hc => h c (List.mem_cons_of_mem _ hc)
        simp; omega
    · by_cases e2 : a = 46
      · subst e2
        rw [List.count_cons_self, List.count_cons_of_ne (by decide)]
        refine ⟨by simp; omega, ⟨fun h c hc => ?_, fun h => ?_⟩⟩
        · rcases List.mem_cons.mp hc with rfl | hc
          · exact .inr rfl
          · exact h2.mp (by simp at h; omega) c hc
        · have := h2.mpr fun c hc => h c (List.mem_cons_of_mem _ hc)
          simp; omega
      · rw [List.count_cons_of_ne (fun z => e z), List.count_cons_of_ne (fun z => e2 z)]
        refine ⟨by simp; omega, ⟨fun h => ?_, fun h => ?_⟩⟩
        · simp at h; omega
        · rcases h a List.mem_cons_self with q | q
          · exact absurd q e
          · exact absurd q e2
/-- a list whose signs are those of a row, one after the other, at other places -/
theorem Row.move {l m : List Nat} (R : Row l) (hm : 0 < m.length) (f : Int → Int) (h : ∀ k : Nat, k < m.length → m[k]? = some (sg l (f k))) (hp : ∀ i : Int, sg l (f (i % (m.length : Int))) = sg l (f i)) (hs : ∀ i : Int, f (i + 1) = f i + 1 ∨ f (i + 1) = f i - 1) : Row m := by
  have key : ∀ i : Int, sg m i = sg l (f i) := fun i => by
    have h1 := sg_get hm i
    rw [h _ (place_lt hm i)] at h1
    have e : (((i % (m.length : Int)).toNat : Nat) : Int) = i % (m.length : Int) := Int.toNat_of_nonneg (Int.emod_nonneg i (by omega))
    rw [e, hp] at h1
    exact (Option.some.inj h1).symm
  refine ⟨hm, fun c hc => ?_, fun i ⟨h1, h2⟩ => ?_⟩
  · obtain ⟨k, hk, e⟩ := List.mem_iff_getElem.mp hc
    have q := h k hk
    rw [List.getElem?_eq_getElem hk, e] at q
    rw [Option.some.inj q]
    exact R.sgn _ (sg_mem R.ne _)
  · rw [key] at h1 h2
    rcases hs i with e | e
    · rw [e] at h2
      exact R.gap (f i) ⟨h1, h2⟩
    · rw [e] at h2
      exact R.gap (f i - 1) ⟨h2, by rw [Int.sub_add_cancel]; exact h1⟩
theorem rep_length (n : Nat) (l : List Nat) : ((List.replicate n l).flatten).length = n * l.length := by simp
theorem rep_get {l : List Nat} (hl : 0 < l.length) : ∀ (n k : Nat), k < n * l.length → ((List.replicate n l).flatten)[k]? = some (sg l (k : Int))
  | 0, k, h => by omega
  | n + 1, k, h => by
    rw [List.replicate_succ, List.flatten_cons]
    by_cases h1 : k < l.length
    · rw [List.getElem?_append_left h1]
      exact sg_nat h1
    · rw [List.getElem?_append_right (by omega), rep_get hl n (k - l.length) (by rw [Nat.succ_mul] at h; omega)]
      have e : ((k : Int)) = ((k - l.length : Nat) : Int) + (l.length : Int) := by omega
      rw [e, sg_add]
theorem Row.rep {l : List Nat} (R : Row l) {n : Nat} (hn : 0 < n) : Row (List.replicate n l).flatten := by
  have hlen := rep_length n l
  refine R.move (f := id) (by rw [hlen]; exact Nat.mul_pos hn R.ne) (fun k hk => rep_get R.ne n k (by rw [← hlen]; exact hk)) (fun i => sg_congr ?_) (fun i => .inl rfl)
  show (i % _) % _ = i % _
  rw [hlen]
  refine Int.emod_emod_of_dvd i ?_
  exact ⟨(n : Int), by rw [Int.natCast_mul, Int.mul_comm]⟩
/-- one sign becomes a point -/
theorem Row.dot {l : List Nat} (R : Row l) (p : Nat) : Row (l.set p 46) := by
  have hlen : (l.set p 46).length = l.length := List.length_set
  have key : ∀ i : Int, sg (l.set p 46) i = 46 ∨ sg (l.set p 46) i = sg l i := fun i => by
    unfold sg
    rw [hlen, List.getD_eq_getElem?_getD, List.getD_eq_getElem?_getD, List.getElem?_set]
    by_cases e : p = (i % (l.length : Int)).toNat
    · rw [if_pos e]
      by_cases h2 : p < l.length
      · rw [if_pos h2]
        exact .inl rfl
      · have := place_lt R.ne i
        omega
    · rw [if_neg e]
      exact .inr rfl
  refine ⟨by rw [hlen]; exact R.ne, fun c hc => ?_, fun i ⟨h1, h2⟩ => ?_⟩
  · rcases List.mem_or_eq_of_mem_set hc with h | h
    · exact R.sgn c h
    · exact .inr h
  · rcases key i with e | e
    · omega
    · rcases key (i + 1) with e2 | e2
      · omega
      · exact R.gap i ⟨by omega, by omega⟩
end Rg
namespace Rg
open PySem L2 TL
theorem take2_drop {l : List Nat} {a b i : Nat} : ((l.drop i).take 2 == [a, b]) = true ↔ l[i]? = some a ∧ l[i + 1]? = some b := by
  have e0 : l[i]? = (l.drop i)[0]? := by rw [List.getElem?_drop]; rfl
  have e1 : l[i + 1]? = (l.drop i)[1]? := by rw [List.getElem?_drop]
  rw [e0, e1, beq_iff_eq]
  cases l.drop i with
  | nil => simp
  | cons x r =>
    cases r with
    | nil => simp
    | cons y r => simp
theorem tl_dd : tl (Str.ofString "--") = [45, 45] := by decide +kernel
theorem dd_iff (y : Str) : (!(Builtin.Str.occurrences y (Str.ofString "--") 0 y.length 1).isEmpty) = true ↔ ∃ i, (tl y)[i]? = some 45 ∧ (tl y)[i + 1]? = some 45 := by
  rw [StrLaws.found_iff]
  have hl : (Str.ofString "--").length = 2 := by decide +kernel
  constructor
  · rintro ⟨i, _, h⟩
    rw [StrLaws.subAt_eq, hl, show (Str.ofString "--").cps.toList = [45, 45] from tl_dd] at h
    exact ⟨i, take2_drop.mp h⟩
  · rintro ⟨i, h⟩
    refine ⟨i, ?_, ?_⟩
    · have := (List.getElem?_eq_some_iff.mp h.2).1
      rw [hl, len_tl]
      omega
    · rw [StrLaws.subAt_eq, hl, show (Str.ofString "--").cps.toList = [45, 45] from tl_dd]
      exact take2_drop.mpr h
/-- what the program asks of a text is that it be a row -/
theorem row_asked {z : Str} {c : Nat} (h0 : 0 < (tl z).length) (hs : (tl z).count 45 + (tl z).count 46 = (tl z).length) (hc : (tl z)[0]? = some c) :
    (!(!(Builtin.Str.occurrences (z ++ (⟨#[c]⟩ : Str)) (Str.ofString "--") 0 (z ++ (⟨#[c]⟩ : Str)).length 1).isEmpty)) = true ↔ Row (tl z) := by
  have e : tl (z ++ (⟨#[c]⟩ : Str)) = tl z ++ (tl z).take 1 := by
    rw [tl_append]
    congr 1
    cases h : tl z with
    | nil => rw [h] at h0; simp at h0
    | cons x r =>
      rw [h] at hc
      have : x = c := by simpa using hc
      subst this
      rfl
  have d := dd_iff (z ++ (⟨#[c]⟩ : Str))
  rw [e] at d
  have g := gap_iff h0
  constructor
  · intro h
    refine ⟨h0, (signs_count _).2.mp hs, g.mpr fun i q => ?_⟩
    have := d.mpr ⟨i, q⟩
    rw [this] at h
    exact absurd h (by decide)
  · intro R
    cases q : (!(Builtin.Str.occurrences (z ++ (⟨#[c]⟩ : Str)) (Str.ofString "--") 0 (z ++ (⟨#[c]⟩ : Str)).length 1).isEmpty) with
    | false => rfl
    | true =>
      obtain ⟨i, hi⟩ := d.mp q
      exact absurd hi (g.mp R.gap i)
end Rg
namespace Rg
open PySem L2 TL
/-! ### a row that grows sign by sign -/
structure Part (n : Nat) (l : List Nat) : Prop where
  sgn : Signs l
  gap : ∀ i : Nat, ¬ (l[i]? = some 45 ∧ l[i + 1]? = some 45)
  fin : l.length = n → ¬ (l[n - 1]? = some 45 ∧ l[0]? = some 45)
theorem Part.nil {n : Nat} (h : 0 < n) : Part n [] := ⟨fun _ h => (nomatch h), fun i h => by simp at h, fun e => by simp at e; omega⟩
theorem Part.add {n : Nat} {l : List Nat} {c : Nat} (p : Part n l) (hc : c = 45 ∨ c = 46) (h1 : c = 45 → l.getLast? ≠ some 45) (h2 : c = 45 → l.length + 1 = n → n ≠ 1 ∧ l[0]? ≠ some 45) : Part n (l ++ [c]) := by
  refine ⟨fun x hx => ?_, fun i ⟨g1, g2⟩ => ?_, fun e ⟨g1, g2⟩ => ?_⟩
  · rcases List.mem_append.mp hx with h | h
    · exact p.sgn x h
    · rw [List.mem_singleton.mp h]
      exact hc
  · have hi := (List.getElem?_eq_some_iff.mp g2).1
    rw [List.length_append, List.length_singleton] at hi
    by_cases hl : i + 1 < l.length
    · rw [List.getElem?_append_left (by omega)] at g1
      rw [List.getElem?_append_left hl] at g2
      exact p.gap i ⟨g1, g2⟩
    · have e : i + 1 = l.length := by omega
      rw [List.getElem?_append_left (by omega)] at g1
      rw [e, List.getElem?_append_right (Nat.le_refl _), Nat.sub_self] at g2
      have ec : c = 45 := by simpa using g2
      refine h1 ec ?_
      rw [List.getLast?_eq_getElem?, show l.length - 1 = i by omega]
      exact g1
  · rw [List.length_append, List.length_singleton] at e
    rw [List.getElem?_append_right (by omega), show n - 1 - l.length = 0 by omega] at g1
    have ec : c = 45 := by simpa using g1
    obtain ⟨a1, a2⟩ := h2 ec e
    rw [List.getElem?_append_left (by omega)] at g2
    exact a2 g2
theorem Part.row {n : Nat} {l : List Nat} (p : Part n l) (e : l.length = n) (h : 0 < n) : Row l := by
  subst e
  refine ⟨h, p.sgn, (gap_iff h).mpr fun i ⟨g1, g2⟩ => ?_⟩
  have hi := (List.getElem?_eq_some_iff.mp g2).1
  rw [List.length_append, List.length_take] at hi
  rw [List.getElem?_append_left (by omega)] at g1
  by_cases hl : i + 1 < l.length
  · rw [List.getElem?_append_left hl] at g2
    exact p.gap i ⟨g1, g2⟩
  · have e : i + 1 = l.length := by omega
    rw [e, List.getElem?_append_right (Nat.le_refl _), Nat.sub_self, List.getElem?_take_of_lt (by omega)] at g2
    exact p.fin rfl ⟨by rw [show l.length - 1 = i by omega]; exact g1, g2⟩
theorem cut_last {z : Str} {c : Nat} (h : (tl z).getLast? = some c) : cutS z (some (-1)) none = ⟨#[c]⟩ := by
  refine ext_tl ?_
  show ((tl z).drop (HT.sIx z.length 0 (some (-1)))).take (HT.sIx z.length z.length none - HT.sIx z.length 0 (some (-1))) = [c]
  have e1 : HT.sIx z.length 0 (some (-1)) = z.length - 1 := by
    show (if (-1 : Int) < 0 then ((-1 : Int) + (z.length : Int)).toNat else min (-1 : Int).toNat z.length) = _
    rw [if_pos (by decide)]
    omega
  have e2 : HT.sIx z.length z.length none = z.length := rfl
  rw [e1, e2, len_tl]
  rw [List.getLast?_eq_getElem?] at h
  obtain ⟨hl, hg⟩ := List.getElem?_eq_some_iff.mp h
  rw [List.drop_eq_getElem_cons hl, hg, show (tl z).length - ((tl z).length - 1) = 1 by omega]
  rfl
/-- the rows of a rule, n signs each -/
structure Rows (n : Nat) (ls : List Str) : Prop where
  ne : 0 < ls.length
  len : ∀ z ∈ ls, (tl z).length = n
  row : ∀ z ∈ ls, Row (tl z)
theorem Rows.pos {n : Nat} {ls : List Str} (h : Rows n ls) : 0 < n := by
  have e := List.getElem_mem h.ne
  rw [← h.len _ e]
  exact (h.row _ e).ne
end Rg
namespace Rg
open PySem L2 TL
/-- a text k times -/
def repS (k : Nat) (z : Str) : Str := ⟨((List.replicate k (tl z)).flatten).toArray⟩
theorem tl_repS (k : Nat) (z : Str) : tl (repS k z) = (List.replicate k (tl z)).flatten := rfl
theorem Rows.mapRep {n k : Nat} {ls : List Str} (R : Rows n ls) (hk : 0 < k) : Rows (k * n) (ls.map (repS k)) := by
  refine ⟨by rw [List.length_map]; exact R.ne, fun z hz => ?_, fun z hz => ?_⟩
  all_goals obtain ⟨y, hy, rfl⟩ := List.mem_map.mp hz
  · rw [tl_repS, rep_length, R.len y hy]
  · rw [tl_repS]
    exact (R.row y hy).rep hk
theorem mem_rep {α : Type} {k : Nat} {l : List α} {x : α} (h : x ∈ (List.replicate k l).flatten) : x ∈ l := by
  rw [List.mem_flatten] at h
  obtain ⟨m, h1, h2⟩ := h
  rw [(List.mem_replicate.mp h1).2] at h2
  exact h2
theorem Rows.many {n k : Nat} {ls : List Str} (R : Rows n ls) (hk : 0 < k) : Rows n (List.replicate k ls).flatten :=
  ⟨by rw [show (List.replicate k ls).flatten.length = k * ls.length by simp]; exact Nat.mul_pos hk R.ne, fun z hz => R.len z (mem_rep hz), fun z hz => R.row z (mem_rep hz)⟩
theorem Rows.set {n : Nat} {ls : List Str} (R : Rows n ls) (p : Nat) {z : Str} (h : (tl z).length = n) (hr : Row (tl z)) : Rows n (ls.set p z) :=
  ⟨by rw [List.length_set]; exact R.ne, fun y hy => (List.mem_or_eq_of_mem_set hy).elim (R.len y) fun e => by rw [e]; exact h, fun y hy => (List.mem_or_eq_of_mem_set hy).elim (R.row y) fun e => by rw [e]; exact hr⟩
theorem rep_map {α β : Type} (f : α → β) (k : Nat) (l : List α) : (List.replicate k (l.map f)).flatten = (List.replicate k l).flatten.map f := by
  rw [List.map_flatten, List.map_replicate]
theorem rep_len' {α : Type} (k : Nat) (l : List α) : (List.replicate k l).flatten.length = k * l.length := by simp
theorem sIx_nat {n d p : Nat} : HT.sIx n d (some (p : Int)) = min p n := by
  show (if (p : Int) < 0 then ((p : Int) + (n : Int)).toNat else min (p : Int).toNat n) = _
  rw [if_neg (by omega)]
  rfl
/-- z[:p] + '.' + z[p + 1:] -/
theorem cut_dot {z s : Str} {p : Nat} (hs : tl s = [46]) (h : p < (tl z).length) : tl (cutS z none (some (p : Int)) ++ s ++ cutS z (some ((p : Int) + 1)) none) = (tl z).set p 46 := by
  rw [tl_append, tl_append, hs]
  have e1 : tl (cutS z none (some (p : Int))) = (tl z).take p := by
    show ((tl z).drop (HT.sIx z.length 0 none)).take (HT.sIx z.length z.length (some (p : Int)) - HT.sIx z.length 0 none) = _
    rw [sIx_nat]
    show ((tl z).drop 0).take (min p z.length - 0) = _
    rw [List.drop_zero, Nat.sub_zero, len_tl, Nat.min_eq_left (Nat.le_of_lt h)]
  have e2 : tl (cutS z (some ((p : Int) + 1)) none) = (tl z).drop (p + 1) := by
    show ((tl z).drop (HT.sIx z.length 0 (some ((p : Int) + 1)))).take (HT.sIx z.length z.length none - HT.sIx z.length 0 (some ((p : Int) + 1))) = _
    rw [show ((p : Int) + 1) = ((p + 1 : Nat) : Int) from rfl, sIx_nat]
    show ((tl z).drop (min (p + 1) z.length)).take (z.length - min (p + 1) z.length) = _
    rw [len_tl, Nat.min_eq_left (by omega), List.take_of_length_le (by rw [List.length_drop]; exact Nat.le_refl _)]
  rw [e1, e2, List.set_eq_take_append_cons_drop, if_pos h, List.append_assoc]
  rfl
theorem Rows.lenS {n : Nat} {ls : List Str} (R : Rows n ls) {z : Str} (h : z ∈ ls) : z.length = n := by rw [len_tl]; exact R.len z h
theorem take_snoc {α β : Type} {f : α → β} {ls : List α} {i : Nat} (h : i < ls.length) : (ls.take (i + 1)).map f = (ls.take i).map f ++ [f ls[i]] := by
  rw [List.take_add_one, List.getElem?_eq_getElem h, List.map_append]
  rfl
end Rg
/-! own words: == of own objects and of lists of texts -/
namespace Rg
open PySem L2 TL
theorem dp_strs {K : PySem.W.Frag} {H : Hp} : ∀ ls : List Str, DpAll K H (ls.map V.str) (ls.map PyData.str)
  | [] => .nil
  | z :: ls => .cons (.str z) (dp_strs ls)
theorem eqvAll_strs : ∀ ls ms : List Str, PyData.eqvAll (ls.map PyData.str) (ms.map PyData.str) = decide (ls = ms)
  | [], [] => rfl
  | [], _ :: _ => rfl
  | _ :: _, [] => rfl
  | x :: ls, y :: ms => by
    show (PyData.eqv (.str x) (.str y) && PyData.eqvAll (ls.map PyData.str) (ms.map PyData.str)) = _
    rw [eqvAll_strs ls ms]
    show ((x == y) && decide (ls = ms)) = _
    by_cases h1 : x = y
    · subst h1
      by_cases h2 : ls = ms
      · subst h2
        simp
      · rw [decide_eq_false h2, decide_eq_false fun e => h2 (List.cons.inj e).2]
        simp
    · rw [decide_eq_false fun e => h1 (List.cons.inj e).1, beq_eq_false_iff_ne.mpr h1]
      rfl
theorem eqv_tup (ls ms : List Str) : PyData.eqv (.tuple (ls.map PyData.str)) (.tuple (ms.map PyData.str)) = decide (ls = ms) := eqvAll_strs ls ms
theorem eqv_lst (ls ms : List Str) : PyData.eqv (.list (ls.map PyData.str)) (.list (ms.map PyData.str)) = decide (ls = ms) := eqvAll_strs ls ms
theorem depth_strs : ∀ ls : List Str, PyData.depthAll (ls.map PyData.str) ≤ 1
  | [] => Nat.zero_le _
  | z :: ls => by
    have ih := depth_strs ls
    simp only [List.map_cons, PyData.depthAll, PyData.depth]
    omega
theorem lay_strs : ∀ ls : List Str, (∀ z ∈ ls, Signs (tl z)) → PyData.canLayAll0 (ls.map PyData.str) = true
  | [], _ => rfl
  | z :: ls, h => by
    have ih := lay_strs ls fun y hy => h y (List.mem_cons_of_mem _ hy)
    show (PyData.strOk z && PyData.canLayAll0 (ls.map PyData.str)) = true
    rw [ih, Bool.and_true]
    show (z.cps.all fun x => decide (x < 0x110000)) = true
    rw [← Array.all_toList, List.all_eq_true]
    intro c hc
    rcases h z List.mem_cons_self c hc with e | e
    · rw [e]; rfl
    · rw [e]; rfl
theorem shaped_tup {ls : List Str} (h : ∀ z ∈ ls, Signs (tl z)) : SeqAt.shaped (.tuple (ls.map PyData.str)) = true := by
  have h1 := lay_strs ls h
  have h2 := depth_strs ls
  show (PyData.canLayAll0 (ls.map PyData.str) && decide (PyData.depth (.tuple (ls.map PyData.str)) ≤ 64)) = true
  rw [h1, Bool.true_and, decide_eq_true_eq]
  simp only [PyData.depth]
  omega
theorem shaped_lst {ls : List Str} (h : ∀ z ∈ ls, Signs (tl z)) : SeqAt.shaped (.list (ls.map PyData.str)) = true := by
  have h1 := lay_strs ls h
  have h2 := depth_strs ls
  show (PyData.canLayAll0 (ls.map PyData.str) && decide (PyData.depth (.list (ls.map PyData.str)) ≤ 64)) = true
  rw [h1, Bool.true_and, decide_eq_true_eq]
  simp only [PyData.depth]
  omega
theorem Rows.signs {n : Nat} {ls : List Str} (R : Rows n ls) : ∀ z ∈ ls, Signs (tl z) := fun z hz => (R.row z hz).sgn

/-! ### == of an object with its own __eq__ -/
def rEqOwn (K : PySem.W.Frag) (C : Addr) (sp : Sp) : R2 := fun x y H Q => ∃ a b dx dy fs gs, x = .ref a ∧ y = .ref b ∧ H a = some (.ins C dx fs) ∧ H b = some (.ins C dy gs) ∧ sp [.ref a, .ref b] H (fun v H' => ∃ k : Bool, v = .bl k ∧ Q (.bl k) H') E0
theorem op_eqOwn {X : Cx} {C : Addr} {n : Nat} {sp : Sp} (D : Me X.prog X.w X.K X.mg X.base C "__eq__" n ["self", "other"] sp) (hr : Room n X.A) : OpR X (compareOp .Eq) (rEqOwn X.K C sp) := by
  intro pins s σ H x y v u Q I rx ry h
  obtain ⟨a, b, dx, dy, fs, gs, rfl, rfl, ha, hb', q⟩ := h
  obtain ⟨f, fd, c, hm, F, hb⟩ := D.ex
  cases rx
  cases ry
  show wpAny (model X.prog X.w) X.A (richCompare .Eq (.ref a) (.ref b)) (EP X pins σ Q) X.xe s
  obtain ⟨mA, J, _⟩ := ins_get I.hok ha
  obtain ⟨mB, J', _⟩ := ins_get I.hok hb'
  obtain ⟨od, J, _⟩ := J.look
  obtain ⟨od', J', _⟩ := J'.look
  obtain ⟨m, hF⟩ := I.fr
  refine PySem.W.cmp_K (op := .Eq) (tb := .ref C) hr.units0 hF I.ok.mod.kin J J'.type (by simp [PySem.W.notFirst]) hm.at_ hm.fn ?_
  refine wpAny_call (codeAny_mono (F.run X.A X.stack s H ⟨[.ref a, .ref b], []⟩ [.ref a, .ref b] [.ref a, .ref b] _ E0 hr I.env0 (hb s [.ref a, .ref b] I.kIn rfl) (.cons rfl (.cons rfl .nil)) q) fun r s' hq => ?_)
  cases r with
  | error e => exact False.elim hq
  | ok fl =>
    cases fl with
    | ret w =>
      obtain ⟨z, H', I', rz, k, rfl, q'⟩ := I.after hq
      cases rz
      exact ⟨.bl k, H', I', rfl, q'⟩
    | next => exact False.elim hq
    | brk => exact False.elim hq
    | cont => exact False.elim hq
end Rg
/-! own mathematics: rows moved and mirrored -/
namespace Rg
open PySem L2 TL
/-- the list whose sign number i is the one with the number f i of l -/
def pick (l : List Nat) (f : Int → Int) : List Nat := (List.range l.length).map fun i : Nat => sg l (f (i : Int))
theorem pick_len (l : List Nat) (f : Int → Int) : (pick l f).length = l.length := by unfold pick; simp
theorem pick_get {l : List Nat} {f : Int → Int} {k : Nat} (h : k < l.length) : (pick l f)[k]? = some (sg l (f (k : Int))) := by
  unfold pick
  rw [List.getElem?_map, List.getElem?_range h]
  rfl
theorem pick_eq {l m : List Nat} {f : Int → Int} (hl : m.length = l.length) (h : ∀ k : Nat, k < l.length → m[k]? = some (sg l (f (k : Int)))) : m = pick l f := by
  refine List.ext_getElem? fun k => ?_
  by_cases hk : k < l.length
  · rw [h k hk, pick_get hk]
  · rw [List.getElem?_eq_none (by omega), List.getElem?_eq_none (by rw [pick_len]; omega)]
theorem pick_congr {l : List Nat} {f g : Int → Int} (h : ∀ k : Nat, k < l.length → sg l (f (k : Int)) = sg l (g (k : Int))) : pick l f = pick l g := by
  refine pick_eq (pick_len l f) fun k hk => ?_
  rw [pick_get hk, h k hk]
/-- what is asked of f: a step on is a step on or back, and it goes round with the length -/
structure Mv (n : Nat) (f : Int → Int) : Prop where
  step : ∀ i : Int, f (i + 1) = f i + 1 ∨ f (i + 1) = f i - 1
  round : ∀ i : Int, f (i % (n : Int)) % (n : Int) = f i % (n : Int)
theorem sg_pick {l : List Nat} (h0 : 0 < l.length) {f : Int → Int} (m : Mv l.length f) (i : Int) : sg (pick l f) i = sg l (f i) := by
  have hm : 0 < (pick l f).length := by rw [pick_len]; exact h0
  have h1 := sg_get hm i
  have hp := place_lt hm i
  rw [pick_len] at h1 hp
  rw [pick_get hp] at h1
  have e : (((i % (l.length : Int)).toNat : Nat) : Int) = i % (l.length : Int) := Int.toNat_of_nonneg (Int.emod_nonneg i (by omega))
  rw [e] at h1
  rw [← Option.some.inj h1]
  exact sg_congr (m.round i)
theorem Row.pick {l : List Nat} (R : Row l) {f : Int → Int} (m : Mv l.length f) : Row (pick l f) :=
  R.move (by rw [pick_len]; exact R.ne) f (fun k hk => pick_get (by rw [pick_len] at hk; exact hk)) (fun i => by rw [pick_len]; exact sg_congr (m.round i)) m.step
theorem mv_sub (n : Nat) (b : Int) : Mv n fun i => i - b :=
  ⟨fun i => .inl (by show i + 1 - b = i - b + 1; omega), fun i => by show (i % (n : Int) - b) % (n : Int) = (i - b) % (n : Int); rw [Int.sub_eq_add_neg, Int.emod_add_emod, Int.sub_eq_add_neg]⟩
theorem mv_mir (n : Nat) (b : Int) : Mv n fun i => b - i := by
  refine ⟨fun i => .inr (by show b - (i + 1) = b - i - 1; omega), fun i => ?_⟩
  show (b - i % (n : Int)) % (n : Int) = (b - i) % (n : Int)
  rw [Int.sub_emod, Int.emod_emod, ← Int.sub_emod]
theorem pick_pick {l : List Nat} (h0 : 0 < l.length) {f g : Int → Int} (m : Mv l.length f) : pick (pick l f) g = pick l fun i => f (g i) := by
  refine pick_eq (by rw [pick_len, pick_len]) fun k hk => ?_
  rw [pick_get (by rw [pick_len]; exact hk), sg_pick h0 m]
theorem pick_id {l : List Nat} {f : Int → Int} (h : ∀ i : Int, f i % (l.length : Int) = i % (l.length : Int)) : pick l f = l := by
  refine (pick_eq rfl fun k hk => ?_).symm
  rw [sg_nat hk, sg_congr (h k)]
/-- a row moved to the right -/
def rotS (b : Int) (z : Str) : Str := ⟨(pick (tl z) fun i => i - b).toArray⟩
/-- a row seen from the other side -/
def mirS (b : Int) (z : Str) : Str := ⟨(pick (tl z) fun i => b - i).toArray⟩
theorem tl_rotS (b : Int) (z : Str) : tl (rotS b z) = pick (tl z) fun i => i - b := rfl
theorem tl_mirS (b : Int) (z : Str) : tl (mirS b z) = pick (tl z) fun i => b - i := rfl
theorem Rows.map {n : Nat} {ls : List Str} (R : Rows n ls) {g : Str → Str} (hl : ∀ z, (tl (g z)).length = (tl z).length) (hr : ∀ z, Row (tl z) → Row (tl (g z))) : Rows n (ls.map g) := by
  refine ⟨by rw [List.length_map]; exact R.ne, fun z hz => ?_, fun z hz => ?_⟩
  all_goals obtain ⟨y, hy, rfl⟩ := List.mem_map.mp hz
  · rw [hl, R.len y hy]
  · exact hr y (R.row y hy)
theorem Rows.rot {n : Nat} {ls : List Str} (R : Rows n ls) (b : Int) : Rows n (ls.map (rotS b)) :=
  R.map (g := rotS b) (fun z => by rw [tl_rotS, pick_len]) fun z h => by rw [tl_rotS]; exact h.pick (mv_sub _ b)
theorem Rows.mir {n : Nat} {ls : List Str} (R : Rows n ls) (b : Int) : Rows n (ls.map (mirS b)) :=
  R.map (g := mirS b) (fun z => by rw [tl_mirS, pick_len]) fun z h => by rw [tl_mirS]; exact h.pick (mv_mir _ b)
theorem rot_rot {n : Nat} {ls : List Str} (R : Rows n ls) (a b : Int) : (ls.map (rotS a)).map (rotS b) = ls.map (rotS (a + b)) := by
  rw [List.map_map]
  refine List.map_congr_left fun z hz => ext_tl ?_
  show tl (rotS b (rotS a z)) = _
  rw [tl_rotS, tl_rotS, tl_rotS, pick_pick (R.row z hz).ne (mv_sub _ a)]
  refine pick_congr fun k _ => ?_
  show sg (tl z) ((k : Int) - b - a) = sg (tl z) ((k : Int) - (a + b))
  congr 1
  omega
theorem rot_width {n : Nat} {ls : List Str} (R : Rows n ls) : ls.map (rotS (n : Int)) = ls := by
  refine Eq.trans (List.map_congr_left fun z hz => ?_) (List.map_id ls)
  refine ext_tl ?_
  rw [tl_rotS]
  refine pick_id fun i => ?_
  rw [R.len z hz]
  exact Int.sub_emod_right i _
theorem mir_mir {n : Nat} {ls : List Str} (R : Rows n ls) (a b : Int) : (ls.map (mirS a)).map (mirS b) = ls.map (rotS (b - a)) := by
  rw [List.map_map]
  refine List.map_congr_left fun z hz => ext_tl ?_
  show tl (mirS b (mirS a z)) = _
  rw [tl_mirS, tl_mirS, tl_rotS, pick_pick (R.row z hz).ne (mv_mir _ a)]
  refine pick_congr fun k _ => ?_
  show sg (tl z) (a - (b - (k : Int))) = sg (tl z) ((k : Int) - (b - a))
  congr 1
  omega
/-- what the program does: the part from a cut on, and the part before it -/
theorem cut_rot {z : Str} {b : Int} {c : Nat} (h0 : 0 < (tl z).length) (hc : ((-b) % ((tl z).length : Int)) = (c : Int)) : cutS z (some (c : Int)) none ++ cutS z none (some (c : Int)) = rotS b z := by
  refine ext_tl ?_
  rw [tl_append, tl_rotS]
  have hlt : c < (tl z).length := by
    have := Int.emod_lt_of_pos (-b) (show (0 : Int) < (tl z).length by omega)
    omega
  have e1 : tl (cutS z none (some (c : Int))) = (tl z).take c := by
    show ((tl z).drop (HT.sIx z.length 0 none)).take (HT.sIx z.length z.length (some (c : Int)) - HT.sIx z.length 0 none) = _
    rw [sIx_nat]
    show ((tl z).drop 0).take (min c z.length - 0) = _
    rw [List.drop_zero, Nat.sub_zero, len_tl, Nat.min_eq_left (Nat.le_of_lt hlt)]
  have e2 : tl (cutS z (some (c : Int)) none) = (tl z).drop c := by
    show ((tl z).drop (HT.sIx z.length 0 (some (c : Int)))).take (HT.sIx z.length z.length none - HT.sIx z.length 0 (some (c : Int))) = _
    rw [sIx_nat]
    show ((tl z).drop (min c z.length)).take (z.length - min c z.length) = _
    rw [len_tl, Nat.min_eq_left (by omega), List.take_of_length_le (by rw [List.length_drop]; exact Nat.le_refl _)]
  rw [e1, e2]
  have hb : ∀ k : Int, sg (tl z) (k - b) = sg (tl z) (k + (c : Int)) := fun k => sg_congr (by
    rw [← hc, Int.add_emod_emod, Int.sub_eq_add_neg])
  refine pick_eq (by rw [List.length_append, List.length_drop, List.length_take]; omega) fun k hk => ?_
  rw [hb]
  by_cases h1 : k < (tl z).length - c
  · rw [List.getElem?_append_left (by rw [List.length_drop]; exact h1), List.getElem?_drop, sg_nat (by omega)]
    congr 2
    omega
  · rw [List.getElem?_append_right (by rw [List.length_drop]; omega), List.length_drop, List.getElem?_take_of_lt (by omega), sg_nat (by omega)]
    congr 1
    rw [← sg_add]
    congr 1
    omega
theorem atI_sg {l : List Nat} (h : 0 < l.length) (i : Int) : atI l (i % (l.length : Int)) = some (sg l i) := by
  have e : (((i % (l.length : Int)).toNat : Nat) : Int) = i % (l.length : Int) := Int.toNat_of_nonneg (Int.emod_nonneg i (by omega))
  rw [← e]
  exact atI_nat (sg_get h i)
theorem joinL_flat : ∀ parts : List (List Nat), joinL [] parts = parts.flatten
  | [] => rfl
  | [p] => by show p = [p].flatten; simp
  | p :: q :: r => by
    show p ++ ([] ++ joinL [] (q :: r)) = _
    rw [joinL_flat (q :: r)]
    simp
theorem join_singles (l : List Nat) : Txt.join (Str.ofString "") (l.map fun c => (⟨#[c]⟩ : Str)) = ⟨l.toArray⟩ := by
  refine ext_tl ?_
  rw [join_eq, tl_join, show tl (Str.ofString "") = [] by decide +kernel, joinL_flat, List.map_map]
  show (l.map fun c => [c]).flatten = l
  induction l with
  | nil => rfl
  | cons a l ih => rw [List.map_cons, List.flatten_cons, ih]; rfl
theorem sum_singles (l : List Nat) : ((l.map fun c => (⟨#[c]⟩ : Str)).map (·.length)).sum = l.length := by
  induction l with
  | nil => rfl
  | cons a l ih =>
    rw [List.map_cons, List.map_cons, List.sum_cons, ih, List.length_cons]
    show 1 + l.length = l.length + 1
    omega
/-- whether the sign with this number is a stroke -/
def rungB (z : Str) (q : Int) : Bool := decide (V.str (⟨#[sg (tl z) q]⟩ : Str) = V.str (Str.ofString "-"))
end Rg
/-! own words: rules one after the other, + of own objects, lcm -/
namespace Rg
open PySem L2 TL
/-- a row repeated to a length -/
def strS (L : Nat) (z : Str) : Str := repS (L / (tl z).length) z
theorem str_len {L : Nat} {z : Str} (h : (tl z).length ∣ L) : (tl (strS L z)).length = L := by
  unfold strS
  rw [tl_repS, rep_length]
  exact Nat.div_mul_cancel h
theorem str_row {L : Nat} {z : Str} (R : Row (tl z)) (h : (tl z).length ∣ L) (hL : 0 < L) : Row (tl (strS L z)) :=
  R.rep (Nat.div_pos (Nat.le_of_dvd hL h) R.ne)
theorem rep_rep (a b : Nat) (l : List Nat) : (List.replicate a (List.replicate b l).flatten).flatten = (List.replicate (a * b) l).flatten := by
  induction a with
  | zero => simp
  | succ a ih =>
    rw [List.replicate_succ, List.flatten_cons, ih, Nat.succ_mul, Nat.add_comm, ← List.replicate_append_replicate, List.flatten_append]
theorem str_str {L M : Nat} {z : Str} (h0 : 0 < (tl z).length) (h : (tl z).length ∣ L) (h2 : L ∣ M) (hL : 0 < L) : strS M (strS L z) = strS M z := by
  refine ext_tl ?_
  have e := str_len h
  unfold strS at e ⊢
  rw [tl_repS, e, tl_repS, tl_repS, rep_rep]
  congr 2
  obtain ⟨c, rfl⟩ := h
  obtain ⟨d, rfl⟩ := h2
  rw [Nat.mul_div_cancel_left _ hL, Nat.mul_div_cancel_left _ h0, Nat.mul_assoc, Nat.mul_div_cancel_left _ h0, Nat.mul_comm]
theorem str_self {z : Str} (h0 : 0 < (tl z).length) : strS (tl z).length z = z := by
  refine ext_tl ?_
  unfold strS
  rw [tl_repS, Nat.div_self h0]
  simp
/-- the rows of the one and then of the other, all of one length -/
def joinR (L : Nat) (ls ms : List Str) : List Str := (ls ++ ms).map (strS L)
theorem joinR_rows {n m : Nat} {ls ms : List Str} (R : Rows n ls) (S : Rows m ms) : Rows (Nat.lcm n m) (joinR (Nat.lcm n m) ls ms) := by
  have hL : 0 < Nat.lcm n m := Nat.lcm_pos R.pos S.pos
  have key : ∀ y ∈ ls ++ ms, Row (tl y) ∧ (tl y).length ∣ Nat.lcm n m := fun y hy => by
    rcases List.mem_append.mp hy with h | h
    · exact ⟨R.row y h, by rw [R.len y h]; exact Nat.dvd_lcm_left n m⟩
    · exact ⟨S.row y h, by rw [S.len y h]; exact Nat.dvd_lcm_right n m⟩
  refine ⟨by unfold joinR; rw [List.length_map, List.length_append]; have := R.ne; omega, fun z hz => ?_, fun z hz => ?_⟩
  all_goals
    unfold joinR at hz
    obtain ⟨y, hy, rfl⟩ := List.mem_map.mp hz
  · exact str_len (key y hy).2
  · exact str_row (key y hy).1 (key y hy).2 hL
theorem str_map {n L M : Nat} {ls : List Str} (R : Rows n ls) (h : n ∣ L) (h2 : L ∣ M) (hL : 0 < L) : (ls.map (strS L)).map (strS M) = ls.map (strS M) := by
  rw [List.map_map]
  refine List.map_congr_left fun z hz => ?_
  exact str_str (R.row z hz).ne (by rw [R.len z hz]; exact h) h2 hL
/-- both ways of adding three -/
theorem join_assoc {n m t : Nat} {ls ms ts : List Str} (R : Rows n ls) (S : Rows m ms) (T : Rows t ts) :
    joinR (Nat.lcm (Nat.lcm n m) t) (joinR (Nat.lcm n m) ls ms) ts = joinR (Nat.lcm n (Nat.lcm m t)) ls (joinR (Nat.lcm m t) ms ts) := by
  have e := Nat.lcm_assoc n m t
  unfold joinR
  have h1 : 0 < Nat.lcm n m := Nat.lcm_pos R.pos S.pos
  have h2 : 0 < Nat.lcm m t := Nat.lcm_pos S.pos T.pos
  simp only [List.map_append]
  rw [str_map R (Nat.dvd_lcm_left n m) (Nat.dvd_lcm_left _ t) h1, str_map S (Nat.dvd_lcm_right n m) (Nat.dvd_lcm_left _ t) h1]
  rw [str_map S (Nat.dvd_lcm_left m t) (Nat.dvd_lcm_right n _) h2, str_map T (Nat.dvd_lcm_right m t) (Nat.dvd_lcm_right n _) h2, e, List.append_assoc]

/-! ### lcm -/
def rLcm : List V → Hp → VK → Prop := fun vs H Q => ∃ a b : Nat, vs = [.int a, .int b] ∧ a < 2 ^ 64 ∧ b < 2 ^ 64 ∧ Q (.int ((Nat.lcm a b : Nat) : Int)) H
theorem cr_lcm {X : Cx} : CallR X (.builtin "math.lcm") rLcm := by
  intro pins s σ H vs us Q I r h
  obtain ⟨a, b, rfl, ha, hb, q⟩ := h
  obtain ⟨t, u, rfl⟩ := Vals.int2 r
  exact PySem.W.mc_lcm ha hb fun _ => ⟨.int _, H, I.tok _, ⟨_, rfl⟩, q⟩

/-! ### + of objects with their own __add__ -/
def rAddOwn (C : Addr) (sp : Sp) : R2 := fun x y H Q => ∃ a b dx dy fs gs, x = .ref a ∧ y = .ref b ∧ H a = some (.ins C dx fs) ∧ H b = some (.ins C dy gs) ∧ sp [.ref a, .ref b] H (fun v H' => (∃ c, v = .ref c) ∧ Q v H') E0
theorem op_addOwn {X : Cx} {C : Addr} {n : Nat} {sp : Sp} (D : Me X.prog X.w X.K X.mg X.base C "__add__" n ["self", "other"] sp) (hc : PySem.W.selfFirst X.K C = true) (hr : Room n X.A) : OpR X (binaryOp .Add) (rAddOwn C sp) := by
  intro pins s σ H x y v u Q I rx ry h
  obtain ⟨a, b, dx, dy, fs, gs, rfl, rfl, ha, hb', q⟩ := h
  obtain ⟨f, fd, c, hm, F, hb⟩ := D.ex
  cases rx
  cases ry
  obtain ⟨mA, J, _⟩ := ins_get I.hok ha
  obtain ⟨mB, J', _⟩ := ins_get I.hok hb'
  obtain ⟨od, J, _⟩ := J.look
  obtain ⟨od', J', _⟩ := J'.look
  obtain ⟨m, hF⟩ := I.fr
  refine PySem.W.binop_K (op := .Add) hF I.ok.mod.kin J J'.type hc hm.at_ hm.fn ?_
  refine wpAny_call (codeAny_mono (F.run X.A X.stack s H ⟨[.ref a, .ref b], []⟩ [.ref a, .ref b] [.ref a, .ref b] _ E0 hr I.env0 (hb s [.ref a, .ref b] I.kIn rfl) (.cons rfl (.cons rfl .nil)) q) fun r s' hq => ?_)
  cases r with
  | error e => exact False.elim hq
  | ok fl =>
    cases fl with
    | ret w =>
      obtain ⟨z, H', I', rz, ⟨c, rfl⟩, q'⟩ := I.after hq
      cases rz
      exact ⟨.ref c, H', I', rfl, q'⟩
    | next => exact False.elim hq
    | brk => exact False.elim hq
    | cont => exact False.elim hq

/-! ### the least multiple that is found by going on -/
theorem lcm_found {n m i : Nat} (hn : 0 < n) (hm : 0 < m) (h : m ∣ n * (i + 1)) (hj : ∀ j, 1 ≤ j → j ≤ i → ¬ m ∣ n * j) : n * (i + 1) = Nat.lcm n m := by
  obtain ⟨j, ej⟩ := Nat.dvd_lcm_left n m
  have h1 : Nat.lcm n m ∣ n * (i + 1) := Nat.lcm_dvd (Nat.dvd_mul_right n (i + 1)) h
  have hp : 0 < Nat.lcm n m := Nat.lcm_pos hn hm
  have hle := Nat.le_of_dvd (Nat.mul_pos hn (Nat.succ_pos i)) h1
  rw [ej] at hle hp
  have j1 : 1 ≤ j := Nat.pos_of_mul_pos_left hp |> fun z => by
    rcases Nat.eq_zero_or_pos j with q | q
    · rw [q, Nat.mul_zero] at hp; omega
    · exact q
  have j2 : j ≤ i + 1 := Nat.le_of_mul_le_mul_left hle hn
  by_cases e : j = i + 1
  · rw [ej, e]
  · exact absurd (by rw [← ej]; exact Nat.dvd_lcm_right n m) (hj j j1 (by omega))
theorem lcm_ends {n m : Nat} (hm : 0 < m) (hj : ∀ j, 1 ≤ j → j ≤ m → ¬ m ∣ n * j) : False := hj m hm (Nat.le_refl _) (Nat.dvd_mul_left m n)
theorem lcm60 {n m : Nat} (h1 : n ≤ 12) (h2 : m ≤ 5) : Nat.lcm n m ≤ 60 := Nat.le_trans (PySem.W.mc_lcm_le n m) (Nat.mul_le_mul h1 h2)
theorem join_len {L : Nat} {ls ms : List Str} : (joinR L ls ms).length = ls.length + ms.length := by unfold joinR; rw [List.length_map, List.length_append]
end Rg
/-! own words: methods called with keywords -/
namespace Rg
open PySem L2 TL
/-- o.m(e, .., k = v, ..) -/
def tMethN (C : Addr) (m : Str) (n l : Nat) (sp : Sp) (gV : List V → List V → List V) (E : XK) (ta : TE) (t tk : TA) : TE := fun σ H Q => ta σ H fun x H1 => ∃ a dx fs, x = .ref a ∧ H1 a = some (.ins C dx fs) ∧ fs.lookup m = none ∧
  t σ H1 fun vs H2 => tk σ H2 fun zs H3 => vs.length = n ∧ zs.length = l ∧ sp (gV (.ref a :: vs) zs) H3 Q E
/-- a method that may be called so: ks the keywords -/
structure MeK (P : Program) (w : World) (K : PySem.W.Frag) (mg : Str → Option Value) (base : Heap) (C : Addr) (x : Str) (k : Nat) (ps : List Str) (sp : Sp) (n : Nat) (ks : List Str) (gV : List V → List V → List V) : Prop where
  ex : ∃ f fd g, Cls K C ∧ Meth K C x f ∧ FnOk P w K mg base CX0 k f fd ps sp ∧ KBn K fd ps (n + 1) ks g gV
section
variable {X : Cx} {k n : Nat} {C : Addr} {m : Str} {ps ks : List Str} {sp : Sp} {gV : List V → List V → List V} {o e : Expr} {es : List Expr} {kws : List Keyword} {ta : TE} {t tk : TA} {pos apos : Pos}
theorem pe_methN {pl : Sem Bool} (he : PE X o ta) (D : MeK X.prog X.w X.K X.mg X.base C m k ps sp n ks gV) (hr : Room k X.A) (ha : PA X (e :: es) t) (hkw : PK X kws tk)
    (hall : (backToKw pos (keywordEach kws X.env)).all (·.1.isSome) = true := by rfl) (hks : (backToKw pos (keywordEach kws X.env)).filterMap (·.1) = ks := by rfl)
    (hst : starEach (e :: es) X.env = (false, eval e X.env) :: starEach es X.env := by rfl) (hpl : ((backTo pos (starEach (e :: es) X.env)).any (·.1) || (backToKw pos (keywordEach kws X.env)).any (·.1.isNone)) = false := by rfl)
    (ht : eval (.Call (.Attribute o m apos) (e :: es) kws pos) X.env = (do
      let ov ← eval o X.env
      standAt apos.atName
      let (f, first) ← holding [ov] (getMethod ov m pl)
      callWith pos f first (backTo pos (starEach (e :: es) X.env)) (backToKw pos (keywordEach kws X.env))) := by rfl) :
    PE X (.Call (.Attribute o m apos) (e :: es) kws pos) (tMethN C m n ks.length sp gV E0 ta t tk) := by
  obtain ⟨f, fd, g, c, hm, F, hb⟩ := D.ex
  refine ⟨fun pins s σ H Q I h => ?_⟩
  refine PySem.W.methodCall_KW (pl := pl) (thn (he.run pins s σ H _ I h) fun u s1 ⟨x, H1, I1, rx, a, dx, fs, ex, ea, l, q⟩ => ?_) ht
  subst ex
  obtain rfl : u = Value.ref a := rx
  refine getmeth_ok I1 ea c hm l ?_
  refine PySem.W.callWith_KW (first := [.ref a]) (h₀ := X.base) I.ok.mod.kin hm.kp hall (thn (ha.run pos pins s1 σ H1 _ I1 q) fun us s2 ⟨vs, H2, I2, r, q2⟩ => ?_) hpl hst
  refine thn (hkw.run pos pins s2 σ H2 _ I2 q2) fun ws s3 ⟨zs, H3, I3, rz, l1, l2, q3⟩ => ⟨I3.kIn, ?_⟩
  rw [hks]
  exact run_fnN (us := .ref a :: us) (vs := .ref a :: vs) F hr hb pass0 I3 (.cons rfl r) rz (congrArg Nat.succ l1) l2 q3
theorem pe_methN0 {pl : Sem Bool} (he : PE X o ta) (D : MeK X.prog X.w X.K X.mg X.base C m k ps sp 0 ks gV) (hr : Room k X.A) (hkw : PK X kws tk)
    (hall : (backToKw pos (keywordEach kws X.env)).all (·.1.isSome) = true := by rfl) (hks : (backToKw pos (keywordEach kws X.env)).filterMap (·.1) = ks := by rfl)
    (hpl : ((backTo pos (starEach [] X.env)).any (·.1) || (backToKw pos (keywordEach kws X.env)).any (·.1.isNone)) = false := by rfl)
    (ht : eval (.Call (.Attribute o m apos) [] kws pos) X.env = (do
      let ov ← eval o X.env
      standAt apos.atName
      let (f, first) ← holding [ov] (getMethod ov m pl)
      callWith pos f first (backTo pos (starEach [] X.env)) (backToKw pos (keywordEach kws X.env))) := by rfl) :
    PE X (.Call (.Attribute o m apos) [] kws pos) (tMethN C m 0 ks.length sp gV E0 ta tNil tk) := by
  obtain ⟨f, fd, g, c, hm, F, hb⟩ := D.ex
  refine ⟨fun pins s σ H Q I h => ?_⟩
  refine PySem.W.methodCall_KW (pl := pl) (thn (he.run pins s σ H _ I h) fun u s1 ⟨x, H1, I1, rx, a, dx, fs, ex, ea, l, q⟩ => ?_) ht
  subst ex
  obtain rfl : u = Value.ref a := rx
  refine getmeth_ok I1 ea c hm l ?_
  refine PySem.W.callWith_KW0 (first := [.ref a]) (h₀ := X.base) I.ok.mod.kin hm.kp hall ?_ hpl
  refine thn (hkw.run pos pins s1 σ H1 _ I1 q) fun ws s3 ⟨zs, H3, I3, rz, l1, l2, q3⟩ => ⟨I3.kIn, ?_⟩
  rw [hks]
  exact run_fnN (us := [.ref a]) (vs := [.ref a]) F hr hb pass0 I3 (.cons rfl .nil) rz rfl l2 q3
end
/-- keywords in the parameters' order, and the other way about -/
theorem kb_app {K : PySem.W.Frag} {fd : FuncData} {ps ks : List Str} {n : Nat} (h : ∀ us ws : List Value, us.length = n → ws.length = ks.length → bindArgs fd ⟨us, ks.zip ws⟩ = pure (ps.zip (us ++ ws))) : KBn K fd ps n ks (fun us ws => us ++ ws) (fun vs zs => vs ++ zs) :=
  ⟨fun _ us ws _ l1 l2 => .of_eq (h us ws l1 l2), fun r rz => r.append rz⟩
theorem vals_rev : ∀ {xs : List V} {us : List Value}, Vals xs us → Vals xs.reverse us.reverse
  | _, _, .nil => .nil
  | _, _, .cons r t => by
    rw [List.reverse_cons, List.reverse_cons]
    exact (vals_rev t).append (.cons r .nil)
theorem kb_rev {K : PySem.W.Frag} {fd : FuncData} {ps ks : List Str} {n : Nat} (h : ∀ us ws : List Value, us.length = n → ws.length = ks.length → bindArgs fd ⟨us, ks.zip ws⟩ = pure (ps.zip (us ++ ws.reverse))) : KBn K fd ps n ks (fun us ws => us ++ ws.reverse) (fun vs zs => vs ++ zs.reverse) :=
  ⟨fun _ us ws _ l1 l2 => .of_eq (h us ws l1 l2), fun r rz => r.append (vals_rev rz)⟩
/-- a class that may be called with keywords -/
structure MkrK (P : Program) (w : World) (K : PySem.W.Frag) (mg : Str → Option Value) (base : Heap) (x : Str) (C : Addr) (k : Nat) (ps : List Str) (sp : Sp) (ks : List Str) (gV : List V → List V → List V) : Prop where
  ex : ∃ f fd g, mg x = some (.ref C) ∧ Mk K C f ∧ FnOk P w K mg base CX0 k f fd ps sp ∧ KBn K fd ps 1 ks g gV
theorem pe_mkN0 {X : Cx} {x : Str} {k : Nat} {C : Addr} {ps ks : List Str} {sp : Sp} {gV : List V → List V → List V} {kws : List Keyword} {tk : TA} {p pos : Pos} (M : MkrK X.prog X.w X.K X.mg X.base x C k ps sp ks gV) (hr : Room (k + 1) X.A) (hg : Gl X x) (hkw : PK X kws tk)
    (hall : (backToKw pos (keywordEach kws X.env)).all (·.1.isSome) = true := by rfl) (hks : (backToKw pos (keywordEach kws X.env)).filterMap (·.1) = ks := by rfl) (hdb : (x == ("__debug__" : Str)) = false := by decide)
    (hpl : ((backTo pos (starEach [] X.env)).any (·.1) || (backToKw pos (keywordEach kws X.env)).any (·.1.isNone)) = false := by rfl) :
    PE X (.Call (.Name x p) [] kws pos) (tMakeK C 0 ks.length sp gV E0 tNil tk) := by
  obtain ⟨f, fd, g, hm, M, F, hb⟩ := M.ex
  exact pe_makeK0 M F hr hg hm hb pass0 hkw hall hks hdb hpl
/-- a def that may be called with keywords alone -/
structure DfK (P : Program) (w : World) (K : PySem.W.Frag) (mg : Str → Option Value) (base : Heap) (x : Str) (k : Nat) (ps : List Str) (sp : Sp) (ks : List Str) (gV : List V → List V → List V) : Prop where
  ex : ∃ f fd g, mg x = some (.ref f) ∧ FnOk P w K mg base CX0 k f fd ps sp ∧ PySem.W.keepIn K (.ref f) = true ∧ KBn K fd ps 0 ks g gV
theorem pe_dfN0 {X : Cx} {x : Str} {k : Nat} {ps ks : List Str} {sp : Sp} {gV : List V → List V → List V} {kws : List Keyword} {tk : TA} {p pos : Pos} (D : DfK X.prog X.w X.K X.mg X.base x k ps sp ks gV) (hr : Room k X.A) (hg : Gl X x) (hkw : PK X kws tk)
    (hall : (backToKw pos (keywordEach kws X.env)).all (·.1.isSome) = true := by rfl) (hks : (backToKw pos (keywordEach kws X.env)).filterMap (·.1) = ks := by rfl) (hdb : (x == ("__debug__" : Str)) = false := by decide)
    (hpl : ((backTo pos (starEach [] X.env)).any (·.1) || (backToKw pos (keywordEach kws X.env)).any (·.1.isNone)) = false := by rfl) :
    PE X (.Call (.Name x p) [] kws pos) (tCallN 0 ks.length sp gV E0 tNil tk) := by
  obtain ⟨f, fd, g, hm, F, hk, hb⟩ := D.ex
  refine ⟨fun pins s σ H Q I h => ?_⟩
  refine wpAny_Call_Name_kw (ld_glob I hg hm ?_ hdb)
  refine PySem.W.callWith_KW0 (first := []) (h₀ := X.base) I.ok.mod.kin hk hall ?_ hpl
  refine thn (hkw.run pos pins s σ H _ I h) fun ws s2 ⟨zs, H2, I2, rz, l1, l2, q2⟩ => ⟨I2.kIn, ?_⟩
  rw [hks]
  exact run_fnN F hr hb pass0 I2 .nil rz l1 l2 q2
end Rg
/-! own words: the source that the laws draw from, a list that is changed at each draw -/
namespace Rg
open PySem L2 TL
/-- the heap without the source's two changing lists -/
def out (s g : Addr) (H : Hp) : Hp := fun b => if b = s ∨ b = g then none else H b
theorem out_same {s g : Addr} {H : Hp} : Same (out s g H) H := fun b u e => by
  unfold out at e
  split at e
  · cases e
  · exact e
theorem out_at {s g b : Addr} {H : Hp} (h1 : b ≠ s) (h2 : b ≠ g) : out s g H b = H b := if_neg fun h => h.elim h1 h2
theorem _root_.L2.Same.out {s g : Addr} {H H' : Hp} (e : Same H H') : Same (out s g H) (out s g H') := fun b u q => by
  unfold Rg.out at q ⊢
  split at q
  · cases q
  · rename_i n
    rw [if_neg n]
    exact e _ _ q
/-- the source, drawn from m times at most -/
structure Src (H : Hp) (s g sm : Addr) (m : Nat) : Prop where
  ex : ∃ (gs ss : List Int) (pl st : Int), H s = some (.lst [.ref g, .ref sm, .int pl, .int st]) ∧ H g = some (.lst (gs.map V.int)) ∧ H sm = some (.lst (ss.map V.int)) ∧ sm ≠ g ∧ gs.length ≤ 63 ∧ ss.length ≤ 63 ∧
    (∀ z ∈ ss, -(10 ^ 18) < z ∧ z < 10 ^ 18) ∧ 0 ≤ pl ∧ pl ≤ (m : Int) ∧ 0 ≤ st ∧ st < 2147483629
theorem Src.same {H H' : Hp} {s g r : Addr} {m : Nat} (S : Src H s g r m) (e : Same H H') : Src H' s g r m := by
  obtain ⟨gs, ss, pl, st, h1, h2, h3, r⟩ := S.ex
  exact ⟨gs, ss, pl, st, e _ _ h1, e _ _ h2, e _ _ h3, r⟩
theorem Src.mono {H : Hp} {s g r : Addr} {m n : Nat} (S : Src H s g r m) (h : m ≤ n) : Src H s g r n := by
  obtain ⟨gs, ss, pl, st, h1, h2, h3, h4, h5, h6, h7, h8, h9, r⟩ := S.ex
  exact ⟨gs, ss, pl, st, h1, h2, h3, h4, h5, h6, h7, h8, by omega, r⟩
theorem Src.new {H : Hp} {s g r q : Addr} {m : Nat} (S : Src H s g r m) (h : H q = none) : q ≠ s ∧ q ≠ g ∧ q ≠ r := by
  obtain ⟨gs, ss, pl, st, h1, h2, h3, _⟩ := S.ex
  exact ⟨fun e => (by rw [e, h1] at h; cases h), fun e => (by rw [e, h2] at h; cases h), fun e => (by rw [e, h3] at h; cases h)⟩
theorem Src.put {H H0 : Hp} {s g r q : Addr} {m n : Nat} {o : HO} (S : Src H s g r m) (S0 : Src H0 s g r n) (h : H0 q = none) : Src (upd H q o) s g r m := by
  obtain ⟨n1, n2, n3⟩ := S0.new h
  obtain ⟨gs, ss, pl, st, h1, h2, h3, x⟩ := S.ex
  exact ⟨gs, ss, pl, st, by rw [upd_ne n1.symm]; exact h1, by rw [upd_ne n2.symm]; exact h2, by rw [upd_ne n3.symm]; exact h3, x⟩
theorem Src.keep {H H' : Hp} {s g r q : Addr} {m : Nat} {u : HO} (S : Src H s g r m) (h : H q = none) (e : H' q = some u) : out s g H' q = some u := by
  obtain ⟨h1, h2, _⟩ := S.new h
  rw [out_at h1 h2]
  exact e
theorem Src.free {H H' : Hp} {s g r q : Addr} {m : Nat} (S' : Src H' s g r m) (e : Same (out s g H) (out s g H')) (h : H' q = none) : H q = none := by
  obtain ⟨h1, h2, _⟩ := S'.new h
  cases z : H q with
  | none => rfl
  | some u =>
    have := e q u (by rw [out_at h1 h2]; exact z)
    rw [out_at h1 h2, h] at this
    cases this
theorem seq0 {n : Nat} (h : 0 < n) : seqIndex? 0 n = some 0 := by
  unfold seqIndex?
  simp [h]
theorem out_put {s g b : Addr} {H : Hp} {o : HO} (h : b = s ∨ b = g) : Same (out s g H) (out s g (upd H b o)) := fun c u e => by
  unfold out at e ⊢
  split at e
  · cases e
  · rename_i n
    rw [if_neg n, upd_ne (fun z => n (by rw [z]; exact h))]
    exact e
/-- what is new may be changed -/
theorem out_set {s g D : Addr} {H H' : Hp} {o : HO} (e : Same (out s g H) (out s g H')) (z : H D = none) : Same (out s g H) (out s g (upd H' D o)) := fun b u q => by
  have h := e b u q
  unfold out at q h ⊢
  split at q
  · cases q
  · rename_i n
    rw [if_neg n] at h
    rw [if_neg n, upd_ne (ne_of_none q z)]
    exact h
theorem out_ne {s g b D : Addr} {H : Hp} {o : HO} (n : b ≠ D) : out s g (upd H D o) b = out s g H b := by
  unfold out
  rw [upd_ne n]
theorem mul_tl0 (z : Str) (n : Int) (h : 0 ≤ n) : Txt.mul z n = ⟨((List.replicate n.toNat (tl z)).flatten).toArray⟩ := by
  by_cases h1 : 1 ≤ n
  · exact mul_tl z n h1
  · have e : n = 0 := by omega
    subst e
    rfl
/-- a text many times, or no time -/
def rRepS0 : R2 := fun x y H Q => ∃ z n, x = .str z ∧ y = .int n ∧ 0 ≤ n ∧ n < 2 ^ 63 ∧ z.length * n.toNat ≤ sizeLine ∧ Q (.str ⟨((List.replicate n.toNat (tl z)).flatten).toArray⟩) H
theorem op_rep_str0 {X : Cx} : OpR X (binaryOp .Mult) rRepS0 := by
  intro pins s σ H x y v u Q I rx ry h
  obtain ⟨z, n, rfl, rfl, h1, h63, hz, q⟩ := h
  by_cases h2 : 1 ≤ n
  · exact op_rep_str pins s σ H _ _ v u Q I rx ry ⟨z, n, rfl, rfl, h2, h63, hz, q⟩
  obtain ⟨t, rfl⟩ := rx
  obtain ⟨t', rfl⟩ := ry
  refine SB.mul ⟨?_, fun h => absurd (show n < 1 by omega) h, fun h => absurd (show n < 1 by omega) h⟩ fun t2 k => ?_
  · rw [decide_eq_false (by omega), decide_eq_false (by omega)]
    rfl
  · rw [mul_tl0 z n h1]
    exact ⟨.str _, H, I.tok _, ⟨_, rfl⟩, q⟩
end Rg
/-! own words: walks down the rows -/
namespace Rg
open PySem L2 TL
/-- where a walker goes on one row -/
def cross (z : Str) (n q : Int) : Int := if decide (q + 1 < n) && rungB z q then q + 1 else if decide (0 < q) && rungB z (q - 1) then q - 1 else q
def rowAt (ls : List Str) (r : Nat) : Str := ls.getD (r % ls.length) Str.empty
/-- where it stands behind k rows -/
def wk (ls : List Str) (n a : Int) : Nat → Int
  | 0 => a
  | k + 1 => cross (rowAt ls k) n (wk ls n a k)
def way (ls : List Str) (n a : Int) (d : Nat) : List Int := (List.range d).map (wk ls n a)
theorem way_len (ls : List Str) (n a : Int) (d : Nat) : (way ls n a d).length = d := by unfold way; simp
theorem way_get {ls : List Str} {n a : Int} {d k : Nat} (h : k < d) : (way ls n a d)[k]? = some (wk ls n a k) := by
  unfold way
  rw [List.getElem?_map, List.getElem?_range h]
  rfl
theorem way_add (ls : List Str) (n a : Int) (d : Nat) : way ls n a (d + 1) = way ls n a d ++ [wk ls n a d] := by
  unfold way
  rw [List.range_succ, List.map_append]
  rfl
theorem rowAt_mem {ls : List Str} (h : 0 < ls.length) (r : Nat) : rowAt ls r ∈ ls := by
  unfold rowAt
  have hr := Nat.mod_lt r h
  rw [List.getD_eq_getElem?_getD, List.getElem?_eq_getElem hr]
  exact List.getElem_mem hr
theorem rowAt_get {ls : List Str} (h : 0 < ls.length) (r : Nat) : ls[((r : Int) % (ls.length : Int)).toNat]? = some (rowAt ls r) := by
  unfold rowAt
  have hr := Nat.mod_lt r h
  rw [show ((r : Int) % (ls.length : Int)).toNat = r % ls.length by omega, List.getD_eq_getElem?_getD, List.getElem?_eq_getElem hr]
  rfl
theorem cross_on {z : Str} {n q : Int} (h0 : 0 ≤ q) (h1 : q < n) : 0 ≤ cross z n q ∧ cross z n q < n := by
  unfold cross
  split
  · rename_i h
    rw [Bool.and_eq_true, decide_eq_true_eq] at h
    omega
  · split
    · rename_i h
      rw [Bool.and_eq_true, decide_eq_true_eq] at h
      omega
    · omega
theorem wk_on {ls : List Str} {n a : Int} (h0 : 0 ≤ a) (h1 : a < n) : ∀ k, 0 ≤ wk ls n a k ∧ wk ls n a k < n
  | 0 => ⟨h0, h1⟩
  | k + 1 => cross_on (wk_on h0 h1 k).1 (wk_on h0 h1 k).2
end Rg
/-! own words: == and != of lists of texts, of numbers -/
namespace Rg
open PySem L2 TL
theorem rd_neS {K : PySem.W.Frag} {H : Hp} {p q : Addr} {ls ms : List Str} {Q : VK} (hp : H p = some (.lst (ls.map V.str))) (hq : H q = some (.lst (ms.map V.str))) (h1 : ∀ z ∈ ls, Signs (tl z)) (h2 : ∀ z ∈ ms, Signs (tl z)) (k : Q (.bl (!decide (ls = ms))) H) : rNeD K (.ref p) (.ref q) H Q := by
  refine ⟨_, _, .lst (SqL.of hp) (dp_strs ls), .lst (SqL.of hq) (dp_strs ms), shaped_lst h1, shaped_lst h2, ?_⟩
  rw [eqv_lst]
  exact k
theorem rd_eqS {K : PySem.W.Frag} {H : Hp} {p q : Addr} {ls ms : List Str} {Q : VK} (hp : H p = some (.lst (ls.map V.str))) (hq : H q = some (.lst (ms.map V.str))) (h1 : ∀ z ∈ ls, Signs (tl z)) (h2 : ∀ z ∈ ms, Signs (tl z)) (k : Q (.bl (decide (ls = ms))) H) : rEqD K (.ref p) (.ref q) H Q := by
  refine ⟨_, _, .lst (SqL.of hp) (dp_strs ls), .lst (SqL.of hq) (dp_strs ms), shaped_lst h1, shaped_lst h2, ?_⟩
  rw [eqv_lst]
  exact k
end Rg
/-! own words: who meets whom; sets of numbers -/
namespace Rg
open PySem L2 TL
theorem rung_sg {z : Str} {q : Int} (h : rungB z q = true) : sg (tl z) q = 45 := by
  unfold rungB at h
  have e := of_decide_eq_true h
  injection e with e
  have e2 := congrArg tl e
  rw [show tl (Str.ofString "-") = [45] by decide +kernel] at e2
  injection e2
theorem cross_cross {z : Str} (R : Row (tl z)) {n q : Int} (h0 : 0 ≤ q) (h1 : q < n) : cross z n (cross z n q) = q := by
  have gap : ∀ i : Int, rungB z i = true → rungB z (i + 1) = true → False := fun i g1 g2 => R.gap i ⟨rung_sg g1, rung_sg g2⟩
  by_cases c1 : q + 1 < n ∧ rungB z q = true
  · have e : cross z n q = q + 1 := by
      unfold cross
      rw [if_pos (by rw [Bool.and_eq_true, decide_eq_true_eq]; exact c1)]
    rw [e]
    unfold cross
    rw [if_neg (by rw [Bool.and_eq_true]; exact fun h => gap q c1.2 h.2), if_pos (by rw [Bool.and_eq_true, decide_eq_true_eq, Int.add_sub_cancel]; exact ⟨by omega, c1.2⟩), Int.add_sub_cancel]
  · have n1 : ¬ (decide (q + 1 < n) && rungB z q) = true := by rw [Bool.and_eq_true, decide_eq_true_eq]; exact c1
    by_cases c2 : 0 < q ∧ rungB z (q - 1) = true
    · have e : cross z n q = q - 1 := by
        unfold cross
        rw [if_neg n1, if_pos (by rw [Bool.and_eq_true, decide_eq_true_eq]; exact c2)]
      rw [e]
      unfold cross
      rw [if_pos (by rw [Bool.and_eq_true, decide_eq_true_eq]; exact ⟨by omega, c2.2⟩), Int.sub_add_cancel]
    · have e : cross z n q = q := by
        unfold cross
        rw [if_neg n1, if_neg (by rw [Bool.and_eq_true, decide_eq_true_eq]; exact c2)]
      rw [e, e]
/-- who stands at a post behind k rows -/
def who (ls : List Str) (n : Int) : Nat → Int → Int
  | 0, a => a
  | k + 1, a => who ls n k (cross (rowAt ls k) n a)
section
variable {m : Nat} {ls : List Str} {n : Int}
theorem who_on (k : Nat) : ∀ {a : Int}, 0 ≤ a → a < n → 0 ≤ who ls n k a ∧ who ls n k a < n := by
  induction k with
  | zero => exact fun h0 h1 => ⟨h0, h1⟩
  | succ k ih => exact fun h0 h1 => ih (cross_on h0 h1).1 (cross_on h0 h1).2
theorem wk_who (W : Rows m ls) (k : Nat) : ∀ {a : Int}, 0 ≤ a → a < n → wk ls n (who ls n k a) k = a := by
  induction k with
  | zero => exact fun _ _ => rfl
  | succ k ih =>
    intro a h0 h1
    show cross (rowAt ls k) n (wk ls n (who ls n k (cross (rowAt ls k) n a)) k) = a
    rw [ih (cross_on h0 h1).1 (cross_on h0 h1).2]
    exact cross_cross (W.row _ (rowAt_mem W.ne k)) h0 h1
theorem who_wk (W : Rows m ls) (k : Nat) {a : Int} (h0 : 0 ≤ a) (h1 : a < n) : who ls n k (wk ls n a k) = a := by
  induction k with
  | zero => rfl
  | succ k ih =>
    show who ls n k (cross (rowAt ls k) n (cross (rowAt ls k) n (wk ls n a k))) = a
    rw [cross_cross (W.row _ (rowAt_mem W.ne k)) (wk_on h0 h1 k).1 (wk_on h0 h1 k).2]
    exact ih
theorem wk_inj (W : Rows m ls) (k : Nat) {a b : Int} (h0 : 0 ≤ a) (h1 : a < n) (h2 : 0 ≤ b) (h3 : b < n) (e : wk ls n a k = wk ls n b k) : a = b := by
  rw [← who_wk W k h0 h1, e, who_wk W k h2 h3]
end
/-- does the walker from s meet the one from j on a row before the d-th? -/
def met1 (ls : List Str) (n s j : Int) (k : Nat) : Bool := decide (V.int (wk ls n j k) = V.int (wk ls n s (k + 1))) && !decide (V.int (wk ls n s (k + 1)) = V.int (wk ls n s k))
def metB (ls : List Str) (n s : Int) (d : Nat) (j : Nat) : Bool := (List.range d).any fun k => met1 ls n s (j : Int) k
theorem metB_add (ls : List Str) (n s : Int) (d j : Nat) : metB ls n s (d + 1) j = (metB ls n s d j || met1 ls n s (j : Int) d) := by
  unfold metB
  rw [List.range_succ, List.any_append]
  simp
def parts (ls : List Str) (N : Nat) (s : Int) (d : Nat) : List Int := ((List.range N).filter (metB ls (N : Int) s d)).map fun j : Nat => (j : Int)
theorem parts_len (ls : List Str) (N : Nat) (s : Int) (d : Nat) : (parts ls N s d).length ≤ N := by
  unfold parts
  rw [List.length_map]
  exact Nat.le_trans (List.length_filter_le _ _) (by rw [List.length_range]; exact Nat.le_refl _)
/-- ascending lists with the same members -/
theorem pw_eq : ∀ {xs ys : List Int}, xs.Pairwise (· < ·) → ys.Pairwise (· < ·) → (∀ k, k ∈ xs ↔ k ∈ ys) → xs = ys
  | [], [], _, _, _ => rfl
  | [], y :: ys, _, _, h => absurd ((h y).mpr List.mem_cons_self) (by simp)
  | x :: xs, [], _, _, h => absurd ((h x).mp List.mem_cons_self) (by simp)
  | x :: xs, y :: ys, hx, hy, h => by
    obtain ⟨x1, x2⟩ := List.pairwise_cons.mp hx
    obtain ⟨y1, y2⟩ := List.pairwise_cons.mp hy
    have e : x = y := by
      rcases List.mem_cons.mp ((h x).mp List.mem_cons_self) with e | e
      · exact e
      · rcases List.mem_cons.mp ((h y).mpr List.mem_cons_self) with e2 | e2
        · exact e2.symm
        · have := y1 x e
          have := x1 y e2
          omega
    subst e
    rw [pw_eq x2 y2 fun k => ⟨fun hk => ?_, fun hk => ?_⟩]
    · rcases List.mem_cons.mp ((h k).mp (List.mem_cons_of_mem _ hk)) with e | e
      · have := x1 k hk
        omega
      · exact e
    · rcases List.mem_cons.mp ((h k).mpr (List.mem_cons_of_mem _ hk)) with e | e
      · have := y1 k hk
        omega
      · exact e
theorem pw_filter (p : Nat → Bool) (N : Nat) : (((List.range N).filter p).map fun j : Nat => (j : Int)).Pairwise (· < ·) := by
  rw [List.pairwise_map]
  exact ((List.pairwise_lt_range (n := N)).filter p).imp fun h => by omega
/-- how many below N -/
def cnt (N : Nat) (p : Nat → Bool) : Nat := ((List.range N).filter p).length
theorem cnt_le (N : Nat) (p : Nat → Bool) : cnt N p ≤ N := Nat.le_trans (List.length_filter_le _ _) (by rw [List.length_range]; exact Nat.le_refl _)
theorem cnt_congr {N : Nat} {p q : Nat → Bool} (h : ∀ j, j < N → p j = q j) : cnt N p = cnt N q := by
  unfold cnt
  rw [List.filter_congr fun j hj => h j (List.mem_range.mp hj)]
theorem cnt_succ (N : Nat) (p : Nat → Bool) : cnt (N + 1) p = cnt N p + (if p N = true then 1 else 0) := by
  unfold cnt
  rw [List.range_succ, List.filter_append, List.length_append]
  by_cases h : p N = true
  · simp [h]
  · simp [h]
theorem cnt_add {p : Nat → Bool} {k : Nat} : ∀ {N : Nat}, k < N → p k = false → cnt N (fun j => p j || decide (j = k)) = cnt N p + 1
  | 0, h, _ => absurd h (Nat.not_lt_zero _)
  | N + 1, h, hp => by
    rw [cnt_succ, cnt_succ]
    by_cases e : k = N
    · subst e
      rw [cnt_congr (p := fun j => p j || decide (j = k)) (q := p) fun j hj => by
        rw [decide_eq_false (by omega), Bool.or_false], hp]
      simp
    · rw [cnt_add (N := N) (by omega) hp, show (p N || decide (N = k)) = p N by rw [decide_eq_false (by omega), Bool.or_false]]
      omega
theorem cnt_same {p : Nat → Bool} {k N : Nat} (hp : p k = true) : cnt N (fun j => p j || decide (j = k)) = cnt N p :=
  cnt_congr fun j _ => by
    by_cases e : j = k
    · subst e
      rw [hp, Bool.true_or]
    · rw [decide_eq_false e, Bool.or_false]
end Rg
/-! own mathematics: meetings of two walkers -/
namespace Rg
open PySem L2 TL
/-- the left post of the rung that is crossed between two posts, none if there is none -/
def rgV (a b : Int) : V := if a = b then .non else .int (if b < a then b else a)
def rungs (ls : List Str) (n a : Int) (d : Nat) : List V := (List.range d).map fun k => rgV (wk ls n a k) (wk ls n a (k + 1))
theorem rungs_len (ls : List Str) (n a : Int) (d : Nat) : (rungs ls n a d).length = d := by unfold rungs; simp
theorem rungs_get {ls : List Str} {n a : Int} {d k : Nat} (h : k < d) : (rungs ls n a d)[k]? = some (rgV (wk ls n a k) (wk ls n a (k + 1))) := by
  unfold rungs
  rw [List.getElem?_map, List.getElem?_range h]
  rfl
/-- do the walkers meet on this row? -/
def mtB (ls : List Str) (n a b : Int) (k : Nat) : Bool := !decide (rgV (wk ls n a k) (wk ls n a (k + 1)) = V.non) && decide (rgV (wk ls n a k) (wk ls n a (k + 1)) = rgV (wk ls n b k) (wk ls n b (k + 1)))
def mtN (ls : List Str) (n a b : Int) (d : Nat) : Nat := ((List.range d).filter (mtB ls n a b)).length
theorem scal_rg (a b c d : Int) : scal (rgV a b) (rgV c d) = true := by
  unfold rgV
  by_cases h1 : a = b
  · by_cases h2 : c = d
    · rw [if_pos h1, if_pos h2]; rfl
    · rw [if_pos h1, if_neg h2]; rfl
  · by_cases h2 : c = d
    · rw [if_neg h1, if_pos h2]; rfl
    · rw [if_neg h1, if_neg h2]; rfl
theorem filt_t {p : Nat → Bool} {i : Nat} (h : p i = true) : (List.range (i + 1)).filter p = (List.range i).filter p ++ [i] := by
  rw [List.range_succ, List.filter_append]
  simp [h]
theorem filt_f {p : Nat → Bool} {i : Nat} (h : p i = false) : (List.range (i + 1)).filter p = (List.range i).filter p := by
  rw [List.range_succ, List.filter_append]
  simp [h]
theorem scal_rn (a b : Int) : scal (rgV a b) .non = true := by
  unfold rgV
  split <;> rfl
/-- the same, as the law counts -/
def meB1 (ls : List Str) (n a b : Int) (k : Nat) : Bool := decide (V.int (wk ls n a k) = V.int (wk ls n b k)) && !decide (V.int (wk ls n a (k + 1)) = V.int (wk ls n a k))
def meB2 (ls : List Str) (n a b : Int) (k : Nat) : Bool := !decide (V.int (wk ls n a k) = V.int (wk ls n b k)) && (decide (V.int (wk ls n a (k + 1)) = V.int (wk ls n b k)) && decide (V.int (wk ls n b (k + 1)) = V.int (wk ls n a k)))
theorem rgV_ne {a b : Int} (h : a ≠ b) : rgV a b = .int (if b < a then b else a) := by
  unfold rgV
  rw [if_neg h]
theorem cross_near (z : Str) (n q : Int) : cross z n q = q ∨ cross z n q = q + 1 ∨ cross z n q = q - 1 := by
  unfold cross
  split
  · exact .inr (.inl rfl)
  · split
    · exact .inr (.inr rfl)
    · exact .inl rfl
theorem me_mt (ls : List Str) (n a b : Int) (k : Nat) : mtB ls n a b k = (meB1 ls n a b k || meB2 ls n a b k) := by
  have h1 : wk ls n a (k + 1) = wk ls n a k ∨ wk ls n a (k + 1) = wk ls n a k + 1 ∨ wk ls n a (k + 1) = wk ls n a k - 1 := cross_near _ _ _
  have h2 : wk ls n b (k + 1) = wk ls n b k ∨ wk ls n b (k + 1) = wk ls n b k + 1 ∨ wk ls n b (k + 1) = wk ls n b k - 1 := cross_near _ _ _
  have h3 : wk ls n a k = wk ls n b k → wk ls n a (k + 1) = wk ls n b (k + 1) := fun e => by
    show cross _ _ (wk ls n a k) = cross _ _ (wk ls n b k)
    rw [e]
  unfold mtB meB1 meB2
  generalize wk ls n a k = p at *
  generalize wk ls n a (k + 1) = p' at *
  generalize wk ls n b k = q at *
  generalize wk ls n b (k + 1) = q' at *
  rw [Bool.eq_iff_iff]
  simp only [Bool.and_eq_true, Bool.or_eq_true, Bool.not_eq_true', decide_eq_true_eq, decide_eq_false_iff_not, V.int.injEq]
  constructor
  · rintro ⟨g1, g2⟩
    by_cases e1 : p = p'
    · unfold rgV at g1
      rw [if_pos e1] at g1
      exact absurd rfl g1
    · rw [rgV_ne e1] at g2
      by_cases e2 : q = q'
      · unfold rgV at g2
        rw [if_pos e2] at g2
        cases g2
      · rw [rgV_ne e2] at g2
        injection g2 with g2
        split at g2 <;> split at g2 <;> omega
  · rintro (⟨g1, g2⟩ | ⟨g1, g2, g3⟩)
    · have e := h3 g1
      subst g1
      subst e
      refine ⟨?_, rfl⟩
      rw [rgV_ne (Ne.symm g2)]
      intro h
      cases h
    · subst g2
      subst g3
      rw [rgV_ne g1, rgV_ne (Ne.symm g1)]
      refine ⟨fun h => (by cases h), ?_⟩
      congr 1
      split <;> split <;> omega
section
variable {m : Nat} {ls : List Str} {N a b : Nat}
theorem met1_mt (W : Rows m ls) (ha : a < N) (hb : b < N) (k : Nat) : met1 ls (N : Int) (a : Int) (b : Int) k = (!decide (b = a) && mtB ls (N : Int) (a : Int) (b : Int) k) := by
  obtain ⟨a0, a1⟩ := wk_on (ls := ls) (show (0 : Int) ≤ (a : Int) by omega) (show (a : Int) < (N : Int) by omega) k
  obtain ⟨b0, b1⟩ := wk_on (ls := ls) (show (0 : Int) ≤ (b : Int) by omega) (show (b : Int) < (N : Int) by omega) k
  have hinj : b ≠ a → wk ls (N : Int) (a : Int) k ≠ wk ls (N : Int) (b : Int) k := fun h e => h (by
    have := wk_inj W k (by omega) (by omega) (by omega) (by omega) e
    omega)
  have ea : wk ls (N : Int) (a : Int) (k + 1) = cross (rowAt ls k) (N : Int) (wk ls (N : Int) (a : Int) k) := rfl
  have eb : wk ls (N : Int) (b : Int) (k + 1) = cross (rowAt ls k) (N : Int) (wk ls (N : Int) (b : Int) k) := rfl
  have hcc := cross_cross (W.row _ (rowAt_mem W.ne k)) a0 a1
  rw [me_mt]
  unfold met1 meB1 meB2
  rw [Bool.eq_iff_iff]
  simp only [Bool.and_eq_true, Bool.or_eq_true, Bool.not_eq_true', decide_eq_true_eq, decide_eq_false_iff_not, V.int.injEq]
  by_cases e : b = a
  · subst e
    constructor
    · rintro ⟨g1, g2⟩
      exact absurd g1.symm g2
    · rintro ⟨g1, _⟩
      exact absurd rfl g1
  · have hne := hinj e
    constructor
    · rintro ⟨g1, g2⟩
      refine ⟨e, .inr ⟨hne, g1.symm, ?_⟩⟩
      rw [eb, g1, ea]
      exact hcc
    · rintro ⟨_, g | ⟨_, g2, g3⟩⟩
      · exact absurd g.1 hne
      · exact ⟨g2.symm, fun h => hne (by rw [← h, g2])⟩
theorem any_len (p : Nat → Bool) (d : Nat) : (List.range d).any p = decide (0 < ((List.range d).filter p).length) := by
  rw [Bool.eq_iff_iff, List.any_eq_true, decide_eq_true_eq, List.length_pos_iff_exists_mem]
  exact ⟨fun ⟨x, h1, h2⟩ => ⟨x, List.mem_filter.mpr ⟨h1, h2⟩⟩, fun ⟨x, h⟩ => ⟨x, (List.mem_filter.mp h).1, (List.mem_filter.mp h).2⟩⟩
theorem metB_mt (W : Rows m ls) (ha : a < N) (hb : b < N) (d : Nat) : metB ls (N : Int) (a : Int) d b = (!decide (b = a) && decide (0 < mtN ls (N : Int) (a : Int) (b : Int) d)) := by
  unfold metB mtN
  rw [← any_len]
  by_cases e : b = a
  · rw [decide_eq_true e, Bool.not_true, Bool.false_and, List.any_eq_false]
    intro k _
    rw [met1_mt W ha hb, decide_eq_true e, Bool.not_true, Bool.false_and]
    exact Bool.false_ne_true
  · rw [decide_eq_false e, Bool.not_false, Bool.true_and]
    congr 1
    funext k
    rw [met1_mt W ha hb, decide_eq_false e, Bool.not_false, Bool.true_and]
/-- the meetings of two unlike walkers -/
theorem mtB_ne (W : Rows m ls) (ha : a < N) (hb : b < N) (e : a ≠ b) (k : Nat) : mtB ls (N : Int) (a : Int) (b : Int) k = (decide (V.int (wk ls (N : Int) (a : Int) (k + 1)) = V.int (wk ls (N : Int) (b : Int) k)) && decide (V.int (wk ls (N : Int) (b : Int) (k + 1)) = V.int (wk ls (N : Int) (a : Int) k))) := by
  have hne : wk ls (N : Int) (a : Int) k ≠ wk ls (N : Int) (b : Int) k := fun h => e (by
    have := wk_inj W k (by omega) (by omega) (by omega) (by omega) h
    omega)
  have hv : ¬ V.int (wk ls (N : Int) (a : Int) k) = V.int (wk ls (N : Int) (b : Int) k) := fun h => hne (by injection h)
  rw [me_mt]
  unfold meB1 meB2
  rw [decide_eq_false hv, Bool.false_and, Bool.false_or, Bool.not_false, Bool.true_and]
theorem mtB_eq (ls : List Str) (n a : Int) (k : Nat) : mtB ls n a a k = !decide (V.int (wk ls n a k) = V.int (wk ls n a (k + 1))) := by
  rw [me_mt]
  unfold meB1 meB2
  rw [decide_eq_true (rfl : V.int (wk ls n a k) = V.int (wk ls n a k)), Bool.true_and, Bool.not_true, Bool.false_and, Bool.or_false]
  congr 1
  exact decide_eq_decide.mpr ⟨Eq.symm, Eq.symm⟩
theorem mtN_symm (W : Rows m ls) (ha : a < N) (hb : b < N) (d : Nat) : mtN ls (N : Int) (a : Int) (b : Int) d = mtN ls (N : Int) (b : Int) (a : Int) d := by
  by_cases e : a = b
  · rw [e]
  · unfold mtN
    congr 2
    funext k
    rw [mtB_ne W ha hb e, mtB_ne W hb ha (Ne.symm e), Bool.and_comm]
end
/-- the names' values, told anew -/
theorem norm_g {i : Nat} {v : V} {σ σ' : St} {H : Hp} {Q : St → Hp → Prop} (e : σ.set i (some v) = σ') (h : Q σ' H) : gName i v σ H Q := by
  subst e
  exact h
end Rg
/-! own words: errors of own classes, raised and caught -/
namespace Rg
open PySem L2 TL
open PyProof.Rows hiding St

/-! ### calls that may let an error out -/
structure DfX (P : Program) (w : World) (K : PySem.W.Frag) (mg : Str → Option Value) (base : Heap) (x : Str) (k : Nat) (ps : List Str) (sp : Sp) : Prop where
  ex : ∃ f fd, mg x = some (.ref f) ∧ FnOk P w K mg base (L2.CX P w) k f fd ps sp ∧ PySem.W.keepIn K (.ref f) = true ∧ Binds K fd ps []
structure MeX (P : Program) (w : World) (K : PySem.W.Frag) (mg : Str → Option Value) (base : Heap) (C : Addr) (x : Str) (k : Nat) (ps : List Str) (sp : Sp) : Prop where
  ex : ∃ f fd, Cls K C ∧ Meth K C x f ∧ FnOk P w K mg base (L2.CX P w) k f fd ps sp ∧ Binds K fd ps []
structure MkrX (P : Program) (w : World) (K : PySem.W.Frag) (mg : Str → Option Value) (base : Heap) (x : Str) (C : Addr) (k : Nat) (ps : List Str) (sp : Sp) : Prop where
  ex : ∃ f fd, mg x = some (.ref C) ∧ Mk K C f ∧ FnOk P w K mg base (L2.CX P w) k f fd ps sp ∧ Binds K fd ps []
/-- what keeps its promise and lets nothing out -/
theorem calmFn {P : Program} {w : World} {K : PySem.W.Frag} {mg : Str → Option Value} {base : Heap} {k : Nat} {f : Addr} {fd : FuncData} {ps : List Str} {sp sp' : Sp} (F : FnOk P w K mg base (L2.CX P w) k f fd ps sp)
    (h : ∀ vs H Q E, sp' vs H Q E → sp vs H Q E0) : FnOk P w K mg base CX0 k f fd ps sp' :=
  ⟨fun vs H Q E z => F.len vs H Q E0 (h vs H Q E z), fun A outer s H args us vs Q E hr e b r z => codeAny_mono (F.run A outer s H args us vs Q E0 hr e b r (h vs H Q E z)) fun r s' q => by
    cases r with
    | error e =>
      obtain ⟨_, _, _, _, _, _, _, _, _, _, _, _, y⟩ := q
      exact y.elim
    | ok fl => cases fl <;> exact q⟩
section
variable {X : Cx} {W : WX} {x m : Str} {k : Nat} {C : Addr} {ps : List Str} {sp : Sp} {o e : Expr} {es : List Expr} {ta : TE} {t : TA} {p pos apos : Pos}
theorem pe_dfS (D : DfX X.prog X.w X.K X.mg X.base x k ps sp) (hr : Room k X.A) (hg : Gl X x) (tk : Takes X W) (ha : PA X (e :: es) t) (hdb : (x == ("__debug__" : Str)) = false := by decide)
    (he : starEach (e :: es) X.env = (false, eval e X.env) :: starEach es X.env := by rfl) (hpl : (backTo pos (starEach es X.env)).any (·.1) = false := by rfl) :
    PE X (.Call (.Name x p) (e :: es) [] pos) (tCallS sp (WE W) t) := by
  obtain ⟨f, fd, hm, F, hk, hb⟩ := D.ex
  exact pe_callS F hr hg hm hk hb (fun σ => passAt tk σ) ha hdb he hpl
/-- o.m(e, ..) that may let an error out -/
def tMethS (C : Addr) (m : Str) (sp : Sp) (W : WX) (ta : TE) (t : TA) : TE := fun σ H Q => ta σ H fun x H1 => ∃ a dx fs, x = .ref a ∧ H1 a = some (.ins C dx fs) ∧ fs.lookup m = none ∧ t σ H1 fun vs H2 => sp (.ref a :: vs) H2 Q (WE W σ)
theorem pe_meS {pl : Sem Bool} (he : PE X o ta) (D : MeX X.prog X.w X.K X.mg X.base C m k ps sp) (hr : Room k X.A) (tk : Takes X W) (ha : PA X (e :: es) t)
    (hst : starEach (e :: es) X.env = (false, eval e X.env) :: starEach es X.env := by rfl) (hpl : (backTo pos (starEach es X.env)).any (·.1) = false := by rfl)
    (ht : eval (.Call (.Attribute o m apos) (e :: es) [] pos) X.env = (do
      let ov ← eval o X.env
      standAt apos.atName
      let (f, first) ← holding [ov] (getMethod ov m pl)
      callWith pos f first (backTo pos (starEach (e :: es) X.env)) (backToKw pos (keywordEach [] X.env))) := by rfl) :
    PE X (.Call (.Attribute o m apos) (e :: es) [] pos) (tMethS C m sp W ta t) := by
  obtain ⟨f, fd, c, hm, F, hb⟩ := D.ex
  refine ⟨fun ps0 s0 σ0 H0 Q0 I0 h0 => PySem.W.methodCall_KW (pl := pl) (thn (he.run ps0 s0 σ0 H0 _ I0 h0) fun u0 s1 hh => ?_) ht⟩
  obtain ⟨_, H1, I1, ru, a, dx, fs, rfl, ea, ln, q⟩ := hh
  cases (show u0 = Value.ref a from ru)
  refine getmeth_ok I1 ea c hm ln (PySem.W.callWith_K (first := [.ref a]) (h₀ := X.base) I1.ok.mod.kin hm.kp (thn (ha.run pos ps0 s1 σ0 H1 _ I1 q) fun us s2 h2 => ?_) hst hpl)
  obtain ⟨vs, H2, I2, rv, q2⟩ := h2
  exact ⟨I2.kIn, run_fnS (us := .ref a :: us) (vs := .ref a :: vs) F hr hb (passAt tk σ0) I2 (.cons rfl rv) q2⟩
/-- C(e, ..), whose __init__ may let an error out -/
def tMakeS (C : Addr) (sp : Sp) (W : WX) (t : TA) : TE := fun σ H Q => t σ H fun vs H1 => ∀ x dx, H1 x = none → H1 dx = none → dx ≠ x →
  sp (.ref x :: vs) (upd (upd H1 dx (.own x)) x (.ins C dx [])) (fun v H2 => v = .non ∧ Q (.ref x) H2) (WE W σ)
theorem pe_mkS (M : MkrX X.prog X.w X.K X.mg X.base x C k ps sp) (hr : Room (k + 1) X.A) (hg : Gl X x) (tk : Takes X W) (ha : PA X (e :: es) t) (hdb : (x == ("__debug__" : Str)) = false := by decide)
    (he : starEach (e :: es) X.env = (false, eval e X.env) :: starEach es X.env := by rfl) (hpl : (backTo pos (starEach es X.env)).any (·.1) = false := by rfl) :
    PE X (.Call (.Name x p) (e :: es) [] pos) (tMakeS C sp W t) := by
  obtain ⟨f, fd, hm, M, F, hb⟩ := M.ex
  refine ⟨fun ps0 s0 σ0 H0 Q0 I0 h0 => wpAny_Call_Name_kw (ld_glob I0 hg hm ?_ hdb)⟩
  refine PySem.W.callWith_K (h₀ := X.base) I0.ok.mod.kin M.kp (thn (ha.run pos ps0 s0 σ0 H0 _ I0 h0) fun us s1 h1 => ?_) he hpl
  obtain ⟨vs, H1, I1, r, q1⟩ := h1
  refine ⟨I1.kIn, ?_⟩
  have lt := Nat.lt_succ_self s1.heap.objs.size
  have hq := q1 (s1.heap.objs.size + 1) s1.heap.objs.size (I1.hok.fresh (Nat.le_of_lt lt)) (I1.hok.fresh (Nat.le_refl _)) (Nat.ne_of_lt lt)
  have J := Inv.made (C := C) I1
  have rv : Vals (V.ref (s1.heap.objs.size + 1) :: vs) (Value.ref (s1.heap.objs.size + 1) :: us) := .cons rfl r
  have hlen : (Value.ref (s1.heap.objs.size + 1) :: us).length = ps.length := (F.len _ _ _ _ hq) ▸ rv.length.symm
  have hbind := hb _ (Value.ref (s1.heap.objs.size + 1) :: us) J.kIn (by rw [List.append_nil]; exact hlen)
  rw [List.append_nil] at hbind
  have run := F.run _ X.stack _ _ ⟨Value.ref (s1.heap.objs.size + 1) :: us, []⟩ _ _ _ (WE W σ0) (hr.make C us []) (J.env0.make C us []) hbind rv hq
  refine wpAny_call (make_map (f := f) I1.kIn M.makes M.init (beq_iff_eq.mp M.fn) (codeAny_mono run fun res s2 hres => ?_))
  match res, hres with
  | .error er, hres => exact passAt tk σ0 ps0 _ _ er s2 J hres
  | .ok (.ret u), hres =>
    obtain ⟨v, H2, I2, rv2, ⟨ev, q2⟩⟩ := J.after hres
    cases ev
    exact ⟨rv2, V.ref (s1.heap.objs.size + 1), H2, I2, rfl, q2⟩
end

/-! ### several clauses «except C as n» -/
/-- the ends behind a suite whose name is taken away -/
def gone (i : Nat) (D : Ends) : Ends := { nx := fun σ H => D.nx (σ.set i none) H, rt := D.rt, bk := fun σ H => D.bk (σ.set i none) H, ct := fun σ H => D.ct (σ.set i none) H }
def wAll (K : PySem.W.Frag) (Wout : WX) (D : Ends) : List (Value × Nat × (Addr → Value → Option Addr → TS)) → WX
  | [] => Wout
  | (c, i, ts) :: r => fun cls d σ H => ∃ b, PySem.W.exmOne K cls c = some b ∧ (b = true → ∀ a, H a = none → ts a cls d (gone i D) (σ.set i (some (.ref a))) H) ∧ (b = false → wAll K Wout D r cls d σ H)
inductive Clauses (X : Cx) : List ExceptHandler → List (Value × Nat × (Addr → Value → Option Addr → TS)) → Prop
  | nil : Clauses X [] []
  | cons {x n : Str} {c : Value} {i : Nat} {ts : Addr → Value → Option Addr → TS} {st : Stmt} {sts : List Stmt} {p1 p2 : Pos} {hds : List ExceptHandler} {l : List (Value × Nat × (Addr → Value → Option Addr → TS))} (hc : Names X x c) (hi : X.N[i]? = some n) (hk : X.env.kindOf n = some .local)
      (hs : ∀ (a : Addr) (oe : Obj) (cls : Value) (d : Option Addr) (pn : List (Addr × Obj)), Zc cls d oe → (∃ vs, oe.data = .fields vs) → PSs (X.suite a ((a, oe) :: pn)) (st :: sts) (ts a cls d)) (r : Clauses X hds l) :
      Clauses X (.ExceptHandler (some (.Name x p1)) (some n) (st :: sts) p2 :: hds) ((c, i, ts) :: l)
section
variable {X : Cx} {pins : List (Addr × Obj)} {D : Ends} {Wout : WX}
/-- an error that has come down to the clauses -/
structure Down (X : Cx) (pins : List (Addr × Obj)) (σ : St) (H : Hp) (a : Addr) (B : Heap) (cls : Value) (d : Option Addr) (sI s : Shared) : Prop where
  inv : Inv X pins σ H sI
  nb : ∀ b o, sI.heap.get? b = some o → b ∉ frs X.stack → B.get? b = some o
  up : sI.heap.UpToSlots s.heap
  fly : HandSPX.FlyingZ B (X.env :: X.outer) a (Zc cls d) s.heap
  na : H a = none
  os : s.os = sI.os
  ag : AllBare s.gens
theorem Down.here {σ : St} {H : Hp} {a : Addr} {B : Heap} {cls : Value} {d : Option Addr} {sI s : Shared} (z : Down X pins σ H a B cls d sI s) : Inv X pins σ H s := z.inv.landed z.nb z.fly.1 z.up z.os z.ag
theorem Down.on {σ : St} {H : Hp} {a : Addr} {B : Heap} {cls : Value} {d : Option Addr} {sI s : Shared} {h : Heap} (z : Down X pins σ H a B cls d sI s) (fl : HandSPX.FlyingZ B (X.env :: X.outer) a (Zc cls d) h) (u : s.heap.UpToSlots h) : Down X pins σ H a B cls d sI { s with heap := h } :=
  ⟨z.inv, z.nb, z.up.trans u, fl, z.na, z.os, z.ag⟩
/-- as a suite finds it -/
theorem Down.suite {σ : St} {H : Hp} {a : Addr} {B : Heap} {cls : Value} {d : Option Addr} {sI s : Shared} (hf : X.env.frame = some X.env.locals) (z : Down X pins σ H a B cls d sI s) :
    ∃ oe, s.heap.get? a = some oe ∧ Zc cls d oe ∧ (∃ vs, oe.data = .fields vs) ∧ Inv (X.suite a ((a, oe) :: (X.pn ++ pins))) [] σ H s := by
  obtain ⟨oe, vs, he, hz, hd⟩ := z.fly.there
  have off : a ∉ frs (X.env :: X.outer) := fun hm => by
    obtain ⟨_, o2, e2, no⟩ := z.fly.2.2.1.mem hm
    cases he.symm.trans e2
    exact no _ hd
  exact ⟨oe, he, hz, ⟨vs, hd⟩, z.here.suite he hd z.na (fun e => off (List.mem_filterMap.mpr ⟨X.env, List.mem_cons_self, hf.trans (congrArg some e.symm)⟩))
    fun hm => off (let ⟨v, hv, q⟩ := List.mem_filterMap.mp hm; List.mem_filterMap.mpr ⟨v, List.mem_cons_of_mem _ hv, q⟩)⟩
/-- no clause is left: on it goes -/
theorem Down.out {σ : St} {H : Hp} {a : Addr} {B : Heap} {cls : Value} {d : Option Addr} {sI s : Shared} (hs : X.stack = X.env :: X.outer) (hf : X.env.frame = some X.env.locals) (tk : Takes X Wout) (z : Down X pins σ H a B cls d sI s) (w : Wout cls d σ H) :
    wpAny (model X.prog X.w) X.A (handleBy (.ref a) X.env []) (SP X pins D) X.xe s := by
  have fin : wpAny (model X.prog X.w) X.A (setFlight (.ref a) X.env.frame) (fun _ s4 => wpAny (model X.prog X.w) X.A (throw (.ref a) : Sem Flow) (SP X pins D) X.xe s4) X.xe s := hf ▸
    HandSPX.setFlight_upZ z.fly fun h4 held u4 => wpAny_throw (tk _ _ ⟨a, B, sI, pins, σ, H, cls, d, rfl, z.inv, z.nb, z.up.trans u4, .inr (.inr (hs ▸ held)), z.na, z.os, z.ag, w⟩)
  refine wpAny_handleBy_nil ?_
  obtain ⟨_, _, _, oe, vs, T, oT, ts', he, hz, hd, h1, hr⟩ := id z.fly
  unfold PySem.passOn
  refine wpAny_bind (wpAny_field he hd h1 ?_)
  rw [if_neg (fun e => Value.noConfusion (beq_iff_eq.mp e))]
  first | exact wpAny_bind (wpAny_pure (wpAny_bind fin)) | exact wpAny_bind fin
theorem Down.go (hs : X.stack = X.env :: X.outer) (hf : X.env.frame = some X.env.locals) (hN : X.N.Nodup) (tk : Takes X Wout) {a : Addr} {B : Heap} {cls : Value} {d : Option Addr} {sI : Shared} {σ : St} {H : Hp} :
    ∀ {hds : List ExceptHandler} {l : List (Value × Nat × (Addr → Value → Option Addr → TS))} {s : Shared}, Clauses X hds l → Down X pins σ H a B cls d sI s → wAll X.K Wout D l cls d σ H → wpAny (model X.prog X.w) X.A (handleBy (.ref a) X.env hds) (SP X pins D) X.xe s
  | _, _, _, .nil, z, w => z.out hs hf tk w
  | _, _, s, @Clauses.cons _ x n c i ts st sts p1 p2 hds l hc hi hk hsu r, z, w => by
    obtain ⟨b, hb, yes, no⟩ := w
    obtain ⟨oe, he, hz, _, S⟩ := z.suite hf
    have LM := PySem.W.exm_one (M := model X.prog X.w) z.here.kIn (c := c) (fun A Q E s2 kk q => wpAny_typeOf_ref (kk _ _ he) (hz.1.symm ▸ q)) hb
    have test : ∀ {Q E : Value → Shared → Prop}, Q c s → wpAny (model X.prog X.w) (X.A.mark (some (.ref a))) (eval (.Name x p1) X.env) Q E s := fun {Q E} q => by
      obtain ⟨hg, hdb, hm | ⟨hm, hv, hnn⟩⟩ := hc
      · exact ld_glob S hg hm q hdb
      · exact ld_blt S hg hm hv q hnn hdb
    refine wpAny_handleBy_cons (codeAny_handlers_test (test (LM.here ?_))) (fun q => nomatch q)
    cases b with
    | false => exact Down.go hs hf hN tk r z (no rfl)
    | true =>
      refine codeAny_handlers_suite_as (HandSPX.lands_againZ z.fly fun h2 fl2 u2 => ?_)
      obtain ⟨oe2, _, hz2, hd2, S2⟩ := (z.on fl2 u2).suite hf
      refine store_ok (X := X.suite a ((a, oe2) :: (X.pn ++ pins))) (v := .ref a) S2 hN hi (.inl hk) rfl (fun s5 S5 => ?_) (.inr hk)
      refine wpAny_mono ((hsu a oe2 cls d (X.pn ++ pins) hz2 hd2).run [] s5 _ H _ S5 (yes rfl a z.na)) (fun f s6 hsp => ?_) fun _ _ y => y.elim
      have last : ∀ {σ6 : St} {H6 : Hp} {Q : Shared → Prop}, Inv (X.suite a ((a, oe2) :: (X.pn ++ pins))) [] σ6 H6 s6 → (∀ s7, Inv X pins (σ6.set i none) H6 s7 → Q s7) → wpAny (model X.prog X.w) X.A (do bindName X.env n .none; unbindBehindTheSuite X.env n p2) (fun _ s7 => Q s7) X.xe s6 :=
        fun S6 hq => gone_ok (S6.unsuite z.inv.ok) hN hi hk hq
      match f, hsp with
      | .next, ⟨_, _, S6, q6⟩ => exact last S6 fun s7 J7 => ⟨_, _, J7, q6⟩
      | .brk, ⟨_, _, S6, q6⟩ => exact last S6 fun s7 J7 => ⟨_, _, J7, q6⟩
      | .cont, ⟨_, _, S6, q6⟩ => exact last S6 fun s7 J7 => ⟨_, _, J7, q6⟩
      | .ret u, ⟨_, _, _, S6, r6, q6⟩ => exact last S6 fun s7 J7 => ⟨_, _, _, J7, r6, q6⟩
theorem ps_tryAll {body : List Stmt} {h0 : ExceptHandler} {hds : List ExceptHandler} {l : List (Value × Nat × (Addr → Value → Option Addr → TS))} {pos : Pos} {tb : WX → TS} (hs : X.stack = X.env :: X.outer) (hf : X.env.frame = some X.env.locals) (hN : X.N.Nodup) (tk : Takes X Wout)
    (hb : ∀ (W : WX) (pn : List (Addr × Obj)) (xe : Value → Shared → Prop), Takes (X.tr pn xe) W → PassesOwn (model X.prog X.w) X.A X.env xe → PSs (X.tr pn xe) body (tb W)) (hh : Clauses X (h0 :: hds) l) :
    PS X (.Try body (h0 :: hds) [] [] pos) (fun D σ H => tb (wAll X.K Wout D l) D σ H) := by
  refine ⟨fun ps0 s0 σ0 H0 D0 I0 h0' => wpAny_Try_except ?_⟩
  have ok := I0.ok
  have frames : X.A.frames = some (X.env :: X.outer) := ok.frames.trans (congrArg some hs)
  have rb := hb (wAll X.K Wout D0 l) (X.pn ++ ps0) (fun e s1 => wpAny (model X.prog X.w) X.A (noteFrame e X.env) (fun _ s2 => wpAny (model X.prog X.w) X.A (setFlight e none) (fun _ s3 => wpAny (model X.prog X.w) X.A (handleBy e X.env (h0 :: hds)) (SP X ps0 D0) X.xe s3) X.xe s2) X.xe s1)
    (fun u s' xx => by
      obtain ⟨a, B, sI, ps1, σ', H', cls, d, rfl, J', nb, up, sky, na, os, ag, w⟩ := xx
      have sky2 : Sky B (X.env :: X.outer) a (Zc cls d) X.env.locals s'.heap := hs ▸ sky
      exact Sky.land Zc.steady frames hf sky2 fun h3 fl3 up3 => Down.go hs hf hN tk hh (s := { s' with heap := h3 }) ⟨J'.ofTry ok, nb, up.trans up3, fl3, na, os, ag⟩ w) PassesOwn.looking
  refine wpAny_mono (rb.run [] s0 σ0 H0 D0 (I0.toTry _) h0') (fun f s1 hsp => ?_) fun _ _ y => y
  match f, hsp with
  | .next, ⟨σ', H', J', q⟩ => exact wpAny_execs_nil ⟨σ', H', J'.ofTry ok, q⟩
  | .brk, ⟨σ', H', J', q⟩ => exact ⟨σ', H', J'.ofTry ok, q⟩
  | .cont, ⟨σ', H', J', q⟩ => exact ⟨σ', H', J'.ofTry ok, q⟩
  | .ret u, ⟨v, σ', H', J', r, q⟩ => exact ⟨v, σ', H', J'.ofTry ok, r, q⟩
end
end Rg
namespace Rg
open PySem L2 TL
open PyProof.Rows hiding St
theorem upd_none {H : Hp} {d t : Addr} {o : HO} (h : upd H d o t = none) : H t = none := by
  by_cases e : t = d
  · rw [e, upd_same] at h
    cases h
  · rwa [upd_ne e] at h
/-! ### the error classes of the program: one __init__ for all, that stores the value -/
def spErr (K : PySem.W.Frag) : Sp := fun vs H Q _ => ∃ (a C : Addr) (v : V), vs = [.ref a, v] ∧ OexC K C ∧ PySem.W.findIn K (.ref C) "value" = some none ∧ H a = some (exo a C none) ∧
  ∀ dx, H dx = none → dx ≠ a → Q .non (upd (upd H dx (exd dx [("value", v)])) a (exo a C (some dx)))
structure Er (P : Program) (w : World) (K : PySem.W.Frag) (mg : Str → Option Value) (base : Heap) (x : Str) (C : Addr) : Prop where
  g : mg x = some (.ref C)
  o : OexC K C
  f : XfC K C
  i : ExcC K C
  nv : PySem.W.findIn K (.ref C) "value" = some none
  ini : ∃ fI fd, PySem.W.findIn K (.ref C) "__init__" = some (some (.ref fI)) ∧ PySem.W.typeIn K (.ref fI) = some (.type "function") ∧ FnOk P w K mg base CX0 1 fI fd ["self", "value"] (spErr K) ∧ Binds K fd ["self", "value"] []
section
variable {X : Cx} {x : Str} {C : Addr} {e : Expr} {es : List Expr} {ta : TA} {te : TE} {p pos : Pos}
theorem pmk_er (T : Er X.prog X.w X.K X.mg X.base x C) (hr : Room 2 X.A) (hg : Gl X x) (ha : PA X (e :: es) ta) (hdb : (x == ("__debug__" : Str)) = false := by decide)
    (he : starEach (e :: es) X.env = (false, eval e X.env) :: starEach es X.env := by rfl) (hpl : (backTo pos (starEach es X.env)).any (·.1) = false := by rfl) :
    PMk X (.Call (.Name x p) (e :: es) [] pos) (tMkO C (spErr X.K) [] ta) := by
  obtain ⟨fI, fd, h1, h2, F, hb⟩ := T.ini
  exact pmk_oex T.o h1 h2 F hr hb .nil pass0 hg T.g ha hdb he hpl
theorem rd_er {P : Program} {w : World} {K : PySem.W.Frag} {mg : Str → Option Value} {base : Heap} (T : Er P w K mg base x C) {v : V} {H : Hp} {Q : XK} (h : ∀ d, H d = none → Q (.ref C) (some d) (upd H d (.xd [("value", v)]))) :
    [v].length ≤ 1000 ∧ ∀ a, H a = none → spErr K (.ref a :: ([v] ++ [])) (upd H a (exo a C none))
      (fun u H2 => u = .non ∧ ∃ (d : Addr) (fs : List (Str × V)), H2 a = some (exo a C (some d)) ∧ H2 d = some (exd d fs) ∧ H d = none ∧ Q (.ref C) (some d) (upd (del H2 a) d (.xd fs))) (fun _ _ _ => False) := by
  refine ⟨by show 1 ≤ 1000; decide, fun a ha => ⟨a, C, v, rfl, T.o, T.nv, upd_same, fun dx hd hne => ⟨rfl, dx, _, upd_same, by rw [upd_ne hne]; exact upd_same, by rw [upd_ne hne] at hd; exact hd, ?_⟩⟩⟩
  rw [upd_ne hne] at hd
  have e : upd (del (upd (upd (upd H a (exo a C none)) dx (exd dx [("value", v)])) a (exo a C (some dx))) a) dx (.xd [("value", v)]) = upd H dx (.xd [("value", v)]) := by
    funext b
    by_cases hb : b = dx
    · rw [hb, upd_same, upd_same]
    · rw [upd_ne hb, upd_ne hb]
      by_cases hba : b = a
      · rw [hba, del_same, ha]
      · rw [del_ne hba, upd_ne hba, upd_ne hb, upd_ne hba]
  rw [e]
  exact h dx hd
variable {a : Addr} {oe : Obj} {cls : Value} {d : Option Addr} {pn : List (Addr × Obj)} {n : Str}
/-- e.n of the error that the suite holds -/
def tXfA (K : PySem.W.Frag) (a : Addr) (cls : Value) (d : Option Addr) (n : Str) (te : TE) : TE := fun σ H Q => ∃ C, XfC K C ∧ PySem.W.findIn K (.ref C) n = some none ∧ tXf a cls d C n te σ H Q
theorem pe_xfA (hz : Zc cls d oe) (hf : ∃ vs, oe.data = .fields vs) (he : PE (X.suite a ((a, oe) :: pn)) e te) (hb : attributeBase e n X.env (eval e X.env) = eval e X.env := by rfl) : PE (X.suite a ((a, oe) :: pn)) (.Attribute e n pos) (tXfA X.K a cls d n te) :=
  ⟨fun pins s σ H Q I ⟨_, T, hno, h⟩ => (pe_xf T hno hz hf he hb).run pins s σ H Q I h⟩
/-- isinstance(e, c) of that error -/
def rIsEd (K : PySem.W.Frag) (a : Addr) (cls : Value) (d : Option Addr) : List V → Hp → VK → Prop := fun xs H Q => ∃ (D dd : Addr) (fs : List (Str × V)) (c : V) (cv : Value) (b : Bool), cls = .ref D ∧ ExcC K D ∧ d = some dd ∧ H dd = some (.xd fs) ∧ xs = [.ref a, c] ∧ (∀ u, RelV c u → u = cv) ∧
  PySem.W.kitOne K (.ref D) cv = some b ∧ Q (.bl b) H
theorem call_isEd (hz : Zc cls d oe) (hf : ∃ vs, oe.data = .fields vs) : CallR (X.suite a ((a, oe) :: pn)) (.builtin "isinstance") (rIsEd X.K a cls d) := by
  intro pins s σ H xs us Q I r h
  obtain ⟨D, dd, fs, c, cv, b, rfl, E, rfl, ed, rfl, hcv, hk, q⟩ := h
  match us, r with
  | [u0, u1], .cons r0 (.cons r1 .nil) =>
    cases r0
    cases hcv _ r1
    obtain ⟨hget, _⟩ := I.pin (a, oe) (List.mem_append.mpr (.inl List.mem_cons_self))
    obtain ⟨vs, hv⟩ := hf
    have hx : ObjOk X.prog X.w H s.heap dd (.xd fs) := I.hok dd _ ed
    obtain ⟨mA, hns, _⟩ := hx
    obtain ⟨od, ho, _⟩ := lookIn_ns hns
    have J : PySem.W.InstAt s.heap a oe D (some od) := ⟨hget, hz.1, by unfold PySem.W.notCls; rw [hv] <;> rfl, by rw [hz.2]; exact ho⟩
    obtain ⟨cd, hcd, _⟩ := PySem.W.any_some E.hd
    exact PySem.W.kia_one (PySem.W.kitx_exc (by rw [hcd]; rfl) E.hg E.hk E.hs E.ha E.hn E.ht E.hm) I.kIn J hk (fun z => nomatch z) fun tk => ⟨.bl b, H, I.kept (t' := tk) fun _ _ z => z, rfl, q⟩
end
theorem kit_er {K : PySem.W.Frag} {D R : Addr} (hs : PySem.W.subIn K (.ref D) (.ref R) = some true) (ht : PySem.W.typeIn K (.ref R) = some (.type "type")) (hd : PySem.W.hasDictIn K R = true) : PySem.W.kitOne K (.ref D) (.ref R) = some true := by
  obtain ⟨cd, hcd, _⟩ := PySem.W.any_some hd
  unfold PySem.W.kitOne
  split
  · rfl
  · show (if ((PySem.W.clsIn K R).isSome && PySem.W.typeIn K (.ref R) == some (.type "type")) = true then PySem.W.subIn K (.ref D) (.ref R) else none) = some true
    rw [if_pos (by rw [hcd, ht]; rfl)]
    exact hs
theorem refs_tail : PySem.HandSPX.refsVE [.type "ValueError", .type "Exception", .type "BaseException", .type "object"] = true := by decide +kernel
theorem refs_one {c : Addr} : PySem.HandSPX.refsVE [.ref c, .type "ValueError", .type "Exception", .type "BaseException", .type "object"] = true := refs_tail
theorem Er.ex {P : Program} {w : World} {K : PySem.W.Frag} {mg : Str → Option Value} {base : Heap} {x : Str} {C D : Addr} {b : Bool} (T : Er P w K mg base x C) (h : PySem.W.subIn K (.ref D) (.ref C) = some b) : PySem.W.exmOne K (.ref D) (.ref C) = some b := PySem.W.exm_ref T.f.exC T.f.hdC T.o.tyC h
theorem Er.kit {P : Program} {w : World} {K : PySem.W.Frag} {mg : Str → Option Value} {base : Heap} {x : Str} {C D : Addr} (T : Er P w K mg base x C) (h : PySem.W.subIn K (.ref D) (.ref C) = some true) : PySem.W.kitOne K (.ref D) (.ref C) = some true := kit_er h T.o.tyC T.f.hdC
/-- a number that may be below b: then an error of the class at C carries it -/
def spChk (C : Addr) (b : Int) : Sp := fun vs H Q E => ∃ n : Int, vs = [.int n] ∧ (b ≤ n → Q .non H) ∧ (n < b → ∀ d, H d = none → E (.ref C) (some d) (upd H d (.xd [("value", .int n)])))
end Rg
/-! own words: errors that carry a number -/
namespace Rg
open PySem L2 TL
/-- an error of the class at C, with this number, goes out -/
def Bad (E : XK) (H : Hp) (C : Addr) (v : Int) : Prop := ∀ d, H d = none → E (.ref C) (some d) (upd H d (.xd [("value", .int v)]))
def spChkP (C : Addr) : Sp := fun vs H Q E => ∃ q n : Int, vs = [.int q, .int n] ∧ (0 ≤ q → q < n → Q .non H) ∧ (q < 0 ∨ n ≤ q → Bad E H C q)
/-- a question of a ladder with a post: the errors in their order, or an answer -/
def Asked1 (Q : VK) (E : XK) (H : Hp) (CS CP CN : Addr) (sz q dep : Int) : Prop :=
  (sz < 1 → Bad E H CS sz) ∧ (1 ≤ sz → (q < 0 ∨ sz ≤ q) → Bad E H CP q) ∧ (1 ≤ sz → 0 ≤ q → q < sz → dep < 0 → Bad E H CN dep) ∧ (1 ≤ sz → 0 ≤ q → q < sz → 0 ≤ dep → ∀ v H', Same H H' → Q v H')
end Rg
namespace Rg
open PySem L2 TL
local macro_rules | `(tactic| walk_at "sd") => `(tactic| (first | (with_reducible show (_ : Int) ≤ _; omega) | (with_reducible show (_ : Int) < _; omega) | ((fail_if_success (with_reducible show (_ : Int) ≤ _)); rfl) | assumption | omega | (show (0 : Int) < _; omega) | (refine Or.inl ⟨?_, ?_⟩ <;> omega) | (refine Or.inr ⟨?_, ?_⟩ <;> omega) | (refine And.intro ?_ ?_ <;> omega) | exact cp60 | exact cp18 | exact cm60 | exact ps60 | exact Nat.le_of_ble_eq_true rfl | decide))
local macro_rules | `(tactic| walk_at "r") => `(tactic| (first | refine ⟨_, rfl, ?_⟩ | refine Or.inl ⟨_, rfl, ?_⟩ | refine ⟨_, _, rfl, rfl, ?_⟩ | refine ⟨_, _, _, _, rfl, rfl, SqL.of (by assumption), (by assumption), ?_⟩ | refine And.intro (Or.inl ⟨rfl, _, SqL.of (by assumption)⟩) ?_ | refine And.intro ⟨_, rfl⟩ ?_ | refine ⟨_, _, rfl, .inl (SqL.of (by assumption)), ?_⟩ | (refine And.intro ?_ ?_; focus (walk_at "sd"; done))))
local macro_rules | `(tactic| walk_at "x") => `(tactic| (first | refine ⟨_, rfl, ?_⟩ | refine Or.inl ⟨_, rfl, ?_⟩ | refine ⟨_, _, rfl, rfl, ?_⟩ | refine ⟨_, _, _, _, rfl, rfl, SqL.of (by assumption), (by assumption), ?_⟩ | refine And.intro (Or.inl ⟨rfl, _, SqL.of (by assumption)⟩) ?_ | refine And.intro ⟨_, rfl⟩ ?_ | refine ⟨_, _, rfl, .inl (SqL.of (by assumption)), ?_⟩ | refine ⟨_, _, rfl, .inr (SqT.of (by assumption)), ?_⟩ | refine ⟨_, _, _, _, rfl, rfl, SqT.of (by assumption), (by assumption), ?_⟩ | with_reducible refine iteF ?_ | with_reducible refine iteT ?_ | (refine And.intro ?_ ?_; focus (walk_at "sd"; done))))
local macro_rules | `(tactic| walk_at "rd") => `(tactic| repeat (first | refine ⟨_, rfl, ?_⟩ | refine Or.inl ⟨_, rfl, ?_⟩ | refine ⟨_, _, rfl, rfl, ?_⟩ | refine ⟨_, _, _, _, rfl, rfl, SqL.of (by assumption), (by assumption), ?_⟩ | refine And.intro (Or.inl ⟨rfl, _, SqL.of (by assumption)⟩) ?_ | refine And.intro ⟨_, rfl⟩ ?_ | refine ⟨_, _, rfl, .inl (SqL.of (by assumption)), ?_⟩ | (refine And.intro ?_ ?_; focus (walk_at "sd"; done))))
local macro_rules | `(tactic| walk_at "rx") => `(tactic| repeat (first | refine ⟨_, rfl, ?_⟩ | refine Or.inl ⟨_, rfl, ?_⟩ | refine ⟨_, _, rfl, rfl, ?_⟩ | refine ⟨_, _, _, _, rfl, rfl, SqL.of (by assumption), (by assumption), ?_⟩ | refine And.intro (Or.inl ⟨rfl, _, SqL.of (by assumption)⟩) ?_ | refine And.intro ⟨_, rfl⟩ ?_ | refine ⟨_, _, rfl, .inl (SqL.of (by assumption)), ?_⟩ | refine ⟨_, _, rfl, .inr (SqT.of (by assumption)), ?_⟩ | refine ⟨_, _, _, _, rfl, rfl, SqT.of (by assumption), (by assumption), ?_⟩ | with_reducible refine iteF ?_ | with_reducible refine iteT ?_ | (refine And.intro ?_ ?_; focus (walk_at "sd"; done))))
def top (i : Nat) : Stmt := PySem.Challenge.pw_rungrepeats_k17_errors_of_walks.main.body.getD i (.Pass ⟨0, 0, 0, 0⟩)
abbrev s_RungError_u__init_u_ : Stmt := inClass (top 3) 0
abbrev N_RungError_u__init_u_ : List Str := ["self", "value"]
theorem sc_RungError_u__init_u_ : FnScope N_RungError_u__init_u_ ["self", "value"] (defScope s_RungError_u__init_u_) := ⟨rfl, rfl, rfl, by decide +kernel, rfl, by decide +kernel, by decide +kernel⟩
section
variable {P : Program} {w : World} {K : PySem.W.Frag} {mg : Str → Option Value} {base : Heap}
theorem ok_RungError_init {f : Addr} {fd : FuncData} (F : Fun K "__init__" "RungError.__init__" s_RungError_u__init_u_ f fd) (B : Bi mg) : FnOk P w K mg base CX0 1 f fd ["self", "value"] (spErr K) := by
  refine F.ok sc_RungError_u__init_u_ (fun vs H Q E h => ?_) (fun cdv A outer s H vs Q E hr h => ?_)
  · obtain ⟨a, C, v, rfl, _⟩ := h
    rfl
  · obtain ⟨a, C, v, rfl, T, nv, ha, k⟩ := h
    refine ⟨_, (pss_one (ps_ost (pv 0) (pv 1) rfl)), ?_⟩
    exact ⟨_, rfl, _, rfl, a, C, rfl, T, nv, .inl ⟨ha, fun dx h1 h2 => k dx h1 h2⟩⟩
end
abbrev s_check_size : Stmt := top 9
abbrev N_check_size : List Str := ["n"]
theorem sc_check_size : FnScope N_check_size ["n"] (defScope s_check_size) := ⟨rfl, rfl, rfl, by decide +kernel, rfl, by decide +kernel, by decide +kernel⟩
section
variable {P : Program} {w : World} {K : PySem.W.Frag} {mg : Str → Option Value} {base : Heap}
def spCheckSize : Sp := fun vs H Q _ => ∃ n : Int, vs = [.int n] ∧ 1 ≤ n ∧ Q .non H
theorem ok_check_size {f : Addr} {fd : FuncData} (F : Fun K "check_size" "check_size" s_check_size f fd) (B : Bi mg) : FnOk P w K mg base CX0 2 f fd ["n"] spCheckSize := by
  refine F.ok sc_check_size (fun vs H Q E h => ?_) (fun cdv A outer s H vs Q E hr h => ?_)
  · obtain ⟨n, rfl, _⟩ := h
    rfl
  · obtain ⟨n, rfl, hn, k⟩ := h
    refine ⟨_, (pss_one (ps_if (pt_cmpR op_lt (pv 0) pe_int (nomark _))
    (pss_one ps_never)
    pss_nil)), ?_⟩
    walk_at "rd"
    refine ite2 (fun hc => ?_) (fun hc => ?_)
    · exact absurd (of_decide_eq_true hc) (by omega)
    · exact k
end
abbrev s_check_post : Stmt := top 10
abbrev N_check_post : List Str := ["post", "n"]
theorem sc_check_post : FnScope N_check_post ["post", "n"] (defScope s_check_post) := ⟨rfl, rfl, rfl, by decide +kernel, rfl, by decide +kernel, by decide +kernel⟩
section
variable {P : Program} {w : World} {K : PySem.W.Frag} {mg : Str → Option Value} {base : Heap}
def spCheckPost : Sp := fun vs H Q _ => ∃ q n : Int, vs = [.int q, .int n] ∧ 0 ≤ q ∧ q < n ∧ Q .non H
theorem ok_check_post {f : Addr} {fd : FuncData} (F : Fun K "check_post" "check_post" s_check_post f fd) (B : Bi mg) : FnOk P w K mg base CX0 2 f fd ["post", "n"] spCheckPost := by
  refine F.ok sc_check_post (fun vs H Q E h => ?_) (fun cdv A outer s H vs Q E hr h => ?_)
  · obtain ⟨q, n, rfl, _⟩ := h
    rfl
  · obtain ⟨q, n, rfl, h0, h1, k⟩ := h
    refine ⟨_, (pss_one (ps_if (PW.pt (pw_or (pt_cmpR op_lt (pv 0) pe_int (nomark _)) (pw_or1 (pt_cmpR op_ge (pv 0) (pv 1) (nomark _)))))
    (pss_one ps_never)
    pss_nil)), ?_⟩
    walk_at "rd"
    refine ite2 (fun hc => absurd (of_decide_eq_true hc) (by omega)) (fun _ => ?_)
    walk_at "rd"
    refine ite2 (fun hc => absurd (of_decide_eq_true hc) (by omega)) (fun _ => ?_)
    exact k
end
abbrev s_check_half_post : Stmt := top 11
abbrev N_check_half_post : List Str := ["post"]
theorem sc_check_half_post : FnScope N_check_half_post ["post"] (defScope s_check_half_post) := ⟨rfl, rfl, rfl, by decide +kernel, rfl, by decide +kernel, by decide +kernel⟩
section
variable {P : Program} {w : World} {K : PySem.W.Frag} {mg : Str → Option Value} {base : Heap}
def spCheckHalf : Sp := fun vs H Q _ => ∃ n : Int, vs = [.int n] ∧ 0 ≤ n ∧ Q .non H
theorem ok_check_half_post {f : Addr} {fd : FuncData} (F : Fun K "check_half_post" "check_half_post" s_check_half_post f fd) (B : Bi mg) : FnOk P w K mg base CX0 2 f fd ["post"] spCheckHalf := by
  refine F.ok sc_check_half_post (fun vs H Q E h => ?_) (fun cdv A outer s H vs Q E hr h => ?_)
  · obtain ⟨n, rfl, _⟩ := h
    rfl
  · obtain ⟨n, rfl, hn, k⟩ := h
    refine ⟨_, (pss_one (ps_if (pt_cmpR op_lt (pv 0) pe_int (nomark _))
    (pss_one ps_never)
    pss_nil)), ?_⟩
    walk_at "rd"
    refine ite2 (fun hc => ?_) (fun hc => ?_)
    · exact absurd (of_decide_eq_true hc) (by omega)
    · exact k
end
abbrev s_check_number : Stmt := top 12
abbrev N_check_number : List Str := ["number"]
theorem sc_check_number : FnScope N_check_number ["number"] (defScope s_check_number) := ⟨rfl, rfl, rfl, by decide +kernel, rfl, by decide +kernel, by decide +kernel⟩
section
variable {P : Program} {w : World} {K : PySem.W.Frag} {mg : Str → Option Value} {base : Heap}
def spCheckNumber : Sp := fun vs H Q _ => ∃ n : Int, vs = [.int n] ∧ 0 ≤ n ∧ Q .non H
theorem ok_check_number {f : Addr} {fd : FuncData} (F : Fun K "check_number" "check_number" s_check_number f fd) (B : Bi mg) : FnOk P w K mg base CX0 2 f fd ["number"] spCheckNumber := by
  refine F.ok sc_check_number (fun vs H Q E h => ?_) (fun cdv A outer s H vs Q E hr h => ?_)
  · obtain ⟨n, rfl, _⟩ := h
    rfl
  · obtain ⟨n, rfl, hn, k⟩ := h
    refine ⟨_, (pss_one (ps_if (pt_cmpR op_lt (pv 0) pe_int (nomark _))
    (pss_one ps_never)
    pss_nil)), ?_⟩
    walk_at "rd"
    refine ite2 (fun hc => ?_) (fun hc => ?_)
    · exact absurd (of_decide_eq_true hc) (by omega)
    · exact k
end
abbrev s_is_marked : Stmt := top 22
abbrev N_is_marked : List Str := ["text"]
theorem sc_is_marked : FnScope N_is_marked ["text"] (defScope s_is_marked) := ⟨rfl, rfl, rfl, by decide +kernel, rfl, by decide +kernel, by decide +kernel⟩
section
variable {P : Program} {w : World} {K : PySem.W.Frag} {mg : Str → Option Value} {base : Heap}
/-- marks alone, no two rungs side by side: as the program asks it -/
def Mk (z : Str) : Bool := decide ((tl z).count 45 + (tl z).count 46 = (tl z).length) && (!(!(Builtin.Str.occurrences z (Str.ofString "--") 0 z.length 1).isEmpty))
def spIsMarked : Sp := fun vs H Q _ => ∃ z : Str, vs = [.str z] ∧ z.length ≤ sizeLine ∧ Q (.bl (Mk z)) H
theorem ok_is_marked {f : Addr} {fd : FuncData} (F : Fun K "is_marked" "is_marked" s_is_marked f fd) (B : Bi mg) : FnOk P w K mg base CX0 1 f fd ["text"] spIsMarked := by
  refine F.ok sc_is_marked (fun vs H Q E h => ?_) (fun cdv A outer s H vs Q E hr h => ?_)
  · obtain ⟨z, rfl, _⟩ := h
    rfl
  · obtain ⟨z, rfl, hz, k⟩ := h
    refine ⟨_, (pss_one (ps_ret (pe_and (pe_cmpR op_eq (pe_op op_add (pe_m1 PySem.F.slot_str_count PySem.F.type_str_count mt_count (pv 0) pe_str) (pe_m1 PySem.F.slot_str_count PySem.F.type_str_count mt_count (pv 0) pe_str)) (pe_callB call_len_str (by rfl) B.len_ PySem.boot_len (pa_cons (pv 0) pa_nil)) (nomark _)) (pe_one (pe_cmpR op_notin_str pe_str (pv 0) (by rfl)))))), ?_⟩
    walk_at "rx"
    have e1 : Txt.count z (Str.ofString "-") = ((tl z).count 45 : Nat) := count_one z 45
    have e2 : Txt.count z (Str.ofString ".") = ((tl z).count 46 : Nat) := count_one z 46
    rw [e1, e2, len_tl]
    unfold Mk at k
    refine ite2 (fun hc => ?_) (fun hc => ?_)
    · have hs : (tl z).count 45 + (tl z).count 46 = (tl z).length := by
        have := of_decide_eq_true hc
        injection this with this
        omega
      rw [decide_eq_true hs, Bool.true_and] at k
      walk_at "rx"
      exact k
    · have hs : ¬ (tl z).count 45 + (tl z).count 46 = (tl z).length := fun h => hc (decide_eq_true (congrArg V.int (by omega)))
      rw [decide_eq_false hs, Bool.false_and] at k
      walk_at "rx"
      exact k
end
abbrev s_is_row : Stmt := top 23
abbrev N_is_row : List Str := ["text"]
theorem sc_is_row : FnScope N_is_row ["text"] (defScope s_is_row) := ⟨rfl, rfl, rfl, by decide +kernel, rfl, by decide +kernel, by decide +kernel⟩
section
variable {P : Program} {w : World} {K : PySem.W.Frag} {mg : Str → Option Value} {base : Heap}
theorem mk_row {z : Str} {c : Nat} (h0 : 0 < (tl z).length) (hc : (tl z)[0]? = some c) : Mk (z ++ (⟨#[c]⟩ : Str)) = true ↔ Row (tl z) := by
  have e : tl (z ++ (⟨#[c]⟩ : Str)) = tl z ++ [c] := tl_append z _
  unfold Mk
  rw [e, Bool.and_eq_true, decide_eq_true_eq, List.count_append, List.count_append, List.length_append, List.length_singleton]
  have q := (signs_count (tl z)).1
  have q1 := (signs_count [c]).1
  rw [List.length_singleton] at q1
  constructor
  · rintro ⟨h1, h2⟩
    have hs : (tl z).count 45 + (tl z).count 46 = (tl z).length := by omega
    exact (row_asked h0 hs hc).mp h2
  · intro R
    have hs := (signs_count (tl z)).2.mpr R.sgn
    have hs1 : ([c]).count 45 + ([c]).count 46 = ([c] : List Nat).length := (signs_count [c]).2.mpr fun x hx => by
      rw [List.mem_singleton.mp hx]
      exact R.sgn c (List.mem_of_getElem? hc)
    rw [List.length_singleton] at hs1
    exact ⟨by omega, (row_asked h0 hs hc).mpr R⟩
def spIsRow : Sp := fun vs H Q _ => ∃ z : Str, vs = [.str z] ∧ z.length < sizeLine ∧ ∀ b : Bool, (b = true ↔ Row (tl z)) → Q (.bl b) H
theorem ok_is_row {f : Addr} {fd : FuncData} (F : Fun K "is_row" "is_row" s_is_row f fd) (B : Bi mg) (D_is_marked : Df P w K mg base "is_marked" 1 ["text"] spIsMarked) : FnOk P w K mg base CX0 2 f fd ["text"] spIsRow := by
  refine F.ok sc_is_row (fun vs H Q E h => ?_) (fun cdv A outer s H vs Q E hr h => ?_)
  · obtain ⟨z, rfl, _⟩ := h
    rfl
  · obtain ⟨z, rfl, hz, k⟩ := h
    refine ⟨_, (pss_one (ps_ret (pe_and (pe_cmpR op_ne (pv 0) pe_str (nomark _)) (pe_one (pe_df D_is_marked (hr.mono (by first | decide | omega)) (by rfl) (pa_cons (pe_op op_add_str (pv 0) (pe_ix ix_str (pv 0) pe_int (fun _ _ => rfl))) pa_nil)))))), ?_⟩
    walk_at "rx"
    refine ite2 (fun hc => ?_) (fun hc => ?_)
    · have hne : 0 < (tl z).length := by
        rcases Nat.eq_zero_or_pos (tl z).length with q | q
        · rw [decide_eq_true (congrArg V.str (ext_tl (List.length_eq_zero_iff.mp q : tl z = tl (Str.ofString "")) ))] at hc
          exact absurd hc (by decide)
        · exact q
      have hg := sg_first hne
      walk_at "rx"
      refine ⟨_, _, _, rfl, rfl, Nat.le_of_lt hz, atI_k' 0 rfl hg, ?_⟩
      refine ⟨_, _, rfl, rfl, hz, ?_⟩
      walk_at "rx"
      refine ⟨?_, k _ (mk_row hne hg)⟩
      have : (z ++ (⟨#[sg (tl z) 0]⟩ : Str)).length = z.length + 1 := by
        rw [len_tl, tl_append, List.length_append, len_tl]
        rfl
      omega
    · walk_at "rx"
      refine k false ⟨fun h => (nomatch h), fun R => ?_⟩
      rw [Bool.not_eq_true, Bool.not_eq_false', decide_eq_true_eq] at hc
      injection hc with e
      rw [e] at R
      exact absurd R.ne (by decide +kernel)
end
abbrev s_Rule_u__init_u_ : Stmt := inClass (top 25) 0
abbrev N_Rule_u__init_u_ : List Str := ["self", "texts", "row"]
theorem sc_Rule_u__init_u_ : FnScope N_Rule_u__init_u_ ["self", "texts"] (defScope s_Rule_u__init_u_) := ⟨rfl, rfl, rfl, by decide +kernel, rfl, by decide +kernel, by decide +kernel⟩
section
variable {P : Program} {w : World} {K : PySem.W.Frag} {mg : Str → Option Value} {base : Heap}
/-- what is known of the class -/
structure Rl (K : PySem.W.Frag) (C : Addr) : Prop where
  cl : Cls K C
  nR : NoAttr K C "_rows"
  c1 : PySem.W.findIn K (.ref C) "__class__" = some (some (.builtin "object.__class__"))
  c2 : PySem.W.specialIn K (.builtin "object.__class__") "__get__" = some (some (.builtin "getset_descriptor.__get__"))
  c3 : PySem.W.takesIn K (.builtin "object.__class__") = some true
  c4 : PySem.W.mroIn K C (.type "object") = some true
  sf : PySem.W.selfFirst K C = true
theorem Rl.c5 {K : PySem.W.Frag} {C : Addr} (_ : Rl K C) : PySem.W.kitOne K (.ref C) (.ref C) = some true := by
  unfold PySem.W.kitOne
  rw [if_pos (beq_self_eq_true _)]
theorem Rl.ty {K : PySem.W.Frag} {C : Addr} (T : Rl K C) {H : Hp} {a dx : Addr} {fs : List (Str × V)} (e : H a = some (.ins C dx fs)) : TyX K H (.ref a) (.ref C) := .base (.ins e T.cl T.c1 T.c2 T.c3 T.c4)
/-- at p an object of the class stands, with these rows -/
def RuleAt (C : Addr) (H : Hp) (p : Addr) (ls : List Str) : Prop := ∃ dx u, H p = some (.ins C dx [("_rows", V.ref u)]) ∧ H u = some (.tup (ls.map V.str))
theorem RuleAt.same {C : Addr} {H H' : Hp} {p : Addr} {ls : List Str} (h : RuleAt C H p ls) (s : Same H H') : RuleAt C H' p ls := by
  obtain ⟨dx, u, h1, h2⟩ := h
  exact ⟨dx, u, s _ _ h1, s _ _ h2⟩
theorem RuleAt.put {C : Addr} {H : Hp} {p l : Addr} {ls : List Str} {xs : List V} {o : HO} (h : RuleAt C H p ls) (hl : H l = some (.lst xs)) : RuleAt C (upd H l o) p ls := by
  obtain ⟨dx, u, h1, h2⟩ := h
  exact ⟨dx, u, by rw [upd_ne (ne_of h1 hl (by intro z; cases z))]; exact h1, by rw [upd_ne (ne_of h2 hl (by intro z; cases z))]; exact h2⟩
def spInit (C : Addr) : Sp := fun vs H Q _ => ∃ (p t dx : Addr) (n : Nat) (ls : List Str), vs = [.ref p, .ref t] ∧ H p = some (.ins C dx []) ∧ H t = some (.lst (ls.map V.str)) ∧ Rows n ls ∧ n ≤ 5000 ∧
  ∀ H' : Hp, RuleAt C H' p ls → (∀ b o, H b = some o → b ≠ p → H' b = some o) → Q .non H'
theorem ok_Rule_init {f C : Addr} {fd : FuncData} (F : Fun K "__init__" "Rule.__init__" s_Rule_u__init_u_ f fd) (B : Bi mg) (T : Rl K C) (D_is_row : Df P w K mg base "is_row" 2 ["text"] spIsRow) : FnOk P w K mg base CX0 3 f fd ["self", "texts"] (spInit C) := by
  refine F.ok sc_Rule_u__init_u_ (fun vs H Q E h => ?_) (fun cdv A outer s H vs Q E hr h => ?_)
  · obtain ⟨p, t, dx, n, ls, rfl, _⟩ := h
    rfl
  · obtain ⟨p, t, dx, n, ls, rfl, hp, ht, R, hn, k⟩ := h
    have npt : p ≠ t := ne_of hp ht (by intro z; cases z)
    have n5 : n < sizeLine := Nat.lt_of_le_of_lt hn (by decide)
    refine ⟨_, (pss_cons (ps_if (pt_cmpR op_eq (pe_callB call_len_seq (by rfl) B.len_ PySem.boot_len (pa_cons (pv 1) pa_nil)) pe_int (nomark _))
    (pss_one ps_never)
    pss_nil)
    (pss_cons (ps_for PassesOwn.never rfl (pi_list (pv 1)) (pg_name (i := 2) sc_Rule_u__init_u_.nd rfl (Or.inl rfl))
    (pss_one (ps_if (PW.pt (pw_or (pt_not (pt_val (pe_df D_is_row (hr.mono (by first | decide | omega)) (by rfl) (pa_cons (pv 2) pa_nil)))) (pw_or1 (pt_cmpR op_ne (pe_callB call_len_str (by rfl) B.len_ PySem.boot_len (pa_cons (pv 2) pa_nil)) (pe_callB call_len_str (by rfl) B.len_ PySem.boot_len (pa_cons (pe_ix ix_list (pv 1) pe_int (fun _ _ => rfl)) pa_nil)) (nomark _)))))
    (pss_one ps_never)
    pss_nil)))
    (pss_one (ps_fld (pv 0) (pe_callTy call_tuple_of (by rfl) B.tuple_ (by decide +kernel) (pa_cons (pv 1) pa_nil)) rfl)))), ?_⟩
    walk_at "rd"
    refine ite2 (fun hc => ?_) (fun hc => ?_)
    · exfalso
      have e := of_decide_eq_true hc
      injection e with e
      rw [List.length_map] at e
      have := R.ne
      omega
    walk_at "rd"
    refine ⟨⟨_, SqL.of ht⟩, ?_⟩
    refine for_list (K := K) (a := t) (xs := ls.map V.str) (fun i σ H' => H' = H ∧ ∃ v, σ = [some (.ref p), some (.ref t), v]) ⟨rfl, none, rfl⟩ (fun i σ H' _ h => by rw [h.1]; exact SqL.of ht) ?_ ?_
    · rintro i x σ H' hi ⟨rfl, v, rfl⟩
      have hil : i < ls.length := by
        have := (List.getElem?_eq_some_iff.mp hi).1
        rw [List.length_map] at this
        exact this
      rw [getS hil] at hi
      obtain rfl := Option.some.inj hi
      have hz := R.lenS (List.getElem_mem hil)
      have hz0 := R.lenS (List.getElem_mem R.ne)
      walk_at "rd"
      intro b hb
      obtain rfl := hb.mpr (R.row _ (List.getElem_mem hil))
      have iz := atI_k' (i := 0) 0 rfl (getS R.ne)
      walk_at "rd"
      rw [hz, hz0]
      walk_at "rd"
      refine iteNS rfl ?_
      walk_at "rd"
      exact ⟨_, rfl⟩
    · rintro σ H' ⟨rfl, v, rfl⟩
      walk_at "rd"
      refine ⟨t, _, rfl, .inl ⟨SqL.of ht, fun u hu => ?_⟩⟩
      have npu : p ≠ u := ne_of_none hp hu
      walk_at "rd"
      refine ⟨p, C, dx, [], rfl, by rw [upd_ne npu]; exact hp, T.cl, T.nR, by decide, ?_⟩
      refine k _ ⟨dx, u, upd_same, by rw [upd_ne npu.symm, upd_same]⟩ fun b o e hb => ?_
      rw [upd_ne hb, upd_ne (ne_of_none e hu)]
      exact e
theorem mk_at {C : Addr} {H : Hp} {t x dx : Addr} {n : Nat} {ls : List Str} {Q : VK} (ht : H t = some (.lst (ls.map V.str))) (W : Rows n ls) (hn : n ≤ 5000) (nx : H x = none) (ndx : H dx = none) (k : ∀ H' : Hp, Same H H' → RuleAt C H' x ls → Q .non H') :
    spInit C [.ref x, .ref t] (upd (upd H dx (.own x)) x (.ins C dx [])) Q E0 :=
  ⟨x, t, dx, n, ls, rfl, upd_same, by rw [upd_ne (ne_of_none ht nx), upd_ne (ne_of_none ht ndx)]; exact ht, W, hn, fun H' RA keep => k H' (L2.Same.made nx ndx keep) RA⟩
theorem lkR {m : Str} (v : V) (h : ¬ m = "_rows") : ([("_rows", v)] : List (Str × V)).lookup m = none := by
  have : (m == ("_rows" : Str)) = false := by simpa using h
  simp [List.lookup, this]
end
abbrev s_Rule_width : Stmt := inClass (top 25) 2
abbrev N_Rule_width : List Str := ["self"]
theorem sc_Rule_width : FnScope N_Rule_width ["self"] (defScope s_Rule_width) := ⟨rfl, rfl, rfl, by decide +kernel, rfl, by decide +kernel, by decide +kernel⟩
section
variable {P : Program} {w : World} {K : PySem.W.Frag} {mg : Str → Option Value} {base : Heap}
def spWidth (C : Addr) : Sp := fun vs H Q _ => ∃ (p : Addr) (ls : List Str) (n : Nat), vs = [.ref p] ∧ RuleAt C H p ls ∧ Rows n ls ∧ n ≤ 5000 ∧ Q (.int n) H
theorem ok_Rule_width {f C : Addr} {fd : FuncData} (F : Fun K "width" "Rule.width" s_Rule_width f fd) (B : Bi mg) (T : Rl K C) : FnOk P w K mg base CX0 2 f fd ["self"] (spWidth C) := by
  refine F.ok sc_Rule_width (fun vs H Q E h => ?_) (fun cdv A outer s H vs Q E hr h => ?_)
  · obtain ⟨p, ls, n, rfl, _⟩ := h
    rfl
  · obtain ⟨p, ls, n, rfl, ⟨dx, u, hp, hu⟩, R, hn, k⟩ := h
    refine ⟨_, (pss_one (ps_ret (pe_callB call_len_str (by rfl) B.len_ PySem.boot_len (pa_cons (pe_ix ix_tup (pe_fld (pv 0) rfl) pe_int (fun _ _ => rfl)) pa_nil)))), ?_⟩
    walk_at "rd"
    refine ⟨p, C, dx, _, _, rfl, hp, T.cl, T.nR, rfl, ?_⟩
    have hz := R.lenS (List.getElem_mem R.ne)
    refine ⟨u, _, _, _, rfl, rfl, SqT.of hu, atI_k' 0 rfl (getS R.ne), ?_⟩
    refine ⟨_, rfl, Nat.le_trans (Nat.le_of_eq hz) (Nat.le_trans hn (by decide)), ?_⟩
    rw [hz]
    exact k
end
abbrev s_Rule_height : Stmt := inClass (top 25) 3
abbrev N_Rule_height : List Str := ["self"]
theorem sc_Rule_height : FnScope N_Rule_height ["self"] (defScope s_Rule_height) := ⟨rfl, rfl, rfl, by decide +kernel, rfl, by decide +kernel, by decide +kernel⟩
section
variable {P : Program} {w : World} {K : PySem.W.Frag} {mg : Str → Option Value} {base : Heap}
def spHeight (C : Addr) : Sp := fun vs H Q _ => ∃ (p : Addr) (ls : List Str), vs = [.ref p] ∧ RuleAt C H p ls ∧ Q (.int ls.length) H
theorem ok_Rule_height {f C : Addr} {fd : FuncData} (F : Fun K "height" "Rule.height" s_Rule_height f fd) (B : Bi mg) (T : Rl K C) : FnOk P w K mg base CX0 2 f fd ["self"] (spHeight C) := by
  refine F.ok sc_Rule_height (fun vs H Q E h => ?_) (fun cdv A outer s H vs Q E hr h => ?_)
  · obtain ⟨p, ls, rfl, _⟩ := h
    rfl
  · obtain ⟨p, ls, rfl, ⟨dx, u, hp, hu⟩, k⟩ := h
    refine ⟨_, (pss_one (ps_ret (pe_callB call_len_seq (by rfl) B.len_ PySem.boot_len (pa_cons (pe_fld (pv 0) rfl) pa_nil)))), ?_⟩
    walk_at "rd"
    refine ⟨p, C, dx, _, _, rfl, hp, T.cl, T.nR, rfl, ?_⟩
    refine ⟨u, _, rfl, .inr (SqT.of hu), ?_⟩
    rw [List.length_map]
    exact k
end
abbrev s_Rule_has_rung : Stmt := inClass (top 25) 7
abbrev N_Rule_has_rung : List Str := ["self", "row", "post"]
theorem sc_Rule_has_rung : FnScope N_Rule_has_rung ["self", "row", "post"] (defScope s_Rule_has_rung) := ⟨rfl, rfl, rfl, by decide +kernel, rfl, by decide +kernel, by decide +kernel⟩
section
variable {P : Program} {w : World} {K : PySem.W.Frag} {mg : Str → Option Value} {base : Heap}
def spHasRung (C : Addr) : Sp := fun vs H Q _ => ∃ (p : Addr) (r q : Int) (n : Nat) (ls : List Str) (z : Str), vs = [.ref p, .int r, .int q] ∧ RuleAt C H p ls ∧ Rows n ls ∧ n ≤ 5000 ∧ 0 ≤ r ∧ 0 ≤ q ∧ ls[(r % (ls.length : Int)).toNat]? = some z ∧ Q (.bl (rungB z q)) H
theorem ok_Rule_has_rung {f C : Addr} {fd : FuncData} (F : Fun K "has_rung" "Rule.has_rung" s_Rule_has_rung f fd) (B : Bi mg) (T : Rl K C) (D_check_number : Df P w K mg base "check_number" 2 ["number"] spCheckNumber) (D_check_half_post : Df P w K mg base "check_half_post" 2 ["post"] spCheckHalf) (P_width : Pr P w K mg base C "width" 2 (spWidth C)) (P_height : Pr P w K mg base C "height" 2 (spHeight C)) : FnOk P w K mg base CX0 4 f fd ["self", "row", "post"] (spHasRung C) := by
  refine F.ok sc_Rule_has_rung (fun vs H Q E h => ?_) (fun cdv A outer s H vs Q E hr h => ?_)
  · obtain ⟨p, r, q, n, ls, z, rfl, _⟩ := h
    rfl
  · obtain ⟨p, r, q, n, ls, z, rfl, R, W, hn, hr0, hq0, hz, k⟩ := h
    refine ⟨_, (pss_cons (ps_expr (pe_df D_check_number (hr.mono (by first | decide | omega)) (by rfl) (pa_cons (pv 1) pa_nil)))
    (pss_cons (ps_expr (pe_df D_check_half_post (hr.mono (by first | decide | omega)) (by rfl) (pa_cons (pv 2) pa_nil)))
    (pss_one (ps_ret (pe_cmpR op_eq (pe_ix ix_str (pe_ix ix_tup (pe_fld (pv 0) rfl) (pe_op op_mod (pv 1) (pe_pr (pv 0) P_height (hr.mono (by first | decide | omega)) rfl)) (fun _ _ => rfl)) (pe_op op_mod (pv 2) (pe_pr (pv 0) P_width (hr.mono (by first | decide | omega)) rfl)) (fun _ _ => rfl)) pe_str (nomark _)))))), ?_⟩
    obtain ⟨dx, u, hp, hu⟩ := id R
    have hzm : z ∈ ls := List.mem_of_getElem? hz
    have hzn : (tl z).length = n := W.len z hzm
    have h0 := W.pos
    have hl0 := W.ne
    have hzl : z.length ≤ sizeLine := by rw [len_tl, hzn]; exact Nat.le_trans hn (by decide)
    have e : (((r % (ls.length : Int)).toNat : Nat) : Int) = r % (ls.length : Int) := Int.toNat_of_nonneg (Int.emod_nonneg r (by omega))
    have iz : atI (ls.map V.str) (r % (ls.length : Int)) = some (V.str z) := by
      rw [← e]
      exact atI_nat (by rw [List.getElem?_map, hz]; rfl)
    have ic : atI z.cps.toList (q % (n : Int)) = some (sg (tl z) q) := by
      have x := atI_sg (l := tl z) (by omega) q
      rw [hzn] at x
      exact x
    have pl : (0 : Int) < (ls.length : Int) := by omega
    have pn : (0 : Int) < (n : Int) := by omega
    walk_at "rd"
    try (refine ⟨r, rfl, hr0, ?_⟩; walk_at "rd")
    try (refine ⟨q, rfl, hq0, ?_⟩; walk_at "rd")
    refine ⟨p, C, dx, _, _, rfl, hp, T.cl, T.nR, rfl, ?_⟩
    walk_at "rd"
    refine ⟨p, dx, _, rfl, hp, p, ls, rfl, R, ?_⟩
    walk_at "rd"
    refine ⟨u, _, _, _, rfl, rfl, SqT.of hu, iz, ?_⟩
    walk_at "rd"
    refine ⟨p, dx, _, rfl, hp, p, ls, n, rfl, R, W, hn, ?_⟩
    walk_at "rd"
    refine ⟨_, _, _, rfl, rfl, hzl, ic, ?_⟩
    walk_at "rd"
    exact k
end
abbrev s__past_row : Stmt := top 14
abbrev N__past_row : List Str := ["rule", "n", "row", "post"]
theorem sc__past_row : FnScope N__past_row ["rule", "n", "row", "post"] (defScope s__past_row) := ⟨rfl, rfl, rfl, by decide +kernel, rfl, by decide +kernel, by decide +kernel⟩
section
variable {P : Program} {w : World} {K : PySem.W.Frag} {mg : Str → Option Value} {base : Heap}
def spPast (C : Addr) : Sp := fun vs H Q _ => ∃ (p : Addr) (sz q : Int) (r n : Nat) (ls : List Str), vs = [.ref p, .int sz, .int r, .int q] ∧ RuleAt C H p ls ∧ Rows n ls ∧ n ≤ 5000 ∧ 0 ≤ q ∧ Q (.int (cross (rowAt ls r) sz q)) H
theorem cross_up {z : Str} {n q : Int} (h1 : decide (q + 1 < n) = true) (h2 : rungB z q = true) : cross z n q = q + 1 := by
  unfold cross
  rw [h1, h2]
  rfl
theorem cross_dn {z : Str} {n q : Int} (h1 : (decide (q + 1 < n) && rungB z q) = false) (h2 : 0 < q) (h3 : rungB z (q - 1) = true) : cross z n q = q - 1 := by
  unfold cross
  rw [h1, h3, decide_eq_true h2]
  rfl
theorem cross_no {z : Str} {n q : Int} (h1 : (decide (q + 1 < n) && rungB z q) = false) (h2 : ¬ (0 < q ∧ rungB z (q - 1) = true)) : cross z n q = q := by
  unfold cross
  rw [h1, if_neg (by decide), if_neg]
  intro h
  rw [Bool.and_eq_true, decide_eq_true_eq] at h
  exact h2 h
theorem ok__past_row {f C : Addr} {fd : FuncData} (F : Fun K "_past_row" "_past_row" s__past_row f fd) (B : Bi mg) (E_has_rung : Me P w K mg base C "has_rung" 4 ["self", "row", "post"] (spHasRung C)) : FnOk P w K mg base CX0 5 f fd ["rule", "n", "row", "post"] (spPast C) := by
  refine F.ok sc__past_row (fun vs H Q E h => ?_) (fun cdv A outer s0 H vs Q E hr h => ?_)
  · obtain ⟨p, sz, q, r, n, ls, rfl, _⟩ := h
    rfl
  · obtain ⟨p, sz, q, r, n, ls, rfl, R, W, hn, hq, k⟩ := h
    refine ⟨_, (pss_cons (ps_if (PW.pt (pw_and (pt_cmpR op_lt (pe_op op_add (pv 3) pe_int) (pv 1) (nomark _)) (pw_and1 (pt_val (pe_me (pv 0) E_has_rung (hr.mono (by first | decide | omega)) (pa_cons (pv 2) (pa_cons (pv 3) pa_nil)))))))
    (pss_one (ps_ret (pe_op op_add (pv 3) pe_int)))
    pss_nil)
    (pss_cons (ps_if (PW.pt (pw_and (pt_cmpR op_gt (pv 3) pe_int (nomark _)) (pw_and1 (pt_val (pe_me (pv 0) E_has_rung (hr.mono (by first | decide | omega)) (pa_cons (pv 2) (pa_cons (pe_op op_sub (pv 3) pe_int) pa_nil)))))))
    (pss_one (ps_ret (pe_op op_sub (pv 3) pe_int)))
    pss_nil)
    (pss_one (ps_ret (pv 3))))), ?_⟩
    obtain ⟨dx, u, hp, _⟩ := id R
    have hr0 : (0 : Int) ≤ (r : Int) := Int.natCast_nonneg _
    have hz := rowAt_get W.ne r
    generalize rowAt ls r = z at hz k
    walk_at "rd"
    refine cutAnd (fun σ H' => H = H' ∧ σ = [some (.ref p), some (.int sz), some (.int r), some (.int q)] ∧ (decide (q + 1 < sz) && rungB z q) = false) ?_ ?_ ?_
    · rintro σ _ ⟨rfl, rfl, h1⟩
      walk_at "rd"
      refine ite2 (fun hc => ?_) (fun hc => ?_)
      · have hq0 := of_decide_eq_true hc
        walk_at "rd"
        refine ⟨p, dx, _, rfl, hp, lkR _ (by decide +kernel), ?_⟩
        walk_at "rd"
        refine ⟨p, r, q - 1, n, ls, z, rfl, R, W, hn, hr0, by omega, hz, ?_⟩
        walk_at "rd"
        refine ite2 (fun hb => ?_) (fun hb => ?_)
        · rw [cross_dn h1 hq0 hb] at k
          walk_at "rd"
          exact k
        · rw [cross_no h1 (fun h => hb h.2)] at k
          walk_at "rd"
          exact k
      · rw [cross_no h1 (fun h => hc (decide_eq_true h.1))] at k
        walk_at "rd"
        exact k
    · intro hT hc
      walk_at "rd"
      refine ⟨p, dx, _, rfl, hp, lkR _ (by decide +kernel), ?_⟩
      walk_at "rd"
      refine ⟨p, r, q, n, ls, z, rfl, R, W, hn, hr0, hq, hz, ?_⟩
      walk_at "rd"
      refine ite2 (fun hb => ?_) (fun hb => ?_)
      · rw [cross_up hc hb] at k
        walk_at "rd"
        exact k
      · exact hT _ _ ⟨rfl, rfl, by rw [Bool.eq_false_iff.mpr hb, Bool.and_false]⟩
    · intro hc
      exact ⟨rfl, rfl, by rw [hc]; rfl⟩
end
abbrev s__way : Stmt := top 15
abbrev N__way : List Str := ["rule", "n", "post", "rows", "way", "row"]
theorem sc__way : FnScope N__way ["rule", "n", "post", "rows"] (defScope s__way) := ⟨rfl, rfl, rfl, by decide +kernel, rfl, by decide +kernel, by decide +kernel⟩
section
variable {P : Program} {w : World} {K : PySem.W.Frag} {mg : Str → Option Value} {base : Heap}
def spWay (C : Addr) : Sp := fun vs H Q _ => ∃ (p : Addr) (sz q : Int) (d n : Nat) (ls : List Str), vs = [.ref p, .int sz, .int q, .int d] ∧ RuleAt C H p ls ∧ Rows n ls ∧ n ≤ 5000 ∧ 0 ≤ q ∧ q < sz ∧ d ≤ 100000 ∧
  ∀ (t : Addr) (H' : Hp), Same H H' → H t = none → H' t = some (.lst ((way ls sz q (d + 1)).map V.int)) → Q (.ref t) H'
theorem ok__way {f C : Addr} {fd : FuncData} (F : Fun K "_way" "_way" s__way f fd) (B : Bi mg) (D_past_row : Df P w K mg base "_past_row" 5 ["rule", "n", "row", "post"] (spPast C)) : FnOk P w K mg base CX0 6 f fd ["rule", "n", "post", "rows"] (spWay C) := by
  refine F.ok sc__way (fun vs H Q E h => ?_) (fun cdv A outer s0 H vs Q E hr h => ?_)
  · obtain ⟨p, sz, q, d, n, ls, rfl, _⟩ := h
    rfl
  · obtain ⟨p, sz, q, d, n, ls, rfl, R, W, hn, h0, h1, hd, k⟩ := h
    refine ⟨_, (pss_cons (ps_set (i := 4) sc__way.nd rfl (Or.inl rfl) (pe_lst (pa_cons (pv 2) pa_nil)))
    (pss_cons (ps_for PassesOwn.never rfl (pi_range1 (by rfl) B.range_ (pa_cons (pv 3) pa_nil)) (pg_name (i := 5) sc__way.nd rfl (Or.inl rfl))
    (pss_one (ps_expr (pe_bm PySem.F.plainAttrs_list PySem.F.slot_list_append PySem.F.type_list_append mt_append (pv 4) (pa_cons (pe_df D_past_row (hr.mono (by first | decide | omega)) (by rfl) (pa_cons (pv 0) (pa_cons (pv 1) (pa_cons (pv 5) (pa_cons (pe_ix ix_list (pv 4) (pv 5) (fun _ _ => rfl)) pa_nil))))) pa_nil)))))
    (pss_one (ps_ret (pv 4))))), ?_⟩
    have hd62 : (d : Int) < 2 ^ 62 := by omega
    walk_at "rd"
    intro D zD
    generalize eD : upd _ D _ = H1
    obtain ⟨s1, hD⟩ := nw eD zD
    walk_at "rd"
    refine for_range (lo := 0) (n := (d : Int).toNat) (fun i σ H' => ∃ o, σ = [some (.ref p), some (.int sz), some (.int q), some (.int d), some (.ref D), o] ∧ Same H H' ∧ H' D = some (.lst ((way ls sz q (i + 1)).map V.int))) ⟨none, rfl, s1, hD⟩ ?_ ?_
    · rintro i σ H' hi ⟨o, rfl, s2, hD'⟩
      have hw : (way ls sz q (i + 1))[i]? = some (wk ls sz q i) := way_get (Nat.lt_succ_self i)
      have ix : atI ((way ls sz q (i + 1)).map V.int) (0 + (i : Int)) = some (V.int (wk ls sz q i)) := atI_k' i (by omega) (by rw [List.getElem?_map, hw]; rfl)
      walk_at "rd"
      rw [Int.zero_add]
      refine ⟨p, sz, _, i, n, ls, rfl, R.same s2, W, hn, (wk_on h0 h1 i).1, ?_⟩
      walk_at "rd"
      refine ⟨D, _, _, rfl, rfl, hD', by rw [List.length_map, way_len]; exact Nat.lt_of_le_of_lt (show i + 1 ≤ 100000 by omega) (by decide), ?_⟩
      refine ⟨_, rfl, s2.put zD, ?_⟩
      rw [upd_same, way_add ls sz q (i + 1), List.map_append]
      rfl
    · rintro σ H' ⟨o, rfl, s2, hD'⟩
      walk_at "rd"
      exact k D H' s2 zD hD'
end
abbrev s__rungs_crossed : Stmt := top 16
abbrev N__rungs_crossed : List Str := ["rule", "n", "post", "rows", "way", "row"]
theorem sc__rungs_crossed : FnScope N__rungs_crossed ["rule", "n", "post", "rows"] (defScope s__rungs_crossed) := ⟨rfl, rfl, rfl, by decide +kernel, rfl, by decide +kernel, by decide +kernel⟩
section
variable {P : Program} {w : World} {K : PySem.W.Frag} {mg : Str → Option Value} {base : Heap}
def spRungs (C : Addr) : Sp := fun vs H Q _ => ∃ (p : Addr) (sz q : Int) (d n : Nat) (ls : List Str), vs = [.ref p, .int sz, .int q, .int d] ∧ RuleAt C H p ls ∧ Rows n ls ∧ n ≤ 5000 ∧ 0 ≤ q ∧ q < sz ∧ d ≤ 100000 ∧
  ∀ (t : Addr) (H' : Hp), Same H H' → H t = none → H' t = some (.lst (rungs ls sz q d)) → Q (.ref t) H'
theorem ok__rungs_crossed {f C : Addr} {fd : FuncData} (F : Fun K "_rungs_crossed" "_rungs_crossed" s__rungs_crossed f fd) (B : Bi mg) (D_way : Df P w K mg base "_way" 6 ["rule", "n", "post", "rows"] (spWay C)) : FnOk P w K mg base CX0 7 f fd ["rule", "n", "post", "rows"] (spRungs C) := by
  refine F.ok sc__rungs_crossed (fun vs H Q E h => ?_) (fun cdv A outer s0 H vs Q E hr h => ?_)
  · obtain ⟨p, sz, q, d, n, ls, rfl, _⟩ := h
    rfl
  · obtain ⟨p, sz, q, d, n, ls, rfl, R, W, hn, h0, h1, hd, k⟩ := h
    refine ⟨_, (pss_cons (ps_set (i := 4) sc__rungs_crossed.nd rfl (Or.inr rfl) (pe_df D_way (hr.mono (by first | decide | omega)) (by rfl) (pa_cons (pv 0) (pa_cons (pv 1) (pa_cons (pv 2) (pa_cons (pv 3) pa_nil))))))
    (pss_one (ps_ret (pe_lc (own := [("row", 5)]) (g := gName 5) (tt := tYes) rfl sc__rungs_crossed.nd (pi_range1 (by rfl) B.range_ (pa_cons (pv 3) pa_nil)) (blkOk_by (N := N__rungs_crossed) (sc := defScope s__rungs_crossed) (by decide +kernel)) (fun _ _ _ _ _ => pg_name (i := 5) sc__rungs_crossed.nd rfl (Or.inl rfl)) (fun _ _ _ _ _ => pts_nil) (fun _ _ _ _ _ => (pe_ifExp (pt_cmpR op_eq (pe_ix (show IxR _ (rIxL K) from ix_list) (pv 4) (pv 5) (fun _ _ => rfl)) (pe_ix (show IxR _ (rIxL K) from ix_list) (pv 4) (pe_op op_add (pv 5) pe_int) (fun _ _ => rfl)) (nomark _)) pe_non (pe_callB (call_min2 rfl) (by rfl) B.min_ (by decide +kernel) (pa_cons (pe_ix (show IxR _ (rIxL K) from ix_list) (pv 4) (pv 5) (fun _ _ => rfl)) (pa_cons (pe_ix (show IxR _ (rIxL K) from ix_list) (pv 4) (pe_op op_add (pv 5) pe_int) (fun _ _ => rfl)) pa_nil))))))))), ?_⟩
    have hd62 : (d : Int) < 2 ^ 62 := by omega
    walk_at "rd"
    refine ⟨p, sz, q, d, n, ls, rfl, R, W, hn, h0, h1, hd, fun t H1 s1 zt ht => ?_⟩
    walk_at "rd"
    intro D hD
    refine lc_range (lo := 0) (n := (d : Int).toNat) (fun i H' => Same H1 H' ∧ H' D = some (.lst (rungs ls sz q i))) ⟨L2.Same.upd hD, upd_same⟩ ?_ ?_
    · rintro i H' hi ⟨sm, hD'⟩
      have hi' : i < d := hi
      refine ⟨rfl, ?_⟩
      have ht' := sm _ _ ht
      have ia : atI ((way ls sz q (d + 1)).map V.int) (0 + (i : Int)) = some (V.int (wk ls sz q i)) := atI_k' i (by omega) (by rw [List.getElem?_map, way_get (by omega)]; rfl)
      have ib : atI ((way ls sz q (d + 1)).map V.int) (0 + (i : Int) + 1) = some (V.int (wk ls sz q (i + 1))) := atI_k' (i + 1) (by omega) (by rw [List.getElem?_map, way_get (by omega)]; rfl)
      have fin : ∀ v : V, v = rgV (wk ls sz q i) (wk ls sz q (i + 1)) → ∃ acc : List V, H' D = some (.lst acc) ∧ acc.length < sizeLine ∧ (Same H1 (upd H' D (.lst (acc ++ [v]))) ∧ upd H' D (.lst (acc ++ [v])) D = some (.lst (rungs ls sz q (i + 1)))) := fun v e =>
        ⟨_, hD', by rw [rungs_len]; exact Nat.lt_of_le_of_lt (show i ≤ 100000 by omega) (by decide), sm.put hD, by rw [upd_same, e]; unfold rungs; rw [List.range_succ, List.map_append]; rfl⟩
      walk_at "rd"
      refine ite2 (fun hc => ?_) (fun hc => ?_)
      · have e := of_decide_eq_true hc
        injection e with e
        exact fin _ (by unfold rgV; rw [if_pos e])
      · have e : wk ls sz q i ≠ wk ls sz q (i + 1) := fun e => hc (decide_eq_true (congrArg V.int e))
        walk_at "rd"
        refine ⟨_, _, rfl, ?_⟩
        exact fin _ (by unfold rgV; rw [if_neg e])
    · rintro H' ⟨sm, hD'⟩
      exact k D H' (s1.trans sm) (s1.free hD) hD'
end
abbrev s_walk_of : Stmt := top 17
abbrev N_walk_of : List Str := ["rule", "n", "post", "rows"]
theorem sc_walk_of : FnScope N_walk_of ["rule", "n", "post", "rows"] (defScope s_walk_of) := ⟨rfl, rfl, rfl, by decide +kernel, rfl, by decide +kernel, by decide +kernel⟩
section
variable {P : Program} {w : World} {K : PySem.W.Frag} {mg : Str → Option Value} {base : Heap}
def spWalkOf (C : Addr) : Sp := fun vs H Q _ => ∃ (p : Addr) (sz q : Int) (d n : Nat) (ls : List Str), vs = [.ref p, .int sz, .int q, .int d] ∧ RuleAt C H p ls ∧ Rows n ls ∧ n ≤ 5000 ∧ 0 ≤ q ∧ q < sz ∧ d ≤ 100000 ∧
  ∀ (t : Addr) (H' : Hp), Same H H' → H t = none → H' t = some (.lst ((way ls sz q (d + 1)).map V.int)) → Q (.ref t) H'
theorem ok_walk_of {f C : Addr} {fd : FuncData} (F : Fun K "walk_of" "walk_of" s_walk_of f fd) (B : Bi mg) (D_check_size : Df P w K mg base "check_size" 2 ["n"] spCheckSize) (D_check_post : Df P w K mg base "check_post" 2 ["post", "n"] spCheckPost) (D_check_number : Df P w K mg base "check_number" 2 ["number"] spCheckNumber) (D_way : Df P w K mg base "_way" 6 ["rule", "n", "post", "rows"] (spWay C)) : FnOk P w K mg base CX0 7 f fd ["rule", "n", "post", "rows"] (spWalkOf C) := by
  refine F.ok sc_walk_of (fun vs H Q E h => ?_) (fun cdv A outer s0 H vs Q E hr h => ?_)
  · obtain ⟨p, sz, q, d, n, ls, rfl, _⟩ := h
    rfl
  · obtain ⟨p, sz, q, d, n, ls, rfl, R, W, hn, h0, h1, hd, k⟩ := h
    refine ⟨_, (pss_cons (ps_expr (pe_df D_check_size (hr.mono (by first | decide | omega)) (by rfl) (pa_cons (pv 1) pa_nil)))
    (pss_cons (ps_expr (pe_df D_check_post (hr.mono (by first | decide | omega)) (by rfl) (pa_cons (pv 2) (pa_cons (pv 1) pa_nil))))
    (pss_cons (ps_expr (pe_df D_check_number (hr.mono (by first | decide | omega)) (by rfl) (pa_cons (pv 3) pa_nil)))
    (pss_one (ps_ret (pe_df D_way (hr.mono (by first | decide | omega)) (by rfl) (pa_cons (pv 0) (pa_cons (pv 1) (pa_cons (pv 2) (pa_cons (pv 3) pa_nil)))))))))), ?_⟩
    walk_at "rd"
    try (refine ⟨sz, rfl, by omega, ?_⟩; walk_at "rd")
    try (refine ⟨q, sz, rfl, h0, h1, ?_⟩; walk_at "rd")
    try (refine ⟨d, rfl, by omega, ?_⟩; walk_at "rd")
    exact ⟨p, sz, q, d, n, ls, rfl, R, W, hn, h0, h1, hd, k⟩
end
abbrev s_check_size_x : Stmt := top 9
abbrev N_check_size_x : List Str := ["n"]
theorem sc_check_size_x : FnScope N_check_size_x ["n"] (defScope s_check_size_x) := ⟨rfl, rfl, rfl, by decide +kernel, rfl, by decide +kernel, by decide +kernel⟩
section
variable {P : Program} {w : World} {K : PySem.W.Frag} {mg : Str → Option Value} {base : Heap}
theorem ok_check_size_x {f C_InvalidSize : Addr} {fd : FuncData} (F : Fun K "check_size" "check_size" s_check_size_x f fd) (B : Bi mg) (X_InvalidSize : Er P w K mg base "InvalidSize" C_InvalidSize) : FnOk P w K mg base (L2.CX P w) 4 f fd ["n"] (spChk C_InvalidSize 1) := by
  refine F.okX sc_check_size_x (fun vs H Q E h => ?_) (fun cdv A outer s H vs Q E hr h => ?_)
  · obtain ⟨n, rfl, _⟩ := h
    rfl
  · obtain ⟨n, rfl, k1, k2⟩ := h
    refine ⟨_, (pss_one (ps_if (pt_cmpR op_lt (pv 0) pe_int (nomark _))
    (pss_one (ps_raise rfl (takes_of rfl rfl rfl rfl) (pmk_er X_InvalidSize (hr.mono (by first | decide | omega)) (by rfl) (pa_cons (pv 0) pa_nil))))
    pss_nil)), ?_⟩
    walk_at "rd"
    refine ite2 (fun hc => ?_) (fun hc => ?_)
    · refine ⟨_, rfl, rd_er X_InvalidSize fun d hd => k2 (of_decide_eq_true hc) d hd⟩
    · exact k1 (Int.not_lt.mp fun z => hc (decide_eq_true z))
end
abbrev s_check_post_x : Stmt := top 10
abbrev N_check_post_x : List Str := ["post", "n"]
theorem sc_check_post_x : FnScope N_check_post_x ["post", "n"] (defScope s_check_post_x) := ⟨rfl, rfl, rfl, by decide +kernel, rfl, by decide +kernel, by decide +kernel⟩
section
variable {P : Program} {w : World} {K : PySem.W.Frag} {mg : Str → Option Value} {base : Heap}
theorem ok_check_post_x {f C_InvalidPost : Addr} {fd : FuncData} (F : Fun K "check_post" "check_post" s_check_post_x f fd) (B : Bi mg) (X_InvalidPost : Er P w K mg base "InvalidPost" C_InvalidPost) : FnOk P w K mg base (L2.CX P w) 4 f fd ["post", "n"] (spChkP C_InvalidPost) := by
  refine F.okX sc_check_post_x (fun vs H Q E h => ?_) (fun cdv A outer s H vs Q E hr h => ?_)
  · obtain ⟨q, n, rfl, _⟩ := h
    rfl
  · obtain ⟨q, n, rfl, k1, k2⟩ := h
    refine ⟨_, (pss_one (ps_if (PW.pt (pw_or (pt_cmpR op_lt (pv 0) pe_int (nomark _)) (pw_or1 (pt_cmpR op_ge (pv 0) (pv 1) (nomark _)))))
    (pss_one (ps_raise rfl (takes_of rfl rfl rfl rfl) (pmk_er X_InvalidPost (hr.mono (by first | decide | omega)) (by rfl) (pa_cons (pv 0) pa_nil))))
    pss_nil)), ?_⟩
    walk_at "rd"
    refine ite2 (fun hc => ?_) (fun hc => ?_)
    · exact ⟨_, rfl, rd_er X_InvalidPost fun d hd => k2 (.inl (of_decide_eq_true hc)) d hd⟩
    walk_at "rd"
    refine ite2 (fun hc2 => ?_) (fun hc2 => ?_)
    · exact ⟨_, rfl, rd_er X_InvalidPost fun d hd => k2 (.inr (of_decide_eq_true hc2)) d hd⟩
    exact k1 (Int.not_lt.mp fun z => hc (decide_eq_true z)) (Int.not_le.mp fun z => hc2 (decide_eq_true z))
end
abbrev s_check_number_x : Stmt := top 12
abbrev N_check_number_x : List Str := ["number"]
theorem sc_check_number_x : FnScope N_check_number_x ["number"] (defScope s_check_number_x) := ⟨rfl, rfl, rfl, by decide +kernel, rfl, by decide +kernel, by decide +kernel⟩
section
variable {P : Program} {w : World} {K : PySem.W.Frag} {mg : Str → Option Value} {base : Heap}
theorem ok_check_number_x {f C_InvalidNumber : Addr} {fd : FuncData} (F : Fun K "check_number" "check_number" s_check_number_x f fd) (B : Bi mg) (X_InvalidNumber : Er P w K mg base "InvalidNumber" C_InvalidNumber) : FnOk P w K mg base (L2.CX P w) 4 f fd ["number"] (spChk C_InvalidNumber 0) := by
  refine F.okX sc_check_number_x (fun vs H Q E h => ?_) (fun cdv A outer s H vs Q E hr h => ?_)
  · obtain ⟨n, rfl, _⟩ := h
    rfl
  · obtain ⟨n, rfl, k1, k2⟩ := h
    refine ⟨_, (pss_one (ps_if (pt_cmpR op_lt (pv 0) pe_int (nomark _))
    (pss_one (ps_raise rfl (takes_of rfl rfl rfl rfl) (pmk_er X_InvalidNumber (hr.mono (by first | decide | omega)) (by rfl) (pa_cons (pv 0) pa_nil))))
    pss_nil)), ?_⟩
    walk_at "rd"
    refine ite2 (fun hc => ?_) (fun hc => ?_)
    · refine ⟨_, rfl, rd_er X_InvalidNumber fun d hd => k2 (of_decide_eq_true hc) d hd⟩
    · exact k1 (Int.not_lt.mp fun z => hc (decide_eq_true z))
end
abbrev s_partners_x : Stmt := top 19
abbrev N_partners_x : List Str := ["rule", "n", "post", "rows", "found", "starts", "here", "row", "there", "at"]
theorem sc_partners_x : FnScope N_partners_x ["rule", "n", "post", "rows"] (defScope s_partners_x) := ⟨rfl, rfl, rfl, by decide +kernel, rfl, by decide +kernel, by decide +kernel⟩
section
variable {P : Program} {w : World} {K : PySem.W.Frag} {mg : Str → Option Value} {base : Heap}
def spPartnersX (C CS CP CN : Addr) : Sp := fun vs H Q E => ∃ (p : Addr) (sz q dep : Int) (n : Nat) (ls : List Str), vs = [.ref p, .int sz, .int q, .int dep] ∧ RuleAt C H p ls ∧ Rows n ls ∧ n ≤ 5000 ∧ sz ≤ 63 ∧ dep ≤ 100000 ∧ Asked1 Q E H CS CP CN sz q dep
/-- what is known behind so many rows: of the set, e rows, of the list of who stands where, i rows -/
structure PtAt (w : World) (H : Hp) (F L : Addr) (N : Nat) (q : Int) (ls : List Str) (i e : Nat) (S : Int → Bool) (H' : Hp) : Prop where
  same : Same H H'
  s1 : ∀ j : Nat, j < N → S (j : Int) = metB ls (N : Int) q e j
  s2 : ∀ x : Int, S x = true → 0 ≤ x ∧ x < (N : Int)
  f : H' F = some (SetO w F S (cnt N fun j => S (j : Int)))
  l : H' L = some (.lst (((List.range N).map fun at_ : Nat => who ls (N : Int) i (at_ : Int)).map V.int))
theorem met1_iff {n : Nat} {ls : List Str} (W : Rows n ls) {N j i : Nat} {q : Int} (h0 : 0 ≤ q) (h1 : q < (N : Int)) (hj : j < N) (hne : wk ls (N : Int) q (i + 1) ≠ wk ls (N : Int) q i) : met1 ls (N : Int) q (j : Int) i = decide ((j : Int) = who ls (N : Int) i (wk ls (N : Int) q (i + 1))) := by
  obtain ⟨a0, a1⟩ := wk_on (ls := ls) h0 h1 (i + 1)
  unfold met1
  rw [decide_eq_false (fun e : V.int (wk ls (N : Int) q (i + 1)) = V.int (wk ls (N : Int) q i) => hne (by injection e)), Bool.not_false, Bool.and_true]
  refine decide_eq_decide.mpr ⟨fun e => ?_, fun e => ?_⟩
  · injection e with e
    rw [← e]
    exact (who_wk W i (by omega) (by omega)).symm
  · rw [e, wk_who W i a0 a1]
theorem met1_no {ls : List Str} {n q j : Int} {i : Nat} (h : wk ls n q (i + 1) = wk ls n q i) : met1 ls n q j i = false := by
  unfold met1
  rw [h, decide_eq_true (rfl : V.int (wk ls n q i) = V.int (wk ls n q i)), Bool.not_true, Bool.and_false]
theorem ok_partners_x {f C C_InvalidSize C_InvalidPost C_InvalidNumber : Addr} {fd : FuncData} (F : Fun K "partners" "partners" s_partners_x f fd) (B : Bi mg) (DX_check_size : DfX P w K mg base "check_size" 4 ["n"] (spChk C_InvalidSize 1)) (DX_check_post : DfX P w K mg base "check_post" 4 ["post", "n"] (spChkP C_InvalidPost)) (DX_check_number : DfX P w K mg base "check_number" 4 ["number"] (spChk C_InvalidNumber 0)) (D_past_row : Df P w K mg base "_past_row" 5 ["rule", "n", "row", "post"] (spPast C)) : FnOk P w K mg base (L2.CX P w) 6 f fd ["rule", "n", "post", "rows"] (spPartnersX C C_InvalidSize C_InvalidPost C_InvalidNumber) := by
  refine F.okX sc_partners_x (fun vs H Q E h => ?_) (fun cdv A outer s0 H vs Q E hr h => ?_)
  · obtain ⟨p, sz, q, dep, n, ls, rfl, _⟩ := h
    rfl
  · obtain ⟨p, sz, q, dep, n, ls, rfl, R, W, hn, hz, hdd, kS, kP, kN, k⟩ := h
    refine ⟨_, (pss_cons (ps_expr (pe_dfS DX_check_size (hr.mono (by first | decide | omega)) (by rfl) (takes_of rfl rfl rfl rfl) (pa_cons (pv 1) pa_nil)))
    (pss_cons (ps_expr (pe_dfS DX_check_post (hr.mono (by first | decide | omega)) (by rfl) (takes_of rfl rfl rfl rfl) (pa_cons (pv 2) (pa_cons (pv 1) pa_nil))))
    (pss_cons (ps_expr (pe_dfS DX_check_number (hr.mono (by first | decide | omega)) (by rfl) (takes_of rfl rfl rfl rfl) (pa_cons (pv 3) pa_nil)))
    (pss_cons (ps_set (i := 4) sc_partners_x.nd rfl (Or.inl rfl) (pe_callTy0 cr_set0 (by rfl) B.set_ (by decide +kernel)))
    (pss_cons (ps_set (i := 5) sc_partners_x.nd rfl (Or.inr rfl) (pe_listRg rfl (by rfl) B.list_ (prg_1 (by rfl) B.range_ (pv 1))))
    (pss_cons (ps_set (i := 6) sc_partners_x.nd rfl (Or.inl rfl) (pv 2))
    (pss_cons (ps_for (passes_of rfl) rfl (pi_range1 (by rfl) B.range_ (pa_cons (pv 3) pa_nil)) (pg_name (i := 7) sc_partners_x.nd rfl (Or.inr rfl))
    (pss_cons (ps_set (i := 8) sc_partners_x.nd rfl (Or.inl rfl) (pe_df D_past_row (hr.mono (by first | decide | omega)) (by rfl) (pa_cons (pv 0) (pa_cons (pv 1) (pa_cons (pv 7) (pa_cons (pv 6) pa_nil))))))
    (pss_cons (ps_if (pt_cmpR op_ne (pv 8) (pv 6) (nomark _))
    (pss_one (ps_expr (pe_sadd (pv 4) (pa_cons (pe_ix ix_list (pv 5) (pv 8) (fun _ _ => rfl)) pa_nil))))
    pss_nil)
    (pss_cons (ps_set (i := 5) sc_partners_x.nd rfl (Or.inr rfl) (pe_lc (own := [("at", 9)]) (g := gName 9) (tt := tYes) rfl sc_partners_x.nd (pi_range1 (by rfl) B.range_ (pa_cons (pv 1) pa_nil)) (blkOk_by (N := N_partners_x) (sc := defScope s_partners_x) (by decide +kernel)) (fun _ _ _ _ _ => pg_name (i := 9) sc_partners_x.nd rfl (Or.inl rfl)) (fun _ _ _ _ _ => pts_nil) (fun _ _ _ _ _ => (pe_ix (show IxR _ (rIxL K) from ix_list) (pv 5) (pe_df D_past_row (hr.mono (by first | decide | omega)) (by rfl) (pa_cons (pv 0) (pa_cons (pv 1) (pa_cons (pv 7) (pa_cons (pv 9) pa_nil))))) (fun _ _ => rfl)))))
    (pss_one (ps_set (i := 6) sc_partners_x.nd rfl (Or.inl rfl) (pv 8)))))))
    (pss_one (ps_ret (pe_callB (cr_sortedSet rfl) (by rfl) B.sorted_ (by decide +kernel) (pa_cons (pv 4) pa_nil))))))))))), ?_⟩
    walk_at "rd"
    refine ⟨fun hs => ?_, fun h d hd => kS h d hd⟩
    walk_at "rd"
    refine ⟨q, sz, rfl, fun h0 h1 => ?_, fun h d hd => kP hs h d hd⟩
    walk_at "rd"
    refine ⟨fun hp => ?_, fun h d hd => kN hs h0 h1 h d hd⟩
    replace k := k hs h0 h1 hp
    obtain ⟨d, rfl⟩ := Int.eq_ofNat_of_zero_le hp
    obtain ⟨N, rfl⟩ := Int.eq_ofNat_of_zero_le (show 0 ≤ sz by omega)
    have hN : N ≤ 63 := by omega
    have hd : d ≤ 100000 := by omega
    clear kS kP kN
    have hd62 : (d : Int) < 2 ^ 62 := by omega
    have hN62 : (N : Int) < 2 ^ 62 := by omega
    walk_at "rd"
    intro F1 zF
    generalize eF : upd _ F1 _ = H1
    obtain ⟨s1, hF⟩ := nw eF zF
    walk_at "rd"
    intro L1 zL
    generalize eL : upd _ L1 _ = H2
    obtain ⟨s2, hL⟩ := nw eL zL
    have hL' : H2 L1 = some (.lst (((List.range N).map fun at_ : Nat => who ls (N : Int) 0 (at_ : Int)).map V.int)) := by
      rw [hL]
      unfold L2.rgV
      rw [Int.sub_zero, Int.toNat_natCast, List.map_map]
      congr 2
      refine List.map_congr_left fun i _ => ?_
      show V.int (0 + (i : Int)) = V.int (i : Int)
      rw [Int.zero_add]
    have P0 : PtAt w H F1 L1 N q ls 0 0 (fun _ => false) H2 := by
      refine ⟨s1.trans s2, fun j _ => rfl, (fun x h => by cases h), ?_, hL'⟩
      rw [s2 _ _ hF]
      have e0 : cnt N (fun _ => false) = 0 := by
        unfold cnt
        rw [List.filter_eq_nil_iff.mpr (fun _ _ h => by cases h)]
        rfl
      show _ = some (SetO w F1 (fun _ => false) (cnt N (fun _ => false)))
      rw [e0]
      rfl
    clear hL hL' hF eF eL s1 s2
    walk_at "rd"
    refine for_range (lo := 0) (n := (d : Int).toNat) (fun i σ H' => ∃ (L : Addr) (S : Int → Bool) (o7 o8 : Option V), σ = [some (.ref p), some (.int N), some (.int q), some (.int d), some (.ref F1), some (.ref L), some (.int (wk ls (N : Int) q i)), o7, o8, none] ∧ PtAt w H F1 L N q ls i i S H') ⟨L1, _, none, none, rfl, P0⟩ ?_ ?_
    · rintro i σ H' hi ⟨L, S, o7, o8, rfl, PT⟩
      have hi' : i < d := hi
      obtain ⟨a0, a1⟩ := wk_on (ls := ls) h0 h1 (i + 1)
      walk_at "rd"
      rw [Int.zero_add]
      refine ⟨p, (N : Int), _, i, n, ls, rfl, R.same PT.same, W, hn, (wk_on h0 h1 i).1, ?_⟩
      have e : cross (rowAt ls i) (N : Int) (wk ls (N : Int) q i) = wk ls (N : Int) q (i + 1) := rfl
      rw [e]
      walk_at "rd"
      refine cutIf (fun σ H2 => ∃ S2 : Int → Bool, σ = [some (.ref p), some (.int N), some (.int q), some (.int d), some (.ref F1), some (.ref L), some (.int (wk ls (N : Int) q i)), some (.int i), some (.int (wk ls (N : Int) q (i + 1))), none] ∧ PtAt w H F1 L N q ls i (i + 1) S2 H2) ?_ ?_ ?_
      rotate_left
      · intro hT hc
        have hne : wk ls (N : Int) q (i + 1) ≠ wk ls (N : Int) q i := fun e => by
          rw [e, decide_eq_true rfl] at hc
          cases hc
        obtain ⟨b0, b1⟩ := who_on (ls := ls) i a0 a1
        obtain ⟨kn, ekn⟩ := Int.eq_ofNat_of_zero_le b0
        have hkn : kn < N := by omega
        have hL := PT.l
        have hF := PT.f
        have ix : atI (((List.range N).map fun at_ : Nat => who ls (N : Int) i (at_ : Int)).map V.int) (wk ls (N : Int) q (i + 1)) = some (V.int (who ls (N : Int) i (wk ls (N : Int) q (i + 1)))) := by
          refine atI_k' (wk ls (N : Int) q (i + 1)).toNat (Int.toNat_of_nonneg a0).symm ?_
          rw [List.getElem?_map, List.getElem?_map, List.getElem?_range (by omega), Option.map_some, Option.map_some, Int.toNat_of_nonneg a0]
        refine ⟨_, rfl, ?_⟩
        refine ⟨⟨F1, S, _, rfl, hF⟩, ?_⟩
        walk_at "rd"
        refine ⟨F1, who ls (N : Int) i (wk ls (N : Int) q (i + 1)), S, _, rfl, rfl, hF, Nat.lt_of_le_of_lt (Nat.succ_le_succ (Nat.le_trans (cnt_le N _) hN)) (by decide), ?_⟩
        have step : (if S (who ls (N : Int) i (wk ls (N : Int) q (i + 1))) = true then cnt N (fun j => S (j : Int)) else cnt N (fun j => S (j : Int)) + 1) = cnt N (fun j => S (j : Int) || decide ((j : Int) = who ls (N : Int) i (wk ls (N : Int) q (i + 1)))) := by
          have ed : (fun j : Nat => S (j : Int) || decide ((j : Int) = who ls (N : Int) i (wk ls (N : Int) q (i + 1)))) = fun j : Nat => S (j : Int) || decide (j = kn) := by
            funext j
            rw [ekn]
            congr 1
            exact decide_eq_decide.mpr ⟨fun e => by omega, fun e => by omega⟩
          rw [ed, ekn]
          by_cases hS : S (kn : Int) = true
          · rw [if_pos hS]
            exact (cnt_same (p := fun j : Nat => S (j : Int)) hS).symm
          · rw [if_neg hS]
            exact (cnt_add (p := fun j : Nat => S (j : Int)) hkn (Bool.eq_false_iff.mpr hS)).symm
        rw [step]
        have nLF : L ≠ F1 := ne_of hL hF (by intro z; unfold SetO at z; cases z)
        refine hT _ _ ⟨_, rfl, PT.same.put zF, fun j hj => ?_, fun x hx => ?_, upd_same, by rw [upd_ne nLF]; exact hL⟩
        · show (S (j : Int) || decide ((j : Int) = who ls (N : Int) i (wk ls (N : Int) q (i + 1)))) = _
          rw [PT.s1 j hj, metB_add, met1_iff W h0 h1 hj hne]
        · rw [Bool.or_eq_true, decide_eq_true_eq] at hx
          rcases hx with hx | hx
          · exact PT.s2 x hx
          · omega
      · intro hc
        have he : wk ls (N : Int) q (i + 1) = wk ls (N : Int) q i := by
          rw [Bool.not_eq_false', decide_eq_true_eq] at hc
          injection hc
        refine ⟨S, rfl, PT.same, fun j hj => ?_, PT.s2, PT.f, PT.l⟩
        rw [metB_add, met1_no he, Bool.or_false]
        exact PT.s1 j hj
      rintro σ H2 ⟨S2, rfl, P2⟩
      walk_at "rd"
      intro D hD
      refine lc_range (lo := 0) (n := N) (fun j H3 => Same H2 H3 ∧ H3 D = some (.lst (((List.range j).map fun at_ : Nat => who ls (N : Int) (i + 1) (at_ : Int)).map V.int))) ⟨L2.Same.upd hD, upd_same⟩ ?_ ?_
      · rintro j H3 hj ⟨sm, hD'⟩
        refine ⟨rfl, ?_⟩
        have hL3 := sm _ _ P2.l
        obtain ⟨c0, c1⟩ := cross_on (z := rowAt ls i) (n := (N : Int)) (q := (j : Int)) (by omega) (by omega)
        have ix : atI (((List.range N).map fun at_ : Nat => who ls (N : Int) i (at_ : Int)).map V.int) (cross (rowAt ls i) (N : Int) (j : Int)) = some (V.int (who ls (N : Int) (i + 1) (j : Int))) := by
          refine atI_k' (cross (rowAt ls i) (N : Int) (j : Int)).toNat (Int.toNat_of_nonneg c0).symm ?_
          rw [List.getElem?_map, List.getElem?_map, List.getElem?_range (by omega), Option.map_some, Option.map_some, Int.toNat_of_nonneg c0]
          rfl
        walk_at "rd"
        rw [Int.zero_add]
        refine ⟨p, (N : Int), _, i, n, ls, rfl, R.same (P2.same.trans sm), W, hn, by omega, ?_⟩
        walk_at "rd"
        refine ⟨_, hD', by rw [List.length_map, List.length_map, List.length_range]; exact Nat.lt_of_lt_of_le hj (Nat.le_trans hN (by decide)), sm.put hD, ?_⟩
        rw [upd_same, List.range_succ, List.map_append, List.map_append]
        rfl
      · rintro H3 ⟨sm, hD'⟩
        walk_at "rd"
        exact ⟨D, S2, _, _, rfl, P2.same.trans sm, P2.s1, P2.s2, sm _ _ P2.f, hD'⟩
    · rintro σ H' ⟨L, S, o7, o8, rfl, PT⟩
      have hF := PT.f
      walk_at "rd"
      refine ⟨F1, S, _, rfl, hF, Nat.lt_of_le_of_lt (Nat.le_trans (cnt_le N _) hN) (by decide), fun ns t hp hm hl zt => ?_⟩
      exact k _ _ (PT.same.up zt)
end
abbrev s__law_source : Stmt := top 27
abbrev N__law_source : List Str := ["script", "great", "small", "cell"]
theorem sc__law_source : FnScope N__law_source ["script"] (defScope s__law_source) := ⟨rfl, rfl, rfl, by decide +kernel, rfl, by decide +kernel, by decide +kernel⟩
section
variable {P : Program} {w : World} {K : PySem.W.Frag} {mg : Str → Option Value} {base : Heap}
def spSource (K : PySem.W.Frag) : Sp := fun vs H Q _ => ∃ (a : Addr) (ns : List Int), vs = [.ref a] ∧ SqL K H a (ns.map V.int) ∧ ns.length ≤ 63 ∧ ∀ (s g r : Addr) (H' : Hp), Same H H' → H s = none → H g = none → H r = none → Src H' s g r 0 → Q (.ref s) H'
theorem ok__law_source {f : Addr} {fd : FuncData} (F : Fun K "_law_source" "_law_source" s__law_source f fd) (B : Bi mg) : FnOk P w K mg base CX0 2 f fd ["script"] (spSource K) := by
  refine F.ok sc__law_source (fun vs H Q E h => ?_) (fun cdv A outer s H vs Q E hr h => ?_)
  · obtain ⟨a, ns, rfl, _⟩ := h
    rfl
  · obtain ⟨a, ns, rfl, hS, hl, k⟩ := h
    refine ⟨_, (pss_cons (ps_setLc (i := 1) (own := [("cell", 3)]) (g := gName 3) (tt := _) rfl sc__law_source.nd rfl rfl (sw_true rfl rfl rfl (by decide +kernel)) (pi_list (pv 0)) (blkOk_by (N := N__law_source) (sc := defScope s__law_source) (by decide +kernel)) (fun _ _ _ _ _ => pg_name (i := 3) sc__law_source.nd rfl (Or.inl rfl)) (fun _ _ _ _ _ => pts_one (pt_cmpR op_ge (pe_callB call_abs (by rfl) B.abs_ (by decide +kernel) (pa_cons (pv 3) pa_nil)) (pe_op op_pow pe_int pe_int) (nomark _))) (fun _ _ _ _ _ => (pe_callB call_abs (by rfl) B.abs_ (by decide +kernel) (pa_cons (pv 3) pa_nil))))
    (pss_cons (ps_setLc (i := 2) (own := [("cell", 3)]) (g := gName 3) (tt := _) rfl sc__law_source.nd rfl rfl (sw_true rfl rfl rfl (by decide +kernel)) (pi_list (pv 0)) (blkOk_by (N := N__law_source) (sc := defScope s__law_source) (by decide +kernel)) (fun _ _ _ _ _ => pg_name (i := 3) sc__law_source.nd rfl (Or.inl rfl)) (fun _ _ _ _ _ => pts_one (pt_cmpR op_lt (pe_callB call_abs (by rfl) B.abs_ (by decide +kernel) (pa_cons (pv 3) pa_nil)) (pe_op op_pow pe_int pe_int) (nomark _))) (fun _ _ _ _ _ => (pv 3)))
    (pss_one (ps_ret (pe_lst (pa_cons (pv 1) (pa_cons (pv 2) (pa_cons pe_int (pa_cons pe_int pa_nil))))))))), ?_⟩
    have hcp := cp18
    have e18 : (10 : Int) ^ (18 : Int).toNat = 10 ^ 18 := rfl
    refine ⟨_, rfl, a, rfl, ⟨_, hS⟩, fun D hD => ?_⟩
    refine lc_list (K := K) (a := a) (xs := ns.map V.int) (fun i H' => Same H H' ∧ ∃ gs : List Int, gs.length ≤ i ∧ H' D = some (.lst (gs.map V.int))) ⟨L2.Same.upd hD, [], Nat.le_refl _, upd_same⟩ (fun i H' _ h => h.1.seq hS) ?_ ?_
    · rintro i x H' hi ⟨sm, gs, hgs, hD'⟩
      have hil : i < ns.length := by
        have := (List.getElem?_eq_some_iff.mp hi).1
        rw [List.length_map] at this
        exact this
      rw [getV hil] at hi
      obtain rfl := Option.some.inj hi
      refine ⟨rfl, ?_⟩
      walk_at "rd"
      refine ite2 (fun hc => ?_) (fun hc => ?_)
      · walk_at "rd"
        refine ⟨_, hD', by rw [List.length_map]; exact Nat.lt_of_le_of_lt hgs (Nat.lt_of_lt_of_le hil (Nat.le_trans hl (by decide))), sm.put hD, gs ++ [if ns[i] < 0 then -ns[i] else ns[i]], by rw [List.length_append]; exact Nat.add_le_add_right hgs 1, ?_⟩
        rw [upd_same, List.map_append]
        rfl
      · exact ⟨sm, gs, Nat.le_succ_of_le hgs, hD'⟩
    · rintro H' ⟨sm, gs, hgs, hD'⟩
      rw [List.length_map] at hgs
      walk_at "rd"
      refine ⟨⟨_, sm.seq hS⟩, fun D2 hD2 => ?_⟩
      refine lc_list (K := K) (a := a) (xs := ns.map V.int) (fun i H2 => Same H' H2 ∧ ∃ ss : List Int, ss.length ≤ i ∧ (∀ z ∈ ss, -(10 ^ 18) < z ∧ z < 10 ^ 18) ∧ H2 D2 = some (.lst (ss.map V.int))) ⟨L2.Same.upd hD2, [], Nat.le_refl _, (fun _ h => nomatch h), upd_same⟩ (fun i H2 _ h => (sm.trans h.1).seq hS) ?_ ?_
      · rintro i x H2 hi ⟨sm2, ss, hss, hb, hD2'⟩
        have hil : i < ns.length := by
          have := (List.getElem?_eq_some_iff.mp hi).1
          rw [List.length_map] at this
          exact this
        rw [getV hil] at hi
        obtain rfl := Option.some.inj hi
        refine ⟨rfl, ?_⟩
        walk_at "rd"
        refine ite2 (fun hc => ?_) (fun hc => ?_)
        · walk_at "rd"
          refine ⟨_, hD2', by rw [List.length_map]; exact Nat.lt_of_le_of_lt hss (Nat.lt_of_lt_of_le hil (Nat.le_trans hl (by decide))), sm2.put hD2, ss ++ [ns[i]], by rw [List.length_append]; exact Nat.add_le_add_right hss 1, fun z hz => ?_, ?_⟩
          · rcases List.mem_append.mp hz with h | h
            · exact hb z h
            · rw [List.mem_singleton.mp h]
              have := of_decide_eq_true hc
              rw [e18] at this
              split at this <;> omega
          · rw [upd_same, List.map_append]
            rfl
        · exact ⟨sm2, ss, Nat.le_succ_of_le hss, hb, hD2'⟩
      · rintro H2 ⟨sm2, ss, hss, hb, hD2'⟩
        rw [List.length_map] at hss
        walk_at "rd"
        intro s hs
        have ng : D ≠ s := ne_of_none (sm2 _ _ hD') hs
        have n2 : D2 ≠ s := ne_of_none hD2' hs
        have n3 : D2 ≠ D := fun e => by rw [e, hD'] at hD2; cases hD2
        refine k s D D2 _ ((sm.trans sm2).up hs) ((sm.trans sm2).free hs) hD (sm.free hD2) ⟨gs, ss, 0, 1, upd_same, ?_, ?_, n3, by omega, by omega, hb, by omega, by omega, by omega, by omega⟩
        · rw [upd_ne ng]
          exact sm2 _ _ hD'
        · rw [upd_ne n2]
          exact hD2'
end
abbrev s__law_draw : Stmt := top 28
abbrev N__law_draw : List Str := ["source", "limit", "great", "digit", "small", "place", "cell", "state"]
theorem sc__law_draw : FnScope N__law_draw ["source", "limit"] (defScope s__law_draw) := ⟨rfl, rfl, rfl, by decide +kernel, rfl, by decide +kernel, by decide +kernel⟩
section
variable {P : Program} {w : World} {K : PySem.W.Frag} {mg : Str → Option Value} {base : Heap}
def spDraw : Sp := fun vs H Q _ => ∃ (s g sm : Addr) (m : Nat) (b : Int), vs = [.ref s, .int b] ∧ Src H s g sm m ∧ m ≤ 2 ^ 40 ∧ 0 < b ∧ b < 1073741824 ∧ ∀ (c : Int) (H' : Hp), 0 ≤ c → c < b → Src H' s g sm (m + 1) → Same (out s g H) (out s g H') → Q (.int c) H'
theorem dp_ints {K : PySem.W.Frag} {H : Hp} : ∀ ns : List Int, DpAll K H (ns.map V.int) (ns.map PyData.int)
  | [] => .nil
  | z :: ns => .cons (.int z) (dp_ints ns)
theorem lay_ints : ∀ ns : List Int, PyData.canLayAll0 (ns.map PyData.int) = true
  | [] => rfl
  | z :: ns => by
    show (true && PyData.canLayAll0 (ns.map PyData.int)) = true
    rw [lay_ints ns]
    rfl
theorem depth_ints : ∀ ns : List Int, PyData.depthAll (ns.map PyData.int) ≤ 1
  | [] => Nat.zero_le _
  | z :: ns => by
    have ih := depth_ints ns
    simp only [List.map_cons, PyData.depthAll, PyData.depth]
    omega
theorem shaped_ints (ns : List Int) : SeqAt.shaped (.list (ns.map PyData.int)) = true := by
  have h1 := lay_ints ns
  have h2 := depth_ints ns
  show (PyData.canLayAll0 (ns.map PyData.int) && decide (PyData.depth (.list (ns.map PyData.int)) ≤ 64)) = true
  rw [h1, Bool.true_and, decide_eq_true_eq]
  simp only [PyData.depth]
  omega
/-- is a list of numbers empty? -/
theorem rd_some {K : PySem.W.Frag} {H : Hp} {p q : Addr} {ns : List Int} {Q : VK} (hp : H p = some (.lst (ns.map V.int))) (hq : H q = some (.lst [])) (k : Q (.bl (!decide (ns = []))) H) : rNeD K (.ref p) (.ref q) H Q := by
  refine ⟨_, _, .lst (SqL.of hp) (dp_ints ns), .lst (SqL.of hq) .nil, shaped_ints ns, shaped_ints [], ?_⟩
  cases ns with
  | nil => exact k
  | cons z ns => exact k
theorem ok__law_draw {f : Addr} {fd : FuncData} (F : Fun K "_law_draw" "_law_draw" s__law_draw f fd) (B : Bi mg) : FnOk P w K mg base CX0 2 f fd ["source", "limit"] spDraw := by
  refine F.ok sc__law_draw (fun vs H Q E h => ?_) (fun cdv A outer s0 H vs Q E hr h => ?_)
  · obtain ⟨s, g, sm, m, b, rfl, _⟩ := h
    rfl
  · obtain ⟨s, g, sm, m, b, rfl, S, hm, hb0, hb1, k⟩ := h
    refine ⟨_, (pss_cons (ps_set (i := 2) sc__law_draw.nd rfl (Or.inl rfl) (pe_ix ix_list (pv 0) pe_int (fun _ _ => rfl)))
    (pss_cons (ps_if (pt_cmpR (op_neD hr.units) (pv 2) (pe_lst pa_nil) (nomark _))
    (pss_cons (ps_set (i := 3) sc__law_draw.nd rfl (Or.inl rfl) (pe_op op_mod (pe_callTy call_int1 (by rfl) B.int_ (by decide +kernel) (pa_cons (pe_ix ix_list (pv 2) pe_int (fun _ _ => rfl)) pa_nil)) (pv 1)))
    (pss_cons (ps_asg (pe_op op_fdiv (pe_ix ix_list (pv 2) pe_int (fun _ _ => rfl)) (pv 1)) (pg_sub (pv 2) pe_int set_list))
    (pss_cons (ps_if (pt_cmpR op_eq (pe_ix ix_list (pv 2) pe_int (fun _ _ => rfl)) pe_int (nomark _))
    (pss_one (ps_expr (pe_bm PySem.F.plainAttrs_list PySem.F.slot_list_pop PySem.F.type_list_pop mt_popAt (pv 2) (pa_cons pe_int pa_nil))))
    pss_nil)
    (pss_one (ps_ret (pv 3))))))
    pss_nil)
    (pss_cons (ps_set (i := 4) sc__law_draw.nd rfl (Or.inl rfl) (pe_ix ix_list (pv 0) pe_int (fun _ _ => rfl)))
    (pss_cons (ps_set (i := 5) sc__law_draw.nd rfl (Or.inl rfl) (pe_ix ix_list (pv 0) pe_int (fun _ _ => rfl)))
    (pss_cons (ps_set (i := 6) sc__law_draw.nd rfl (Or.inl rfl) pe_int)
    (pss_cons (ps_if (pt_cmpR (op_neD hr.units) (pv 4) (pe_lst pa_nil) (nomark _))
    (pss_one (ps_set (i := 6) sc__law_draw.nd rfl (Or.inl rfl) (pe_ix ix_list (pv 4) (pe_op op_mod (pe_callTy call_int1 (by rfl) B.int_ (by decide +kernel) (pa_cons (pv 5) pa_nil)) (pe_callB call_len_seq (by rfl) B.len_ PySem.boot_len (pa_cons (pv 4) pa_nil))) (fun _ _ => rfl))))
    pss_nil)
    (pss_cons (ps_set (i := 7) sc__law_draw.nd rfl (Or.inl rfl) (pe_op op_mod (pe_callTy call_int1 (by rfl) B.int_ (by decide +kernel) (pa_cons (pe_op op_add (pe_op op_add (pe_op op_powW (pe_op op_add (pe_op op_add (pe_ix ix_list (pv 0) pe_int (fun _ _ => rfl)) (pv 6)) (pe_op op_mul pe_int (pv 5))) pe_int) (pe_op op_mul pe_int (pv 6))) pe_int) pa_nil)) pe_int))
    (pss_cons (ps_asg (pe_op op_add (pv 5) pe_int) (pg_sub (pv 0) pe_int set_list))
    (pss_cons (ps_asg (pv 7) (pg_sub (pv 0) pe_int set_list))
    (pss_one (ps_ret (pe_op op_mod (pe_callTy call_int1 (by rfl) B.int_ (by decide +kernel) (pa_cons (pe_op op_fdiv (pv 7) pe_int) pa_nil)) (pv 1))))))))))))), ?_⟩
    obtain ⟨gs, ss, pl, st, h1, h2, h3, nsg, hgl, hsl, hss, p0, p1, t0, t1⟩ := S.ex
    have nG : g ≠ s := fun e => by
      rw [e, h1] at h2
      cases gs with
      | nil => cases h2
      | cons => cases h2
    have nM : sm ≠ s := fun e => by
      rw [e, h1] at h3
      cases ss with
      | nil => cases h3
      | cons => cases h3
    have i0 : atI [V.ref g, V.ref sm, V.int pl, V.int st] 0 = some (V.ref g) := rfl
    have i1 : atI [V.ref g, V.ref sm, V.int pl, V.int st] 1 = some (V.ref sm) := rfl
    have i2 : atI [V.ref g, V.ref sm, V.int pl, V.int st] 2 = some (V.int pl) := rfl
    have i3 : atI [V.ref g, V.ref sm, V.int pl, V.int st] 3 = some (V.int st) := rfl
    walk_at "rd"
    intro e1 ze1
    generalize ee1 : upd _ e1 _ = H1
    obtain ⟨s1, he1⟩ := nw ee1 ze1
    have h1' := s1 _ _ h1
    have h2' := s1 _ _ h2
    have h3' := s1 _ _ h3
    refine rd_some h2' he1 ?_
    walk_at "rd"
    refine ite2 (fun hc => ?_) (fun hc => ?_)
    · obtain ⟨x, xs, rfl⟩ : ∃ x xs, gs = x :: xs := by
        cases gs with
        | nil => cases hc
        | cons x xs => exact ⟨x, xs, rfl⟩
      have j0 : atI ((x :: xs).map V.int) 0 = some (V.int x) := atI_k' (i := 0) 0 rfl rfl
      walk_at "rd"
      refine ⟨g, _, 0, 0, rfl, rfl, h2', ixN_nat (p := 0) (by rw [List.length_map]; exact Nat.succ_pos _), ?_⟩
      generalize eA : upd _ g _ = HA
      have hAg : HA g = some (.lst ((x / b :: xs).map V.int)) := by rw [← eA]; exact upd_same
      have hAs : HA s = some (.lst [V.ref g, V.ref sm, V.int pl, V.int st]) := by rw [← eA, upd_ne nG.symm]; exact h1'
      have hAm : HA sm = some (.lst (ss.map V.int)) := by rw [← eA, upd_ne nsg]; exact h3'
      have sA : Same (out s g H) (out s g HA) := s1.out.trans (eA ▸ out_put (.inr rfl))
      have j1 : atI ((x / b :: xs).map V.int) 0 = some (V.int (x / b)) := atI_k' (i := 0) 0 rfl rfl
      have c0 := Int.emod_nonneg x (show b ≠ 0 by omega)
      have c1 := Int.emod_lt_of_pos x hb0
      walk_at "rd"
      refine cutIf (fun σ H' => (∃ o, σ = [some (.ref s), some (.int b), some (.ref g), some (.int (x % b)), none, none, none, o]) ∧ Src H' s g sm (m + 1) ∧ Same (out s g H) (out s g H')) ?_ ?_ (fun _ => ⟨⟨_, rfl⟩, ⟨x / b :: xs, ss, pl, st, hAs, hAg, hAm, nsg, hgl, hsl, hss, p0, by omega, t0, t1⟩, sA⟩)
      · rintro σ H' ⟨⟨o, rfl⟩, S', s'⟩
        walk_at "rd"
        exact k _ _ c0 c1 S' s'
      · intro hT hc2
        walk_at "rd"
        refine ⟨g, _, 0, 0, _, rfl, rfl, hAg, by decide, by decide, seq0 (by rw [List.length_map]; exact Nat.succ_pos _), rfl, ?_⟩
        refine hT _ _ ⟨⟨_, rfl⟩, ⟨xs, ss, pl, st, ?_, ?_, ?_, nsg, Nat.le_of_succ_le hgl, hsl, hss, p0, by omega, t0, t1⟩, sA.trans (out_put (.inr rfl))⟩
        · rw [upd_ne nG.symm]; exact hAs
        · exact upd_same
        · rw [upd_ne nsg]; exact hAm
    · have hn : gs = [] := by
        cases gs with
        | nil => rfl
        | cons x xs => exact absurd rfl hc
      subst hn
      walk_at "rd"
      intro e2 ze2
      generalize ee2 : upd _ e2 _ = H2
      obtain ⟨s2, he2⟩ := nw ee2 ze2
      refine rd_some (s2 _ _ h3') he2 ?_
      walk_at "rd"
      have s02 := s1.trans s2
      have h12 := s02 _ _ h1
      have h22 := s02 _ _ h2
      have h32 := s02 _ _ h3
      refine cutIf (fun σ H' => H2 = H' ∧ ∃ c : Int, -(10 ^ 18) < c ∧ c < 10 ^ 18 ∧ σ = [some (.ref s), some (.int b), some (.ref g), none, some (.ref sm), some (.int pl), some (.int c), none]) ?_ ?_ (fun _ => ⟨rfl, 0, by omega, by omega, rfl⟩)
      rotate_left
      · intro hT hc2
        have hs0 : 0 < ss.length := by
          cases ss with
          | nil => cases hc2
          | cons => exact Nat.succ_pos _
        have hlv : ((ss.map V.int).length : Int) = (ss.length : Int) := by rw [List.length_map]
        have hp : (pl % ((ss.map V.int).length : Int)).toNat < ss.length := by
          rw [hlv]
          have q1 := Int.emod_nonneg pl (show (ss.length : Int) ≠ 0 by omega)
          have q2 := Int.emod_lt_of_pos pl (show (0 : Int) < (ss.length : Int) by omega)
          omega
        have iz : atI (ss.map V.int) (pl % ((ss.map V.int).length : Int)) = some (V.int (ss[(pl % ((ss.map V.int).length : Int)).toNat]'hp)) :=
          atI_k' _ (Int.toNat_of_nonneg (Int.emod_nonneg pl (by rw [hlv]; omega))).symm (getV hp)
        have hb := hss _ (List.getElem_mem hp)
        have pp : (0 : Int) < ((ss.map V.int).length : Int) := by rw [hlv]; omega
        repeat (first | exact hT _ _ ⟨rfl, _, hb.1, hb.2, rfl⟩ | walk_at "r")
      rintro σ _ ⟨rfl, c, c0, c1, rfl⟩
      have hpw : CPowW (st + c + 7919 * pl) 3 := ⟨by decide, 64, by omega, by decide⟩
      walk_at "rd"
      refine ⟨s, _, 2, 2, rfl, rfl, h12, rfl, ?_⟩
      generalize eA : upd _ s _ = HA
      have hAs : HA s = some (.lst [V.ref g, V.ref sm, V.int (pl + 1), V.int st]) := by rw [← eA]; exact upd_same
      have hAg : HA g = some (.lst (([] : List Int).map V.int)) := by rw [← eA, upd_ne nG]; exact h22
      have hAm : HA sm = some (.lst (ss.map V.int)) := by rw [← eA, upd_ne nM]; exact h32
      have sA : Same (out s g H) (out s g HA) := s02.out.trans (eA ▸ out_put (.inl rfl))
      walk_at "rd"
      refine ⟨s, _, 3, 3, rfl, rfl, hAs, rfl, ?_⟩
      have z0 := Int.emod_nonneg ((st + c + 7919 * pl) ^ (3 : Int).toNat + 48271 * c + 12345) (show (2147483629 : Int) ≠ 0 by decide)
      have z1 := Int.emod_lt_of_pos ((st + c + 7919 * pl) ^ (3 : Int).toNat + 48271 * c + 12345) (show (0 : Int) < 2147483629 by decide)
      walk_at "rd"
      refine k _ _ (Int.emod_nonneg _ (by omega)) (Int.emod_lt_of_pos _ hb0) ⟨[], ss, pl + 1, _, upd_same, ?_, ?_, nsg, by decide, hsl, hss, by omega, by omega, z0, z1⟩ (sA.trans (out_put (.inl rfl)))
      · rw [upd_ne nG]; exact hAg
      · rw [upd_ne nM]; exact hAm
end
abbrev s__law_number : Stmt := top 29
abbrev N__law_number : List Str := ["source", "limit", "parts", "number", "k"]
theorem sc__law_number : FnScope N__law_number ["source", "limit", "parts"] (defScope s__law_number) := ⟨rfl, rfl, rfl, by decide +kernel, rfl, by decide +kernel, by decide +kernel⟩
section
variable {P : Program} {w : World} {K : PySem.W.Frag} {mg : Str → Option Value} {base : Heap}
def spNumber : Sp := fun vs H Q _ => ∃ (s g sm : Addr) (m p : Nat) (b : Int), vs = [.ref s, .int b, .int p] ∧ Src H s g sm m ∧ m + p ≤ 2 ^ 40 ∧ 0 < b ∧ ∀ (c : Int) (H' : Hp), 0 ≤ c → c < b → Src H' s g sm (m + p) → Same (out s g H) (out s g H') → Q (.int c) H'
theorem ok__law_number {f : Addr} {fd : FuncData} (F : Fun K "_law_number" "_law_number" s__law_number f fd) (B : Bi mg) (D_law_draw : Df P w K mg base "_law_draw" 2 ["source", "limit"] spDraw) : FnOk P w K mg base CX0 3 f fd ["source", "limit", "parts"] spNumber := by
  refine F.ok sc__law_number (fun vs H Q E h => ?_) (fun cdv A outer s0 H vs Q E hr h => ?_)
  · obtain ⟨s, g, sm, m, p, b, rfl, _⟩ := h
    rfl
  · obtain ⟨s, g, sm, m, p, b, rfl, S, hm, hb, k⟩ := h
    refine ⟨_, (pss_cons (ps_set (i := 3) sc__law_number.nd rfl (Or.inl rfl) pe_int)
    (pss_cons (ps_for PassesOwn.never rfl (pi_range1 (by rfl) B.range_ (pa_cons (pv 2) pa_nil)) (pg_name (i := 4) sc__law_number.nd rfl (Or.inl rfl))
    (pss_one (ps_set (i := 3) sc__law_number.nd rfl (Or.inl rfl) (pe_op op_add (pe_op op_mul (pv 3) pe_int) (pe_df D_law_draw (hr.mono (by first | decide | omega)) (by rfl) (pa_cons (pv 0) (pa_cons pe_int pa_nil)))))))
    (pss_one (ps_ret (pe_op op_mod (pe_callTy call_int1 (by rfl) B.int_ (by decide +kernel) (pa_cons (pv 3) pa_nil)) (pv 1)))))), ?_⟩
    have hp62 : (p : Int) < 2 ^ 62 := by omega
    walk_at "rd"
    refine for_range (lo := 0) (n := (p : Int).toNat) (fun i σ H' => ∃ (c : Int) (o : Option V), σ = [some (.ref s), some (.int b), some (.int p), some (.int c), o] ∧ Src H' s g sm (m + i) ∧ Same (out s g H) (out s g H')) ⟨0, none, rfl, S, Same.refl _⟩ ?_ ?_
    · rintro i σ H' hi ⟨c, o, rfl, S', s1⟩
      walk_at "rd"
      refine ⟨s, g, sm, m + i, _, rfl, S', by omega, by decide, by decide, fun c2 H2 _ _ S2 s2 => ?_⟩
      walk_at "rd"
      exact ⟨_, _, rfl, S2, s1.trans s2⟩
    · rintro σ H' ⟨c, o, rfl, S', s1⟩
      walk_at "rd"
      exact k _ _ (Int.emod_nonneg _ (by omega)) (Int.emod_lt_of_pos _ hb) S' s1
end
abbrev s__law_lines : Stmt := top 30
abbrev N__law_lines : List Str := ["span", "lines", "k", "longer", "line"]
theorem sc__law_lines : FnScope N__law_lines ["span"] (defScope s__law_lines) := ⟨rfl, rfl, rfl, by decide +kernel, rfl, by decide +kernel, by decide +kernel⟩
section
variable {P : Program} {w : World} {K : PySem.W.Frag} {mg : Str → Option Value} {base : Heap}
/-- a part of a row: no two strokes side by side -/
def Half (k : Nat) (l : List Nat) : Prop := l.length = k ∧ Signs l ∧ ∀ i : Nat, ¬ (l[i]? = some 45 ∧ l[i + 1]? = some 45)
theorem Half.add {k c : Nat} {l : List Nat} (h : Half k l) (hc : c = 45 ∨ c = 46) (h1 : c = 45 → l.getLast? ≠ some 45) : Half (k + 1) (l ++ [c]) := by
  obtain ⟨h2, h3, h4⟩ := h
  refine ⟨by rw [List.length_append, h2]; rfl, fun x hx => ?_, fun i ⟨g1, g2⟩ => ?_⟩
  · rcases List.mem_append.mp hx with h | h
    · exact h3 x h
    · rw [List.mem_singleton.mp h]
      exact hc
  · have hi := (List.getElem?_eq_some_iff.mp g2).1
    rw [List.length_append, List.length_singleton] at hi
    by_cases hl : i + 1 < l.length
    · rw [List.getElem?_append_left (by omega)] at g1
      rw [List.getElem?_append_left hl] at g2
      exact h4 i ⟨g1, g2⟩
    · have e : i + 1 = l.length := by omega
      rw [List.getElem?_append_left (by omega)] at g1
      rw [e, List.getElem?_append_right (Nat.le_refl _), Nat.sub_self] at g2
      have ec : c = 45 := by simpa using g2
      refine h1 ec ?_
      rw [List.getLast?_eq_getElem?, show l.length - 1 = i by omega]
      exact g1
theorem Half.row {k : Nat} {l : List Nat} (h : Half k l) (h0 : 0 < k) (he : l[0]? = some 46 ∨ l[k - 1]? = some 46) : Row l := by
  obtain ⟨rfl, h3, h4⟩ := h
  exact Part.row (n := l.length) ⟨h3, h4, fun _ ⟨g1, g2⟩ => by rcases he with e | e <;> simp_all⟩ rfl h0
def dots (k : Nat) : Str := ⟨(List.replicate k 46).toArray⟩
theorem tl_dots (k : Nat) : tl (dots k) = List.replicate k 46 := rfl
theorem dots_add (k : Nat) : dots k ++ Str.ofString "." = dots (k + 1) := ext_tl (by
  rw [tl_append, tl_dots, tl_dots, show tl (Str.ofString ".") = [46] by decide +kernel, List.replicate_succ'])
theorem is_dot {c : Nat} (h : decide (V.str (⟨#[c]⟩ : Str) = V.str (Str.ofString ".")) = true) : c = 46 := by
  have e := of_decide_eq_true h
  injection e with e
  have e2 := congrArg tl e
  rw [show tl (Str.ofString ".") = [46] by decide +kernel] at e2
  injection e2
theorem no_dot {z : Str} {k : Nat} (h : z = dots k) {i c : Nat} (e : (tl z)[i]? = some c) : c = 46 := by
  rw [h, tl_dots, List.getElem?_replicate] at e
  split at e
  · exact (Option.some.inj e).symm
  · cases e
def spLinesSpan : Sp := fun vs H Q _ => ∃ n : Nat, vs = [.int n] ∧ 0 < n ∧ n ≤ 6 ∧ ∀ (ls : List Str) (q : Addr) (H' : Hp), Rows n ls → ls.length ≤ 64 → Same H H' → H q = none → H' q = some (.lst (ls.map V.str)) → Q (.ref q) H'
theorem ok__law_lines {f : Addr} {fd : FuncData} (F : Fun K "_law_lines" "_law_lines" s__law_lines f fd) (B : Bi mg) : FnOk P w K mg base CX0 2 f fd ["span"] spLinesSpan := by
  refine F.ok sc__law_lines (fun vs H Q E h => ?_) (fun cdv A outer s0 H vs Q E hr h => ?_)
  · obtain ⟨n, rfl, _⟩ := h
    rfl
  · obtain ⟨n, rfl, hn0, hn6, k⟩ := h
    refine ⟨_, (pss_cons (ps_set (i := 1) sc__law_lines.nd rfl (Or.inl rfl) (pe_lst (pa_cons pe_str pa_nil)))
    (pss_cons (ps_for PassesOwn.never rfl (pi_range1 (by rfl) B.range_ (pa_cons (pv 0) pa_nil)) (pg_name (i := 2) sc__law_lines.nd rfl (Or.inl rfl))
    (pss_cons (ps_set (i := 3) sc__law_lines.nd rfl (Or.inl rfl) (pe_lst pa_nil))
    (pss_cons (ps_for PassesOwn.never rfl (pi_list (pv 1)) (pg_name (i := 4) sc__law_lines.nd rfl (Or.inl rfl))
    (pss_cons (ps_expr (pe_bm PySem.F.plainAttrs_list PySem.F.slot_list_append PySem.F.type_list_append mt_append (pv 3) (pa_cons (pe_op op_add_str (pv 4) pe_str) pa_nil)))
    (pss_one (ps_if (pt_cmpR op_ne (pe_slice sl_str (pv 4) (po_some (pe_un un_neg pe_int)) po_none) pe_str (nomark _))
    (pss_one (ps_expr (pe_bm PySem.F.plainAttrs_list PySem.F.slot_list_append PySem.F.type_list_append mt_append (pv 3) (pa_cons (pe_op op_add_str (pv 4) pe_str) pa_nil))))
    pss_nil))))
    (pss_one (ps_set (i := 1) sc__law_lines.nd rfl (Or.inl rfl) (pv 3))))))
    (pss_one (ps_ret (pe_lc (own := [("line", 4)]) (g := gName 4) (tt := _) rfl sc__law_lines.nd (pi_list (pv 1)) (blkOk_by (N := N__law_lines) (sc := defScope s__law_lines) (by decide +kernel)) (fun _ _ _ _ _ => pg_name (i := 4) sc__law_lines.nd rfl (Or.inl rfl)) (fun _ _ _ _ _ => pts_one (PW.pt (pw_or (pt_cmpR op_eq (pe_ix ix_str (pv 4) pe_int (fun _ _ => rfl)) pe_str (nomark _)) (pw_or1 (pt_cmpR op_eq (pe_ix ix_str (pv 4) (pe_un un_neg pe_int) (fun _ _ => rfl)) pe_str (nomark _)))))) (fun _ _ _ _ _ => (pv 4))))))), ?_⟩
    have hn62 : (n : Int) < 2 ^ 62 := by omega
    have e45 : tl (Str.ofString "-") = [45] := by decide +kernel
    have e46 : tl (Str.ofString ".") = [46] := by decide +kernel
    walk_at "rd"
    intro l0 zl0
    generalize el0 : upd _ l0 _ = H1
    obtain ⟨s1, hl0⟩ := nw el0 zl0
    walk_at "rd"
    refine for_range (lo := 0) (n := (n : Int).toNat) (fun i σ H' => ∃ (ls : List Str) (q : Addr) (o2 o3 o4 : Option V), σ = [some (.int n), some (.ref q), o2, o3, o4] ∧ Same H H' ∧ H q = none ∧ H' q = some (.lst (ls.map V.str)) ∧ (∀ z ∈ ls, Half i (tl z)) ∧ dots i ∈ ls ∧ ls.length ≤ 2 ^ i)
      ⟨[Str.ofString ""], l0, none, none, none, rfl, s1, zl0, hl0, fun z hz => ?_, ?_, Nat.le_refl _⟩ ?_ ?_
    · rw [List.mem_singleton.mp hz, show tl (Str.ofString "") = [] by decide +kernel]
      exact ⟨rfl, (fun _ h => by cases h), fun i h => by simp at h⟩
    · exact List.mem_singleton.mpr (ext_tl (by rw [tl_dots]; decide +kernel))
    · rintro i σ H' hi ⟨ls, q, o2, o3, o4, rfl, s2, zq, hq, hH, hd, hl⟩
      have hi6 : i < 6 := by omega
      have hl64 : ls.length ≤ 32 := Nat.le_trans hl (by have := Nat.pow_le_pow_right (show 0 < 2 by decide) (show i ≤ 5 by omega); omega)
      walk_at "rd"
      intro D zD
      generalize eD : upd _ D _ = H2
      obtain ⟨s3, hD⟩ := nw eD zD
      have nqD : q ≠ D := ne_of_none hq zD
      walk_at "rd"
      refine ⟨⟨_, SqL.of (s3 _ _ hq)⟩, ?_⟩
      refine for_list (K := K) (a := q) (xs := ls.map V.str) (fun j σ H3 => ∃ (ms : List Str) (o4 : Option V), σ = [some (.int n), some (.ref q), some (.int (0 + (i : Int))), some (.ref D), o4] ∧ Same H' H3 ∧ H3 D = some (.lst (ms.map V.str)) ∧ (∀ z ∈ ms, Half (i + 1) (tl z)) ∧ (dots i ∈ ls.take j → dots (i + 1) ∈ ms) ∧ ms.length ≤ 2 * j)
        ⟨[], _, rfl, s3, hD, (fun _ h => nomatch h), (fun h => by simp at h), Nat.le_refl _⟩ (fun j σ H3 _ h => by
          obtain ⟨_, _, _, s, _⟩ := h
          exact SqL.of (s _ _ hq)) ?_ ?_
      · rintro j x σ H3 hj ⟨ms, o4, rfl, s4, hD3, hM, hdm, hml⟩
        have hjl : j < ls.length := by
          have := (List.getElem?_eq_some_iff.mp hj).1
          rw [List.length_map] at this
          exact this
        rw [getS hjl] at hj
        obtain rfl := Option.some.inj hj
        have hz := hH _ (List.getElem_mem hjl)
        have hzl : (ls[j]'hjl).length = i := by rw [len_tl]; exact hz.1
        have hs46 : (ls[j]'hjl).length + (Str.ofString ".").length ≤ sizeLine := by
          rw [hzl, show (Str.ofString ".").length = 1 by decide +kernel]
          exact Nat.le_trans (show i + 1 ≤ 7 by omega) (by decide)
        have hs45 : (ls[j]'hjl).length + (Str.ofString "-").length ≤ sizeLine := by
          rw [hzl, show (Str.ofString "-").length = 1 by decide +kernel]
          exact Nat.le_trans (show i + 1 ≤ 7 by omega) (by decide)
        have hzs : (ls[j]'hjl).length ≤ sizeLine := by rw [hzl]; exact Nat.le_trans (show i ≤ 7 by omega) (by decide)
        have hms : ∀ x : Nat, x ≤ 2 * 32 + 2 → x < sizeLine := fun x hx => Nat.lt_of_le_of_lt hx (by decide)
        walk_at "rd"
        refine ⟨D, _, _, rfl, rfl, hD3, by rw [List.length_map]; exact hms _ (by omega), ?_⟩
        generalize eA : upd _ D _ = HA
        have hA : HA D = some (.lst ((ms ++ [ls[j]'hjl ++ Str.ofString "."]).map V.str)) := by rw [← eA, upd_same, List.map_append]; rfl
        have sA : Same H' HA := by rw [← eA]; exact s4.put zD
        have mA : ∀ z ∈ ms ++ [ls[j]'hjl ++ Str.ofString "."], Half (i + 1) (tl z) := fun z hz2 => by
          rcases List.mem_append.mp hz2 with h | h
          · exact hM z h
          · rw [List.mem_singleton.mp h, tl_append, e46]
            exact hz.add (.inr rfl) (fun h => by cases h)
        have dA : dots i ∈ ls.take (j + 1) → dots (i + 1) ∈ ms ++ [ls[j]'hjl ++ Str.ofString "."] := fun h => by
          rw [List.take_add_one, List.getElem?_eq_getElem hjl] at h
          rcases List.mem_append.mp h with h | h
          · exact List.mem_append_left _ (hdm h)
          · rw [← dots_add, show dots i = ls[j]'hjl by simpa using h]
            exact List.mem_append_right _ (List.mem_singleton.mpr rfl)
        walk_at "rd"
        refine ite2 (fun hc => ?_) (fun hc => ?_)
        · have hm : (tl (ls[j]'hjl)).getLast? ≠ some 45 := fun h2 => by
            rw [cut_last h2] at hc
            exact absurd hc (by decide +kernel)
          walk_at "rd"
          refine ⟨D, _, _, rfl, rfl, hA, by rw [List.length_map, List.length_append]; exact hms _ (by simp; omega), ?_⟩
          refine ⟨(ms ++ [ls[j]'hjl ++ Str.ofString "."]) ++ [ls[j]'hjl ++ Str.ofString "-"], _, rfl, sA.put zD, by rw [upd_same]; simp, fun z hz2 => ?_, fun h => List.mem_append_left _ (dA h), by rw [List.length_append, List.length_append]; simp; omega⟩
          rcases List.mem_append.mp hz2 with h | h
          · exact mA z h
          · rw [List.mem_singleton.mp h, tl_append, e45]
            exact hz.add (.inl rfl) (fun _ => hm)
        · exact ⟨_, _, rfl, sA, hA, mA, dA, by rw [List.length_append]; simp; omega⟩
      · rintro σ H3 ⟨ms, o4, rfl, s4, hD3, hM, hdm, hml⟩
        rw [List.length_map] at hml hdm
        walk_at "rd"
        refine ⟨ms, D, _, _, _, rfl, s2.trans s4, s2.free zD, hD3, hM, hdm (by rw [List.take_length]; exact hd), ?_⟩
        rw [Nat.pow_succ]
        omega
    · rintro σ H' ⟨ls, q, o2, o3, o4, rfl, s2, zq, hq, hH, hd, hl⟩
      rw [show (n : Int).toNat = n from rfl] at hH hd hl
      have hl64 : ls.length ≤ 64 := Nat.le_trans hl (by have := Nat.pow_le_pow_right (show 0 < 2 by decide) (show n ≤ 6 by omega); omega)
      walk_at "rd"
      refine ⟨⟨_, SqL.of hq⟩, fun D hD => ?_⟩
      refine lc_list (K := K) (a := q) (xs := ls.map V.str) (fun j H3 => ∃ ms : List Str, Same H' H3 ∧ H3 D = some (.lst (ms.map V.str)) ∧ (∀ z ∈ ms, (tl z).length = n ∧ Row (tl z)) ∧ (dots n ∈ ls.take j → dots n ∈ ms) ∧ ms.length ≤ j)
        ⟨[], L2.Same.upd hD, upd_same, (fun _ h => by cases h), (fun h => by simp at h), Nat.le_refl _⟩ (fun j H3 _ h => by
          obtain ⟨_, s, _⟩ := h
          exact SqL.of (s _ _ hq)) ?_ ?_
      · rintro j x H3 hj ⟨ms, s4, hD3, hM, hdm, hml⟩
        have hjl : j < ls.length := by
          have := (List.getElem?_eq_some_iff.mp hj).1
          rw [List.length_map] at this
          exact this
        rw [getS hjl] at hj
        obtain rfl := Option.some.inj hj
        have hz := hH _ (List.getElem_mem hjl)
        have hz1 : (tl (ls[j]'hjl)).length = n := hz.1
        have hzl : (ls[j]'hjl).length ≤ sizeLine := by rw [len_tl, hz1]; exact Nat.le_trans hn6 (by decide)
        have ia : atI (tl (ls[j]'hjl)) 0 = some ((tl (ls[j]'hjl))[0]'(by omega)) := atI_k' (i := 0) 0 rfl (List.getElem?_eq_getElem (by omega))
        have ib : atI (tl (ls[j]'hjl)) (-1) = some ((tl (ls[j]'hjl))[n - 1]'(by omega)) := atI_back ((congrArg (fun m => (tl (ls[j]'hjl))[m - 1]?) hz1).trans (List.getElem?_eq_getElem (by omega)))
        have hdk : ∀ ms' : List Str, (∀ z ∈ ms, z ∈ ms') → (ls[j]'hjl = dots n → dots n ∈ ms') → dots n ∈ ls.take (j + 1) → dots n ∈ ms' := fun ms' h1 h2 h => by
          rw [List.take_add_one, List.getElem?_eq_getElem hjl] at h
          rcases List.mem_append.mp h with h | h
          · exact h1 _ (hdm h)
          · exact h2 (List.mem_singleton.mp (show dots n ∈ [ls[j]'hjl] from h)).symm
        refine ⟨rfl, ?_⟩
        walk_at "rd"
        have take : ((tl (ls[j]'hjl))[0]? = some 46 ∨ (tl (ls[j]'hjl))[n - 1]? = some 46) → ∃ acc : List V, H3 D = some (.lst acc) ∧ acc.length < sizeLine ∧ (fun j H3 => ∃ ms : List Str, Same H' H3 ∧ H3 D = some (.lst (ms.map V.str)) ∧ (∀ z ∈ ms, (tl z).length = n ∧ Row (tl z)) ∧ (dots n ∈ ls.take j → dots n ∈ ms) ∧ ms.length ≤ j) (j + 1) (upd H3 D (.lst (acc ++ [V.str (ls[j]'hjl)]))) := fun he =>
          ⟨_, hD3, by rw [List.length_map]; exact Nat.lt_of_le_of_lt (show ms.length ≤ 64 by omega) (by decide), ms ++ [ls[j]'hjl], s4.put hD, by rw [upd_same, List.map_append]; rfl, fun z hz2 => by
            rcases List.mem_append.mp hz2 with h | h
            · exact hM z h
            · rw [List.mem_singleton.mp h]
              exact ⟨hz1, hz.row hn0 he⟩, hdk _ (fun z h => List.mem_append_left _ h) (fun h => h ▸ List.mem_append_right _ (List.mem_singleton.mpr rfl)), by rw [List.length_append]; simp; omega⟩
        have q0 : (tl (ls[j]'hjl))[0]? = some _ := List.getElem?_eq_getElem (by omega)
        have qn : (tl (ls[j]'hjl))[n - 1]? = some _ := List.getElem?_eq_getElem (by omega)
        refine ⟨_, _, _, rfl, rfl, hzl, ia, ?_⟩
        walk_at "rd"
        refine ite2 (fun hc => ?_) (fun hc => ?_)
        · walk_at "rd"
          exact take (.inl (q0.trans (congrArg some (is_dot hc))))
        walk_at "rd"
        refine ⟨_, _, _, rfl, rfl, hzl, ib, ?_⟩
        walk_at "rd"
        refine ite2 (fun hc2 => ?_) (fun hc2 => ?_)
        · walk_at "rd"
          exact take (.inr (qn.trans (congrArg some (is_dot hc2))))
        · refine ⟨ms, s4, hD3, hM, hdk ms (fun z h => h) (fun h => ?_), by omega⟩
          have e := no_dot h qn
          rw [e] at hc2
          exact absurd (show decide (V.str (⟨#[46]⟩ : Str) = V.str (Str.ofString ".")) = true by decide +kernel) hc2
      · rintro H3 ⟨ms, s4, hD3, hM, hdm, hml⟩
        rw [List.length_map] at hml hdm
        rw [List.take_length] at hdm
        refine k ms D H3 ⟨List.length_pos_of_mem (hdm hd), fun z hz => (hM z hz).1, fun z hz => (hM z hz).2⟩ (by omega) (s2.trans s4) (s2.free hD) hD3
end
abbrev s__law_texts : Stmt := top 31
abbrev N__law_texts : List Str := ["source", "most", "way", "span", "lines", "texts", "k", "last"]
theorem sc__law_texts : FnScope N__law_texts ["source", "most"] (defScope s__law_texts) := ⟨rfl, rfl, rfl, by decide +kernel, rfl, by decide +kernel, by decide +kernel⟩
section
variable {P : Program} {w : World} {K : PySem.W.Frag} {mg : Str → Option Value} {base : Heap}
theorem sIx_back {n d : Nat} (h : 0 < n) : HT.sIx n d (some (-1)) = n - 1 := by
  show (if (-1 : Int) < 0 then ((-1 : Int) + (n : Int)).toNat else min (-1 : Int).toNat n) = _
  rw [if_pos (by decide)]
  omega
theorem tl_cut (z : Str) (i j : Option Int) : tl (cutS z i j) = ((tl z).drop (HT.sIx z.length 0 i)).take (HT.sIx z.length z.length j - HT.sIx z.length 0 i) := rfl
theorem tl_back {z : Str} (h : 0 < (tl z).length) : tl (cutS z (some (-1)) none) = (tl z).drop ((tl z).length - 1) := by
  rw [tl_cut, sIx_back (by rw [len_tl]; exact h)]
  show ((tl z).drop (z.length - 1)).take (z.length - (z.length - 1)) = _
  rw [len_tl, List.take_of_length_le (by rw [List.length_drop]; omega)]
theorem tl_front {z : Str} (h : 0 < (tl z).length) : tl (cutS z none (some (-1))) = (tl z).take ((tl z).length - 1) := by
  rw [tl_cut, sIx_back (by rw [len_tl]; exact h)]
  show ((tl z).drop 0).take (z.length - 1 - 0) = _
  rw [List.drop_zero, Nat.sub_zero, len_tl]
theorem tl_from {z : Str} (c : Nat) : tl (cutS z (some (c : Int)) none) = (tl z).drop c := by
  rw [tl_cut, sIx_nat]
  show ((tl z).drop (min c z.length)).take (z.length - min c z.length) = _
  rw [len_tl]
  by_cases h : c ≤ (tl z).length
  · rw [Nat.min_eq_left h, List.take_of_length_le (by rw [List.length_drop]; exact Nat.le_refl _)]
  · rw [Nat.min_eq_right (by omega), Nat.sub_self, List.take_zero, List.drop_of_length_le (by omega)]
theorem tl_to {z : Str} (c : Nat) : tl (cutS z none (some (c : Int))) = (tl z).take c := by
  rw [tl_cut, sIx_nat]
  show ((tl z).drop 0).take (min c z.length - 0) = _
  rw [List.drop_zero, Nat.sub_zero, len_tl]
  by_cases h : c ≤ (tl z).length
  · rw [Nat.min_eq_left h]
  · rw [Nat.min_eq_right (by omega), List.take_of_length_le (Nat.le_refl _), List.take_of_length_le (by omega)]
theorem sg_turn {l : List Nat} (h : 0 < l.length) {c : Nat} (hc : c ≤ l.length) : ∀ k : Nat, k < (l.drop c ++ l.take c).length → (l.drop c ++ l.take c)[k]? = some (sg l ((k : Int) + (c : Int))) := fun k hk => by
  have hlen : (l.drop c ++ l.take c).length = l.length := by rw [List.length_append, List.length_drop, List.length_take, Nat.min_eq_left hc]; omega
  rw [hlen] at hk
  by_cases h1 : k < l.length - c
  · rw [List.getElem?_append_left (by rw [List.length_drop]; exact h1), List.getElem?_drop]
    have e : (k : Int) + (c : Int) = ((c + k : Nat) : Int) := by omega
    rw [e]
    exact sg_nat (by omega)
  · rw [List.getElem?_append_right (by rw [List.length_drop]; omega), List.length_drop, List.getElem?_take_of_lt (by omega)]
    have e : (k : Int) + (c : Int) = ((k - (l.length - c) : Nat) : Int) + (l.length : Int) := by omega
    rw [e, sg_add]
    exact sg_nat (by omega)
theorem Row.turn {l : List Nat} (R : Row l) {c : Nat} (hc : c ≤ l.length) : Row (l.drop c ++ l.take c) := by
  have hlen : (l.drop c ++ l.take c).length = l.length := by rw [List.length_append, List.length_drop, List.length_take, Nat.min_eq_left hc]; omega
  refine R.move (f := fun i => i + (c : Int)) (by rw [hlen]; exact R.ne) (sg_turn R.ne hc) (fun i => sg_congr ?_) (fun i => .inl (by show i + 1 + (c : Int) = i + (c : Int) + 1; omega))
  show (i % _ + (c : Int)) % _ = (i + (c : Int)) % _
  rw [hlen, Int.emod_add_emod]
theorem at_lt {ls : List Str} {c : Int} (h0 : 0 ≤ c) (h : c < ((ls.map V.str).length : Nat)) : ∃ z, z ∈ ls ∧ atI (ls.map V.str) c = some (V.str z) := by
  rw [List.length_map] at h
  have hc : c.toNat < ls.length := by omega
  exact ⟨ls[c.toNat], List.getElem_mem hc, atI_k' c.toNat (by omega) (getS hc)⟩
def spTexts : Sp := fun vs H Q _ => ∃ (s g sm : Addr) (m : Nat) (mo : Int), vs = [.ref s, .int mo] ∧ Src H s g sm m ∧ m + 30 ≤ 2 ^ 40 ∧ 6 ≤ mo ∧
  ∀ (n : Nat) (ls : List Str) (q : Addr) (H' : Hp), Rows n ls → n ≤ 6 → ls.length ≤ 9 → Src H' s g sm (m + 30) → Same (out s g H) (out s g H') → H q = none → out s g H' q = some (.lst (ls.map V.str)) → Q (.ref q) H'
theorem or_go {c : Bool} {H' : Hp} {σ : St} {K : Bool → Hp → Prop} {t : TT} (W : Hp → Prop) (hK : ∀ b H2, W H2 → K b H2) (h0 : W H') (ht : (∀ b H2, W H2 → K b H2) → t σ H' K) : if c = true then K true H' else t σ H' K := by
  cases c with
  | true => exact hK true H' h0
  | false => exact ht hK
structure TxAt (H : Hp) (s g sm L D : Addr) (sp m i : Nat) (ls ms : List Str) (H' : Hp) : Prop where
  d : H' D = some (.lst (ms.map V.str))
  w : Rows sp ms
  l : ms.length ≤ 1 + i
  src : Src H' s g sm (m + 4 + 2 * i)
  fr : Same (out s g H) (out s g H')
  o : out s g H' L = some (.lst (ls.map V.str))
theorem TxAt.add {H : Hp} {s g sm L D : Addr} {sp m i j m2 r : Nat} {ls ms : List Str} {H' H2 : Hp} {y : Str} (T : TxAt H s g sm L D sp m i ls ms H') (S0 : Src H s g sm r) (zD : H D = none) (nLD : L ≠ D) (hd : H2 D = some (.lst (ms.map V.str))) (S2 : Src H2 s g sm m2) (hm : m2 ≤ m + 4 + 2 * (i + 1)) (t2 : Same (out s g H) (out s g H2)) (o2 : out s g H2 L = some (.lst (ls.map V.str)))
    (hy : (tl y).length = sp) (ry : Row (tl y)) (hj : j = i + 1) : TxAt H s g sm L D sp m j ls (ms ++ [y]) (upd H2 D (.lst (ms.map V.str ++ [V.str y]))) := by
  subst hj
  refine ⟨by rw [upd_same, List.map_append]; rfl, ⟨by rw [List.length_append]; exact Nat.succ_pos _, fun z hz => ?_, fun z hz => ?_⟩, by rw [List.length_append]; exact Nat.succ_le_succ T.l, (S2.put S0 zD).mono hm, out_set t2 zD, by rw [out_ne nLD]; exact o2⟩
  · rcases List.mem_append.mp hz with h | h
    · exact T.w.len z h
    · rw [List.mem_singleton.mp h]; exact hy
  · rcases List.mem_append.mp hz with h | h
    · exact T.w.row z h
    · rw [List.mem_singleton.mp h]; exact ry
theorem ok__law_texts {f : Addr} {fd : FuncData} (F : Fun K "_law_texts" "_law_texts" s__law_texts f fd) (B : Bi mg) (D_law_draw : Df P w K mg base "_law_draw" 2 ["source", "limit"] spDraw) (D_law_lines : Df P w K mg base "_law_lines" 2 ["span"] spLinesSpan) : FnOk P w K mg base CX0 3 f fd ["source", "most"] spTexts := by
  refine F.ok sc__law_texts (fun vs H Q E h => ?_) (fun cdv A outer s0 H vs Q E hr h => ?_)
  · obtain ⟨s, g, sm, m, mo, rfl, _⟩ := h
    rfl
  · obtain ⟨s, g, sm, m, mo, rfl, S, hm, hmo, k⟩ := h
    refine ⟨_, (pss_cons (ps_set (i := 2) sc__law_texts.nd rfl (Or.inl rfl) (pe_df D_law_draw (hr.mono (by first | decide | omega)) (by rfl) (pa_cons (pv 0) (pa_cons pe_int pa_nil))))
    (pss_cons (ps_set (i := 3) sc__law_texts.nd rfl (Or.inl rfl) (pe_ix ix_list (pe_lst (pa_cons pe_int (pa_cons pe_int (pa_cons pe_int (pa_cons pe_int (pa_cons pe_int (pa_cons pe_int (pa_cons pe_int (pa_cons pe_int (pa_cons pe_int pa_nil)))))))))) (pe_df D_law_draw (hr.mono (by first | decide | omega)) (by rfl) (pa_cons (pv 0) (pa_cons pe_int pa_nil))) (fun _ _ => rfl)))
    (pss_cons (ps_set (i := 4) sc__law_texts.nd rfl (Or.inl rfl) (pe_df D_law_lines (hr.mono (by first | decide | omega)) (by rfl) (pa_cons (pv 3) pa_nil)))
    (pss_cons (ps_set (i := 5) sc__law_texts.nd rfl (Or.inl rfl) (pe_lst (pa_cons (pe_ix ix_list (pv 4) (pe_df D_law_draw (hr.mono (by first | decide | omega)) (by rfl) (pa_cons (pv 0) (pa_cons (pe_callB call_len_seq (by rfl) B.len_ PySem.boot_len (pa_cons (pv 4) pa_nil)) pa_nil))) (fun _ _ => rfl)) pa_nil)))
    (pss_cons (ps_for PassesOwn.never rfl (pi_range1 (by rfl) B.range_ (pa_cons (pe_df D_law_draw (hr.mono (by first | decide | omega)) (by rfl) (pa_cons (pv 0) (pa_cons (pe_callB (call_min2 rfl) (by rfl) B.min_ (by decide +kernel) (pa_cons pe_int (pa_cons (pe_op op_fdiv (pv 1) (pv 3)) pa_nil))) pa_nil))) pa_nil)) (pg_name (i := 6) sc__law_texts.nd rfl (Or.inl rfl))
    (pss_cons (ps_set (i := 7) sc__law_texts.nd rfl (Or.inl rfl) (pe_ix ix_list (pv 5) (pe_un un_neg pe_int) (fun _ _ => rfl)))
    (pss_one (ps_if (PW.pt (pw_or (pt_cmpR op_eq (pv 2) pe_int (nomark _)) (pw_or1 (PW.pt (pw_and (pt_cmpR op_eq (pv 2) pe_int (nomark _)) (pw_and1 (pt_cmpR op_eq (pe_df D_law_draw (hr.mono (by first | decide | omega)) (by rfl) (pa_cons (pv 0) (pa_cons pe_int pa_nil))) pe_int (nomark _))))))))
    (pss_one (ps_expr (pe_bm PySem.F.plainAttrs_list PySem.F.slot_list_append PySem.F.type_list_append mt_append (pv 5) (pa_cons (pe_op op_add_str (pe_slice sl_str (pv 7) (po_some (pe_un un_neg pe_int)) po_none) (pe_slice sl_str (pv 7) po_none (po_some (pe_un un_neg pe_int)))) pa_nil))))
    (pss_one (ps_if (pt_cmpR op_eq (pv 2) pe_int (nomark _))
    (pss_one (ps_expr (pe_bm PySem.F.plainAttrs_list PySem.F.slot_list_append PySem.F.type_list_append mt_append (pv 5) (pa_cons (pe_op op_add_str (pe_slice sl_str (pv 7) (po_some pe_int) po_none) (pe_slice sl_str (pv 7) po_none (po_some pe_int))) pa_nil))))
    (pss_one (ps_expr (pe_bm PySem.F.plainAttrs_list PySem.F.slot_list_append PySem.F.type_list_append mt_append (pv 5) (pa_cons (pe_ix ix_list (pv 4) (pe_df D_law_draw (hr.mono (by first | decide | omega)) (by rfl) (pa_cons (pv 0) (pa_cons (pe_callB call_len_seq (by rfl) B.len_ PySem.boot_len (pa_cons (pv 4) pa_nil)) pa_nil))) (fun _ _ => rfl)) pa_nil))))))))))
    (pss_one (ps_ret (pv 5)))))))), ?_⟩
    walk_at "rd"
    refine ⟨s, g, sm, m, _, rfl, S, by omega, by decide, by decide, fun way H1 w0 w1 S1 t1 => ?_⟩
    walk_at "rd"
    intro p1 zp1
    generalize ep1 : upd _ p1 _ = H2
    obtain ⟨s2, hp1⟩ := nw ep1 zp1
    have S2 := S1.same s2
    walk_at "rd"
    refine ⟨s, g, sm, m + 1, _, rfl, S2, by omega, by decide, by decide, fun c H3 c0 c1 S3 t3 => ?_⟩
    have hp13 : H3 p1 = some _ := out_same _ _ (t3 _ _ (S1.keep zp1 hp1))
    obtain ⟨sp, ic, sp0, sp6⟩ : ∃ sp : Nat, atI [V.int 1, V.int 2, V.int 2, V.int 3, V.int 3, V.int 4, V.int 4, V.int 5, V.int 6] c = some (V.int sp) ∧ 0 < sp ∧ sp ≤ 6 := by
      have hc : c = 0 ∨ c = 1 ∨ c = 2 ∨ c = 3 ∨ c = 4 ∨ c = 5 ∨ c = 6 ∨ c = 7 ∨ c = 8 := by omega
      rcases hc with rfl | rfl | rfl | rfl | rfl | rfl | rfl | rfl | rfl
      · exact ⟨1, rfl, by decide, by decide⟩
      · exact ⟨2, rfl, by decide, by decide⟩
      · exact ⟨2, rfl, by decide, by decide⟩
      · exact ⟨3, rfl, by decide, by decide⟩
      · exact ⟨3, rfl, by decide, by decide⟩
      · exact ⟨4, rfl, by decide, by decide⟩
      · exact ⟨4, rfl, by decide, by decide⟩
      · exact ⟨5, rfl, by decide, by decide⟩
      · exact ⟨6, rfl, by decide, by decide⟩
    walk_at "rd"
    intro ls L H4 W hl64 s4 zL hL
    have S4 := S3.same s4
    have hl0 := W.ne
    walk_at "rd"
    have pL : (0 : Int) < ((ls.map V.str).length : Nat) := by rw [List.length_map]; omega
    have pL2 : ((ls.map V.str).length : Int) < 1073741824 := by rw [List.length_map]; omega
    refine ⟨s, g, sm, m + 2, _, rfl, S4, by omega, pL, pL2, fun c2 H5 c20 c21 S5 t5 => ?_⟩
    have tt : Same (out s g H) (out s g H5) := t1.trans (s2.out.trans (t3.trans (s4.out.trans t5)))
    have oL : out s g H5 L = some (.lst (ls.map V.str)) := t5 _ _ (S3.keep zL hL)
    have hL5 := out_same _ _ oL
    obtain ⟨z0, hz0, iz0⟩ := at_lt c20 c21
    walk_at "rd"
    intro D zD
    generalize eD : upd _ D _ = H6
    obtain ⟨s6, hD⟩ := nw eD zD
    have S6 := S5.same s6
    have oL6 := s6.out _ _ oL
    have zDH : H D = none := S5.free tt zD
    have hsp : (0 : Int) < (sp : Int) := by omega
    have hdv : 1 ≤ mo / (sp : Int) := by
      rw [Int.le_ediv_iff_mul_le hsp]
      omega
    walk_at "rd"
    refine ⟨_, _, rfl, ?_⟩
    generalize elim : (if mo / (sp : Int) < 9 then mo / (sp : Int) else 9) = lim
    have hlim : 1 ≤ lim ∧ lim ≤ 9 := by
      rw [← elim]
      split <;> omega
    walk_at "rd"
    refine ⟨s, g, sm, m + 3, _, rfl, S6, by omega, by omega, by omega, fun c3 H7 c30 c31 S7 t7 => ?_⟩
    have nLD : L ≠ D := fun e => by rw [e] at hL5; rw [hL5] at zD; cases zD
    have oD7 : H7 D = some (.lst [V.str z0]) := out_same _ _ (t7 _ _ (S5.keep zD hD))
    walk_at "rd"
    refine for_range (lo := 0) (n := c3.toNat) (fun i σ H' => ∃ (ms : List Str) (o6 o7 : Option V), σ = [some (.ref s), some (.int mo), some (.int way), some (.int sp), some (.ref L), some (.ref D), o6, o7] ∧ TxAt H s g sm L D sp m i ls ms H')
      ⟨[z0], none, none, rfl, oD7, ⟨Nat.succ_pos 0, fun z hz => by rw [List.mem_singleton.mp hz]; exact W.len _ hz0, fun z hz => by rw [List.mem_singleton.mp hz]; exact W.row _ hz0⟩, Nat.le_refl _, S7, (tt.trans s6.out).trans t7, t7 _ _ oL6⟩ ?_ ?_
    · rintro i σ H' hi ⟨ms, o6, o7, rfl, TX⟩
      have hi8 : i < 9 := by omega
      have hm0 := TX.w.ne
      have hml := TX.l
      have hlast : ms[ms.length - 1]'(by omega) ∈ ms := List.getElem_mem (by omega)
      generalize ez : ms[ms.length - 1]'(by omega) = z at hlast
      have iz : atI (ms.map V.str) (-1) = some (V.str z) := atI_back (by rw [List.length_map, List.getElem?_map, List.getElem?_eq_getElem (by omega), ez]; rfl)
      have hzn : (tl z).length = sp := TX.w.len _ hlast
      have hzr := TX.w.row _ hlast
      have hz0' : 0 < (tl z).length := by omega
      have big : ∀ x : Nat, x ≤ 100 → x < sizeLine := fun x hx => Nat.lt_of_le_of_lt hx (by decide)
      have hzl : z.length ≤ sizeLine := Nat.le_of_lt (big _ (by rw [len_tl]; omega))
      have hdl : (ms.map V.str).length < sizeLine := big _ (by rw [List.length_map]; omega)
      have hD' := TX.d
      have hL' := out_same _ _ TX.o
      have hyl1 : (cutS z (some (-1)) none).length + (cutS z none (some (-1))).length ≤ sizeLine := Nat.le_of_lt (big _ (by rw [len_tl, len_tl, tl_back hz0', tl_front hz0', List.length_drop, List.length_take]; omega))
      have e1 : tl (cutS z (some (-1)) none ++ cutS z none (some (-1))) = (tl z).drop ((tl z).length - 1) ++ (tl z).take ((tl z).length - 1) := by rw [tl_append, tl_back hz0', tl_front hz0']
      have r1 := hzr.turn (c := (tl z).length - 1) (by omega)
      have n1 : ((tl z).drop ((tl z).length - 1) ++ (tl z).take ((tl z).length - 1)).length = sp := by rw [List.length_append, List.length_drop, List.length_take]; omega
      rw [← e1] at r1 n1
      have hyl2 : (cutS z (some 1) none).length + (cutS z none (some 1)).length ≤ sizeLine := Nat.le_of_lt (big _ (by
        have a1 := tl_from (z := z) 1
        have a2 := tl_to (z := z) 1
        rw [len_tl, len_tl]
        rw [show ((1 : Nat) : Int) = 1 from rfl] at a1 a2
        rw [a1, a2, List.length_drop, List.length_take]; omega))
      have e2 : tl (cutS z (some 1) none ++ cutS z none (some 1)) = (tl z).drop 1 ++ (tl z).take 1 := by
        have a1 := tl_from (z := z) 1
        have a2 := tl_to (z := z) 1
        rw [show ((1 : Nat) : Int) = 1 from rfl] at a1 a2
        rw [tl_append, a1, a2]
      have r2 := hzr.turn (c := 1) (by omega)
      have n2 : ((tl z).drop 1 ++ (tl z).take 1).length = sp := by rw [List.length_append, List.length_drop, List.length_take]; omega
      rw [← e2] at r2 n2
      walk_at "rd"
      refine or_go (fun H2 => ∃ m2, m2 ≤ m + 4 + 2 * i + 1 ∧ Src H2 s g sm m2 ∧ Same (out s g H) (out s g H2) ∧ H2 D = some (.lst (ms.map V.str)) ∧ out s g H2 L = some (.lst (ls.map V.str))) ?_ ⟨_, by omega, TX.src, TX.fr, TX.d, TX.o⟩ ?_
      · rintro b H2 ⟨m2, hm2, S2', f2, hd2, ho2⟩
        have hL2 := out_same _ _ ho2
        refine ite2 (fun hb => ?_) (fun hb => ?_)
        · walk_at "rd"
          refine ⟨D, _, _, rfl, rfl, hd2, hdl, ?_⟩
          exact ⟨_, _, _, rfl, TX.add S zDH nLD hd2 S2' (by omega) f2 ho2 n1 r1 rfl⟩
        · walk_at "rd"
          refine ite2 (fun hw => ?_) (fun hw => ?_)
          · walk_at "rd"
            refine ⟨D, _, _, rfl, rfl, hd2, hdl, ?_⟩
            exact ⟨_, _, _, rfl, TX.add S zDH nLD hd2 S2' (by omega) f2 ho2 n2 r2 rfl⟩
          · walk_at "rd"
            refine ⟨s, g, sm, m2, _, rfl, S2', by omega, pL, pL2, fun c4 H8 c40 c41 S8 t8 => ?_⟩
            obtain ⟨z4, hz4, iz4⟩ := at_lt c40 c41
            have oD8 : H8 D = some (.lst (ms.map V.str)) := by
              obtain ⟨q1, q2, _⟩ := S.new zDH
              have : out s g H2 D = some (.lst (ms.map V.str)) := by rw [out_at q1 q2]; exact hd2
              exact out_same _ _ (t8 _ _ this)
            have hL8 := out_same _ _ (t8 _ _ ho2)
            walk_at "rd"
            refine ⟨D, _, _, rfl, rfl, oD8, hdl, ?_⟩
            exact ⟨_, _, _, rfl, TX.add S zDH nLD oD8 S8 (by omega) (f2.trans t8) (t8 _ _ ho2) (W.len _ hz4) (W.row _ hz4) rfl⟩
      · intro hK
        walk_at "rd"
        refine ite2 (fun _ => ?_) (fun _ => ?_)
        · walk_at "rd"
          refine ⟨s, g, sm, m + 4 + 2 * i, _, rfl, TX.src, by omega, by decide, by decide, fun c5 H9 _ _ S9 t9 => ?_⟩
          walk_at "rd"
          have oD9 : H9 D = some (.lst (ms.map V.str)) := by
            obtain ⟨q1, q2, _⟩ := S.new zDH
            have : out s g H' D = some (.lst (ms.map V.str)) := by rw [out_at q1 q2]; exact TX.d
            exact out_same _ _ (t9 _ _ this)
          exact hK _ _ ⟨_, Nat.le_refl _, S9, TX.fr.trans t9, oD9, t9 _ _ TX.o⟩
        · exact hK _ _ ⟨_, by omega, TX.src, TX.fr, TX.d, TX.o⟩
    · rintro σ H' ⟨ms, o6, o7, rfl, TX⟩
      walk_at "rd"
      have hD2 : out s g H' D = some (.lst (ms.map V.str)) := by
        obtain ⟨n1, n2, _⟩ := S.new zDH
        rw [out_at n1 n2]
        exact TX.d
      have hml := TX.l
      exact k sp ms D H' TX.w sp6 (by omega) (TX.src.mono (by omega)) TX.fr zDH hD2
end
abbrev s__law_crossed : Stmt := top 32
abbrev N__law_crossed : List Str := ["line", "total", "at"]
theorem sc__law_crossed : FnScope N__law_crossed ["line", "total", "at"] (defScope s__law_crossed) := ⟨rfl, rfl, rfl, by decide +kernel, rfl, by decide +kernel, by decide +kernel⟩
section
variable {P : Program} {w : World} {K : PySem.W.Frag} {mg : Str → Option Value} {base : Heap}
def spCrossed : Sp := fun vs H Q _ => ∃ (z : Str) (sz q : Int), vs = [.str z, .int sz, .int q] ∧ 0 < (tl z).length ∧ (tl z).length ≤ 5000 ∧ 0 ≤ q ∧ Q (.int (cross z sz q)) H
theorem ok__law_crossed {f : Addr} {fd : FuncData} (F : Fun K "_law_crossed" "_law_crossed" s__law_crossed f fd) (B : Bi mg) : FnOk P w K mg base CX0 2 f fd ["line", "total", "at"] spCrossed := by
  refine F.ok sc__law_crossed (fun vs H Q E h => ?_) (fun cdv A outer s0 H vs Q E hr h => ?_)
  · obtain ⟨z, sz, q, rfl, _⟩ := h
    rfl
  · obtain ⟨z, sz, q, rfl, hz0, hz1, hq, k⟩ := h
    refine ⟨_, (pss_cons (ps_if (PW.pt (pw_and (pt_cmpR op_lt (pe_op op_add (pv 2) pe_int) (pv 1) (nomark _)) (pw_and1 (pt_cmpR op_eq (pe_ix ix_str (pv 0) (pe_op op_mod (pe_callTy call_int1 (by rfl) B.int_ (by decide +kernel) (pa_cons (pv 2) pa_nil)) (pe_callB call_len_str (by rfl) B.len_ PySem.boot_len (pa_cons (pv 0) pa_nil))) (fun _ _ => rfl)) pe_str (nomark _)))))
    (pss_one (ps_ret (pe_op op_add (pv 2) pe_int)))
    pss_nil)
    (pss_cons (ps_if (PW.pt (pw_and (pt_cmpR op_gt (pv 2) pe_int (nomark _)) (pw_and1 (pt_cmpR op_eq (pe_ix ix_str (pv 0) (pe_op op_mod (pe_callTy call_int1 (by rfl) B.int_ (by decide +kernel) (pa_cons (pe_op op_sub (pv 2) pe_int) pa_nil)) (pe_callB call_len_str (by rfl) B.len_ PySem.boot_len (pa_cons (pv 0) pa_nil))) (fun _ _ => rfl)) pe_str (nomark _)))))
    (pss_one (ps_ret (pe_op op_sub (pv 2) pe_int)))
    pss_nil)
    (pss_one (ps_ret (pv 2))))), ?_⟩
    have hzl : z.length ≤ sizeLine := by rw [len_tl]; exact Nat.le_trans hz1 (by decide)
    have ic : ∀ q : Int, atI z.cps.toList (q % (z.length : Int)) = some (sg (tl z) q) := fun q => by
      rw [len_tl]
      exact atI_sg hz0 q
    have pn : (0 : Int) < (z.length : Int) := by rw [len_tl]; omega
    walk_at "rd"
    refine cutAnd (fun σ H' => H = H' ∧ σ = [some (.str z), some (.int sz), some (.int q)] ∧ (decide (q + 1 < sz) && rungB z q) = false) ?_ ?_ ?_
    · rintro σ _ ⟨rfl, rfl, h1⟩
      walk_at "rd"
      refine ite2 (fun hc => ?_) (fun hc => ?_)
      · walk_at "rd"
        refine ⟨_, _, _, rfl, rfl, hzl, ic _, ?_⟩
        walk_at "rd"
        refine ite2 (fun hb => ?_) (fun hb => ?_)
        · rw [cross_dn h1 (of_decide_eq_true hc) hb] at k
          walk_at "rd"
          exact k
        · rw [cross_no h1 (fun h => hb h.2)] at k
          walk_at "rd"
          exact k
      · rw [cross_no h1 (fun h => hc (decide_eq_true h.1))] at k
        walk_at "rd"
        exact k
    · intro hT hc
      walk_at "rd"
      refine ⟨_, _, _, rfl, rfl, hzl, ic _, ?_⟩
      walk_at "rd"
      refine ite2 (fun hb => ?_) (fun hb => ?_)
      · rw [cross_up hc hb] at k
        walk_at "rd"
        exact k
      · exact hT _ _ ⟨rfl, rfl, by rw [show rungB z q = false from Bool.eq_false_iff.mpr hb, Bool.and_false]⟩
    · intro hc
      exact ⟨rfl, rfl, by rw [hc]; rfl⟩
end
abbrev s__law_walk : Stmt := top 33
abbrev N__law_walk : List Str := ["texts", "total", "at", "depth", "posts", "k"]
theorem sc__law_walk : FnScope N__law_walk ["texts", "total", "at", "depth"] (defScope s__law_walk) := ⟨rfl, rfl, rfl, by decide +kernel, rfl, by decide +kernel, by decide +kernel⟩
section
variable {P : Program} {w : World} {K : PySem.W.Frag} {mg : Str → Option Value} {base : Heap}
def spWalk : Sp := fun vs H Q _ => ∃ (t : Addr) (sz q : Int) (d n : Nat) (ls : List Str), vs = [.ref t, .int sz, .int q, .int d] ∧ H t = some (.lst (ls.map V.str)) ∧ Rows n ls ∧ n ≤ 5000 ∧ ls.length ≤ 5000 ∧ 0 ≤ q ∧ q < sz ∧ d ≤ 100000 ∧
  ∀ (D : Addr) (H' : Hp), Same H H' → H D = none → H' D = some (.lst ((way ls sz q (d + 1)).map V.int)) → Q (.ref D) H'
theorem ok__law_walk {f : Addr} {fd : FuncData} (F : Fun K "_law_walk" "_law_walk" s__law_walk f fd) (B : Bi mg) (D_law_crossed : Df P w K mg base "_law_crossed" 2 ["line", "total", "at"] spCrossed) : FnOk P w K mg base CX0 3 f fd ["texts", "total", "at", "depth"] spWalk := by
  refine F.ok sc__law_walk (fun vs H Q E h => ?_) (fun cdv A outer s0 H vs Q E hr h => ?_)
  · obtain ⟨t, sz, q, d, n, ls, rfl, _⟩ := h
    rfl
  · obtain ⟨t, sz, q, d, n, ls, rfl, ht, W, hn, hl, h0, h1, hd, k⟩ := h
    refine ⟨_, (pss_cons (ps_set (i := 4) sc__law_walk.nd rfl (Or.inl rfl) (pe_lst (pa_cons (pv 2) pa_nil)))
    (pss_cons (ps_for PassesOwn.never rfl (pi_range1 (by rfl) B.range_ (pa_cons (pv 3) pa_nil)) (pg_name (i := 5) sc__law_walk.nd rfl (Or.inl rfl))
    (pss_cons (ps_set (i := 2) sc__law_walk.nd rfl (Or.inl rfl) (pe_df D_law_crossed (hr.mono (by first | decide | omega)) (by rfl) (pa_cons (pe_ix ix_list (pv 0) (pe_op op_mod (pe_callTy call_int1 (by rfl) B.int_ (by decide +kernel) (pa_cons (pv 5) pa_nil)) (pe_callB call_len_seq (by rfl) B.len_ PySem.boot_len (pa_cons (pv 0) pa_nil))) (fun _ _ => rfl)) (pa_cons (pv 1) (pa_cons (pv 2) pa_nil)))))
    (pss_one (ps_expr (pe_bm PySem.F.plainAttrs_list PySem.F.slot_list_append PySem.F.type_list_append mt_append (pv 4) (pa_cons (pv 2) pa_nil))))))
    (pss_one (ps_ret (pv 4))))), ?_⟩
    have hd62 : (d : Int) < 2 ^ 62 := by omega
    walk_at "rd"
    intro D zD
    generalize eD : upd _ D _ = H1
    obtain ⟨s1, hD⟩ := nw eD zD
    walk_at "rd"
    refine for_range (lo := 0) (n := (d : Int).toNat) (fun i σ H' => ∃ o, σ = [some (.ref t), some (.int sz), some (.int (wk ls sz q i)), some (.int d), some (.ref D), o] ∧ Same H H' ∧ H' D = some (.lst ((way ls sz q (i + 1)).map V.int))) ⟨none, rfl, s1, hD⟩ ?_ ?_
    · rintro i σ H' hi ⟨o, rfl, s2, hD'⟩
      have ht' := s2 _ _ ht
      have pl : (0 : Int) < ((ls.map V.str).length : Nat) := by rw [List.length_map]; exact Int.natCast_pos.mpr W.ne
      have ix : atI (ls.map V.str) ((0 + (i : Int)) % ((ls.map V.str).length : Nat)) = some (V.str (rowAt ls i)) := by
        rw [List.length_map, Int.zero_add]
        exact atI_k' _ (Int.toNat_of_nonneg (Int.emod_nonneg _ (by have := W.ne; omega))).symm (by rw [List.getElem?_map, rowAt_get W.ne i]; rfl)
      walk_at "rd"
      have hmem := rowAt_mem W.ne i
      refine ⟨_, sz, _, rfl, (W.row _ hmem).ne, by rw [W.len _ hmem]; exact hn, (wk_on h0 h1 i).1, ?_⟩
      walk_at "rd"
      refine ⟨D, _, _, rfl, rfl, hD', by rw [List.length_map, way_len]; exact Nat.lt_of_le_of_lt (show i + 1 ≤ 100000 by omega) (by decide), ?_⟩
      refine ⟨_, rfl, s2.put zD, ?_⟩
      rw [upd_same, way_add ls sz q (i + 1), List.map_append]
      rfl
    · rintro σ H' ⟨o, rfl, s2, hD'⟩
      walk_at "rd"
      exact k D H' s2 zD hD'
end
abbrev s__law_same : Stmt := top 34
abbrev N__law_same : List Str := ["actual", "expected", "k"]
theorem sc__law_same : FnScope N__law_same ["actual", "expected"] (defScope s__law_same) := ⟨rfl, rfl, rfl, by decide +kernel, rfl, by decide +kernel, by decide +kernel⟩
section
variable {P : Program} {w : World} {K : PySem.W.Frag} {mg : Str → Option Value} {base : Heap}
def spSameA : Sp := fun vs H Q _ => ∃ (a b : Addr) (xs : List Int), vs = [.ref a, .ref b] ∧ H a = some (.lst (xs.map V.int)) ∧ H b = some (.lst (xs.map V.int)) ∧ xs.length ≤ 200000 ∧ Q (.bl true) H
theorem ok__law_same {f : Addr} {fd : FuncData} (F : Fun K "_law_same" "_law_same" s__law_same f fd) (B : Bi mg) : FnOk P w K mg base CX0 2 f fd ["actual", "expected"] spSameA := by
  refine F.ok sc__law_same (fun vs H Q E h => ?_) (fun cdv A outer s0 H vs Q E hr h => ?_)
  · obtain ⟨a, b, xs, rfl, _⟩ := h
    rfl
  · obtain ⟨a, b, xs, rfl, ha, hb, hl, k⟩ := h
    refine ⟨_, (pss_cons (ps_if (PW.pt (pw_or (pt_not (pt_val (pe_callB call_isi (by rfl) B.isinstance_ (by decide +kernel) (pa_cons (pv 0) (pa_cons (pe_bltn (v := .ty "list") (u := .type "list") (by rfl) B.list_ (by decide +kernel) rfl) pa_nil))))) (pw_or1 (pt_cmpR op_ne (pe_callB call_len_seq (by rfl) B.len_ PySem.boot_len (pa_cons (pv 0) pa_nil)) (pe_callB call_len_seq (by rfl) B.len_ PySem.boot_len (pa_cons (pv 1) pa_nil)) (nomark _)))))
    (pss_one (ps_ret pe_bl))
    pss_nil)
    (pss_cons (ps_for PassesOwn.never rfl (pi_range1 (by rfl) B.range_ (pa_cons (pe_callB call_len_seq (by rfl) B.len_ PySem.boot_len (pa_cons (pv 1) pa_nil)) pa_nil)) (pg_name (i := 2) sc__law_same.nd rfl (Or.inl rfl))
    (pss_one (ps_if (PW.pt (pw_or (pt_val (pe_callB call_isi (by rfl) B.isinstance_ (by decide +kernel) (pa_cons (pe_ix ix_list (pv 0) (pv 2) (fun _ _ => rfl)) (pa_cons (pe_bltn (v := .ty "bool") (u := .type "bool") (by rfl) B.bool_ (by decide +kernel) rfl) pa_nil)))) (pw_or (pt_not (pt_val (pe_callB call_isi (by rfl) B.isinstance_ (by decide +kernel) (pa_cons (pe_ix ix_list (pv 0) (pv 2) (fun _ _ => rfl)) (pa_cons (pe_bltn (v := .ty "int") (u := .type "int") (by rfl) B.int_ (by decide +kernel) rfl) pa_nil))))) (pw_or1 (pt_cmpR op_ne (pe_ix ix_list (pv 0) (pv 2) (fun _ _ => rfl)) (pe_ix ix_list (pv 1) (pv 2) (fun _ _ => rfl)) (nomark _))))))
    (pss_one (ps_ret pe_bl))
    pss_nil)))
    (pss_one (ps_ret pe_bl)))), ?_⟩
    have hx62 : ((xs.map V.int).length : Int) < 2 ^ 62 := by rw [List.length_map]; omega
    walk_at "rd"
    refine ⟨_, _, _, _, true, rfl, .ty _, .base (.lst ha), kit_ty (by decide +kernel), ?_⟩
    walk_at "rd"
    refine iteNS rfl ?_
    walk_at "rd"
    refine for_range (lo := 0) (n := ((xs.map V.int).length : Int).toNat) (fun i σ H' => H = H' ∧ ∃ o, σ = [some (.ref a), some (.ref b), o]) ⟨rfl, none, rfl⟩ ?_ ?_
    · rintro i σ _ hi ⟨rfl, o, rfl⟩
      have hil : i < xs.length := by rw [List.length_map] at hi; exact hi
      have ix : atI (xs.map V.int) (0 + (i : Int)) = some (V.int xs[i]) := atI_k' i (by omega) (getV hil)
      walk_at "rd"
      refine ⟨_, _, _, _, false, rfl, .ty _, .base (.int _), kit_ty (by decide +kernel), ?_⟩
      walk_at "rd"
      refine ⟨_, _, _, _, true, rfl, .ty _, .base (.int _), kit_ty (by decide +kernel), ?_⟩
      walk_at "rd"
      refine iteNS rfl ?_
      exact ⟨rfl, _, rfl⟩
    · rintro σ _ ⟨rfl, o, rfl⟩
      walk_at "rd"
      exact k
end
abbrev s__law_wrong : Stmt := top 35
abbrev N__law_wrong : List Str := ["source", "good", "above", "far", "kind"]
theorem sc__law_wrong : FnScope N__law_wrong ["source", "good", "above"] (defScope s__law_wrong) := ⟨rfl, rfl, rfl, by decide +kernel, rfl, by decide +kernel, by decide +kernel⟩
section
variable {P : Program} {w : World} {K : PySem.W.Frag} {mg : Str → Option Value} {base : Heap}
def spWrong : Sp := fun vs H Q _ => ∃ (s g sm : Addr) (m : Nat) (a b : Int), vs = [.ref s, .int a, .int b] ∧ Src H s g sm m ∧ m + 10 ≤ 2 ^ 40 ∧ ∀ (c : Int) (H' : Hp), Src H' s g sm (m + 10) → Same (out s g H) (out s g H') → Q (.int c) H'
theorem ok__law_wrong {f : Addr} {fd : FuncData} (F : Fun K "_law_wrong" "_law_wrong" s__law_wrong f fd) (B : Bi mg) (D_law_draw : Df P w K mg base "_law_draw" 2 ["source", "limit"] spDraw) (D_law_number : Df P w K mg base "_law_number" 3 ["source", "limit", "parts"] spNumber) : FnOk P w K mg base CX0 4 f fd ["source", "good", "above"] spWrong := by
  refine F.ok sc__law_wrong (fun vs H Q E h => ?_) (fun cdv A outer s0 H vs Q E hr h => ?_)
  · obtain ⟨s, g, sm, m, a, b, rfl, _⟩ := h
    rfl
  · obtain ⟨s, g, sm, m, a, b, rfl, S, hm, k⟩ := h
    refine ⟨_, (pss_cons (ps_if (pt_cmpR op_ne (pe_df D_law_draw (hr.mono (by first | decide | omega)) (by rfl) (pa_cons (pv 0) (pa_cons pe_int pa_nil))) pe_int (nomark _))
    (pss_one (ps_ret (pv 1)))
    pss_nil)
    (pss_cons (ps_set (i := 3) sc__law_wrong.nd rfl (Or.inl rfl) (pe_df D_law_number (hr.mono (by first | decide | omega)) (by rfl) (pa_cons (pv 0) (pa_cons (pe_op op_pow pe_int pe_int) (pa_cons pe_int pa_nil)))))
    (pss_cons (ps_set (i := 4) sc__law_wrong.nd rfl (Or.inl rfl) (pe_df D_law_draw (hr.mono (by first | decide | omega)) (by rfl) (pa_cons (pv 0) (pa_cons pe_int pa_nil))))
    (pss_cons (ps_if (pt_cmpR op_eq (pv 4) pe_int (nomark _))
    (pss_one (ps_ret (pe_un un_neg pe_int)))
    pss_nil)
    (pss_cons (ps_if (pt_cmpR op_eq (pv 4) pe_int (nomark _))
    (pss_one (ps_ret (pe_op op_sub (pe_un un_neg pe_int) (pv 3))))
    pss_nil)
    (pss_cons (ps_if (pt_cmpR op_eq (pv 4) pe_int (nomark _))
    (pss_one (ps_ret (pv 2)))
    pss_nil)
    (pss_one (ps_ret (pe_op op_add (pv 2) (pv 3)))))))))), ?_⟩
    have hcp := cp30
    walk_at "rd"
    refine ⟨s, g, sm, m, _, rfl, S, by omega, by decide, by decide, fun c0 H1 w0 w1 S1 t1 => ?_⟩
    walk_at "rd"
    refine ite2 (fun hc => ?_) (fun hc => ?_)
    · walk_at "rd"
      exact k _ _ (S1.mono (by omega)) t1
    walk_at "rd"
    refine ⟨s, g, sm, m + 1, 5, _, rfl, S1, by omega, by decide, fun c H2 c0 c1 S2 t2 => ?_⟩
    walk_at "rd"
    refine ⟨s, g, sm, _, _, rfl, S2, by omega, by decide, by decide, fun c4 H3 w2 w3 S3 t3 => ?_⟩
    have t := t1.trans (t2.trans t3)
    have S9 := S3.mono (show m + 1 + 5 + 1 ≤ m + 10 by omega)
    walk_at "rd"
    refine ite2 (fun hc => ?_) (fun hc => ?_)
    · walk_at "rd"
      exact k _ _ S9 t
    walk_at "rd"
    refine ite2 (fun hc => ?_) (fun hc => ?_)
    · walk_at "rd"
      exact k _ _ S9 t
    walk_at "rd"
    refine ite2 (fun hc => ?_) (fun hc => ?_)
    · walk_at "rd"
      exact k _ _ S9 t
    walk_at "rd"
    exact k _ _ S9 t
end
abbrev s_walk_of_x : Stmt := top 17
abbrev N_walk_of_x : List Str := ["rule", "n", "post", "rows"]
theorem sc_walk_of_x : FnScope N_walk_of_x ["rule", "n", "post", "rows"] (defScope s_walk_of_x) := ⟨rfl, rfl, rfl, by decide +kernel, rfl, by decide +kernel, by decide +kernel⟩
section
variable {P : Program} {w : World} {K : PySem.W.Frag} {mg : Str → Option Value} {base : Heap}
def spWalkX (C CS CP CN : Addr) : Sp := fun vs H Q E => ∃ (p : Addr) (sz q dep : Int) (n : Nat) (ls : List Str), vs = [.ref p, .int sz, .int q, .int dep] ∧ RuleAt C H p ls ∧ Rows n ls ∧ n ≤ 5000 ∧ dep ≤ 100000 ∧ Asked1 Q E H CS CP CN sz q dep
theorem ok_walk_of_x {f C C_InvalidSize C_InvalidPost C_InvalidNumber : Addr} {fd : FuncData} (F : Fun K "walk_of" "walk_of" s_walk_of_x f fd) (B : Bi mg) (DX_check_size : DfX P w K mg base "check_size" 4 ["n"] (spChk C_InvalidSize 1)) (DX_check_post : DfX P w K mg base "check_post" 4 ["post", "n"] (spChkP C_InvalidPost)) (DX_check_number : DfX P w K mg base "check_number" 4 ["number"] (spChk C_InvalidNumber 0)) (D_way : Df P w K mg base "_way" 6 ["rule", "n", "post", "rows"] (spWay C)) : FnOk P w K mg base (L2.CX P w) 7 f fd ["rule", "n", "post", "rows"] (spWalkX C C_InvalidSize C_InvalidPost C_InvalidNumber) := by
  refine F.okX sc_walk_of_x (fun vs H Q E h => ?_) (fun cdv A outer s0 H vs Q E hr h => ?_)
  · obtain ⟨p, sz, q, dep, n, ls, rfl, _⟩ := h
    rfl
  · obtain ⟨p, sz, q, dep, n, ls, rfl, R, W, hn, hd, kS, kP, kN, k⟩ := h
    refine ⟨_, (pss_cons (ps_expr (pe_dfS DX_check_size (hr.mono (by first | decide | omega)) (by rfl) (takes_of rfl rfl rfl rfl) (pa_cons (pv 1) pa_nil)))
    (pss_cons (ps_expr (pe_dfS DX_check_post (hr.mono (by first | decide | omega)) (by rfl) (takes_of rfl rfl rfl rfl) (pa_cons (pv 2) (pa_cons (pv 1) pa_nil))))
    (pss_cons (ps_expr (pe_dfS DX_check_number (hr.mono (by first | decide | omega)) (by rfl) (takes_of rfl rfl rfl rfl) (pa_cons (pv 3) pa_nil)))
    (pss_one (ps_ret (pe_df D_way (hr.mono (by first | decide | omega)) (by rfl) (pa_cons (pv 0) (pa_cons (pv 1) (pa_cons (pv 2) (pa_cons (pv 3) pa_nil)))))))))), ?_⟩
    walk_at "rd"
    refine ⟨fun hs => ?_, fun h d hd => kS h d hd⟩
    walk_at "rd"
    refine ⟨q, sz, rfl, fun h0 h1 => ?_, fun h d hd => kP hs h d hd⟩
    walk_at "rd"
    refine ⟨fun hp => ?_, fun h d hd => kN hs h0 h1 h d hd⟩
    obtain ⟨d, rfl⟩ := Int.eq_ofNat_of_zero_le hp
    walk_at "rd"
    exact ⟨p, sz, q, d, n, ls, rfl, R, W, hn, h0, h1, by omega, fun t H' s zt ht => k hs h0 h1 hp _ _ s⟩
end
abbrev s_round_of_x : Stmt := top 18
abbrev N_round_of_x : List Str := ["rule", "n", "post"]
theorem sc_round_of_x : FnScope N_round_of_x ["rule", "n"] (defScope s_round_of_x) := ⟨rfl, rfl, rfl, by decide +kernel, rfl, by decide +kernel, by decide +kernel⟩
section
variable {P : Program} {w : World} {K : PySem.W.Frag} {mg : Str → Option Value} {base : Heap}
def spRoundX (C CS : Addr) : Sp := fun vs H Q E => ∃ (p : Addr) (sz : Int) (n : Nat) (ls : List Str), vs = [.ref p, .int sz] ∧ RuleAt C H p ls ∧ Rows n ls ∧ n ≤ 5000 ∧ ls.length ≤ 5000 ∧ sz ≤ 5000 ∧ (sz < 1 → Bad E H CS sz) ∧ (1 ≤ sz → ∀ v H', Same H H' → Q v H')
theorem ok_round_of_x {f C C_InvalidSize : Addr} {fd : FuncData} (F : Fun K "round_of" "round_of" s_round_of_x f fd) (B : Bi mg) (DX_check_size : DfX P w K mg base "check_size" 4 ["n"] (spChk C_InvalidSize 1)) (D_way : Df P w K mg base "_way" 6 ["rule", "n", "post", "rows"] (spWay C)) (P_height : Pr P w K mg base C "height" 2 (spHeight C)) : FnOk P w K mg base (L2.CX P w) 7 f fd ["rule", "n"] (spRoundX C C_InvalidSize) := by
  refine F.okX sc_round_of_x (fun vs H Q E h => ?_) (fun cdv A outer s0 H vs Q E hr h => ?_)
  · obtain ⟨p, sz, n, ls, rfl, _⟩ := h
    rfl
  · obtain ⟨p, sz, n, ls, rfl, R, W, hn, hl, hz, kS, k⟩ := h
    refine ⟨_, (pss_cons (ps_expr (pe_dfS DX_check_size (hr.mono (by first | decide | omega)) (by rfl) (takes_of rfl rfl rfl rfl) (pa_cons (pv 1) pa_nil)))
    (pss_one (ps_ret (pe_lc (own := [("post", 2)]) (g := gName 2) (tt := tYes) rfl sc_round_of_x.nd (pi_range1 (by rfl) B.range_ (pa_cons (pv 1) pa_nil)) (blkOk_by (N := N_round_of_x) (sc := defScope s_round_of_x) (by decide +kernel)) (fun _ _ _ _ _ => pg_name (i := 2) sc_round_of_x.nd rfl (Or.inl rfl)) (fun _ _ _ _ _ => pts_nil) (fun _ _ _ _ _ => (pe_ix (show IxR _ (rIxL K) from ix_list) (pe_df D_way (hr.mono (by first | decide | omega)) (by rfl) (pa_cons (pv 0) (pa_cons (pv 1) (pa_cons (pv 2) (pa_cons (pe_pr (pv 0) P_height (hr.mono (by first | decide | omega)) rfl) pa_nil))))) (pe_un un_neg pe_int) (fun _ _ => rfl))))))), ?_⟩
    walk_at "rd"
    refine ⟨fun hs => ?_, fun h d hd => kS h d hd⟩
    obtain ⟨N, rfl⟩ := Int.eq_ofNat_of_zero_le (show 0 ≤ sz by omega)
    walk_at "rd"
    intro D hD
    refine lc_range (lo := 0) (n := N) (fun i H' => Same H H' ∧ H' D = some (.lst (((List.range i).map fun j : Nat => wk ls (N : Int) (j : Int) ls.length).map V.int))) ⟨L2.Same.upd hD, upd_same⟩ ?_ ?_
    · rintro i H' hi ⟨sm, hD'⟩
      refine ⟨rfl, ?_⟩
      have R' := R.same sm
      obtain ⟨dx, u, hp, _⟩ := id R'
      walk_at "rd"
      refine ⟨p, dx, _, rfl, hp, p, ls, rfl, R', ?_⟩
      walk_at "rd"
      refine ⟨p, N, 0 + (i : Int), ls.length, n, ls, rfl, R', W, hn, by omega, by omega, by omega, fun t H2 s2 zt ht => ?_⟩
      have it : atI ((way ls (N : Int) (0 + (i : Int)) (ls.length + 1)).map V.int) (-1) = some (V.int (wk ls (N : Int) (i : Int) ls.length)) := atI_back (by
        rw [List.length_map, way_len, Nat.add_sub_cancel, List.getElem?_map, way_get (Nat.lt_succ_self _), Int.zero_add]
        rfl)
      walk_at "rd"
      refine ⟨_, s2 _ _ hD', by rw [List.length_map, List.length_map, List.length_range]; exact Nat.lt_of_lt_of_le hi (Nat.le_trans (show N ≤ 5000 by omega) (by decide)), (sm.trans s2).put hD, ?_⟩
      rw [upd_same, List.range_succ, List.map_append, List.map_append]
      rfl
    · rintro H' ⟨sm, hD'⟩
      exact k hs _ H' sm
end
abbrev s_meets_x : Stmt := top 20
abbrev N_meets_x : List Str := ["rule", "n", "one", "other", "rows", "mine", "theirs", "row"]
theorem sc_meets_x : FnScope N_meets_x ["rule", "n", "one", "other", "rows"] (defScope s_meets_x) := ⟨rfl, rfl, rfl, by decide +kernel, rfl, by decide +kernel, by decide +kernel⟩
section
variable {P : Program} {w : World} {K : PySem.W.Frag} {mg : Str → Option Value} {base : Heap}
def spMeetsX (C CS CP CN : Addr) : Sp := fun vs H Q E => ∃ (p : Addr) (sz a b dep : Int) (n : Nat) (ls : List Str), vs = [.ref p, .int sz, .int a, .int b, .int dep] ∧ RuleAt C H p ls ∧ Rows n ls ∧ n ≤ 5000 ∧ dep ≤ 100000 ∧
  (sz < 1 → Bad E H CS sz) ∧ (1 ≤ sz → (a < 0 ∨ sz ≤ a) → Bad E H CP a) ∧ (1 ≤ sz → 0 ≤ a → a < sz → (b < 0 ∨ sz ≤ b) → Bad E H CP b) ∧ (1 ≤ sz → 0 ≤ a → a < sz → 0 ≤ b → b < sz → dep < 0 → Bad E H CN dep) ∧ (1 ≤ sz → 0 ≤ a → a < sz → 0 ≤ b → b < sz → 0 ≤ dep → ∀ v H', Same H H' → Q v H')
theorem ok_meets_x {f C C_InvalidSize C_InvalidPost C_InvalidNumber : Addr} {fd : FuncData} (F : Fun K "meets" "meets" s_meets_x f fd) (B : Bi mg) (DX_check_size : DfX P w K mg base "check_size" 4 ["n"] (spChk C_InvalidSize 1)) (DX_check_post : DfX P w K mg base "check_post" 4 ["post", "n"] (spChkP C_InvalidPost)) (DX_check_number : DfX P w K mg base "check_number" 4 ["number"] (spChk C_InvalidNumber 0)) (D_rungs_crossed : Df P w K mg base "_rungs_crossed" 7 ["rule", "n", "post", "rows"] (spRungs C)) : FnOk P w K mg base (L2.CX P w) 8 f fd ["rule", "n", "one", "other", "rows"] (spMeetsX C C_InvalidSize C_InvalidPost C_InvalidNumber) := by
  refine F.okX sc_meets_x (fun vs H Q E h => ?_) (fun cdv A outer s0 H vs Q E hr h => ?_)
  · obtain ⟨p, sz, a, b, dep, n, ls, rfl, _⟩ := h
    rfl
  · obtain ⟨p, sz, a, b, dep, n, ls, rfl, R, W, hn, hdd, kS, kA, kB, kN, k⟩ := h
    refine ⟨_, (pss_cons (ps_expr (pe_dfS DX_check_size (hr.mono (by first | decide | omega)) (by rfl) (takes_of rfl rfl rfl rfl) (pa_cons (pv 1) pa_nil)))
    (pss_cons (ps_expr (pe_dfS DX_check_post (hr.mono (by first | decide | omega)) (by rfl) (takes_of rfl rfl rfl rfl) (pa_cons (pv 2) (pa_cons (pv 1) pa_nil))))
    (pss_cons (ps_expr (pe_dfS DX_check_post (hr.mono (by first | decide | omega)) (by rfl) (takes_of rfl rfl rfl rfl) (pa_cons (pv 3) (pa_cons (pv 1) pa_nil))))
    (pss_cons (ps_expr (pe_dfS DX_check_number (hr.mono (by first | decide | omega)) (by rfl) (takes_of rfl rfl rfl rfl) (pa_cons (pv 4) pa_nil)))
    (pss_cons (ps_set (i := 5) sc_meets_x.nd rfl (Or.inr rfl) (pe_df D_rungs_crossed (hr.mono (by first | decide | omega)) (by rfl) (pa_cons (pv 0) (pa_cons (pv 1) (pa_cons (pv 2) (pa_cons (pv 4) pa_nil))))))
    (pss_cons (ps_set (i := 6) sc_meets_x.nd rfl (Or.inr rfl) (pe_df D_rungs_crossed (hr.mono (by first | decide | omega)) (by rfl) (pa_cons (pv 0) (pa_cons (pv 1) (pa_cons (pv 3) (pa_cons (pv 4) pa_nil))))))
    (pss_one (ps_ret (pe_callB call_len_seq (by rfl) B.len_ PySem.boot_len (pa_cons (pe_lc (own := [("row", 7)]) (g := gName 7) (tt := _) rfl sc_meets_x.nd (pi_range1 (by rfl) B.range_ (pa_cons (pv 4) pa_nil)) (blkOk_by (N := N_meets_x) (sc := defScope s_meets_x) (by decide +kernel)) (fun _ _ _ _ _ => pg_name (i := 7) sc_meets_x.nd rfl (Or.inl rfl)) (fun _ _ _ _ _ => pts_one (PW.pt (pw_and (pt_cmpR op_notN (pe_ix (show IxR _ (rIxL K) from ix_list) (pv 5) (pv 7) (fun _ _ => rfl)) pe_non (nomark _)) (pw_and1 (pt_cmpR op_eq (pe_ix (show IxR _ (rIxL K) from ix_list) (pv 5) (pv 7) (fun _ _ => rfl)) (pe_ix (show IxR _ (rIxL K) from ix_list) (pv 6) (pv 7) (fun _ _ => rfl)) (nomark _)))))) (fun _ _ _ _ _ => (pv 7))) pa_nil)))))))))), ?_⟩
    walk_at "rd"
    refine ⟨fun hs => ?_, fun h d hd => kS h d hd⟩
    walk_at "rd"
    refine ⟨a, sz, rfl, fun h0 h1 => ?_, fun h d hd => kA hs h d hd⟩
    walk_at "rd"
    refine ⟨b, sz, rfl, fun h2 h3 => ?_, fun h d hd => kB hs h0 h1 h d hd⟩
    walk_at "rd"
    refine ⟨fun hp => ?_, fun h d hd => kN hs h0 h1 h2 h3 h d hd⟩
    replace k := k hs h0 h1 h2 h3 hp
    obtain ⟨d, rfl⟩ := Int.eq_ofNat_of_zero_le hp
    have hd : d ≤ 100000 := by omega
    have hd62 : (d : Int) < 2 ^ 62 := by omega
    clear kS kA kB kN
    walk_at "rd"
    refine ⟨p, sz, a, d, n, ls, rfl, R, W, hn, h0, h1, hd, fun t H1 s1 zt ht => ?_⟩
    walk_at "rd"
    refine ⟨p, sz, b, d, n, ls, rfl, R.same s1, W, hn, h2, h3, hd, fun u H2 s2 zu hu => ?_⟩
    have ht2 := s2 _ _ ht
    walk_at "rd"
    intro D hD
    refine lc_range (lo := 0) (n := (d : Int).toNat) (fun i H' => Same H2 H' ∧ H' D = some (.lst (((List.range i).filter (mtB ls sz a b)).map fun k : Nat => V.int (k : Int)))) ⟨L2.Same.upd hD, upd_same⟩ ?_ ?_
    · rintro i H' hi ⟨sm, hD'⟩
      have hi' : i < d := hi
      refine ⟨rfl, ?_⟩
      have ht' := sm _ _ ht2
      have hu' := sm _ _ hu
      have ia : atI (rungs ls sz a d) (0 + (i : Int)) = some (rgV (wk ls sz a i) (wk ls sz a (i + 1))) := atI_k' i (by omega) (rungs_get hi')
      have ib : atI (rungs ls sz b d) (0 + (i : Int)) = some (rgV (wk ls sz b i) (wk ls sz b (i + 1))) := atI_k' i (by omega) (rungs_get hi')
      have hlen : ((List.range i).filter (mtB ls sz a b)).length ≤ i := Nat.le_trans (List.length_filter_le _ _) (by rw [List.length_range]; exact Nat.le_refl _)
      have sc := scal_rg (wk ls sz a i) (wk ls sz a (i + 1)) (wk ls sz b i) (wk ls sz b (i + 1))
      walk_at "rd"
      refine ite2 (fun hc => ?_) (fun hc => ?_)
      · walk_at "rd"
        refine ite2 (fun hb => ?_) (fun hb => ?_)
        · refine ⟨_, rfl, ?_⟩
          refine ⟨_, hD', by rw [List.length_map]; exact Nat.lt_of_le_of_lt (show _ ≤ 100000 by omega) (by decide), sm.put hD, ?_⟩
          rw [upd_same, filt_t (by unfold mtB; rw [hc, hb]; rfl), List.map_append, Int.zero_add]
          rfl
        · refine ⟨sm, ?_⟩
          rw [filt_f (by unfold mtB; rw [Bool.eq_false_iff.mpr hb, Bool.and_false])]
          exact hD'
      · refine ⟨sm, ?_⟩
        rw [filt_f (by unfold mtB; rw [Bool.eq_false_iff.mpr hc]; rfl)]
        exact hD'
    · rintro H' ⟨sm, hD'⟩
      walk_at "rd"
      exact k _ H' (s1.trans (s2.trans sm))
end
abbrev s__law_called : Stmt := top 36
abbrev N__law_called : List Str := ["which", "made", "total", "left", "right", "depth", "error", "e"]
theorem sc__law_called : FnScope N__law_called ["which", "made", "total", "left", "right", "depth"] (defScope s__law_called) := ⟨rfl, rfl, rfl, by decide +kernel, rfl, by decide +kernel, by decide +kernel⟩
section
variable {P : Program} {w : World} {K : PySem.W.Frag} {mg : Str → Option Value} {base : Heap}
/-- what is due: a word and a number -/
def dueC (wh tot le ri dep : Int) : Str × Int := if tot < 1 then ("size", tot) else if wh = 1 then ("none", 0) else if le < 0 ∨ tot ≤ le then ("post", le) else if wh = 3 ∧ (ri < 0 ∨ tot ≤ ri) then ("post", ri) else if dep < 0 then ("number", dep) else ("none", 0)
def spCalled (C : Addr) : Sp := fun vs H Q _ => ∃ (p : Addr) (wh tot le ri dep : Int) (n : Nat) (ls : List Str), vs = [.int wh, .ref p, .int tot, .int le, .int ri, .int dep] ∧ RuleAt C H p ls ∧ Rows n ls ∧ n ≤ 5000 ∧ ls.length ≤ 5000 ∧ dep ≤ 100000 ∧ 0 ≤ wh ∧ wh ≤ 3 ∧ (wh = 1 ∨ wh = 2 → tot ≤ 63) ∧
  ∀ (t : Addr) (H' : Hp), Same H H' → H t = none → H' t = some (.tup [.str (dueC wh tot le ri dep).1, .int (dueC wh tot le ri dep).2]) → Q (.ref t) H'
theorem ok__law_called {f C C_InvalidSize C_InvalidPost C_InvalidNumber : Addr} {fd : FuncData} (F : Fun K "_law_called" "_law_called" s__law_called f fd) (B : Bi mg)
    (DX_walk_of : DfX P w K mg base "walk_of" 7 ["rule", "n", "post", "rows"] (spWalkX C C_InvalidSize C_InvalidPost C_InvalidNumber)) (DX_round_of : DfX P w K mg base "round_of" 7 ["rule", "n"] (spRoundX C C_InvalidSize)) (DX_partners : DfX P w K mg base "partners" 6 ["rule", "n", "post", "rows"] (spPartnersX C C_InvalidSize C_InvalidPost C_InvalidNumber)) (DX_meets : DfX P w K mg base "meets" 8 ["rule", "n", "one", "other", "rows"] (spMeetsX C C_InvalidSize C_InvalidPost C_InvalidNumber))
    (X_InvalidSize : Er P w K mg base "InvalidSize" C_InvalidSize) (X_InvalidPost : Er P w K mg base "InvalidPost" C_InvalidPost) (X_InvalidNumber : Er P w K mg base "InvalidNumber" C_InvalidNumber)
    (S_InvalidSize_InvalidSize : PySem.W.subIn K (.ref C_InvalidSize) (.ref C_InvalidSize) = some true) (S_InvalidPost_InvalidSize : PySem.W.subIn K (.ref C_InvalidPost) (.ref C_InvalidSize) = some false) (S_InvalidPost_InvalidPost : PySem.W.subIn K (.ref C_InvalidPost) (.ref C_InvalidPost) = some true)
    (S_InvalidNumber_InvalidSize : PySem.W.subIn K (.ref C_InvalidNumber) (.ref C_InvalidSize) = some false) (S_InvalidNumber_InvalidPost : PySem.W.subIn K (.ref C_InvalidNumber) (.ref C_InvalidPost) = some false) (S_InvalidNumber_InvalidNumber : PySem.W.subIn K (.ref C_InvalidNumber) (.ref C_InvalidNumber) = some true) : FnOk P w K mg base CX0 9 f fd ["which", "made", "total", "left", "right", "depth"] (spCalled C) := by
  have G_InvalidSize := X_InvalidSize.g
  have G_InvalidPost := X_InvalidPost.g
  have G_InvalidNumber := X_InvalidNumber.g
  refine F.ok sc__law_called (fun vs H Q E h => ?_) (fun cdv A outer s H vs Q E hr h => ?_)
  · obtain ⟨p, wh, tot, le, ri, dep, n, ls, rfl, _⟩ := h
    rfl
  · obtain ⟨p, wh, tot, le, ri, dep, n, ls, rfl, R, W, hn, hl, hd, hw0, hw3, hw12, k⟩ := h
    refine ⟨_, (pss_cons (ps_set (i := 6) sc__law_called.nd rfl (Or.inl rfl) (pe_tup (pa_cons pe_str (pa_cons pe_int pa_nil))))
    (pss_cons (ps_tryAll rfl rfl sc__law_called.nd takes0 (fun _ _ _ tk _ => (pss_one (ps_if (pt_cmpR op_eq (pv 0) pe_int (nomark _))
    (pss_one (ps_expr (pe_dfS DX_walk_of (hr.mono (by first | decide | omega)) (by rfl) tk (pa_cons (pv 1) (pa_cons (pv 2) (pa_cons (pv 3) (pa_cons (pv 5) pa_nil)))))))
    (pss_one (ps_if (pt_cmpR op_eq (pv 0) pe_int (nomark _))
    (pss_one (ps_expr (pe_dfS DX_round_of (hr.mono (by first | decide | omega)) (by rfl) tk (pa_cons (pv 1) (pa_cons (pv 2) pa_nil)))))
    (pss_one (ps_if (pt_cmpR op_eq (pv 0) pe_int (nomark _))
    (pss_one (ps_expr (pe_dfS DX_partners (hr.mono (by first | decide | omega)) (by rfl) tk (pa_cons (pv 1) (pa_cons (pv 2) (pa_cons (pv 3) (pa_cons (pv 5) pa_nil)))))))
    (pss_one (ps_expr (pe_dfS DX_meets (hr.mono (by first | decide | omega)) (by rfl) tk (pa_cons (pv 1) (pa_cons (pv 2) (pa_cons (pv 3) (pa_cons (pv 4) (pa_cons (pv 5) pa_nil)))))))))))))))
    (Clauses.cons (i := 7) ⟨rfl, by decide, .inl G_InvalidSize⟩ rfl rfl (fun _ _ _ _ _ hz hf => (pss_one (ps_set (i := 6) sc__law_called.nd rfl (Or.inl rfl) (pe_tup (pa_cons pe_str (pa_cons (pe_xfA hz hf (pv 7)) pa_nil))))))
    (Clauses.cons (i := 7) ⟨rfl, by decide, .inl G_InvalidPost⟩ rfl rfl (fun _ _ _ _ _ hz hf => (pss_one (ps_set (i := 6) sc__law_called.nd rfl (Or.inl rfl) (pe_tup (pa_cons pe_str (pa_cons (pe_xfA hz hf (pv 7)) pa_nil))))))
    (Clauses.cons (i := 7) ⟨rfl, by decide, .inl G_InvalidNumber⟩ rfl rfl (fun _ _ _ _ _ hz hf => (pss_one (ps_set (i := 6) sc__law_called.nd rfl (Or.inl rfl) (pe_tup (pa_cons pe_str (pa_cons (pe_xfA hz hf (pv 7)) pa_nil))))))
    Clauses.nil))))
    (pss_one (ps_ret (pv 6))))), ?_⟩
    walk_at "rd"
    intro t0 z0
    generalize e0 : upd _ t0 _ = H1
    obtain ⟨s1, ht0⟩ := nw e0 z0
    have R1 := R.same s1
    have good : dueC wh tot le ri dep = (("none" : Str), (0 : Int)) → ∀ H', Same H1 H' → Q (.ref t0) H' := fun hg H' s' => by
      refine k t0 H' (s1.trans s') z0 ?_
      rw [hg]
      exact s' _ _ ht0
    have bad : ∀ (nm : Str) (v : Int), dueC wh tot le ri dep = (nm, v) → ∀ (d t : Addr) (H' : Hp), H1 d = none → upd H1 d (.xd [("value", .int v)]) t = none → upd (upd H1 d (.xd [("value", .int v)])) t (.tup [.str nm, .int v]) = H' → Q (.ref t) H' := fun nm v hg d t H' zd zt e => by
      obtain ⟨s', ht⟩ := nw e zt
      refine k t H' (s1.trans ((Same.upd zd).trans s')) (s1.free (upd_none zt)) ?_
      rw [hg]
      exact ht
    walk_at "rd"
    refine ite2 (fun hc => ?_) (fun hc => ?_)
    · have ew : wh = 0 := by
        have e := of_decide_eq_true hc
        injection e
      walk_at "rd"
      refine ⟨p, tot, le, dep, n, ls, rfl, R1, W, hn, hd, fun h d hd => ?_, fun hs h d hd => ?_, fun hs h0 h1 h d hd => ?_, fun hs h0 h1 h2 v H' s' => ?_⟩
      · refine ⟨true, X_InvalidSize.ex S_InvalidSize_InvalidSize, (fun _ e he => ?_), fun z => nomatch z⟩
        walk_at "rd"
        refine ⟨_, X_InvalidSize.f, X_InvalidSize.nv, ?_⟩
        walk_at "rd"
        refine ⟨d, _, _, rfl, upd_same, rfl, ?_⟩
        walk_at "rd"
        intro t ht
        walk_at "rd"
        exact bad "size" _ (by unfold dueC; rw [if_pos h]) d t _ hd ht rfl
      · refine ⟨false, X_InvalidSize.ex S_InvalidPost_InvalidSize, (fun z => nomatch z), fun _ => ⟨true, X_InvalidPost.ex S_InvalidPost_InvalidPost, (fun _ e he => ?_), fun z => nomatch z⟩⟩
        walk_at "rd"
        refine ⟨_, X_InvalidPost.f, X_InvalidPost.nv, ?_⟩
        walk_at "rd"
        refine ⟨d, _, _, rfl, upd_same, rfl, ?_⟩
        walk_at "rd"
        intro t ht
        walk_at "rd"
        exact bad "post" _ (by unfold dueC; rw [if_neg (by omega), if_neg (by omega), if_pos h]) d t _ hd ht rfl
      · refine ⟨false, X_InvalidSize.ex S_InvalidNumber_InvalidSize, (fun z => nomatch z), fun _ => ⟨false, X_InvalidPost.ex S_InvalidNumber_InvalidPost, (fun z => nomatch z), fun _ => ⟨true, X_InvalidNumber.ex S_InvalidNumber_InvalidNumber, (fun _ e he => ?_), fun z => nomatch z⟩⟩⟩
        walk_at "rd"
        refine ⟨_, X_InvalidNumber.f, X_InvalidNumber.nv, ?_⟩
        walk_at "rd"
        refine ⟨d, _, _, rfl, upd_same, rfl, ?_⟩
        walk_at "rd"
        intro t ht
        walk_at "rd"
        exact bad "number" _ (by unfold dueC; rw [if_neg (by omega), if_neg (by omega), if_neg (by omega), if_neg (by omega), if_pos h]) d t _ hd ht rfl
      · repeat (first | exact good (by unfold dueC; rw [if_neg (by omega), if_neg (by omega), if_neg (by omega), if_neg (by omega), if_neg (by omega)]) _ s' | walk_at "r")
    have nw0 : wh ≠ 0 := fun e => hc (decide_eq_true (congrArg V.int e))
    walk_at "rd"
    refine ite2 (fun hc1 => ?_) (fun hc1 => ?_)
    · have ew : wh = 1 := by
        have e := of_decide_eq_true hc1
        injection e
      walk_at "rd"
      refine ⟨p, tot, n, ls, rfl, R1, W, hn, hl, by have := hw12 (.inl ew); omega, fun h d hd => ?_, fun hs v H' s' => ?_⟩
      · refine ⟨true, X_InvalidSize.ex S_InvalidSize_InvalidSize, (fun _ e he => ?_), fun z => nomatch z⟩
        walk_at "rd"
        refine ⟨_, X_InvalidSize.f, X_InvalidSize.nv, ?_⟩
        walk_at "rd"
        refine ⟨d, _, _, rfl, upd_same, rfl, ?_⟩
        walk_at "rd"
        intro t ht
        walk_at "rd"
        exact bad "size" _ (by unfold dueC; rw [if_pos h]) d t _ hd ht rfl
      · repeat (first | exact good (by unfold dueC; rw [if_neg (by omega), if_pos ew]) _ s' | walk_at "r")
    have nw1 : wh ≠ 1 := fun e => hc1 (decide_eq_true (congrArg V.int e))
    walk_at "rd"
    refine ite2 (fun hc2 => ?_) (fun hc2 => ?_)
    · have ew : wh = 2 := by
        have e := of_decide_eq_true hc2
        injection e
      walk_at "rd"
      refine ⟨p, tot, le, dep, n, ls, rfl, R1, W, hn, by have := hw12 (.inr ew); omega, hd, fun h d hd => ?_, fun hs h d hd => ?_, fun hs h0 h1 h d hd => ?_, fun hs h0 h1 h2 v H' s' => ?_⟩
      · refine ⟨true, X_InvalidSize.ex S_InvalidSize_InvalidSize, (fun _ e he => ?_), fun z => nomatch z⟩
        walk_at "rd"
        refine ⟨_, X_InvalidSize.f, X_InvalidSize.nv, ?_⟩
        walk_at "rd"
        refine ⟨d, _, _, rfl, upd_same, rfl, ?_⟩
        walk_at "rd"
        intro t ht
        walk_at "rd"
        exact bad "size" _ (by unfold dueC; rw [if_pos h]) d t _ hd ht rfl
      · refine ⟨false, X_InvalidSize.ex S_InvalidPost_InvalidSize, (fun z => nomatch z), fun _ => ⟨true, X_InvalidPost.ex S_InvalidPost_InvalidPost, (fun _ e he => ?_), fun z => nomatch z⟩⟩
        walk_at "rd"
        refine ⟨_, X_InvalidPost.f, X_InvalidPost.nv, ?_⟩
        walk_at "rd"
        refine ⟨d, _, _, rfl, upd_same, rfl, ?_⟩
        walk_at "rd"
        intro t ht
        walk_at "rd"
        exact bad "post" _ (by unfold dueC; rw [if_neg (by omega), if_neg (by omega), if_pos h]) d t _ hd ht rfl
      · refine ⟨false, X_InvalidSize.ex S_InvalidNumber_InvalidSize, (fun z => nomatch z), fun _ => ⟨false, X_InvalidPost.ex S_InvalidNumber_InvalidPost, (fun z => nomatch z), fun _ => ⟨true, X_InvalidNumber.ex S_InvalidNumber_InvalidNumber, (fun _ e he => ?_), fun z => nomatch z⟩⟩⟩
        walk_at "rd"
        refine ⟨_, X_InvalidNumber.f, X_InvalidNumber.nv, ?_⟩
        walk_at "rd"
        refine ⟨d, _, _, rfl, upd_same, rfl, ?_⟩
        walk_at "rd"
        intro t ht
        walk_at "rd"
        exact bad "number" _ (by unfold dueC; rw [if_neg (by omega), if_neg (by omega), if_neg (by omega), if_neg (by omega), if_pos h]) d t _ hd ht rfl
      · repeat (first | exact good (by unfold dueC; rw [if_neg (by omega), if_neg (by omega), if_neg (by omega), if_neg (by omega), if_neg (by omega)]) _ s' | walk_at "r")
    have nw2 : wh ≠ 2 := fun e => hc2 (decide_eq_true (congrArg V.int e))
    have ew : wh = 3 := by omega
    walk_at "rd"
    refine ⟨p, tot, le, ri, dep, n, ls, rfl, R1, W, hn, hd, fun h d hd => ?_, fun hs h d hd => ?_, fun hs h0 h1 h d hd => ?_, fun hs h0 h1 h2 h3 h d hd => ?_, fun hs h0 h1 h2 h3 h4 v H' s' => ?_⟩
    · refine ⟨true, X_InvalidSize.ex S_InvalidSize_InvalidSize, (fun _ e he => ?_), fun z => nomatch z⟩
      walk_at "rd"
      refine ⟨_, X_InvalidSize.f, X_InvalidSize.nv, ?_⟩
      walk_at "rd"
      refine ⟨d, _, _, rfl, upd_same, rfl, ?_⟩
      walk_at "rd"
      intro t ht
      walk_at "rd"
      exact bad "size" _ (by unfold dueC; rw [if_pos h]) d t _ hd ht rfl
    · refine ⟨false, X_InvalidSize.ex S_InvalidPost_InvalidSize, (fun z => nomatch z), fun _ => ⟨true, X_InvalidPost.ex S_InvalidPost_InvalidPost, (fun _ e he => ?_), fun z => nomatch z⟩⟩
      walk_at "rd"
      refine ⟨_, X_InvalidPost.f, X_InvalidPost.nv, ?_⟩
      walk_at "rd"
      refine ⟨d, _, _, rfl, upd_same, rfl, ?_⟩
      walk_at "rd"
      intro t ht
      walk_at "rd"
      exact bad "post" _ (by unfold dueC; rw [if_neg (by omega), if_neg (by omega), if_pos h]) d t _ hd ht rfl
    · refine ⟨false, X_InvalidSize.ex S_InvalidPost_InvalidSize, (fun z => nomatch z), fun _ => ⟨true, X_InvalidPost.ex S_InvalidPost_InvalidPost, (fun _ e he => ?_), fun z => nomatch z⟩⟩
      walk_at "rd"
      refine ⟨_, X_InvalidPost.f, X_InvalidPost.nv, ?_⟩
      walk_at "rd"
      refine ⟨d, _, _, rfl, upd_same, rfl, ?_⟩
      walk_at "rd"
      intro t ht
      walk_at "rd"
      exact bad "post" _ (by unfold dueC; rw [if_neg (by omega), if_neg (by omega), if_neg (by omega), if_pos ⟨ew, h⟩]) d t _ hd ht rfl
    · refine ⟨false, X_InvalidSize.ex S_InvalidNumber_InvalidSize, (fun z => nomatch z), fun _ => ⟨false, X_InvalidPost.ex S_InvalidNumber_InvalidPost, (fun z => nomatch z), fun _ => ⟨true, X_InvalidNumber.ex S_InvalidNumber_InvalidNumber, (fun _ e he => ?_), fun z => nomatch z⟩⟩⟩
      walk_at "rd"
      refine ⟨_, X_InvalidNumber.f, X_InvalidNumber.nv, ?_⟩
      walk_at "rd"
      refine ⟨d, _, _, rfl, upd_same, rfl, ?_⟩
      walk_at "rd"
      intro t ht
      walk_at "rd"
      exact bad "number" _ (by unfold dueC; rw [if_neg (by omega), if_neg (by omega), if_neg (by omega), if_neg (by omega), if_pos h]) d t _ hd ht rfl
    · repeat (first | exact good (by unfold dueC; rw [if_neg (by omega), if_neg (by omega), if_neg (by omega), if_neg (by omega), if_neg (by omega)]) _ s' | walk_at "r")
end
abbrev s__law_due : Stmt := top 37
abbrev N__law_due : List Str := ["which", "total", "left", "right", "depth"]
theorem sc__law_due : FnScope N__law_due ["which", "total", "left", "right", "depth"] (defScope s__law_due) := ⟨rfl, rfl, rfl, by decide +kernel, rfl, by decide +kernel, by decide +kernel⟩
section
variable {P : Program} {w : World} {K : PySem.W.Frag} {mg : Str → Option Value} {base : Heap}
def spDueC : Sp := fun vs H Q _ => ∃ wh tot le ri dep : Int, vs = [.int wh, .int tot, .int le, .int ri, .int dep] ∧ ∀ (t : Addr) (H' : Hp), Same H H' → H t = none → H' t = some (.tup [.str (dueC wh tot le ri dep).1, .int (dueC wh tot le ri dep).2]) → Q (.ref t) H'
theorem ok__law_due {f : Addr} {fd : FuncData} (F : Fun K "_law_due" "_law_due" s__law_due f fd) (B : Bi mg) : FnOk P w K mg base CX0 2 f fd ["which", "total", "left", "right", "depth"] spDueC := by
  refine F.ok sc__law_due (fun vs H Q E h => ?_) (fun cdv A outer s H vs Q E hr h => ?_)
  · obtain ⟨wh, tot, le, ri, dep, rfl, _⟩ := h
    rfl
  · obtain ⟨wh, tot, le, ri, dep, rfl, k⟩ := h
    refine ⟨_, (pss_cons (ps_if (pt_cmpR op_lt (pv 1) pe_int (nomark _))
    (pss_one (ps_ret (pe_tup (pa_cons pe_str (pa_cons (pv 1) pa_nil)))))
    pss_nil)
    (pss_cons (ps_if (pt_cmpR op_eq (pv 0) pe_int (nomark _))
    (pss_one (ps_ret (pe_tup (pa_cons pe_str (pa_cons pe_int pa_nil)))))
    pss_nil)
    (pss_cons (ps_if (PW.pt (pw_or (pt_cmpR op_lt (pv 2) pe_int (nomark _)) (pw_or1 (pt_cmpR op_ge (pv 2) (pv 1) (nomark _)))))
    (pss_one (ps_ret (pe_tup (pa_cons pe_str (pa_cons (pv 2) pa_nil)))))
    pss_nil)
    (pss_cons (ps_if (PW.pt (pw_and (pt_cmpR op_eq (pv 0) pe_int (nomark _)) (pw_and1 (PW.pt (pw_or (pt_cmpR op_lt (pv 3) pe_int (nomark _)) (pw_or1 (pt_cmpR op_ge (pv 3) (pv 1) (nomark _))))))))
    (pss_one (ps_ret (pe_tup (pa_cons pe_str (pa_cons (pv 3) pa_nil)))))
    pss_nil)
    (pss_cons (ps_if (pt_cmpR op_lt (pv 4) pe_int (nomark _))
    (pss_one (ps_ret (pe_tup (pa_cons pe_str (pa_cons (pv 4) pa_nil)))))
    pss_nil)
    (pss_one (ps_ret (pe_tup (pa_cons pe_str (pa_cons pe_int pa_nil)))))))))), ?_⟩
    have fin : ∀ (nm : Str) (v : Int), dueC wh tot le ri dep = (nm, v) → ∀ t, H t = none → Q (.ref t) (upd H t (.tup [.str nm, .int v])) := fun nm v e t zt => by
      refine k t _ (Same.upd zt) zt ?_
      rw [e]
      exact upd_same
    walk_at "rd"
    refine ite2 (fun hc => ?_) (fun hc => ?_)
    · have h := of_decide_eq_true hc
      walk_at "rd"
      intro t zt
      exact fin "size" _ (by unfold dueC; rw [if_pos h]) t zt
    have n1 : ¬ tot < 1 := fun h => hc (decide_eq_true h)
    walk_at "rd"
    refine ite2 (fun hc => ?_) (fun hc => ?_)
    · have h : wh = 1 := by
        have e := of_decide_eq_true hc
        injection e
      walk_at "rd"
      intro t zt
      exact fin "none" _ (by unfold dueC; rw [if_neg n1, if_pos h]) t zt
    have n2 : ¬ wh = 1 := fun e => hc (decide_eq_true (congrArg V.int e))
    have post : ∀ t, H t = none → (le < 0 ∨ tot ≤ le) → Q (.ref t) (upd H t (.tup [.str "post", .int le])) := fun t zt h =>
      fin "post" _ (by unfold dueC; rw [if_neg n1, if_neg n2, if_pos h]) t zt
    walk_at "rd"
    refine ite2 (fun hc => ?_) (fun hc => ?_)
    · have h := of_decide_eq_true hc
      walk_at "rd"
      intro t zt
      exact post t zt (.inl h)
    have n3 : ¬ le < 0 := fun h => hc (decide_eq_true h)
    walk_at "rd"
    refine ite2 (fun hc => ?_) (fun hc => ?_)
    · have h := of_decide_eq_true hc
      walk_at "rd"
      intro t zt
      exact post t zt (.inr h)
    have n4 : ¬ tot ≤ le := fun h => hc (decide_eq_true h)
    have n34 : ¬ (le < 0 ∨ tot ≤ le) := fun h => h.elim n3 n4
    have right : ∀ t, H t = none → wh = 3 → (ri < 0 ∨ tot ≤ ri) → Q (.ref t) (upd H t (.tup [.str "post", .int ri])) := fun t zt h h2 =>
      fin "post" _ (by unfold dueC; rw [if_neg n1, if_neg n2, if_neg n34, if_pos ⟨h, h2⟩]) t zt
    walk_at "rd"
    refine cutAnd (fun σ H' => H = H' ∧ σ = [some (.int wh), some (.int tot), some (.int le), some (.int ri), some (.int dep)] ∧ ¬ (wh = 3 ∧ (ri < 0 ∨ tot ≤ ri))) ?_ ?_ (fun hc => ⟨rfl, rfl, fun h => by rw [h.1, decide_eq_true rfl] at hc; cases hc⟩)
    rotate_left
    · intro hT hc
      have h3 : wh = 3 := by
        have e := of_decide_eq_true hc
        injection e
      walk_at "rd"
      refine ite2 (fun hb => ?_) (fun hb => ?_)
      · have h := of_decide_eq_true hb
        walk_at "rd"
        intro t zt
        exact right t zt h3 (.inl h)
      walk_at "rd"
      refine ite2 (fun hb2 => ?_) (fun hb2 => ?_)
      · have h := of_decide_eq_true hb2
        walk_at "rd"
        intro t zt
        exact right t zt h3 (.inr h)
      exact hT _ _ ⟨rfl, rfl, fun h => h.2.elim (fun q => hb (decide_eq_true q)) (fun q => hb2 (decide_eq_true q))⟩
    rintro σ _ ⟨rfl, rfl, n5⟩
    walk_at "rd"
    refine ite2 (fun hc => ?_) (fun hc => ?_)
    · have h := of_decide_eq_true hc
      walk_at "rd"
      intro t zt
      exact fin "number" _ (by unfold dueC; rw [if_neg n1, if_neg n2, if_neg n34, if_neg n5, if_pos h]) t zt
    walk_at "rd"
    intro t zt
    exact fin "none" _ (by unfold dueC; rw [if_neg n1, if_neg n2, if_neg n34, if_neg n5, if_neg (fun h => hc (decide_eq_true h))]) t zt
end
abbrev s_law : Stmt := top 38
abbrev N_law : List Str := ["script", "source", "which", "total", "above", "left", "right", "depth", "texts", "made", "error", "due", "start"]
theorem sc_law : FnScope N_law ["script"] (defScope s_law) := ⟨rfl, rfl, rfl, by decide +kernel, rfl, by decide +kernel, by decide +kernel⟩
section
variable {P : Program} {w : World} {K : PySem.W.Frag} {mg : Str → Option Value} {base : Heap}
def spLaw (K : PySem.W.Frag) : Sp := fun vs H Q _ => ∃ (a : Addr) (ns : List Int), vs = [.ref a] ∧ SqL K H a (ns.map V.int) ∧ ns.length ≤ 63 ∧ ∀ H', Q (.bl true) H'
theorem ok_law {f C : Addr} {fd : FuncData} (F : Fun K "law" "law" s_law f fd) (B : Bi mg) (T : Rl K C) (G_Rule : mg "Rule" = some (.ref C)) (D_law_source : Df P w K mg base "_law_source" 2 ["script"] (spSource K)) (D_law_draw : Df P w K mg base "_law_draw" 2 ["source", "limit"] spDraw) (D_law_number : Df P w K mg base "_law_number" 3 ["source", "limit", "parts"] spNumber) (D_law_wrong : Df P w K mg base "_law_wrong" 4 ["source", "good", "above"] spWrong)
    (D_law_texts : Df P w K mg base "_law_texts" 3 ["source", "most"] spTexts) (D_law_called : Df P w K mg base "_law_called" 9 ["which", "made", "total", "left", "right", "depth"] (spCalled C)) (D_law_due : Df P w K mg base "_law_due" 2 ["which", "total", "left", "right", "depth"] spDueC) (D_law_walk : Df P w K mg base "_law_walk" 3 ["texts", "total", "at", "depth"] spWalk) (D_law_same : Df P w K mg base "_law_same" 2 ["actual", "expected"] spSameA)
    (D_walk_of : Df P w K mg base "walk_of" 7 ["rule", "n", "post", "rows"] (spWalkOf C)) (M_Rule : Mkr P w K mg base "Rule" C 3 ["self", "texts"] (spInit C)) : FnOk P w K mg base CX0 10 f fd ["script"] (spLaw K) := by
  refine F.ok sc_law (fun vs H Q E h => ?_) (fun cdv A outer s0 H vs Q E hr h => ?_)
  · obtain ⟨a, ns, rfl, _⟩ := h
    rfl
  · obtain ⟨a, ns, rfl, hS, hlen, k⟩ := h
    refine ⟨_, (pss_cons (ps_set (i := 1) sc_law.nd rfl (Or.inl rfl) (pe_df D_law_source (hr.mono (by first | decide | omega)) (by rfl) (pa_cons (pv 0) pa_nil)))
    (pss_cons (ps_set (i := 2) sc_law.nd rfl (Or.inl rfl) (pe_df D_law_draw (hr.mono (by first | decide | omega)) (by rfl) (pa_cons (pv 1) (pa_cons pe_int pa_nil))))
    (pss_cons (ps_set (i := 3) sc_law.nd rfl (Or.inl rfl) (pe_op op_add pe_int (pe_df D_law_draw (hr.mono (by first | decide | omega)) (by rfl) (pa_cons (pv 1) (pa_cons pe_int pa_nil)))))
    (pss_cons (ps_if (PW.pt (pw_and (pt_cmpR op_eq (pe_df D_law_draw (hr.mono (by first | decide | omega)) (by rfl) (pa_cons (pv 1) (pa_cons pe_int pa_nil))) pe_int (nomark _)) (pw_and1 (pt_cmpR op_eq (pe_op op_mod (pe_callTy call_int1 (by rfl) B.int_ (by decide +kernel) (pa_cons (pv 2) pa_nil)) pe_int) pe_int (nomark _)))))
    (pss_one (ps_set (i := 3) sc_law.nd rfl (Or.inl rfl) (pe_op op_add pe_int (pe_df D_law_number (hr.mono (by first | decide | omega)) (by rfl) (pa_cons (pv 1) (pa_cons (pe_op op_pow pe_int pe_int) (pa_cons pe_int pa_nil)))))))
    pss_nil)
    (pss_cons (ps_set (i := 4) sc_law.nd rfl (Or.inl rfl) (pv 3))
    (pss_cons (ps_if (pt_cmpR op_eq (pe_df D_law_draw (hr.mono (by first | decide | omega)) (by rfl) (pa_cons (pv 1) (pa_cons pe_int pa_nil))) pe_int (nomark _))
    (pss_cons (ps_set (i := 3) sc_law.nd rfl (Or.inl rfl) (pe_un un_neg (pe_df D_law_draw (hr.mono (by first | decide | omega)) (by rfl) (pa_cons (pv 1) (pa_cons pe_int pa_nil)))))
    (pss_one (ps_if (pt_cmpR op_eq (pe_df D_law_draw (hr.mono (by first | decide | omega)) (by rfl) (pa_cons (pv 1) (pa_cons pe_int pa_nil))) pe_int (nomark _))
    (pss_one (ps_set (i := 3) sc_law.nd rfl (Or.inl rfl) (pe_un un_neg (pe_df D_law_number (hr.mono (by first | decide | omega)) (by rfl) (pa_cons (pv 1) (pa_cons (pe_op op_pow pe_int pe_int) (pa_cons pe_int pa_nil)))))))
    pss_nil)))
    pss_nil)
    (pss_cons (ps_set (i := 5) sc_law.nd rfl (Or.inl rfl) (pe_df D_law_wrong (hr.mono (by first | decide | omega)) (by rfl) (pa_cons (pv 1) (pa_cons (pe_df D_law_draw (hr.mono (by first | decide | omega)) (by rfl) (pa_cons (pv 1) (pa_cons (pe_callB (call_min2 rfl) (by rfl) B.min_ (by decide +kernel) (pa_cons (pv 4) (pa_cons pe_int pa_nil))) pa_nil))) (pa_cons (pv 4) pa_nil)))))
    (pss_cons (ps_set (i := 6) sc_law.nd rfl (Or.inl rfl) (pe_df D_law_wrong (hr.mono (by first | decide | omega)) (by rfl) (pa_cons (pv 1) (pa_cons (pe_op op_sub (pe_op op_sub (pv 4) pe_int) (pe_df D_law_draw (hr.mono (by first | decide | omega)) (by rfl) (pa_cons (pv 1) (pa_cons (pe_callB (call_min2 rfl) (by rfl) B.min_ (by decide +kernel) (pa_cons (pv 4) (pa_cons pe_int pa_nil))) pa_nil)))) (pa_cons (pv 4) pa_nil)))))
    (pss_cons (ps_set (i := 7) sc_law.nd rfl (Or.inl rfl) (pe_df D_law_draw (hr.mono (by first | decide | omega)) (by rfl) (pa_cons (pv 1) (pa_cons pe_int pa_nil))))
    (pss_cons (ps_if (pt_cmpR op_eq (pe_df D_law_draw (hr.mono (by first | decide | omega)) (by rfl) (pa_cons (pv 1) (pa_cons pe_int pa_nil))) pe_int (nomark _))
    (pss_cons (ps_set (i := 7) sc_law.nd rfl (Or.inl rfl) (pe_op op_sub (pe_un un_neg pe_int) (pe_df D_law_draw (hr.mono (by first | decide | omega)) (by rfl) (pa_cons (pv 1) (pa_cons pe_int pa_nil)))))
    (pss_one (ps_if (pt_cmpR op_eq (pe_df D_law_draw (hr.mono (by first | decide | omega)) (by rfl) (pa_cons (pv 1) (pa_cons pe_int pa_nil))) pe_int (nomark _))
    (pss_one (ps_set (i := 7) sc_law.nd rfl (Or.inl rfl) (pe_op op_sub (pe_un un_neg pe_int) (pe_df D_law_number (hr.mono (by first | decide | omega)) (by rfl) (pa_cons (pv 1) (pa_cons (pe_op op_pow pe_int pe_int) (pa_cons pe_int pa_nil)))))))
    pss_nil)))
    pss_nil)
    (pss_cons (ps_set (i := 8) sc_law.nd rfl (Or.inl rfl) (pe_df D_law_texts (hr.mono (by first | decide | omega)) (by rfl) (pa_cons (pv 1) (pa_cons pe_int pa_nil))))
    (pss_cons (ps_set (i := 9) sc_law.nd rfl (Or.inl rfl) (pe_mk M_Rule (hr.mono (by first | decide | omega)) (by rfl) (pa_cons (pe_callTy call_list_of (by rfl) B.list_ (by decide +kernel) (pa_cons (pv 8) pa_nil)) pa_nil)))
    (pss_cons (ps_set (i := 10) sc_law.nd rfl (Or.inl rfl) (pe_df D_law_called (hr.mono (by first | decide | omega)) (by rfl) (pa_cons (pv 2) (pa_cons (pv 9) (pa_cons (pv 3) (pa_cons (pv 5) (pa_cons (pv 6) (pa_cons (pv 7) pa_nil))))))))
    (pss_cons (ps_set (i := 11) sc_law.nd rfl (Or.inl rfl) (pe_df D_law_due (hr.mono (by first | decide | omega)) (by rfl) (pa_cons (pv 2) (pa_cons (pv 3) (pa_cons (pv 5) (pa_cons (pv 6) (pa_cons (pv 7) pa_nil)))))))
    (pss_cons (ps_if (PW.pt (pw_or (pt_cmpR op_ne (pe_ix ix_tup (pv 10) pe_int (fun _ _ => rfl)) (pe_ix ix_tup (pv 11) pe_int (fun _ _ => rfl)) (nomark _)) (pw_or (pt_val (pe_callB call_isi (by rfl) B.isinstance_ (by decide +kernel) (pa_cons (pe_ix ix_tup (pv 10) pe_int (fun _ _ => rfl)) (pa_cons (pe_bltn (v := .ty "bool") (u := .type "bool") (by rfl) B.bool_ (by decide +kernel) rfl) pa_nil)))) (pw_or (pt_not (pt_val (pe_callB call_isi (by rfl) B.isinstance_ (by decide +kernel) (pa_cons (pe_ix ix_tup (pv 10) pe_int (fun _ _ => rfl)) (pa_cons (pe_bltn (v := .ty "int") (u := .type "int") (by rfl) B.int_ (by decide +kernel) rfl) pa_nil))))) (pw_or1 (pt_cmpR op_ne (pe_ix ix_tup (pv 10) pe_int (fun _ _ => rfl)) (pe_ix ix_tup (pv 11) pe_int (fun _ _ => rfl)) (nomark _)))))))
    (pss_one (ps_ret pe_bl))
    pss_nil)
    (pss_cons (ps_if (pt_cmpR op_ne (pe_ix ix_tup (pe_df D_law_called (hr.mono (by first | decide | omega)) (by rfl) (pa_cons (pv 2) (pa_cons (pv 9) (pa_cons (pv 4) (pa_cons (pe_op op_sub (pv 4) pe_int) (pa_cons pe_int (pa_cons pe_int pa_nil))))))) pe_int (fun _ _ => rfl)) pe_str (nomark _))
    (pss_one (ps_ret pe_bl))
    pss_nil)
    (pss_cons (ps_set (i := 12) sc_law.nd rfl (Or.inl rfl) (pe_op op_sub (pv 4) pe_int))
    (pss_one (ps_ret (pe_df D_law_same (hr.mono (by first | decide | omega)) (by rfl) (pa_cons (pe_df D_walk_of (hr.mono (by first | decide | omega)) (by rfl) (pa_cons (pv 9) (pa_cons (pv 4) (pa_cons (pv 12) (pa_cons pe_int pa_nil))))) (pa_cons (pe_df D_law_walk (hr.mono (by first | decide | omega)) (by rfl) (pa_cons (pv 8) (pa_cons (pv 4) (pa_cons (pv 12) (pa_cons pe_int pa_nil))))) pa_nil)))))))))))))))))))))), ?_⟩
    have hcp := cp30
    walk_at "rd"
    refine ⟨a, ns, rfl, hS, hlen, fun s g sm H1 s1 _ _ _ S1 => ?_⟩
    clear s1
    walk_at "rd"
    refine ⟨s, g, sm, 0, _, rfl, S1, by decide, by decide, by decide, fun wh H2 w0 w1 S2 t2 => ?_⟩
    clear t2
    walk_at "rd"
    refine ⟨s, g, sm, _, _, rfl, S2, by decide, by decide, by decide, fun n0 H3 n00 n01 S3 t3 => ?_⟩
    clear t3
    walk_at "rd"
    refine ⟨s, g, sm, _, _, rfl, S3, by decide, by decide, by decide, fun c1 H4 _ _ S4 t4 => ?_⟩
    clear t4
    walk_at "rd"
    refine cutAnd (fun σ H5 => ∃ ab : Int, σ = [some (.ref a), some (.ref s), some (.int wh), some (.int ab), none, none, none, none, none, none, none, none, none] ∧ 1 ≤ ab ∧ (wh = 1 ∨ wh = 2 → ab ≤ 20) ∧ Src H5 s g sm 20) ?_ ?_ (fun _ => ⟨1 + n0, rfl, by omega, by omega, S4.mono (by decide)⟩)
    rotate_left
    · intro hT hc
      walk_at "rd"
      refine ite2 (fun hb => ?_) (fun hb => ?_)
      · have h3 : wh % 3 = 0 := by
          have e := of_decide_eq_true hb
          injection e
        walk_at "rd"
        refine ⟨s, g, sm, _, 5, _, rfl, S4, by decide, by decide, fun c H5 c0 c1 S5 t5 => ?_⟩
        repeat (first | exact hT _ _ ⟨1 + c, rfl, by omega, by omega, S5.mono (by decide)⟩ | walk_at "r")
      · exact hT _ _ ⟨1 + n0, rfl, by omega, by omega, S4.mono (by decide)⟩
    rintro σ H5 ⟨ab, rfl, hab, hab2, S5⟩
    clear S1 S2 S3 S4
    walk_at "rd"
    refine ⟨s, g, sm, _, _, rfl, S5, by decide, by decide, by decide, fun c2 H6 _ _ S6 t6 => ?_⟩
    clear t6
    walk_at "rd"
    refine cutIf (fun σ H7 => ∃ tot : Int, σ = [some (.ref a), some (.ref s), some (.int wh), some (.int tot), some (.int ab), none, none, none, none, none, none, none, none] ∧ (wh = 1 ∨ wh = 2 → tot ≤ 20) ∧ Src H7 s g sm 40) ?_ ?_ (fun _ => ⟨ab, rfl, hab2, S6.mono (by decide)⟩)
    rotate_left
    · intro hT hc
      walk_at "rd"
      refine ⟨s, g, sm, _, _, rfl, S6, by decide, by decide, by decide, fun c3 H7 d0 _ S7 t7 => ?_⟩
      walk_at "rd"
      refine ⟨s, g, sm, _, _, rfl, S7, by decide, by decide, by decide, fun c4 H8 _ _ S8 t8 => ?_⟩
      walk_at "rd"
      refine ite2 (fun hb => ?_) (fun hb => ?_)
      · walk_at "rd"
        refine ⟨s, g, sm, _, 5, _, rfl, S8, by decide, by decide, fun c H9 e0 e1 S9 t9 => ?_⟩
        repeat (first | exact hT _ _ ⟨-c, rfl, by omega, S9.mono (by decide)⟩ | walk_at "r")
      · exact hT _ _ ⟨-c3, rfl, by omega, S8.mono (by decide)⟩
    rintro σ H7 ⟨tot, rfl, htot, S7⟩
    clear S5 S6
    walk_at "rd"
    refine ⟨_, _, rfl, ?_⟩
    generalize elim : (if (60 : Int) < ab then (60 : Int) else ab) = lim
    have hlim : 1 ≤ lim ∧ lim ≤ 60 := by
      rw [← elim]
      split <;> omega
    walk_at "rd"
    refine ⟨s, g, sm, _, _, rfl, S7, by decide, by omega, by omega, fun c5 H8 _ _ S8 t8 => ?_⟩
    clear t8
    walk_at "rd"
    refine ⟨s, g, sm, _, _, _, rfl, S8, by decide, fun le H9 S9 t9 => ?_⟩
    clear t9
    walk_at "rd"
    refine ⟨_, _, rfl, ?_⟩
    rw [elim]
    walk_at "rd"
    refine ⟨s, g, sm, _, _, rfl, S9, by decide, by omega, by omega, fun c6 HA _ _ SA tA => ?_⟩
    clear tA
    walk_at "rd"
    refine ⟨s, g, sm, _, _, _, rfl, SA, by decide, fun ri HB SB tB => ?_⟩
    clear tB S7 S8 S9 SA
    walk_at "rd"
    refine ⟨s, g, sm, _, _, rfl, SB, by decide, by decide, by decide, fun d0 HC d00 d01 SC tC => ?_⟩
    walk_at "rd"
    refine ⟨s, g, sm, _, _, rfl, SC, by decide, by decide, by decide, fun c7 HD _ _ SD tD => ?_⟩
    clear tC tD SB SC
    walk_at "rd"
    refine cutIf (fun σ HE => ∃ dep : Int, σ = [some (.ref a), some (.ref s), some (.int wh), some (.int tot), some (.int ab), some (.int le), some (.int ri), some (.int dep), none, none, none, none, none] ∧ dep ≤ 20 ∧ Src HE s g sm 100) ?_ ?_ (fun _ => ⟨d0, rfl, by omega, SD.mono (by decide)⟩)
    rotate_left
    · intro hT hc
      walk_at "rd"
      refine ⟨s, g, sm, _, _, rfl, SD, by decide, by decide, by decide, fun c3 HE e0 _ SE tE => ?_⟩
      walk_at "rd"
      refine ⟨s, g, sm, _, _, rfl, SE, by decide, by decide, by decide, fun c4 HF _ _ SF tF => ?_⟩
      walk_at "rd"
      refine ite2 (fun hb => ?_) (fun hb => ?_)
      · walk_at "rd"
        refine ⟨s, g, sm, _, 5, _, rfl, SF, by decide, by decide, fun c HG f0 f1 SG tG => ?_⟩
        repeat (first | exact hT _ _ ⟨-1 - c, rfl, by omega, SG.mono (by decide)⟩ | walk_at "r")
      · exact hT _ _ ⟨-1 - c3, rfl, by omega, SF.mono (by decide)⟩
    rintro σ HE ⟨dep, rfl, hdep, SE⟩
    clear SD
    walk_at "rd"
    refine ⟨s, g, sm, _, _, rfl, SE, by decide, by decide, fun n ls tx HF W hn hl SF tF _ otx => ?_⟩
    have htx := out_same _ _ otx
    clear tF otx SE
    walk_at "rd"
    intro h1 zh1
    generalize eh1 : upd _ h1 _ = HG
    obtain ⟨sG, hh1⟩ := nw eh1 zh1
    walk_at "rd"
    intro x dx nx ndx _
    refine mk_at hh1 W (by omega) nx ndx fun HH sH RX => ⟨rfl, ?_⟩
    have sFH := sG.trans sH
    have htxH := sFH _ _ htx
    refine norm_g (σ' := [some (.ref a), some (.ref s), some (.int wh), some (.int tot), some (.int ab), some (.int le), some (.int ri), some (.int dep), some (.ref tx), some (.ref x), none, none, none]) rfl ?_
    clear htx sFH sG sH hh1 eh1 zh1 nx ndx SF
    walk_at "rd"
    refine ⟨x, wh, tot, le, ri, dep, n, ls, rfl, RX, W, by omega, by omega, by omega, w0, by omega, fun h => by have := htot h; omega, fun er HI sI zer her => ?_⟩
    walk_at "rd"
    refine ⟨wh, tot, le, ri, dep, rfl, fun du HJ sJ zdu hdu => ?_⟩
    have herJ := sJ _ _ her
    have sHJ := sI.trans sJ
    have RXJ := RX.same sHJ
    have htxJ := sHJ _ _ htxH
    generalize dueC wh tot le ri dep = pr at herJ hdu
    obtain ⟨nm, v⟩ := pr
    have j0 : atI [V.str nm, V.int v] 0 = some (V.str nm) := rfl
    have j1 : atI [V.str nm, V.int v] 1 = some (V.int v) := rfl
    refine norm_g (σ' := [some (.ref a), some (.ref s), some (.int wh), some (.int tot), some (.int ab), some (.int le), some (.int ri), some (.int dep), some (.ref tx), some (.ref x), some (.ref er), some (.ref du), none]) rfl ?_
    clear RX htxH her sI sJ sHJ
    walk_at "rd"
    refine ⟨_, _, _, _, rfl, rfl, SqT.of herJ, j0, ?_⟩
    walk_at "rd"
    refine ⟨_, _, _, _, rfl, rfl, SqT.of hdu, j0, ?_⟩
    walk_at "rd"
    refine iteNS rfl ?_
    walk_at "rd"
    refine ⟨_, _, _, _, rfl, rfl, SqT.of herJ, j1, ?_⟩
    walk_at "rd"
    refine ⟨_, _, _, _, false, rfl, .ty _, .base (.int _), kit_ty (by decide +kernel), ?_⟩
    walk_at "rd"
    refine ⟨_, _, _, _, rfl, rfl, SqT.of herJ, j1, ?_⟩
    walk_at "rd"
    refine ⟨_, _, _, _, true, rfl, .ty _, .base (.int _), kit_ty (by decide +kernel), ?_⟩
    walk_at "rd"
    refine ⟨_, _, _, _, rfl, rfl, SqT.of herJ, j1, ?_⟩
    walk_at "rd"
    refine ⟨_, _, _, _, rfl, rfl, SqT.of hdu, j1, ?_⟩
    walk_at "rd"
    refine iteNS rfl ?_
    have eg : dueC wh ab (ab - 1) 0 9 = (("none" : Str), (0 : Int)) := by
      unfold dueC
      by_cases h1 : wh = 1
      · rw [if_neg (by omega), if_pos h1]
      · rw [if_neg (by omega), if_neg h1, if_neg (by omega), if_neg (by omega), if_neg (by decide)]
    walk_at "rd"
    refine ⟨x, wh, ab, ab - 1, 0, 9, n, ls, rfl, RXJ, W, by omega, by omega, by decide, w0, by omega, fun h => by have := hab2 h; omega, fun e2 HK sK ze2 he2 => ?_⟩
    rw [eg] at he2
    have j2 : atI [V.str ("none" : Str), V.int 0] 0 = some (V.str ("none" : Str)) := rfl
    walk_at "rd"
    refine ⟨_, _, _, _, rfl, rfl, SqT.of he2, j2, ?_⟩
    walk_at "rd"
    refine ⟨x, ab, ab - 1, 12, n, ls, rfl, RXJ.same sK, W, by omega, by omega, by omega, by decide, fun fo HL sL zfo hfo => ?_⟩
    walk_at "rd"
    refine ⟨tx, ab, ab - 1, 12, n, ls, rfl, sL _ _ (sK _ _ htxJ), W, by omega, by omega, by omega, by omega, by decide, fun f2 HM sM zf2 hf2 => ?_⟩
    walk_at "rd"
    refine ⟨fo, f2, _, rfl, sM _ _ hfo, hf2, by rw [way_len]; decide, ?_⟩
    exact k _
end
theorem all_mk {l : PySem.W.OpenLaw} {w : World} {K : PySem.W.Frag} {h : Heap} {mg : Str → Option Value} {fa : Addr} (X : K.In h) (G : h.Ns mainGlobals mg) (hfa : mg "law" = some (.ref fa))
    {C_InvalidNumber : Addr} {nmInvalidNumber qInvalidNumber : Str} {NInvalidNumber : Addr} {bsInvalidNumber : List Value} {snInvalidNumber : List Str} {subInvalidNumber : List Value} {abInvalidNumber : Bool} {colInvalidNumber : Option Bool} {ddInvalidNumber : Option Addr} {m0InvalidNumber m1InvalidNumber m2InvalidNumber m3InvalidNumber m5InvalidNumber : Option Value}
    {C_InvalidPost : Addr} {nmInvalidPost qInvalidPost : Str} {NInvalidPost : Addr} {bsInvalidPost : List Value} {snInvalidPost : List Str} {subInvalidPost : List Value} {abInvalidPost : Bool} {colInvalidPost : Option Bool} {ddInvalidPost : Option Addr} {m0InvalidPost m1InvalidPost m2InvalidPost m3InvalidPost m5InvalidPost : Option Value}
    {C_InvalidSize : Addr} {nmInvalidSize qInvalidSize : Str} {NInvalidSize : Addr} {bsInvalidSize : List Value} {snInvalidSize : List Str} {subInvalidSize : List Value} {abInvalidSize : Bool} {colInvalidSize : Option Bool} {ddInvalidSize : Option Addr} {m0InvalidSize m1InvalidSize m2InvalidSize m3InvalidSize m5InvalidSize : Option Value}
    {C_RungError : Addr} {nmRungError qRungError : Str} {NRungError : Addr} {bsRungError : List Value} {snRungError : List Str} {subRungError : List Value} {abRungError : Bool} {colRungError : Option Bool} {ddRungError : Option Addr} {m0RungError m1RungError m2RungError m3RungError m5RungError : Option Value}
    {C : Addr}
    {f1 : Addr} {od1 an1 : Option Addr} {sl1 : Array (Option Value)} {oc1 kV1 dc1 pm1 cd1 ct1 : Value}
    {f2 : Addr} {od2 an2 : Option Addr} {sl2 : Array (Option Value)} {oc2 kV2 dc2 pm2 cd2 ct2 : Value}
    {f3 : Addr} {od3 an3 : Option Addr} {sl3 : Array (Option Value)} {oc3 kV3 dc3 pm3 cd3 ct3 : Value}
    {f4 : Addr} {od4 an4 : Option Addr} {sl4 : Array (Option Value)} {oc4 kV4 dc4 pm4 cd4 ct4 : Value}
    {f5 : Addr} {od5 an5 : Option Addr} {sl5 : Array (Option Value)} {oc5 kV5 dc5 pm5 cd5 ct5 : Value}
    {f6 : Addr} {od6 an6 : Option Addr} {sl6 : Array (Option Value)} {oc6 kV6 dc6 pm6 cd6 ct6 : Value}
    {f7 : Addr} {od7 an7 : Option Addr} {sl7 : Array (Option Value)} {oc7 kV7 dc7 pm7 cd7 ct7 : Value}
    {f8 : Addr} {od8 an8 : Option Addr} {sl8 : Array (Option Value)} {oc8 kV8 dc8 pm8 cd8 ct8 : Value}
    {f9 : Addr} {od9 an9 : Option Addr} {sl9 : Array (Option Value)} {oc9 kV9 dc9 pm9 cd9 ct9 : Value}
    {p9 : Addr} {re9 : List Value}
    {f10 : Addr} {od10 an10 : Option Addr} {sl10 : Array (Option Value)} {oc10 kV10 dc10 pm10 cd10 ct10 : Value}
    {p10 : Addr} {re10 : List Value}
    {f11 : Addr} {od11 an11 : Option Addr} {sl11 : Array (Option Value)} {oc11 kV11 dc11 pm11 cd11 ct11 : Value}
    {f12 : Addr} {od12 an12 : Option Addr} {sl12 : Array (Option Value)} {oc12 kV12 dc12 pm12 cd12 ct12 : Value}
    {f13 : Addr} {od13 an13 : Option Addr} {sl13 : Array (Option Value)} {oc13 kV13 dc13 pm13 cd13 ct13 : Value}
    {f14 : Addr} {od14 an14 : Option Addr} {sl14 : Array (Option Value)} {oc14 kV14 dc14 pm14 cd14 ct14 : Value}
    {f15 : Addr} {od15 an15 : Option Addr} {sl15 : Array (Option Value)} {oc15 kV15 dc15 pm15 cd15 ct15 : Value}
    {f16 : Addr} {od16 an16 : Option Addr} {sl16 : Array (Option Value)} {oc16 kV16 dc16 pm16 cd16 ct16 : Value}
    {f17 : Addr} {od17 an17 : Option Addr} {sl17 : Array (Option Value)} {oc17 kV17 dc17 pm17 cd17 ct17 : Value}
    {f18 : Addr} {od18 an18 : Option Addr} {sl18 : Array (Option Value)} {oc18 kV18 dc18 pm18 cd18 ct18 : Value}
    {f19 : Addr} {od19 an19 : Option Addr} {sl19 : Array (Option Value)} {oc19 kV19 dc19 pm19 cd19 ct19 : Value}
    {f20 : Addr} {od20 an20 : Option Addr} {sl20 : Array (Option Value)} {oc20 kV20 dc20 pm20 cd20 ct20 : Value}
    {f21 : Addr} {od21 an21 : Option Addr} {sl21 : Array (Option Value)} {oc21 kV21 dc21 pm21 cd21 ct21 : Value}
    {f22 : Addr} {od22 an22 : Option Addr} {sl22 : Array (Option Value)} {oc22 kV22 dc22 pm22 cd22 ct22 : Value}
    {f23 : Addr} {od23 an23 : Option Addr} {sl23 : Array (Option Value)} {oc23 kV23 dc23 pm23 cd23 ct23 : Value}
    {f24 : Addr} {od24 an24 : Option Addr} {sl24 : Array (Option Value)} {oc24 kV24 dc24 pm24 cd24 ct24 : Value}
    {f25 : Addr} {od25 an25 : Option Addr} {sl25 : Array (Option Value)} {oc25 kV25 dc25 pm25 cd25 ct25 : Value}
    {f26 : Addr} {od26 an26 : Option Addr} {sl26 : Array (Option Value)} {oc26 kV26 dc26 pm26 cd26 ct26 : Value}
    {f27 : Addr} {od27 an27 : Option Addr} {sl27 : Array (Option Value)} {oc27 kV27 dc27 pm27 cd27 ct27 : Value}
    {f28 : Addr} {od28 an28 : Option Addr} {sl28 : Array (Option Value)} {oc28 kV28 dc28 pm28 cd28 ct28 : Value}
    {f29 : Addr} {od29 an29 : Option Addr} {sl29 : Array (Option Value)} {oc29 kV29 dc29 pm29 cd29 ct29 : Value}
    {f30 : Addr} {od30 an30 : Option Addr} {sl30 : Array (Option Value)} {oc30 kV30 dc30 pm30 cd30 ct30 : Value}
    {f31 : Addr} {od31 an31 : Option Addr} {sl31 : Array (Option Value)} {oc31 kV31 dc31 pm31 cd31 ct31 : Value}
    {f32 : Addr} {od32 an32 : Option Addr} {sl32 : Array (Option Value)} {oc32 kV32 dc32 pm32 cd32 ct32 : Value}
    {f33 : Addr} {od33 an33 : Option Addr} {sl33 : Array (Option Value)} {oc33 kV33 dc33 pm33 cd33 ct33 : Value}
    {f34 : Addr} {od34 an34 : Option Addr} {sl34 : Array (Option Value)} {oc34 kV34 dc34 pm34 cd34 ct34 : Value}
    (aCRungError : PySem.W.nsIn K mainGlobals "RungError" = some (some (.ref C_RungError)))
    (xLRungError : K.lookup C_RungError = some (PySem.excClassObj nmRungError qRungError C_RungError NRungError bsRungError [.type "ValueError", .type "Exception", .type "BaseException", .type "object"] true snRungError subRungError abRungError colRungError ddRungError m0RungError m1RungError m2RungError m3RungError m5RungError "ValueError.__new__"))
    (saRungError : PySem.W.findIn K (.ref C_RungError) "__setattr__" = some (some (.builtin "object.__setattr__")))
    (gaRungError : PySem.W.findIn K (.ref C_RungError) "__getattribute__" = some (some (.builtin "BaseException.__getattribute__")))
    (ggRungError : PySem.W.findIn K (.ref C_RungError) "__getattr__" = some none)
    (nvRungError : PySem.W.findIn K (.ref C_RungError) "value" = some none)
    (kCRungError : PySem.W.keepIn K (.ref C_RungError) = true)
    (eCRungError : PySem.W.subIn K (.ref C_RungError) (.type "BaseException") = some true)
    (tCRungError : PySem.W.typeIn K (.ref C_RungError) = some (.type "type"))
    (hCRungError : PySem.W.hasDictIn K C_RungError = true)
    (haRungError : PySem.W.findIn K (.ref C_RungError) "__class__" = some (some (.builtin "object.__class__")))
    (hmRungError : PySem.W.mroIn K C_RungError (.type "object") = some true)
    (aCInvalidSize : PySem.W.nsIn K mainGlobals "InvalidSize" = some (some (.ref C_InvalidSize)))
    (xLInvalidSize : K.lookup C_InvalidSize = some (PySem.excClassObj nmInvalidSize qInvalidSize C_InvalidSize NInvalidSize bsInvalidSize [.ref C_RungError, .type "ValueError", .type "Exception", .type "BaseException", .type "object"] true snInvalidSize subInvalidSize abInvalidSize colInvalidSize ddInvalidSize m0InvalidSize m1InvalidSize m2InvalidSize m3InvalidSize m5InvalidSize "ValueError.__new__"))
    (saInvalidSize : PySem.W.findIn K (.ref C_InvalidSize) "__setattr__" = some (some (.builtin "object.__setattr__")))
    (gaInvalidSize : PySem.W.findIn K (.ref C_InvalidSize) "__getattribute__" = some (some (.builtin "BaseException.__getattribute__")))
    (ggInvalidSize : PySem.W.findIn K (.ref C_InvalidSize) "__getattr__" = some none)
    (nvInvalidSize : PySem.W.findIn K (.ref C_InvalidSize) "value" = some none)
    (kCInvalidSize : PySem.W.keepIn K (.ref C_InvalidSize) = true)
    (eCInvalidSize : PySem.W.subIn K (.ref C_InvalidSize) (.type "BaseException") = some true)
    (tCInvalidSize : PySem.W.typeIn K (.ref C_InvalidSize) = some (.type "type"))
    (hCInvalidSize : PySem.W.hasDictIn K C_InvalidSize = true)
    (haInvalidSize : PySem.W.findIn K (.ref C_InvalidSize) "__class__" = some (some (.builtin "object.__class__")))
    (hmInvalidSize : PySem.W.mroIn K C_InvalidSize (.type "object") = some true)
    (aCInvalidPost : PySem.W.nsIn K mainGlobals "InvalidPost" = some (some (.ref C_InvalidPost)))
    (xLInvalidPost : K.lookup C_InvalidPost = some (PySem.excClassObj nmInvalidPost qInvalidPost C_InvalidPost NInvalidPost bsInvalidPost [.ref C_RungError, .type "ValueError", .type "Exception", .type "BaseException", .type "object"] true snInvalidPost subInvalidPost abInvalidPost colInvalidPost ddInvalidPost m0InvalidPost m1InvalidPost m2InvalidPost m3InvalidPost m5InvalidPost "ValueError.__new__"))
    (saInvalidPost : PySem.W.findIn K (.ref C_InvalidPost) "__setattr__" = some (some (.builtin "object.__setattr__")))
    (gaInvalidPost : PySem.W.findIn K (.ref C_InvalidPost) "__getattribute__" = some (some (.builtin "BaseException.__getattribute__")))
    (ggInvalidPost : PySem.W.findIn K (.ref C_InvalidPost) "__getattr__" = some none)
    (nvInvalidPost : PySem.W.findIn K (.ref C_InvalidPost) "value" = some none)
    (kCInvalidPost : PySem.W.keepIn K (.ref C_InvalidPost) = true)
    (eCInvalidPost : PySem.W.subIn K (.ref C_InvalidPost) (.type "BaseException") = some true)
    (tCInvalidPost : PySem.W.typeIn K (.ref C_InvalidPost) = some (.type "type"))
    (hCInvalidPost : PySem.W.hasDictIn K C_InvalidPost = true)
    (haInvalidPost : PySem.W.findIn K (.ref C_InvalidPost) "__class__" = some (some (.builtin "object.__class__")))
    (hmInvalidPost : PySem.W.mroIn K C_InvalidPost (.type "object") = some true)
    (aCInvalidNumber : PySem.W.nsIn K mainGlobals "InvalidNumber" = some (some (.ref C_InvalidNumber)))
    (xLInvalidNumber : K.lookup C_InvalidNumber = some (PySem.excClassObj nmInvalidNumber qInvalidNumber C_InvalidNumber NInvalidNumber bsInvalidNumber [.ref C_RungError, .type "ValueError", .type "Exception", .type "BaseException", .type "object"] true snInvalidNumber subInvalidNumber abInvalidNumber colInvalidNumber ddInvalidNumber m0InvalidNumber m1InvalidNumber m2InvalidNumber m3InvalidNumber m5InvalidNumber "ValueError.__new__"))
    (saInvalidNumber : PySem.W.findIn K (.ref C_InvalidNumber) "__setattr__" = some (some (.builtin "object.__setattr__")))
    (gaInvalidNumber : PySem.W.findIn K (.ref C_InvalidNumber) "__getattribute__" = some (some (.builtin "BaseException.__getattribute__")))
    (ggInvalidNumber : PySem.W.findIn K (.ref C_InvalidNumber) "__getattr__" = some none)
    (nvInvalidNumber : PySem.W.findIn K (.ref C_InvalidNumber) "value" = some none)
    (kCInvalidNumber : PySem.W.keepIn K (.ref C_InvalidNumber) = true)
    (eCInvalidNumber : PySem.W.subIn K (.ref C_InvalidNumber) (.type "BaseException") = some true)
    (tCInvalidNumber : PySem.W.typeIn K (.ref C_InvalidNumber) = some (.type "type"))
    (hCInvalidNumber : PySem.W.hasDictIn K C_InvalidNumber = true)
    (haInvalidNumber : PySem.W.findIn K (.ref C_InvalidNumber) "__class__" = some (some (.builtin "object.__class__")))
    (hmInvalidNumber : PySem.W.mroIn K C_InvalidNumber (.type "object") = some true)
    (aCRule : PySem.W.nsIn K mainGlobals "Rule" = some (some (.ref C)))
    (inRungError : PySem.W.findIn K (.ref C_RungError) "__init__" = some (some (.ref f1)))
    (inInvalidSize : PySem.W.findIn K (.ref C_InvalidSize) "__init__" = some (some (.ref f1)))
    (inInvalidPost : PySem.W.findIn K (.ref C_InvalidPost) "__init__" = some (some (.ref f1)))
    (inInvalidNumber : PySem.W.findIn K (.ref C_InvalidNumber) "__init__" = some (some (.ref f1)))
    (i1 : PySem.W.typeIn K (.ref f1) = some (.type "function"))
    (l1 : K.lookup f1 = some ⟨oc1, od1, .func (PySem.W.fnOf "__init__" "RungError.__init__" (defArgs s_RungError_u__init_u_) (defBody s_RungError_u__init_u_) (defScope s_RungError_u__init_u_) .none kV1 dc1 pm1 an1 cd1 ct1), sl1⟩)
    (c1 : PySem.W.codeIn K cd1 "RungError.__init__" = true)
    (k1 : PySem.W.keepIn K (.ref f1) = true)
    (a2 : PySem.W.nsIn K mainGlobals "check_size" = some (some (.ref f2)))
    (l2 : K.lookup f2 = some ⟨oc2, od2, .func (PySem.W.fnOf "check_size" "check_size" (defArgs s_check_size) (defBody s_check_size) (defScope s_check_size) .none kV2 dc2 pm2 an2 cd2 ct2), sl2⟩)
    (c2 : PySem.W.codeIn K cd2 "check_size" = true)
    (k2 : PySem.W.keepIn K (.ref f2) = true)
    (a3 : PySem.W.nsIn K mainGlobals "check_post" = some (some (.ref f3)))
    (l3 : K.lookup f3 = some ⟨oc3, od3, .func (PySem.W.fnOf "check_post" "check_post" (defArgs s_check_post) (defBody s_check_post) (defScope s_check_post) .none kV3 dc3 pm3 an3 cd3 ct3), sl3⟩)
    (c3 : PySem.W.codeIn K cd3 "check_post" = true)
    (k3 : PySem.W.keepIn K (.ref f3) = true)
    (a4 : PySem.W.nsIn K mainGlobals "check_half_post" = some (some (.ref f4)))
    (l4 : K.lookup f4 = some ⟨oc4, od4, .func (PySem.W.fnOf "check_half_post" "check_half_post" (defArgs s_check_half_post) (defBody s_check_half_post) (defScope s_check_half_post) .none kV4 dc4 pm4 an4 cd4 ct4), sl4⟩)
    (c4 : PySem.W.codeIn K cd4 "check_half_post" = true)
    (k4 : PySem.W.keepIn K (.ref f4) = true)
    (a5 : PySem.W.nsIn K mainGlobals "check_number" = some (some (.ref f5)))
    (l5 : K.lookup f5 = some ⟨oc5, od5, .func (PySem.W.fnOf "check_number" "check_number" (defArgs s_check_number) (defBody s_check_number) (defScope s_check_number) .none kV5 dc5 pm5 an5 cd5 ct5), sl5⟩)
    (c5 : PySem.W.codeIn K cd5 "check_number" = true)
    (k5 : PySem.W.keepIn K (.ref f5) = true)
    (a6 : PySem.W.nsIn K mainGlobals "is_marked" = some (some (.ref f6)))
    (l6 : K.lookup f6 = some ⟨oc6, od6, .func (PySem.W.fnOf "is_marked" "is_marked" (defArgs s_is_marked) (defBody s_is_marked) (defScope s_is_marked) .none kV6 dc6 pm6 an6 cd6 ct6), sl6⟩)
    (c6 : PySem.W.codeIn K cd6 "is_marked" = true)
    (k6 : PySem.W.keepIn K (.ref f6) = true)
    (a7 : PySem.W.nsIn K mainGlobals "is_row" = some (some (.ref f7)))
    (l7 : K.lookup f7 = some ⟨oc7, od7, .func (PySem.W.fnOf "is_row" "is_row" (defArgs s_is_row) (defBody s_is_row) (defScope s_is_row) .none kV7 dc7 pm7 an7 cd7 ct7), sl7⟩)
    (c7 : PySem.W.codeIn K cd7 "is_row" = true)
    (k7 : PySem.W.keepIn K (.ref f7) = true)
    (a8 : PySem.W.findIn K (.ref C) "__init__" = some (some (.ref f8)))
    (i8 : PySem.W.isFn K (.ref f8) = true)
    (l8 : K.lookup f8 = some ⟨oc8, od8, .func (PySem.W.fnOf "__init__" "Rule.__init__" (defArgs s_Rule_u__init_u_) (defBody s_Rule_u__init_u_) (defScope s_Rule_u__init_u_) .none kV8 dc8 pm8 an8 cd8 ct8), sl8⟩)
    (c8 : PySem.W.codeIn K cd8 "Rule.__init__" = true)
    (k8 : PySem.W.keepIn K (.ref f8) = true)
    (a9 : PySem.W.findIn K (.ref C) "width" = some (some (.ref p9)))
    (g9 : PySem.W.specialIn K (.ref p9) "__get__" = some (some (.builtin "property.__get__")))
    (t9 : PySem.W.takesIn K (.ref p9) = some true)
    (r9 : PySem.W.recIn K p9 "property" = some (.ref f9 :: re9))
    (l9 : K.lookup f9 = some ⟨oc9, od9, .func (PySem.W.fnOf "width" "Rule.width" (defArgs s_Rule_width) (defBody s_Rule_width) (defScope s_Rule_width) .none kV9 dc9 pm9 an9 cd9 ct9), sl9⟩)
    (c9 : PySem.W.codeIn K cd9 "Rule.width" = true)
    (k9 : PySem.W.keepIn K (.ref f9) = true)
    (a10 : PySem.W.findIn K (.ref C) "height" = some (some (.ref p10)))
    (g10 : PySem.W.specialIn K (.ref p10) "__get__" = some (some (.builtin "property.__get__")))
    (t10 : PySem.W.takesIn K (.ref p10) = some true)
    (r10 : PySem.W.recIn K p10 "property" = some (.ref f10 :: re10))
    (l10 : K.lookup f10 = some ⟨oc10, od10, .func (PySem.W.fnOf "height" "Rule.height" (defArgs s_Rule_height) (defBody s_Rule_height) (defScope s_Rule_height) .none kV10 dc10 pm10 an10 cd10 ct10), sl10⟩)
    (c10 : PySem.W.codeIn K cd10 "Rule.height" = true)
    (k10 : PySem.W.keepIn K (.ref f10) = true)
    (a11 : PySem.W.findIn K (.ref C) "has_rung" = some (some (.ref f11)))
    (i11 : PySem.W.isFn K (.ref f11) = true)
    (l11 : K.lookup f11 = some ⟨oc11, od11, .func (PySem.W.fnOf "has_rung" "Rule.has_rung" (defArgs s_Rule_has_rung) (defBody s_Rule_has_rung) (defScope s_Rule_has_rung) .none kV11 dc11 pm11 an11 cd11 ct11), sl11⟩)
    (c11 : PySem.W.codeIn K cd11 "Rule.has_rung" = true)
    (k11 : PySem.W.keepIn K (.ref f11) = true)
    (a12 : PySem.W.nsIn K mainGlobals "_past_row" = some (some (.ref f12)))
    (l12 : K.lookup f12 = some ⟨oc12, od12, .func (PySem.W.fnOf "_past_row" "_past_row" (defArgs s__past_row) (defBody s__past_row) (defScope s__past_row) .none kV12 dc12 pm12 an12 cd12 ct12), sl12⟩)
    (c12 : PySem.W.codeIn K cd12 "_past_row" = true)
    (k12 : PySem.W.keepIn K (.ref f12) = true)
    (a13 : PySem.W.nsIn K mainGlobals "_way" = some (some (.ref f13)))
    (l13 : K.lookup f13 = some ⟨oc13, od13, .func (PySem.W.fnOf "_way" "_way" (defArgs s__way) (defBody s__way) (defScope s__way) .none kV13 dc13 pm13 an13 cd13 ct13), sl13⟩)
    (c13 : PySem.W.codeIn K cd13 "_way" = true)
    (k13 : PySem.W.keepIn K (.ref f13) = true)
    (a14 : PySem.W.nsIn K mainGlobals "_rungs_crossed" = some (some (.ref f14)))
    (l14 : K.lookup f14 = some ⟨oc14, od14, .func (PySem.W.fnOf "_rungs_crossed" "_rungs_crossed" (defArgs s__rungs_crossed) (defBody s__rungs_crossed) (defScope s__rungs_crossed) .none kV14 dc14 pm14 an14 cd14 ct14), sl14⟩)
    (c14 : PySem.W.codeIn K cd14 "_rungs_crossed" = true)
    (k14 : PySem.W.keepIn K (.ref f14) = true)
    (a15 : PySem.W.nsIn K mainGlobals "walk_of" = some (some (.ref f15)))
    (l15 : K.lookup f15 = some ⟨oc15, od15, .func (PySem.W.fnOf "walk_of" "walk_of" (defArgs s_walk_of) (defBody s_walk_of) (defScope s_walk_of) .none kV15 dc15 pm15 an15 cd15 ct15), sl15⟩)
    (c15 : PySem.W.codeIn K cd15 "walk_of" = true)
    (k15 : PySem.W.keepIn K (.ref f15) = true)
    (a16 : PySem.W.nsIn K mainGlobals "check_size" = some (some (.ref f16)))
    (l16 : K.lookup f16 = some ⟨oc16, od16, .func (PySem.W.fnOf "check_size" "check_size" (defArgs s_check_size_x) (defBody s_check_size_x) (defScope s_check_size_x) .none kV16 dc16 pm16 an16 cd16 ct16), sl16⟩)
    (c16 : PySem.W.codeIn K cd16 "check_size" = true)
    (k16 : PySem.W.keepIn K (.ref f16) = true)
    (a17 : PySem.W.nsIn K mainGlobals "check_post" = some (some (.ref f17)))
    (l17 : K.lookup f17 = some ⟨oc17, od17, .func (PySem.W.fnOf "check_post" "check_post" (defArgs s_check_post_x) (defBody s_check_post_x) (defScope s_check_post_x) .none kV17 dc17 pm17 an17 cd17 ct17), sl17⟩)
    (c17 : PySem.W.codeIn K cd17 "check_post" = true)
    (k17 : PySem.W.keepIn K (.ref f17) = true)
    (a18 : PySem.W.nsIn K mainGlobals "check_number" = some (some (.ref f18)))
    (l18 : K.lookup f18 = some ⟨oc18, od18, .func (PySem.W.fnOf "check_number" "check_number" (defArgs s_check_number_x) (defBody s_check_number_x) (defScope s_check_number_x) .none kV18 dc18 pm18 an18 cd18 ct18), sl18⟩)
    (c18 : PySem.W.codeIn K cd18 "check_number" = true)
    (k18 : PySem.W.keepIn K (.ref f18) = true)
    (a19 : PySem.W.nsIn K mainGlobals "partners" = some (some (.ref f19)))
    (l19 : K.lookup f19 = some ⟨oc19, od19, .func (PySem.W.fnOf "partners" "partners" (defArgs s_partners_x) (defBody s_partners_x) (defScope s_partners_x) .none kV19 dc19 pm19 an19 cd19 ct19), sl19⟩)
    (c19 : PySem.W.codeIn K cd19 "partners" = true)
    (k19 : PySem.W.keepIn K (.ref f19) = true)
    (a20 : PySem.W.nsIn K mainGlobals "_law_source" = some (some (.ref f20)))
    (l20 : K.lookup f20 = some ⟨oc20, od20, .func (PySem.W.fnOf "_law_source" "_law_source" (defArgs s__law_source) (defBody s__law_source) (defScope s__law_source) .none kV20 dc20 pm20 an20 cd20 ct20), sl20⟩)
    (c20 : PySem.W.codeIn K cd20 "_law_source" = true)
    (k20 : PySem.W.keepIn K (.ref f20) = true)
    (a21 : PySem.W.nsIn K mainGlobals "_law_draw" = some (some (.ref f21)))
    (l21 : K.lookup f21 = some ⟨oc21, od21, .func (PySem.W.fnOf "_law_draw" "_law_draw" (defArgs s__law_draw) (defBody s__law_draw) (defScope s__law_draw) .none kV21 dc21 pm21 an21 cd21 ct21), sl21⟩)
    (c21 : PySem.W.codeIn K cd21 "_law_draw" = true)
    (k21 : PySem.W.keepIn K (.ref f21) = true)
    (a22 : PySem.W.nsIn K mainGlobals "_law_number" = some (some (.ref f22)))
    (l22 : K.lookup f22 = some ⟨oc22, od22, .func (PySem.W.fnOf "_law_number" "_law_number" (defArgs s__law_number) (defBody s__law_number) (defScope s__law_number) .none kV22 dc22 pm22 an22 cd22 ct22), sl22⟩)
    (c22 : PySem.W.codeIn K cd22 "_law_number" = true)
    (k22 : PySem.W.keepIn K (.ref f22) = true)
    (a23 : PySem.W.nsIn K mainGlobals "_law_lines" = some (some (.ref f23)))
    (l23 : K.lookup f23 = some ⟨oc23, od23, .func (PySem.W.fnOf "_law_lines" "_law_lines" (defArgs s__law_lines) (defBody s__law_lines) (defScope s__law_lines) .none kV23 dc23 pm23 an23 cd23 ct23), sl23⟩)
    (c23 : PySem.W.codeIn K cd23 "_law_lines" = true)
    (k23 : PySem.W.keepIn K (.ref f23) = true)
    (a24 : PySem.W.nsIn K mainGlobals "_law_texts" = some (some (.ref f24)))
    (l24 : K.lookup f24 = some ⟨oc24, od24, .func (PySem.W.fnOf "_law_texts" "_law_texts" (defArgs s__law_texts) (defBody s__law_texts) (defScope s__law_texts) .none kV24 dc24 pm24 an24 cd24 ct24), sl24⟩)
    (c24 : PySem.W.codeIn K cd24 "_law_texts" = true)
    (k24 : PySem.W.keepIn K (.ref f24) = true)
    (a25 : PySem.W.nsIn K mainGlobals "_law_crossed" = some (some (.ref f25)))
    (l25 : K.lookup f25 = some ⟨oc25, od25, .func (PySem.W.fnOf "_law_crossed" "_law_crossed" (defArgs s__law_crossed) (defBody s__law_crossed) (defScope s__law_crossed) .none kV25 dc25 pm25 an25 cd25 ct25), sl25⟩)
    (c25 : PySem.W.codeIn K cd25 "_law_crossed" = true)
    (k25 : PySem.W.keepIn K (.ref f25) = true)
    (a26 : PySem.W.nsIn K mainGlobals "_law_walk" = some (some (.ref f26)))
    (l26 : K.lookup f26 = some ⟨oc26, od26, .func (PySem.W.fnOf "_law_walk" "_law_walk" (defArgs s__law_walk) (defBody s__law_walk) (defScope s__law_walk) .none kV26 dc26 pm26 an26 cd26 ct26), sl26⟩)
    (c26 : PySem.W.codeIn K cd26 "_law_walk" = true)
    (k26 : PySem.W.keepIn K (.ref f26) = true)
    (a27 : PySem.W.nsIn K mainGlobals "_law_same" = some (some (.ref f27)))
    (l27 : K.lookup f27 = some ⟨oc27, od27, .func (PySem.W.fnOf "_law_same" "_law_same" (defArgs s__law_same) (defBody s__law_same) (defScope s__law_same) .none kV27 dc27 pm27 an27 cd27 ct27), sl27⟩)
    (c27 : PySem.W.codeIn K cd27 "_law_same" = true)
    (k27 : PySem.W.keepIn K (.ref f27) = true)
    (a28 : PySem.W.nsIn K mainGlobals "_law_wrong" = some (some (.ref f28)))
    (l28 : K.lookup f28 = some ⟨oc28, od28, .func (PySem.W.fnOf "_law_wrong" "_law_wrong" (defArgs s__law_wrong) (defBody s__law_wrong) (defScope s__law_wrong) .none kV28 dc28 pm28 an28 cd28 ct28), sl28⟩)
    (c28 : PySem.W.codeIn K cd28 "_law_wrong" = true)
    (k28 : PySem.W.keepIn K (.ref f28) = true)
    (a29 : PySem.W.nsIn K mainGlobals "walk_of" = some (some (.ref f29)))
    (l29 : K.lookup f29 = some ⟨oc29, od29, .func (PySem.W.fnOf "walk_of" "walk_of" (defArgs s_walk_of_x) (defBody s_walk_of_x) (defScope s_walk_of_x) .none kV29 dc29 pm29 an29 cd29 ct29), sl29⟩)
    (c29 : PySem.W.codeIn K cd29 "walk_of" = true)
    (k29 : PySem.W.keepIn K (.ref f29) = true)
    (a30 : PySem.W.nsIn K mainGlobals "round_of" = some (some (.ref f30)))
    (l30 : K.lookup f30 = some ⟨oc30, od30, .func (PySem.W.fnOf "round_of" "round_of" (defArgs s_round_of_x) (defBody s_round_of_x) (defScope s_round_of_x) .none kV30 dc30 pm30 an30 cd30 ct30), sl30⟩)
    (c30 : PySem.W.codeIn K cd30 "round_of" = true)
    (k30 : PySem.W.keepIn K (.ref f30) = true)
    (a31 : PySem.W.nsIn K mainGlobals "meets" = some (some (.ref f31)))
    (l31 : K.lookup f31 = some ⟨oc31, od31, .func (PySem.W.fnOf "meets" "meets" (defArgs s_meets_x) (defBody s_meets_x) (defScope s_meets_x) .none kV31 dc31 pm31 an31 cd31 ct31), sl31⟩)
    (c31 : PySem.W.codeIn K cd31 "meets" = true)
    (k31 : PySem.W.keepIn K (.ref f31) = true)
    (a32 : PySem.W.nsIn K mainGlobals "_law_called" = some (some (.ref f32)))
    (l32 : K.lookup f32 = some ⟨oc32, od32, .func (PySem.W.fnOf "_law_called" "_law_called" (defArgs s__law_called) (defBody s__law_called) (defScope s__law_called) .none kV32 dc32 pm32 an32 cd32 ct32), sl32⟩)
    (c32 : PySem.W.codeIn K cd32 "_law_called" = true)
    (k32 : PySem.W.keepIn K (.ref f32) = true)
    (a33 : PySem.W.nsIn K mainGlobals "_law_due" = some (some (.ref f33)))
    (l33 : K.lookup f33 = some ⟨oc33, od33, .func (PySem.W.fnOf "_law_due" "_law_due" (defArgs s__law_due) (defBody s__law_due) (defScope s__law_due) .none kV33 dc33 pm33 an33 cd33 ct33), sl33⟩)
    (c33 : PySem.W.codeIn K cd33 "_law_due" = true)
    (k33 : PySem.W.keepIn K (.ref f33) = true)
    (a34 : PySem.W.nsIn K mainGlobals "law" = some (some (.ref f34)))
    (l34 : K.lookup f34 = some ⟨oc34, od34, .func (PySem.W.fnOf "law" "law" (defArgs s_law) (defBody s_law) (defScope s_law) .none kV34 dc34 pm34 an34 cd34 ct34), sl34⟩)
    (c34 : PySem.W.codeIn K cd34 "law" = true)
    (k34 : PySem.W.keepIn K (.ref f34) = true)
    (pg : PySem.W.plainGet K C Str.empty = true)
    (hd : PySem.W.hasDictIn K C = true)
    (po : PySem.W.plainOver K C = true)
    (sa : PySem.W.findIn K (.ref C) "__setattr__" = some (some (.builtin "object.__setattr__")))
    (mk : PySem.W.makesIn K C = true)
    (kc : PySem.W.keepIn K (.ref C) = true)
    (nR : PySem.W.findIn K (.ref C) "_rows" = some none)
    (cl1 : PySem.W.findIn K (.ref C) "__class__" = some (some (.builtin "object.__class__")))
    (cl2 : PySem.W.specialIn K (.builtin "object.__class__") "__get__" = some (some (.builtin "getset_descriptor.__get__")))
    (cl3 : PySem.W.takesIn K (.builtin "object.__class__") = some true)
    (cl4 : PySem.W.mroIn K C (.type "object") = some true)
    (sf : PySem.W.selfFirst K C = true)
    (S_InvalidNumber_InvalidNumber : PySem.W.subIn K (.ref C_InvalidNumber) (.ref C_InvalidNumber) = some true)
    (S_InvalidNumber_InvalidPost : PySem.W.subIn K (.ref C_InvalidNumber) (.ref C_InvalidPost) = some false)
    (S_InvalidNumber_InvalidSize : PySem.W.subIn K (.ref C_InvalidNumber) (.ref C_InvalidSize) = some false)
    (S_InvalidPost_InvalidPost : PySem.W.subIn K (.ref C_InvalidPost) (.ref C_InvalidPost) = some true)
    (S_InvalidPost_InvalidSize : PySem.W.subIn K (.ref C_InvalidPost) (.ref C_InvalidSize) = some false)
    (S_InvalidSize_InvalidSize : PySem.W.subIn K (.ref C_InvalidSize) (.ref C_InvalidSize) = some true)
    (zlen : PySem.W.nsIn K mainGlobals "len" = some none)
    (zint : PySem.W.nsIn K mainGlobals "int" = some none)
    (zrange : PySem.W.nsIn K mainGlobals "range" = some none)
    (zlist : PySem.W.nsIn K mainGlobals "list" = some none)
    (ztuple : PySem.W.nsIn K mainGlobals "tuple" = some none)
    (zisinstance : PySem.W.nsIn K mainGlobals "isinstance" = some none)
    (zall : PySem.W.nsIn K mainGlobals "all" = some none)
    (zany : PySem.W.nsIn K mainGlobals "any" = some none)
    (zbool : PySem.W.nsIn K mainGlobals "bool" = some none)
    (zstr : PySem.W.nsIn K mainGlobals "str" = some none)
    (zmin : PySem.W.nsIn K mainGlobals "min" = some none)
    (zmax : PySem.W.nsIn K mainGlobals "max" = some none)
    (zabs : PySem.W.nsIn K mainGlobals "abs" = some none)
    (zsum : PySem.W.nsIn K mainGlobals "sum" = some none)
    (zsorted : PySem.W.nsIn K mainGlobals "sorted" = some none)
    (zset : PySem.W.nsIn K mainGlobals "set" = some none)
    (zValueError : PySem.W.nsIn K mainGlobals "ValueError" = some none) :
    ∃ fd : FuncData, (∀ (s : Shared) (v : Value), BindsTo s fd ⟨[v], []⟩ [("script", v)]) ∧ ∀ base : Heap, K.In base → base.Ns mainGlobals mg → FnOk l.prog w K mg base CX0 10 fa fd ["script"] (spLaw K) := by
  have e := hfa.symm.trans (PySem.W.mg_of X G a34)
  cases e
  have B : Bi mg := ⟨PySem.W.mg_none_of X G zlen, PySem.W.mg_none_of X G zint, PySem.W.mg_none_of X G zrange, PySem.W.mg_none_of X G zlist, PySem.W.mg_none_of X G ztuple, PySem.W.mg_none_of X G zisinstance, PySem.W.mg_none_of X G zall, PySem.W.mg_none_of X G zany, PySem.W.mg_none_of X G zbool, PySem.W.mg_none_of X G zstr, PySem.W.mg_none_of X G zmin, PySem.W.mg_none_of X G zmax, PySem.W.mg_none_of X G zabs, PySem.W.mg_none_of X G zsum, PySem.W.mg_none_of X G zsorted, PySem.W.mg_none_of X G zset, PySem.W.mg_none_of X G zValueError⟩
  have G_Rule := PySem.W.mg_of X G aCRule
  have T : Rl K C := ⟨⟨pg, hd, po, sa⟩, nR, cl1, cl2, cl3, cl4, sf⟩
  have F1 := fun_mk (st := s_RungError_u__init_u_) l1 c1 k1
  have b1 := F1.binds (ps := ["self", "value"]) fun _ _ _ _ _ _ us hl => match us, hl with | [_, _], _ => rfl
  have F2 := fun_mk (st := s_check_size) l2 c2 k2
  have b2 := F2.binds (ps := ["n"]) fun _ _ _ _ _ _ us hl => match us, hl with | [_], _ => rfl
  have F3 := fun_mk (st := s_check_post) l3 c3 k3
  have b3 := F3.binds (ps := ["post", "n"]) fun _ _ _ _ _ _ us hl => match us, hl with | [_, _], _ => rfl
  have F4 := fun_mk (st := s_check_half_post) l4 c4 k4
  have b4 := F4.binds (ps := ["post"]) fun _ _ _ _ _ _ us hl => match us, hl with | [_], _ => rfl
  have F5 := fun_mk (st := s_check_number) l5 c5 k5
  have b5 := F5.binds (ps := ["number"]) fun _ _ _ _ _ _ us hl => match us, hl with | [_], _ => rfl
  have F6 := fun_mk (st := s_is_marked) l6 c6 k6
  have b6 := F6.binds (ps := ["text"]) fun _ _ _ _ _ _ us hl => match us, hl with | [_], _ => rfl
  have F7 := fun_mk (st := s_is_row) l7 c7 k7
  have b7 := F7.binds (ps := ["text"]) fun _ _ _ _ _ _ us hl => match us, hl with | [_], _ => rfl
  have F8 := fun_mk (st := s_Rule_u__init_u_) l8 c8 k8
  have b8 := F8.binds (ps := ["self", "texts"]) fun _ _ _ _ _ _ us hl => match us, hl with | [_, _], _ => rfl
  have F9 := fun_mk (st := s_Rule_width) l9 c9 k9
  have b9 := F9.binds (ps := ["self"]) fun _ _ _ _ _ _ us hl => match us, hl with | [_], _ => rfl
  have F10 := fun_mk (st := s_Rule_height) l10 c10 k10
  have b10 := F10.binds (ps := ["self"]) fun _ _ _ _ _ _ us hl => match us, hl with | [_], _ => rfl
  have F11 := fun_mk (st := s_Rule_has_rung) l11 c11 k11
  have b11 := F11.binds (ps := ["self", "row", "post"]) fun _ _ _ _ _ _ us hl => match us, hl with | [_, _, _], _ => rfl
  have F12 := fun_mk (st := s__past_row) l12 c12 k12
  have b12 := F12.binds (ps := ["rule", "n", "row", "post"]) fun _ _ _ _ _ _ us hl => match us, hl with | [_, _, _, _], _ => rfl
  have F13 := fun_mk (st := s__way) l13 c13 k13
  have b13 := F13.binds (ps := ["rule", "n", "post", "rows"]) fun _ _ _ _ _ _ us hl => match us, hl with | [_, _, _, _], _ => rfl
  have F14 := fun_mk (st := s__rungs_crossed) l14 c14 k14
  have b14 := F14.binds (ps := ["rule", "n", "post", "rows"]) fun _ _ _ _ _ _ us hl => match us, hl with | [_, _, _, _], _ => rfl
  have F15 := fun_mk (st := s_walk_of) l15 c15 k15
  have b15 := F15.binds (ps := ["rule", "n", "post", "rows"]) fun _ _ _ _ _ _ us hl => match us, hl with | [_, _, _, _], _ => rfl
  have F16 := fun_mk (st := s_check_size_x) l16 c16 k16
  have b16 := F16.binds (ps := ["n"]) fun _ _ _ _ _ _ us hl => match us, hl with | [_], _ => rfl
  have F17 := fun_mk (st := s_check_post_x) l17 c17 k17
  have b17 := F17.binds (ps := ["post", "n"]) fun _ _ _ _ _ _ us hl => match us, hl with | [_, _], _ => rfl
  have F18 := fun_mk (st := s_check_number_x) l18 c18 k18
  have b18 := F18.binds (ps := ["number"]) fun _ _ _ _ _ _ us hl => match us, hl with | [_], _ => rfl
  have F19 := fun_mk (st := s_partners_x) l19 c19 k19
  have b19 := F19.binds (ps := ["rule", "n", "post", "rows"]) fun _ _ _ _ _ _ us hl => match us, hl with | [_, _, _, _], _ => rfl
  have F20 := fun_mk (st := s__law_source) l20 c20 k20
  have b20 := F20.binds (ps := ["script"]) fun _ _ _ _ _ _ us hl => match us, hl with | [_], _ => rfl
  have F21 := fun_mk (st := s__law_draw) l21 c21 k21
  have b21 := F21.binds (ps := ["source", "limit"]) fun _ _ _ _ _ _ us hl => match us, hl with | [_, _], _ => rfl
  have F22 := fun_mk (st := s__law_number) l22 c22 k22
  have b22 := F22.binds (ps := ["source", "limit", "parts"]) fun _ _ _ _ _ _ us hl => match us, hl with | [_, _, _], _ => rfl
  have F23 := fun_mk (st := s__law_lines) l23 c23 k23
  have b23 := F23.binds (ps := ["span"]) fun _ _ _ _ _ _ us hl => match us, hl with | [_], _ => rfl
  have F24 := fun_mk (st := s__law_texts) l24 c24 k24
  have b24 := F24.binds (ps := ["source", "most"]) fun _ _ _ _ _ _ us hl => match us, hl with | [_, _], _ => rfl
  have F25 := fun_mk (st := s__law_crossed) l25 c25 k25
  have b25 := F25.binds (ps := ["line", "total", "at"]) fun _ _ _ _ _ _ us hl => match us, hl with | [_, _, _], _ => rfl
  have F26 := fun_mk (st := s__law_walk) l26 c26 k26
  have b26 := F26.binds (ps := ["texts", "total", "at", "depth"]) fun _ _ _ _ _ _ us hl => match us, hl with | [_, _, _, _], _ => rfl
  have F27 := fun_mk (st := s__law_same) l27 c27 k27
  have b27 := F27.binds (ps := ["actual", "expected"]) fun _ _ _ _ _ _ us hl => match us, hl with | [_, _], _ => rfl
  have F28 := fun_mk (st := s__law_wrong) l28 c28 k28
  have b28 := F28.binds (ps := ["source", "good", "above"]) fun _ _ _ _ _ _ us hl => match us, hl with | [_, _, _], _ => rfl
  have F29 := fun_mk (st := s_walk_of_x) l29 c29 k29
  have b29 := F29.binds (ps := ["rule", "n", "post", "rows"]) fun _ _ _ _ _ _ us hl => match us, hl with | [_, _, _, _], _ => rfl
  have F30 := fun_mk (st := s_round_of_x) l30 c30 k30
  have b30 := F30.binds (ps := ["rule", "n"]) fun _ _ _ _ _ _ us hl => match us, hl with | [_, _], _ => rfl
  have F31 := fun_mk (st := s_meets_x) l31 c31 k31
  have b31 := F31.binds (ps := ["rule", "n", "one", "other", "rows"]) fun _ _ _ _ _ _ us hl => match us, hl with | [_, _, _, _, _], _ => rfl
  have F32 := fun_mk (st := s__law_called) l32 c32 k32
  have b32 := F32.binds (ps := ["which", "made", "total", "left", "right", "depth"]) fun _ _ _ _ _ _ us hl => match us, hl with | [_, _, _, _, _, _], _ => rfl
  have F33 := fun_mk (st := s__law_due) l33 c33 k33
  have b33 := F33.binds (ps := ["which", "total", "left", "right", "depth"]) fun _ _ _ _ _ _ us hl => match us, hl with | [_, _, _, _, _], _ => rfl
  have F34 := fun_mk (st := s_law) l34 c34 k34
  have b34 := F34.binds (ps := ["script"]) fun _ _ _ _ _ _ us hl => match us, hl with | [_], _ => rfl
  refine ⟨PySem.W.fnOf "law" "law" (defArgs s_law) (defBody s_law) (defScope s_law) .none kV34 dc34 pm34 an34 cd34 ct34, fun s v => .of_eq rfl, fun base _ _ => ?_⟩
  have G1 : FnOk l.prog w K mg base CX0 1 f1 _ ["self", "value"] (spErr K) := ok_RungError_init F1 B
  have X_RungError : Er l.prog w K mg base "RungError" C_RungError := ⟨PySem.W.mg_of X G aCRungError, ⟨⟨_, _, _, _, _, _, _, _, _, _, _, _, _, _, _, xLRungError, refs_tail⟩, saRungError, eCRungError, tCRungError, kCRungError⟩, ⟨gaRungError, ggRungError, eCRungError, hCRungError⟩, ⟨gaRungError, ggRungError, eCRungError, hCRungError, haRungError, cl2, cl3, hmRungError⟩, nvRungError, ⟨_, _, inRungError, i1, G1, b1⟩⟩
  have X_InvalidSize : Er l.prog w K mg base "InvalidSize" C_InvalidSize := ⟨PySem.W.mg_of X G aCInvalidSize, ⟨⟨_, _, _, _, _, _, _, _, _, _, _, _, _, _, _, xLInvalidSize, refs_one⟩, saInvalidSize, eCInvalidSize, tCInvalidSize, kCInvalidSize⟩, ⟨gaInvalidSize, ggInvalidSize, eCInvalidSize, hCInvalidSize⟩, ⟨gaInvalidSize, ggInvalidSize, eCInvalidSize, hCInvalidSize, haInvalidSize, cl2, cl3, hmInvalidSize⟩, nvInvalidSize, ⟨_, _, inInvalidSize, i1, G1, b1⟩⟩
  have X_InvalidPost : Er l.prog w K mg base "InvalidPost" C_InvalidPost := ⟨PySem.W.mg_of X G aCInvalidPost, ⟨⟨_, _, _, _, _, _, _, _, _, _, _, _, _, _, _, xLInvalidPost, refs_one⟩, saInvalidPost, eCInvalidPost, tCInvalidPost, kCInvalidPost⟩, ⟨gaInvalidPost, ggInvalidPost, eCInvalidPost, hCInvalidPost⟩, ⟨gaInvalidPost, ggInvalidPost, eCInvalidPost, hCInvalidPost, haInvalidPost, cl2, cl3, hmInvalidPost⟩, nvInvalidPost, ⟨_, _, inInvalidPost, i1, G1, b1⟩⟩
  have X_InvalidNumber : Er l.prog w K mg base "InvalidNumber" C_InvalidNumber := ⟨PySem.W.mg_of X G aCInvalidNumber, ⟨⟨_, _, _, _, _, _, _, _, _, _, _, _, _, _, _, xLInvalidNumber, refs_one⟩, saInvalidNumber, eCInvalidNumber, tCInvalidNumber, kCInvalidNumber⟩, ⟨gaInvalidNumber, ggInvalidNumber, eCInvalidNumber, hCInvalidNumber⟩, ⟨gaInvalidNumber, ggInvalidNumber, eCInvalidNumber, hCInvalidNumber, haInvalidNumber, cl2, cl3, hmInvalidNumber⟩, nvInvalidNumber, ⟨_, _, inInvalidNumber, i1, G1, b1⟩⟩
  have G2 : FnOk l.prog w K mg base CX0 2 f2 _ ["n"] spCheckSize := ok_check_size F2 B
  have D_check_size := Df.mk' F2 G2 (PySem.W.mg_of X G a2) b2
  have G3 : FnOk l.prog w K mg base CX0 2 f3 _ ["post", "n"] spCheckPost := ok_check_post F3 B
  have D_check_post := Df.mk' F3 G3 (PySem.W.mg_of X G a3) b3
  have G4 : FnOk l.prog w K mg base CX0 2 f4 _ ["post"] spCheckHalf := ok_check_half_post F4 B
  have D_check_half_post := Df.mk' F4 G4 (PySem.W.mg_of X G a4) b4
  have G5 : FnOk l.prog w K mg base CX0 2 f5 _ ["number"] spCheckNumber := ok_check_number F5 B
  have D_check_number := Df.mk' F5 G5 (PySem.W.mg_of X G a5) b5
  have G6 : FnOk l.prog w K mg base CX0 1 f6 _ ["text"] spIsMarked := ok_is_marked F6 B
  have D_is_marked := Df.mk' F6 G6 (PySem.W.mg_of X G a6) b6
  have G7 : FnOk l.prog w K mg base CX0 2 f7 _ ["text"] spIsRow := ok_is_row F7 B D_is_marked
  have D_is_row := Df.mk' F7 G7 (PySem.W.mg_of X G a7) b7
  have G8 : FnOk l.prog w K mg base CX0 3 f8 _ ["self", "texts"] (spInit C) := ok_Rule_init F8 B T D_is_row
  have M_Rule : Mkr l.prog w K mg base "Rule" C 3 ["self", "texts"] (spInit C) := ⟨_, _, PySem.W.mg_of X G aCRule, ⟨mk, a8, i8, kc⟩, G8, b8⟩
  have G9 : FnOk l.prog w K mg base CX0 2 f9 _ ["self"] (spWidth C) := ok_Rule_width F9 B T
  have P_width : Pr l.prog w K mg base C "width" 2 (spWidth C) := ⟨_, _, _, T.cl, ⟨a9, g9, t9, _, r9⟩, G9, b9⟩
  have G10 : FnOk l.prog w K mg base CX0 2 f10 _ ["self"] (spHeight C) := ok_Rule_height F10 B T
  have P_height : Pr l.prog w K mg base C "height" 2 (spHeight C) := ⟨_, _, _, T.cl, ⟨a10, g10, t10, _, r10⟩, G10, b10⟩
  have G11 : FnOk l.prog w K mg base CX0 4 f11 _ ["self", "row", "post"] (spHasRung C) := ok_Rule_has_rung F11 B T D_check_number D_check_half_post P_width P_height
  have E_has_rung : Me l.prog w K mg base C "has_rung" 4 ["self", "row", "post"] (spHasRung C) := ⟨_, _, T.cl, ⟨a11, i11, k11⟩, G11, b11⟩
  have G12 : FnOk l.prog w K mg base CX0 5 f12 _ ["rule", "n", "row", "post"] (spPast C) := ok__past_row F12 B E_has_rung
  have D_past_row := Df.mk' F12 G12 (PySem.W.mg_of X G a12) b12
  have G13 : FnOk l.prog w K mg base CX0 6 f13 _ ["rule", "n", "post", "rows"] (spWay C) := ok__way F13 B D_past_row
  have D_way := Df.mk' F13 G13 (PySem.W.mg_of X G a13) b13
  have G14 : FnOk l.prog w K mg base CX0 7 f14 _ ["rule", "n", "post", "rows"] (spRungs C) := ok__rungs_crossed F14 B D_way
  have D_rungs_crossed := Df.mk' F14 G14 (PySem.W.mg_of X G a14) b14
  have G15 : FnOk l.prog w K mg base CX0 7 f15 _ ["rule", "n", "post", "rows"] (spWalkOf C) := ok_walk_of F15 B D_check_size D_check_post D_check_number D_way
  have D_walk_of := Df.mk' F15 G15 (PySem.W.mg_of X G a15) b15
  have G16 : FnOk l.prog w K mg base (L2.CX l.prog w) 4 f16 _ ["n"] (spChk C_InvalidSize 1) := ok_check_size_x F16 B X_InvalidSize
  have DX_check_size : DfX l.prog w K mg base "check_size" 4 ["n"] (spChk C_InvalidSize 1) := ⟨_, _, PySem.W.mg_of X G a16, G16, k16, b16⟩
  have G17 : FnOk l.prog w K mg base (L2.CX l.prog w) 4 f17 _ ["post", "n"] (spChkP C_InvalidPost) := ok_check_post_x F17 B X_InvalidPost
  have DX_check_post : DfX l.prog w K mg base "check_post" 4 ["post", "n"] (spChkP C_InvalidPost) := ⟨_, _, PySem.W.mg_of X G a17, G17, k17, b17⟩
  have G18 : FnOk l.prog w K mg base (L2.CX l.prog w) 4 f18 _ ["number"] (spChk C_InvalidNumber 0) := ok_check_number_x F18 B X_InvalidNumber
  have DX_check_number : DfX l.prog w K mg base "check_number" 4 ["number"] (spChk C_InvalidNumber 0) := ⟨_, _, PySem.W.mg_of X G a18, G18, k18, b18⟩
  have G19 : FnOk l.prog w K mg base (L2.CX l.prog w) 6 f19 _ ["rule", "n", "post", "rows"] (spPartnersX C C_InvalidSize C_InvalidPost C_InvalidNumber) := ok_partners_x F19 B DX_check_size DX_check_post DX_check_number D_past_row
  have DX_partners : DfX l.prog w K mg base "partners" 6 ["rule", "n", "post", "rows"] (spPartnersX C C_InvalidSize C_InvalidPost C_InvalidNumber) := ⟨_, _, PySem.W.mg_of X G a19, G19, k19, b19⟩
  have G20 : FnOk l.prog w K mg base CX0 2 f20 _ ["script"] (spSource K) := ok__law_source F20 B
  have D_law_source := Df.mk' F20 G20 (PySem.W.mg_of X G a20) b20
  have G21 : FnOk l.prog w K mg base CX0 2 f21 _ ["source", "limit"] spDraw := ok__law_draw F21 B
  have D_law_draw := Df.mk' F21 G21 (PySem.W.mg_of X G a21) b21
  have G22 : FnOk l.prog w K mg base CX0 3 f22 _ ["source", "limit", "parts"] spNumber := ok__law_number F22 B D_law_draw
  have D_law_number := Df.mk' F22 G22 (PySem.W.mg_of X G a22) b22
  have G23 : FnOk l.prog w K mg base CX0 2 f23 _ ["span"] spLinesSpan := ok__law_lines F23 B
  have D_law_lines := Df.mk' F23 G23 (PySem.W.mg_of X G a23) b23
  have G24 : FnOk l.prog w K mg base CX0 3 f24 _ ["source", "most"] spTexts := ok__law_texts F24 B D_law_draw D_law_lines
  have D_law_texts := Df.mk' F24 G24 (PySem.W.mg_of X G a24) b24
  have G25 : FnOk l.prog w K mg base CX0 2 f25 _ ["line", "total", "at"] spCrossed := ok__law_crossed F25 B
  have D_law_crossed := Df.mk' F25 G25 (PySem.W.mg_of X G a25) b25
  have G26 : FnOk l.prog w K mg base CX0 3 f26 _ ["texts", "total", "at", "depth"] spWalk := ok__law_walk F26 B D_law_crossed
  have D_law_walk := Df.mk' F26 G26 (PySem.W.mg_of X G a26) b26
  have G27 : FnOk l.prog w K mg base CX0 2 f27 _ ["actual", "expected"] spSameA := ok__law_same F27 B
  have D_law_same := Df.mk' F27 G27 (PySem.W.mg_of X G a27) b27
  have G28 : FnOk l.prog w K mg base CX0 4 f28 _ ["source", "good", "above"] spWrong := ok__law_wrong F28 B D_law_draw D_law_number
  have D_law_wrong := Df.mk' F28 G28 (PySem.W.mg_of X G a28) b28
  have G29 : FnOk l.prog w K mg base (L2.CX l.prog w) 7 f29 _ ["rule", "n", "post", "rows"] (spWalkX C C_InvalidSize C_InvalidPost C_InvalidNumber) := ok_walk_of_x F29 B DX_check_size DX_check_post DX_check_number D_way
  have DX_walk_of : DfX l.prog w K mg base "walk_of" 7 ["rule", "n", "post", "rows"] (spWalkX C C_InvalidSize C_InvalidPost C_InvalidNumber) := ⟨_, _, PySem.W.mg_of X G a29, G29, k29, b29⟩
  have G30 : FnOk l.prog w K mg base (L2.CX l.prog w) 7 f30 _ ["rule", "n"] (spRoundX C C_InvalidSize) := ok_round_of_x F30 B DX_check_size D_way P_height
  have DX_round_of : DfX l.prog w K mg base "round_of" 7 ["rule", "n"] (spRoundX C C_InvalidSize) := ⟨_, _, PySem.W.mg_of X G a30, G30, k30, b30⟩
  have G31 : FnOk l.prog w K mg base (L2.CX l.prog w) 8 f31 _ ["rule", "n", "one", "other", "rows"] (spMeetsX C C_InvalidSize C_InvalidPost C_InvalidNumber) := ok_meets_x F31 B DX_check_size DX_check_post DX_check_number D_rungs_crossed
  have DX_meets : DfX l.prog w K mg base "meets" 8 ["rule", "n", "one", "other", "rows"] (spMeetsX C C_InvalidSize C_InvalidPost C_InvalidNumber) := ⟨_, _, PySem.W.mg_of X G a31, G31, k31, b31⟩
  have G32 : FnOk l.prog w K mg base CX0 9 f32 _ ["which", "made", "total", "left", "right", "depth"] (spCalled C) := ok__law_called F32 B DX_walk_of DX_round_of DX_partners DX_meets X_InvalidSize X_InvalidPost X_InvalidNumber S_InvalidSize_InvalidSize S_InvalidPost_InvalidSize S_InvalidPost_InvalidPost S_InvalidNumber_InvalidSize S_InvalidNumber_InvalidPost S_InvalidNumber_InvalidNumber
  have D_law_called := Df.mk' F32 G32 (PySem.W.mg_of X G a32) b32
  have G33 : FnOk l.prog w K mg base CX0 2 f33 _ ["which", "total", "left", "right", "depth"] spDueC := ok__law_due F33 B
  have D_law_due := Df.mk' F33 G33 (PySem.W.mg_of X G a33) b33
  exact ok_law F34 B T G_Rule D_law_source D_law_draw D_law_number D_law_wrong D_law_texts D_law_called D_law_due D_law_walk D_law_same D_walk_of M_Rule
theorem walk {l : PySem.W.OpenLaw} {q : Program} {loose : List Str} {XP : (Str → Option Value) → Heap → Prop} {YP : World → Heap → Prop} {d : DefRec} {K : Params → PySem.W.Frag} (hn : l.most = some 63) (hdf : d.params.defaults = [])
    (hY : ∀ (w : World) (h : Heap), YP w h → (K w.params).In h)
    (F : ∀ (w : World) (mg : Str → Option Value) (fa : Addr) (h : Heap), (K w.params).In h → h.Ns mainGlobals mg → mg d.name = some (.ref fa) →
      ∃ fd : FuncData, (∀ (s : Shared) (u : Value), BindsTo s fd ⟨[u], []⟩ [("script", u)]) ∧ ∀ base : Heap, (K w.params).In base → base.Ns mainGlobals mg → FnOk l.prog w (K w.params) mg base CX0 10 fa fd ["script"] (spLaw (K w.params))) :
    PySem.W.WalkO q loose XP YP l.row.toRowW d [] (fun f vs => PySem.call f vs) :=
  L2.walk_of (n := 63) (k := 10) (x := "script") (CX := fun _ => CX0) (sp := fun w => spLaw (K w.params)) hn (by decide) hdf ⟨rfl, by decide, by decide⟩ hY F (fun _ _ a ns hl _ hS => ⟨a, ns, rfl, hS, hl, fun _ => rfl⟩) fun _ _ _ _ _ z => z
end Rg
open PySem PySem.W PyProof.Rows
set_option maxRecDepth 100000 in
set_option maxHeartbeats 0 in
theorem PySem.Challenge.cw_rungrepeats_k17_errors_of_walks_holds : PySem.Challenge.rw_rungrepeats_k17_errors_of_walks.Holds := by
  w_on; o_law; k_head; (case hw => w_witness2)
  k_fill
  refine Rg.walk (l := PySem.Challenge.rw_rungrepeats_k17_errors_of_walks) rfl rfl (fun w h Y => PySem.W.kIn_of Y) ?F
  case F =>
    intro w mg fa h KX G hmg
    refine' Rg.all_mk KX G hmg ?aCRungError ?xLRungError ?saRungError ?gaRungError ?ggRungError ?nvRungError ?kCRungError ?eCRungError ?tCRungError ?hCRungError ?haRungError ?hmRungError ?aCInvalidSize ?xLInvalidSize ?saInvalidSize ?gaInvalidSize ?ggInvalidSize ?nvInvalidSize ?kCInvalidSize ?eCInvalidSize ?tCInvalidSize ?hCInvalidSize ?haInvalidSize ?hmInvalidSize ?aCInvalidPost ?xLInvalidPost ?saInvalidPost ?gaInvalidPost ?ggInvalidPost ?nvInvalidPost ?kCInvalidPost ?eCInvalidPost ?tCInvalidPost ?hCInvalidPost ?haInvalidPost ?hmInvalidPost ?aCInvalidNumber ?xLInvalidNumber ?saInvalidNumber ?gaInvalidNumber ?ggInvalidNumber ?nvInvalidNumber ?kCInvalidNumber ?eCInvalidNumber ?tCInvalidNumber ?hCInvalidNumber ?haInvalidNumber ?hmInvalidNumber ?aCRule ?inRungError ?inInvalidSize ?inInvalidPost ?inInvalidNumber ?i1 ?l1 ?c1 ?k1 ?a2 ?l2 ?c2 ?k2 ?a3 ?l3 ?c3 ?k3 ?a4 ?l4 ?c4 ?k4 ?a5 ?l5 ?c5 ?k5 ?a6 ?l6 ?c6 ?k6 ?a7 ?l7 ?c7 ?k7 ?a8 ?i8 ?l8 ?c8 ?k8 ?a9 ?g9 ?t9 ?r9 ?l9 ?c9 ?k9 ?a10 ?g10 ?t10 ?r10 ?l10 ?c10 ?k10 ?a11 ?i11 ?l11 ?c11 ?k11 ?a12 ?l12 ?c12 ?k12 ?a13 ?l13 ?c13 ?k13 ?a14 ?l14 ?c14 ?k14 ?a15 ?l15 ?c15 ?k15 ?a16 ?l16 ?c16 ?k16 ?a17 ?l17 ?c17 ?k17 ?a18 ?l18 ?c18 ?k18 ?a19 ?l19 ?c19 ?k19 ?a20 ?l20 ?c20 ?k20 ?a21 ?l21 ?c21 ?k21 ?a22 ?l22 ?c22 ?k22 ?a23 ?l23 ?c23 ?k23 ?a24 ?l24 ?c24 ?k24 ?a25 ?l25 ?c25 ?k25 ?a26 ?l26 ?c26 ?k26 ?a27 ?l27 ?c27 ?k27 ?a28 ?l28 ?c28 ?k28 ?a29 ?l29 ?c29 ?k29 ?a30 ?l30 ?c30 ?k30 ?a31 ?l31 ?c31 ?k31 ?a32 ?l32 ?c32 ?k32 ?a33 ?l33 ?c33 ?k33 ?a34 ?l34 ?c34 ?k34 ?pg ?hd ?po ?sa ?mk ?kc ?nR ?cl1 ?cl2 ?cl3 ?cl4 ?sf ?S_InvalidNumber_InvalidNumber ?S_InvalidNumber_InvalidPost ?S_InvalidNumber_InvalidSize ?S_InvalidPost_InvalidPost ?S_InvalidPost_InvalidSize ?S_InvalidSize_InvalidSize ?zlen ?zint ?zrange ?zlist ?ztuple ?zisinstance ?zall ?zany ?zbool ?zstr ?zmin ?zmax ?zabs ?zsum ?zsorted ?zset ?zValueError
    (case aCRungError => k_is)
    (case xLRungError => k_is)
    (case saRungError => k_is)
    (case gaRungError => k_is)
    (case ggRungError => k_is)
    (case nvRungError => k_is)
    (case kCRungError => k_is)
    (case eCRungError => k_is)
    (case tCRungError => k_is)
    (case hCRungError => k_is)
    (case haRungError => k_is)
    (case hmRungError => k_is)
    (case aCInvalidSize => k_is)
    (case xLInvalidSize => k_is)
    (case saInvalidSize => k_is)
    (case gaInvalidSize => k_is)
    (case ggInvalidSize => k_is)
    (case nvInvalidSize => k_is)
    (case kCInvalidSize => k_is)
    (case eCInvalidSize => k_is)
    (case tCInvalidSize => k_is)
    (case hCInvalidSize => k_is)
    (case haInvalidSize => k_is)
    (case hmInvalidSize => k_is)
    (case aCInvalidPost => k_is)
    (case xLInvalidPost => k_is)
    (case saInvalidPost => k_is)
    (case gaInvalidPost => k_is)
    (case ggInvalidPost => k_is)
    (case nvInvalidPost => k_is)
    (case kCInvalidPost => k_is)
    (case eCInvalidPost => k_is)
    (case tCInvalidPost => k_is)
    (case hCInvalidPost => k_is)
    (case haInvalidPost => k_is)
    (case hmInvalidPost => k_is)
    (case aCInvalidNumber => k_is)
    (case xLInvalidNumber => k_is)
    (case saInvalidNumber => k_is)
    (case gaInvalidNumber => k_is)
    (case ggInvalidNumber => k_is)
    (case nvInvalidNumber => k_is)
    (case kCInvalidNumber => k_is)
    (case eCInvalidNumber => k_is)
    (case tCInvalidNumber => k_is)
    (case hCInvalidNumber => k_is)
    (case haInvalidNumber => k_is)
    (case hmInvalidNumber => k_is)
    (case aCRule => k_is)
    (case inRungError => k_is)
    (case inInvalidSize => k_is)
    (case inInvalidPost => k_is)
    (case inInvalidNumber => k_is)
    (case i1 => k_is)
    (case l1 => k_is)
    (case c1 => k_is)
    (case k1 => k_is)
    (case a2 => k_is)
    (case l2 => k_is)
    (case c2 => k_is)
    (case k2 => k_is)
    (case a3 => k_is)
    (case l3 => k_is)
    (case c3 => k_is)
    (case k3 => k_is)
    (case a4 => k_is)
    (case l4 => k_is)
    (case c4 => k_is)
    (case k4 => k_is)
    (case a5 => k_is)
    (case l5 => k_is)
    (case c5 => k_is)
    (case k5 => k_is)
    (case a6 => k_is)
    (case l6 => k_is)
    (case c6 => k_is)
    (case k6 => k_is)
    (case a7 => k_is)
    (case l7 => k_is)
    (case c7 => k_is)
    (case k7 => k_is)
    (case a8 => k_is)
    (case i8 => k_is)
    (case l8 => k_is)
    (case c8 => k_is)
    (case k8 => k_is)
    (case a9 => k_is)
    (case g9 => k_is)
    (case t9 => k_is)
    (case r9 => k_is)
    (case l9 => k_is)
    (case c9 => k_is)
    (case k9 => k_is)
    (case a10 => k_is)
    (case g10 => k_is)
    (case t10 => k_is)
    (case r10 => k_is)
    (case l10 => k_is)
    (case c10 => k_is)
    (case k10 => k_is)
    (case a11 => k_is)
    (case i11 => k_is)
    (case l11 => k_is)
    (case c11 => k_is)
    (case k11 => k_is)
    (case a12 => k_is)
    (case l12 => k_is)
    (case c12 => k_is)
    (case k12 => k_is)
    (case a13 => k_is)
    (case l13 => k_is)
    (case c13 => k_is)
    (case k13 => k_is)
    (case a14 => k_is)
    (case l14 => k_is)
    (case c14 => k_is)
    (case k14 => k_is)
    (case a15 => k_is)
    (case l15 => k_is)
    (case c15 => k_is)
    (case k15 => k_is)
    (case a16 => k_is)
    (case l16 => k_is)
    (case c16 => k_is)
    (case k16 => k_is)
    (case a17 => k_is)
    (case l17 => k_is)
    (case c17 => k_is)
    (case k17 => k_is)
    (case a18 => k_is)
    (case l18 => k_is)
    (case c18 => k_is)
    (case k18 => k_is)
    (case a19 => k_is)
    (case l19 => k_is)
    (case c19 => k_is)
    (case k19 => k_is)
    (case a20 => k_is)
    (case l20 => k_is)
    (case c20 => k_is)
    (case k20 => k_is)
    (case a21 => k_is)
    (case l21 => k_is)
    (case c21 => k_is)
    (case k21 => k_is)
    (case a22 => k_is)
    (case l22 => k_is)
    (case c22 => k_is)
    (case k22 => k_is)
    (case a23 => k_is)
    (case l23 => k_is)
    (case c23 => k_is)
    (case k23 => k_is)
    (case a24 => k_is)
    (case l24 => k_is)
    (case c24 => k_is)
    (case k24 => k_is)
    (case a25 => k_is)
    (case l25 => k_is)
    (case c25 => k_is)
    (case k25 => k_is)
    (case a26 => k_is)
    (case l26 => k_is)
    (case c26 => k_is)
    (case k26 => k_is)
    (case a27 => k_is)
    (case l27 => k_is)
    (case c27 => k_is)
    (case k27 => k_is)
    (case a28 => k_is)
    (case l28 => k_is)
    (case c28 => k_is)
    (case k28 => k_is)
    (case a29 => k_is)
    (case l29 => k_is)
    (case c29 => k_is)
    (case k29 => k_is)
    (case a30 => k_is)
    (case l30 => k_is)
    (case c30 => k_is)
    (case k30 => k_is)
    (case a31 => k_is)
    (case l31 => k_is)
    (case c31 => k_is)
    (case k31 => k_is)
    (case a32 => k_is)
    (case l32 => k_is)
    (case c32 => k_is)
    (case k32 => k_is)
    (case a33 => k_is)
    (case l33 => k_is)
    (case c33 => k_is)
    (case k33 => k_is)
    (case a34 => k_is)
    (case l34 => k_is)
    (case c34 => k_is)
    (case k34 => k_is)
    (case pg => k_is)
    (case hd => k_is)
    (case po => k_is)
    (case sa => k_is)
    (case mk => k_is)
    (case kc => k_is)
    (case nR => k_is)
    (case cl1 => k_is)
    (case cl2 => k_is)
    (case cl3 => k_is)
    (case cl4 => k_is)
    (case sf => k_is)
    (case S_InvalidNumber_InvalidNumber => k_is)
    (case S_InvalidNumber_InvalidPost => k_is)
    (case S_InvalidNumber_InvalidSize => k_is)
    (case S_InvalidPost_InvalidPost => k_is)
    (case S_InvalidPost_InvalidSize => k_is)
    (case S_InvalidSize_InvalidSize => k_is)
    (case zlen => k_is)
    (case zint => k_is)
    (case zrange => k_is)
    (case zlist => k_is)
    (case ztuple => k_is)
    (case zisinstance => k_is)
    (case zall => k_is)
    (case zany => k_is)
    (case zbool => k_is)
    (case zstr => k_is)
    (case zmin => k_is)
    (case zmax => k_is)
    (case zabs => k_is)
    (case zsum => k_is)
    (case zsorted => k_is)
    (case zset => k_is)
    (case zValueError => k_is)
