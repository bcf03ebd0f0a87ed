import PyProof.Rows.All
import Wide.All
import OpenK.AllK
import Wide.FinOn
import HandS.ForMost
import HandS.IsInst
import HandS.Property
import HandS.Wide
import HandS.Gcd
import HandS.More
import HandS.OwnEq
import HandS.Style
import KE.KMathGC
import HandS.Defaults
import HandS.MakeKwOnly
import PySem.Challenge.RW_rungrepeats_k19_steps_on_the_endless_row
set_option Elab.async false
set_option maxRecDepth 100000
set_option maxHeartbeats 4000000
set_option linter.unusedVariables false
/-! own words, shared by the proofs of this program's laws -/
namespace Rg
open PySem L2 TL

/-- the built-ins that are read are not shadowed -/
structure Bi (mg : Str → Option Value) : Prop where
  len_ : mg "len" = none
  int_ : mg "int" = none
  range_ : mg "range" = none
  list_ : mg "list" = none
  tuple_ : mg "tuple" = none
  isinstance_ : mg "isinstance" = none
  all_ : mg "all" = none
  any_ : mg "any" = none
  bool_ : mg "bool" = none
  str_ : mg "str" = none
  min_ : mg "min" = none
  max_ : mg "max" = none
  abs_ : mg "abs" = none
  sum_ : mg "sum" = none
  sorted_ : mg "sorted" = none
  set_ : mg "set" = none
  ValueError_ : mg "ValueError" = none

/-- a def of the module that keeps a promise -/
structure Df (P : Program) (w : World) (K : PySem.W.Frag) (mg : Str → Option Value) (base : Heap) (x : Str) (k : Nat) (ps : List Str) (sp : Sp) : Prop where
  ex : ∃ f fd, mg x = some (.ref f) ∧ FnOk P w K mg base CX0 k f fd ps sp ∧ PySem.W.keepIn K (.ref f) = true ∧ Binds K fd ps []
section
variable {X : Cx} {x : Str} {k : Nat} {ps : List Str} {sp : Sp} {e : Expr} {es : List Expr} {t : TA} {p pos : Pos}
theorem pe_df (D : Df X.prog X.w X.K X.mg X.base x k ps sp) (hr : Room k X.A) (hg : Gl X x) (ha : PA X (e :: es) t) (hdb : (x == ("__debug__" : Str)) = false := by decide)
    (he : starEach (e :: es) X.env = (false, eval e X.env) :: starEach es X.env := by rfl) (hpl : (backTo pos (starEach es X.env)).any (·.1) = false := by rfl) :
    PE X (.Call (.Name x p) (e :: es) [] pos) (tCall sp [] E0 t) := by
  obtain ⟨f, fd, hm, F, hk, hb⟩ := D.ex
  exact pe_call F hr hg hm hk hb .nil pass0 ha hdb he hpl
end
theorem Df.mk' {P : Program} {w : World} {K : PySem.W.Frag} {mg : Str → Option Value} {base : Heap} {x q : Str} {st : Stmt} {k : Nat} {ps : List Str} {sp : Sp} {f : Addr} {fd : FuncData} (F : Fun K x q st f fd) (G : FnOk P w K mg base CX0 k f fd ps sp)
    (hm : mg x = some (.ref f)) (hb : Binds K fd ps []) : Df P w K mg base x k ps sp := ⟨f, fd, hm, G, F.kp, hb⟩

/-- an own class: made by an __init__ that keeps sp -/
structure Mkr (P : Program) (w : World) (K : PySem.W.Frag) (mg : Str → Option Value) (base : Heap) (x : Str) (C : Addr) (k : Nat) (ps : List Str) (sp : Sp) : Prop where
  ex : ∃ f fd, mg x = some (.ref C) ∧ Mk K C f ∧ FnOk P w K mg base CX0 k f fd ps sp ∧ Binds K fd ps []
/-- a property of the class at C -/
structure Pr (P : Program) (w : World) (K : PySem.W.Frag) (mg : Str → Option Value) (base : Heap) (C : Addr) (x : Str) (k : Nat) (sp : Sp) : Prop where
  ex : ∃ p g fd, Cls K C ∧ PropOf K C x p g ∧ FnOk P w K mg base CX0 k g fd ["self"] sp ∧ Binds K fd ["self"] []
/-- a method of the class at C -/
structure Me (P : Program) (w : World) (K : PySem.W.Frag) (mg : Str → Option Value) (base : Heap) (C : Addr) (x : Str) (k : Nat) (ps : List Str) (sp : Sp) : Prop where
  ex : ∃ f fd, Cls K C ∧ Meth K C x f ∧ FnOk P w K mg base CX0 k f fd ps sp ∧ Binds K fd ps []
section
variable {X : Cx} {x m : Str} {k : Nat} {C : Addr} {ps : List Str} {sp : Sp} {o e : Expr} {es : List Expr} {ta : TE} {t : TA} {p pos apos : Pos}
theorem pe_mk (M : Mkr X.prog X.w X.K X.mg X.base x C k ps sp) (hr : Room (k + 1) X.A) (hg : Gl X x) (ha : PA X (e :: es) t) (hdb : (x == ("__debug__" : Str)) = false := by decide)
    (he : starEach (e :: es) X.env = (false, eval e X.env) :: starEach es X.env := by rfl) (hpl : (backTo pos (starEach es X.env)).any (·.1) = false := by rfl) :
    PE X (.Call (.Name x p) (e :: es) [] pos) (tMake C sp [] E0 t) := by
  obtain ⟨f, fd, hm, M, F, hb⟩ := M.ex
  exact pe_make M F hr hg hm hb .nil pass0 ha hdb he hpl
theorem pe_pr (he : PE X o ta) (D : Pr X.prog X.w X.K X.mg X.base C x k sp) (hr : Room (k + 1) X.A) (hab : attributeBase o x X.env (eval o X.env) = eval o X.env) : PE X (.Attribute o x pos) (tProp C sp [] E0 ta) := by
  obtain ⟨p, g, fd, c, hp, F, hb⟩ := D.ex
  exact pe_prop he c hp F hr hb .nil pass0 hab
theorem pe_me {pl : Sem Bool} (he : PE X o ta) (D : Me X.prog X.w X.K X.mg X.base C m k ps sp) (hr : Room k X.A) (ha : PA X (e :: es) t)
    (hst : starEach (e :: es) X.env = (false, eval e X.env) :: starEach es X.env := by rfl) (hpl : (backTo pos (starEach es X.env)).any (·.1) = false := by rfl)
    (ht : eval (.Call (.Attribute o m apos) (e :: es) [] pos) X.env = (do
      let ov ← eval o X.env
      standAt apos.atName
      let (f, first) ← holding [ov] (getMethod ov m pl)
      callWith pos f first (backTo pos (starEach (e :: es) X.env)) (backToKw pos (keywordEach [] X.env))) := by rfl) :
    PE X (.Call (.Attribute o m apos) (e :: es) [] pos) (tMeth C m sp [] E0 ta t) := by
  obtain ⟨f, fd, c, hm, F, hb⟩ := D.ex
  exact pe_meth he c hm F hr hb .nil pass0 ha hst hpl ht
theorem pe_me0 {pl : Sem Bool} (he : PE X o ta) (D : Me X.prog X.w X.K X.mg X.base C m k ps sp) (hr : Room k X.A)
    (ht : eval (.Call (.Attribute o m apos) [] [] pos) X.env = (do
      let ov ← eval o X.env
      standAt apos.atName
      let (f, first) ← holding [ov] (getMethod ov m pl)
      callWith pos f first (backTo pos (starEach [] X.env)) (backToKw pos (keywordEach [] X.env))) := by rfl) :
    PE X (.Call (.Attribute o m apos) [] [] pos) (tMeth C m sp [] E0 ta tNil) := by
  obtain ⟨f, fd, c, hm, F, hb⟩ := D.ex
  exact pe_meth0 he c hm F hr hb .nil pass0 ht
end

/-! ### a text many times -/
theorem foldl_nat (items : Array Nat) : ∀ (k : Nat) (acc : Array Nat), List.foldl (fun x1 x2 => x1 ++ x2) acc (List.replicate k items) = (acc.toList ++ (List.replicate k items.toList).flatten).toArray
  | 0, acc => by simp
  | k + 1, acc => by simp [List.replicate_succ, foldl_nat items k, List.append_assoc]
theorem mul_tl (z : Str) (n : Int) (h : 1 ≤ n) : Txt.mul z n = ⟨((List.replicate n.toNat (tl z)).flatten).toArray⟩ := by
  unfold Txt.mul
  rw [if_neg (by omega)]
  by_cases h1 : (n == 1 || z.length == 0) = true
  · rw [if_pos h1]
    refine ext_tl ?_
    show tl z = (List.replicate n.toNat (tl z)).flatten
    rw [Bool.or_eq_true, beq_iff_eq, beq_iff_eq] at h1
    rcases h1 with e | e
    · subst e
      simp
    · have e2 : tl z = [] := by
        rw [len_tl] at e
        exact List.length_eq_zero_iff.mp e
      rw [e2]
      simp
  · rw [if_neg h1]
    congr 1
    show List.foldl (fun x1 x2 => x1 ++ x2) #[] (List.replicate n.toNat z.cps) = _
    rw [foldl_nat]
    simp [tl]
def rRepS : R2 := fun x y H Q => ∃ z n, x = .str z ∧ y = .int n ∧ 1 ≤ n ∧ n < 2 ^ 63 ∧ z.length * n.toNat ≤ sizeLine ∧ Q (.str ⟨((List.replicate n.toNat (tl z)).flatten).toArray⟩) H
theorem op_rep_str {X : Cx} : OpR X (binaryOp .Mult) rRepS := by
  intro pins s σ H x y v u Q I rx ry h
  obtain ⟨z, n, rfl, rfl, h1, h63, hz, q⟩ := h
  obtain ⟨t, rfl⟩ := rx
  obtain ⟨t', rfl⟩ := ry
  have hp : ((z.length : Int)) * n ≤ 2 ^ 24 := by
    have e : ((z.length * n.toNat : Nat) : Int) ≤ ((2 ^ 24 : Nat) : Int) := Int.ofNat_le.mpr hz
    rw [Int.natCast_mul, Int.toNat_of_nonneg (by omega)] at e
    exact e
  refine SB.mul ⟨?_, fun _ _ => ?_, fun _ _ => ?_⟩ fun t2 k => ?_
  · rw [decide_eq_false (by omega), decide_eq_false (by omega)]
    rfl
  · have := (Int.le_ediv_iff_mul_le (a := (z.length : Int)) (b := 2 ^ 63 - 1) (c := n) (by omega)).mpr (by omega)
    omega
  · exact decide_eq_false (by omega)
  · rw [mul_tl z n h1]
    exact ⟨.str _, H, I.tok _, ⟨_, rfl⟩, q⟩

abbrev rLenSeq (K : PySem.W.Frag) : List V → Hp → VK → Prop := fun xs H Q => ∃ p ys, xs = [.ref p] ∧ (SqL K H p ys ∨ SqT K H p ys) ∧ Q (.int ys.length) H
abbrev rJoin (K : PySem.W.Frag) : V → List V → Hp → VK → Prop := fun x xs H Q => ∃ a p, ∃ ys : List Str, x = .str a ∧ xs = [.ref p] ∧ (SqL K H p (ys.map V.str) ∨ SqT K H p (ys.map V.str)) ∧
    (ys.map (·.length)).sum + ys.length * a.length ≤ 16777216 ∧ Q (.str (Txt.join a ys)) H
/-! ### sides -/
theorem cp60 : CPow 10 60 := ⟨by decide, by decide, by decide⟩
theorem cp18 : CPow 10 18 := ⟨by decide, by decide, by decide⟩
theorem cp61 : CPow 10 61 := ⟨by decide, by decide, by decide⟩
theorem cp20 : CPow 10 20 := ⟨by decide, by decide, by decide⟩
theorem cp30 : CPow 10 30 := ⟨by decide, by decide, by decide⟩
theorem cm60 : CMulW ((10 : Int) ^ (60 : Int).toNat) ((10 : Int) ^ (60 : Int).toNat) := by
  show _ < _
  decide +kernel
theorem ps60 : (0 : Int) < (10 : Int) ^ (60 : Int).toNat * (10 : Int) ^ (60 : Int).toNat := by decide +kernel
/-- what is drawn: as many as the limits, each from 0 on below its limit -/
def Drawn (ds ls : List Int) : Prop := ds.length = ls.length ∧ ∀ (i : Nat) (d l : Int), ds[i]? = some d → ls[i]? = some l → 0 ≤ d ∧ d < l
theorem Drawn.at {ds ls : List Int} (h : Drawn ds ls) {i : Nat} {l : Int} (e : ls[i]? = some l) : ∃ d, (ds.map V.int)[i]? = some (V.int d) ∧ ds[i]? = some d ∧ 0 ≤ d ∧ d < l := by
  have hi := (List.getElem?_eq_some_iff.mp e).1
  rw [← h.1] at hi
  refine ⟨ds[i], ?_, List.getElem?_eq_getElem hi, h.2 i _ l (List.getElem?_eq_getElem hi) e⟩
  rw [List.getElem?_map, List.getElem?_eq_getElem hi]
  rfl
theorem getV {ns : List Int} {i : Nat} (h : i < ns.length) : (ns.map V.int)[i]? = some (V.int ns[i]) := by
  rw [List.getElem?_map, List.getElem?_eq_getElem h]
  rfl
theorem getS {ns : List Str} {i : Nat} (h : i < ns.length) : (ns.map V.str)[i]? = some (V.str ns[i]) := by
  rw [List.getElem?_map, List.getElem?_eq_getElem h]
  rfl
/-- an index that is a number -/
theorem atI_k {xs : List V} {i : Int} {v : V} (k : Nat) (e : i = (k : Int)) (h : xs[k]? = some v) : atI xs i = some v := by
  subst e
  exact atI_nat h
theorem atI_k' {α : Type} {xs : List α} {i : Int} {v : α} (k : Nat) (e : i = (k : Int)) (h : xs[k]? = some v) : atI xs i = some v := by
  subst e
  exact atI_nat h
theorem ixN_nat {n p : Nat} (h : p < n) : ixN n (p : Int) = some p := by
  unfold ixN
  rw [if_pos (by omega), if_pos (by omega)]
  rfl
theorem _root_.L2.Same.upd {H : Hp} {p : Addr} {o : HO} (h : H p = none) : Same H (upd H p o) := fun b u e => by rw [upd_ne (ne_of_none e h)]; exact e
theorem _root_.L2.Same.up {H H1 : Hp} {p : Addr} {o : HO} (s : Same H H1) (h : H1 p = none) : Same H (L2.upd H1 p o) := s.trans (L2.Same.upd h)
/-- an object that is new with regard to H may be changed -/
theorem _root_.L2.Same.put {H H1 : Hp} {p : Addr} {o : HO} (s : Same H H1) (h : H p = none) : Same H (L2.upd H1 p o) := fun b u e => by rw [upd_ne (ne_of_none e h)]; exact s b u e

/-! ### len of an object with its own __len__ -/
def rLenOwn (C : Addr) (sp : Sp) : List V → Hp → VK → Prop := fun xs H Q => ∃ a dx fs, xs = [.ref a] ∧ H a = some (.ins C dx fs) ∧ sp [.ref a] H (fun v H' => ∃ n : Int, v = .int n ∧ (0 ≤ n ∧ n < 2 ^ 63) ∧ Q (.int n) H') E0
theorem call_lenR {X : Cx} {C : Addr} {k : Nat} {sp : Sp} (D : Me X.prog X.w X.K X.mg X.base C "__len__" k ["self"] sp) (hr : Room (k + 1) X.A) : CallR X (.builtin "len") (rLenOwn C sp) := by
  intro pins s σ H xs us Q I r h
  obtain ⟨a, dx, fs, rfl, ea, q⟩ := h
  obtain ⟨f, fd, c, hm, F, hb⟩ := D.ex
  cases r with
  | cons rv rn =>
    cases rn
    obtain rfl := (show _ = Value.ref a from rv)
    obtain ⟨mA, O, _⟩ := ins_get I.hok ea
    obtain ⟨od, J, _⟩ := O.look
    refine Calls.call_function_entry PySem.kind_len PySem.plain_len PySem.entry_len (PySem.args_len1 _) ?_
    unfold Builtin.«len»
    refine wpAny_bind (m := oneArg "len" _) (wpAny_pure ?_)
    refine wpAny_bind (m := callSpecial? (.ref a) (Str.ofString "__len__")) (PySem.W.special_fn I.kIn J hm.at_ (beq_iff_eq.mp hm.fn) ?_)
    refine wpAny_call (codeAny_mono (F.run X.A.in1 X.stack s H ⟨[.ref a], []⟩ [.ref a] [.ref a] _ E0 hr.in1 I.env0.in1 (hb _ [.ref a] I.kIn rfl) (.cons rfl .nil) q) fun r s' hq => ?_)
    cases r with
    | error e => exact False.elim hq
    | ok fl =>
      cases fl with
      | ret u =>
        obtain ⟨v, H', I3, rv, n, rfl, ⟨h0, h1⟩, q3⟩ := I.after hq
        obtain ⟨t, rfl⟩ := rv
        refine wpAny_bind (wpAny_holding (wpAny_pure ?_))
        refine wpAny_bind (wpAny_letGo ?_)
        show wpAny _ _ (if n < 0 then _ else _) _ _ _
        rw [if_neg (by omega)]
        show wpAny _ _ (if n ≥ 2 ^ 63 then _ else _) _ _ _
        rw [if_neg (by omega)]
        exact wpAny_bind (wpAny_mkInt (wpAny_pure ⟨_, rfl, ⟨.int n, H', I3.tok _, ⟨_, rfl⟩, q3⟩⟩))
      | next => exact False.elim hq
      | brk => exact False.elim hq
      | cont => exact False.elim hq
theorem atI_back {α : Type} {xs : List α} {v : α} (h : xs[xs.length - 1]? = some v) : atI xs (-1) = some v := by
  have hl := (List.getElem?_eq_some_iff.mp h).1
  unfold atI ixN
  rw [if_neg (by omega), if_pos (by omega)]
  show xs[((-1 : Int) + (xs.length : Int)).toNat]? = some v
  rw [show ((-1 : Int) + (xs.length : Int)).toNat = xs.length - 1 by omega]
  exact h
/-- what follows an if is shown once, for all that W says -/
theorem cutIf {b : Bool} {A : Prop} {D : Ends} {σ : St} {H : Hp} (W : St → Hp → Prop) (hT : ∀ σ' H', W σ' H' → D.nx σ' H') (hA : (∀ σ' H', W σ' H' → D.nx σ' H') → b = true → A) (hB : b = false → W σ H) : if b = true then A else tNext D σ H := by
  cases b with
  | true => exact hA hT rfl
  | false => exact hT σ H (hB rfl)
theorem cutIf2 {b : Bool} {A B : Prop} {D : Ends} (W : St → Hp → Prop) (hT : ∀ σ' H', W σ' H' → D.nx σ' H') (hA : (∀ σ' H', W σ' H' → D.nx σ' H') → b = true → A) (hB : (∀ σ' H', W σ' H' → D.nx σ' H') → b = false → B) : if b = true then A else B := by
  cases b with
  | true => exact hA hT rfl
  | false => exact hB hT rfl
/-- a new object -/
theorem nw {H H1 : Hp} {p : Addr} {o : HO} (e : upd H p o = H1) (h : H p = none) : Same H H1 ∧ H1 p = some o := by
  subst e
  exact ⟨L2.Same.upd h, upd_same⟩
theorem cutAnd {b : Bool} {A A2 : Prop} {D : Ends} {σ : St} {H : Hp} (W : St → Hp → Prop) (hT : ∀ σ' H', W σ' H' → D.nx σ' H') (hA : (∀ σ' H', W σ' H' → D.nx σ' H') → b = true → A) (hB : b = false → W σ H) :
    if b = true then A else (if false = true then A2 else tNext D σ H) := by
  cases b with
  | true => exact hA hT rfl
  | false => exact hT σ H (hB rfl)
/-- a power of a great number -/
def CPowW (i j : Int) : Prop := 0 ≤ j ∧ ∃ k : Nat, i.natAbs < 2 ^ k ∧ (k : Int) * j ≤ 2 ^ 27
theorem op_powW {X : Cx} : OpR X (binaryOp .Pow) (rI CPowW fun i j => .int (i ^ j.toNat)) := opI fun _ _ _ _ _ _ _ hc q => by
  obtain ⟨h0, k, hk, hz⟩ := hc
  refine PyProof.Rows.pow_int h0 (Int.le_trans (Int.mul_le_mul_of_nonneg_right (Int.ofNat_le.mpr (PyProof.Rows.intBits_le hk)) h0) hz) q
end Rg
/-! own mathematics: rows -/
namespace Rg
open PySem L2 TL

/-! ### how often one sign stands in a text -/
theorem cnt_run (x : Str) (c limit : Nat) : ∀ (m cur : Nat) (st : Array Nat × Nat), st.snd ≤ cur → st.fst.size + m ≤ limit →
    (forIn (List.range' cur m) st (StrLaws.occBody x ⟨#[c]⟩ x.length limit)).run.fst.size = st.fst.size + (((x.cps.toList).drop cur).take m).count c
  | 0, cur, st, h, _ => by simp
  | m + 1, cur, st, h, hl => by
    rw [List.range'_succ, List.forIn_cons]
    unfold StrLaws.occBody
    by_cases hc : x.cps.toList[cur]? = some c
    · have h2 := (StrLaws.subAt_one x c cur).mpr hc
      rw [if_pos ⟨⟨⟨by omega, h⟩, h2.1⟩, h2.2⟩]
      have ih := cnt_run x c limit m (cur + 1) (st.fst.push cur, cur + 1) (Nat.le_refl _) (by show (st.fst.push cur).size + m ≤ limit; rw [Array.size_push]; omega)
      obtain ⟨hlt, hget⟩ := List.getElem?_eq_some_iff.mp hc
      have e : (x.cps.toList.drop cur).take (m + 1) = c :: (x.cps.toList.drop (cur + 1)).take m := by
        rw [List.drop_eq_getElem_cons hlt, List.take_succ_cons, hget]
      refine Eq.trans ih ?_
      rw [e, List.count_cons_self]
      show (st.fst.push cur).size + _ = _
      rw [Array.size_push]
      omega
    · rw [if_neg fun z => hc ((StrLaws.subAt_one x c cur).mp ⟨z.1.2, z.2⟩)]
      have ih := cnt_run x c limit m (cur + 1) (st.fst, st.snd) (Nat.le_succ_of_le h) (by show st.fst.size + m ≤ limit; omega)
      refine Eq.trans ih ?_
      show st.fst.size + _ = _
      by_cases hlt : cur < x.cps.toList.length
      · have e : (x.cps.toList.drop cur).take (m + 1) = x.cps.toList[cur] :: (x.cps.toList.drop (cur + 1)).take m := by
          rw [List.drop_eq_getElem_cons hlt, List.take_succ_cons]
        have hne : ¬ (x.cps.toList[cur] == c) = true := fun z => hc (by rw [List.getElem?_eq_getElem hlt, beq_iff_eq.mp z])
        rw [e, List.count_cons_of_ne (fun z => hne (beq_iff_eq.mpr z))]
      · rw [List.drop_of_length_le (by omega), List.drop_of_length_le (by omega)]
        simp
theorem count_one (x : Str) (c : Nat) : Txt.count x ⟨#[c]⟩ = ((tl x).count c : Nat) := by
  show (((Builtin.Str.occurrences x ⟨#[c]⟩ 0 x.length (x.length + 1)).length : Nat) : Int) = _
  rw [StrLaws.occ_eq]
  have h := cnt_run x c (x.length + 1) (x.length + 1 - 0) 0 ((#[] : Array Nat), 0) (Nat.le_refl _) (by simp)
  rw [Array.length_toList, h]
  have e : ((x.cps.toList.drop 0).take (x.length + 1 - 0)) = x.cps.toList := by
    rw [List.drop_zero, List.take_of_length_le]
    show x.cps.toList.length ≤ x.cps.size + 1
    simp
  rw [e]
  simp [tl]

/-! ### rows -/
/-- the sign number i, modulo the length -/
def sg (l : List Nat) (i : Int) : Nat := l.getD (i % (l.length : Int)).toNat 0
def Signs (l : List Nat) : Prop := ∀ c ∈ l, c = 45 ∨ c = 46
structure Row (l : List Nat) : Prop where
  ne : 0 < l.length
  sgn : Signs l
  gap : ∀ i : Int, ¬ (sg l i = 45 ∧ sg l (i + 1) = 45)
theorem place_lt {l : List Nat} (h : 0 < l.length) (i : Int) : (i % (l.length : Int)).toNat < l.length := by
  have h1 := Int.emod_nonneg i (show (l.length : Int) ≠ 0 by omega)
  have h2 := Int.emod_lt_of_pos i (show (0 : Int) < l.length by omega)
  omega
theorem sg_get {l : List Nat} (h : 0 < l.length) (i : Int) : l[(i % (l.length : Int)).toNat]? = some (sg l i) := by
  unfold sg
  rw [List.getD_eq_getElem?_getD, List.getElem?_eq_getElem (place_lt h i)]
  rfl
theorem sg_nat {l : List Nat} {k : Nat} (h : k < l.length) : l[k]? = some (sg l (k : Int)) := by
  have e : ((k : Int) % (l.length : Int)).toNat = k := by
    rw [Int.emod_eq_of_lt (by omega) (by omega)]
    omega
  have q := sg_get (l := l) (by omega) (k : Int)
  rw [e] at q
  exact q
theorem sg_mem {l : List Nat} (h : 0 < l.length) (i : Int) : sg l i ∈ l := List.mem_of_getElem? (sg_get h i)
theorem sg_congr {l : List Nat} {i j : Int} (h : i % (l.length : Int) = j % (l.length : Int)) : sg l i = sg l j := by
  unfold sg
  rw [h]
theorem sg_add {l : List Nat} (i : Int) : sg l (i + (l.length : Int)) = sg l i := sg_congr (Int.add_emod_right i _)
theorem sg_first {l : List Nat} (h : 0 < l.length) : l[0]? = some (sg l 0) := sg_nat h
/-- what the program looks at: the signs and the first one behind them -/
theorem gap_iff {l : List Nat} (h : 0 < l.length) : (∀ i : Int, ¬ (sg l i = 45 ∧ sg l (i + 1) = 45)) ↔ ∀ i : Nat, ¬ ((l ++ l.take 1)[i]? = some 45 ∧ (l ++ l.take 1)[i + 1]? = some 45) := by
  have hn : ∀ k : Nat, k ≤ l.length → (l ++ l.take 1)[k]? = some (sg l (k : Int)) := fun k hk => by
    by_cases h1 : k < l.length
    · rw [List.getElem?_append_left h1]
      exact sg_nat h1
    · have e : k = l.length := by omega
      subst e
      rw [List.getElem?_append_right (Nat.le_refl _), Nat.sub_self, List.getElem?_take_of_lt (by omega), sg_first h]
      have q := sg_add (l := l) 0
      rw [Int.zero_add] at q
      rw [q]
  have hlen : (l ++ l.take 1).length = l.length + 1 := by
    rw [List.length_append, List.length_take]
    omega
  constructor
  · rintro g i ⟨h1, h2⟩
    have hi := (List.getElem?_eq_some_iff.mp h2).1
    rw [hlen] at hi
    rw [hn i (by omega)] at h1
    rw [hn (i + 1) (by omega)] at h2
    exact g (i : Int) ⟨Option.some.inj h1, by simpa using h2⟩
  · rintro g i ⟨h1, h2⟩
    have hp := place_lt h i
    have h0 := Int.emod_nonneg i (show (l.length : Int) ≠ 0 by omega)
    have e : (((i % (l.length : Int)).toNat : Nat) : Int) = i % (l.length : Int) := Int.toNat_of_nonneg h0
    have a1 : sg l (((i % (l.length : Int)).toNat : Nat) : Int) = sg l i := sg_congr (by rw [e, Int.emod_emod])
    have a2 : sg l ((((i % (l.length : Int)).toNat + 1 : Nat) : Nat) : Int) = sg l (i + 1) := sg_congr (by
      rw [Int.natCast_add, e]
      show (i % (l.length : Int) + 1) % (l.length : Int) = (i + 1) % (l.length : Int)
      rw [Int.emod_add_emod])
    refine g (i % (l.length : Int)).toNat ⟨?_, ?_⟩
    · rw [hn _ (by omega), a1, h1]
    · rw [hn _ (by omega), a2, h2]
theorem signs_count : ∀ l : List Nat, l.count 45 + l.count 46 ≤ l.length ∧ (l.count 45 + l.count 46 = l.length ↔ Signs l)
  | [] => ⟨by simp, by simp [Signs]⟩
  | a :: l => by
    obtain ⟨h1, h2⟩ := signs_count l
    by_cases e : a = 45
    · subst e
      rw [List.count_cons_self, List.count_cons_of_ne (by decide)]
      refine ⟨by simp; omega, ⟨fun h c hc => ?_, fun h => ?_⟩⟩
      · rcases List.mem_cons.mp hc with rfl | hc
        · exact .inl rfl
        · exact h2.mp (by simp at h; omega) c hc
      · have := h2.mpr fun c hc => h c (List.mem_cons_of_mem _ hc)
        simp; omega
    · by_cases e2 : a = 46
      · subst e2
        rw [List.count_cons_self, List.count_cons_of_ne (by decide)]
        refine ⟨by simp; omega, ⟨fun h c hc => ?_, fun h => ?_⟩⟩
        · rcases List.mem_cons.mp hc with rfl | hc
          · exact .inr rfl
          · exact h2.mp (by simp at h; omega) c hc
        · have := h2.mpr fun c hc => h c (List.mem_cons_of_mem _ hc)
          simp; omega
      · rw [List.count_cons_of_ne (fun z => e z), List.count_cons_of_ne (fun z => e2 z)]
        refine ⟨by simp; omega, ⟨fun h => ?_, fun h => ?_⟩⟩
        · simp at h; omega
        · rcases h a List.mem_cons_self with q | q
          · exact absurd q e
          · exact absurd q e2
/-- a list whose signs are those of a row, one after the other, at other places -/
theorem Row.move {l m : List Nat} (R : Row l) (hm : 0 < m.length) (f : Int → Int) (h : ∀ k : Nat, k < m.length → m[k]? = some (sg l (f k))) (hp : ∀ i : Int, sg l (f (i % (m.length : Int))) = sg l (f i)) (hs : ∀ i : Int, f (i + 1) = f i + 1 ∨ f (i + 1) = f i - 1) : Row m := by
  have key : ∀ i : Int, sg m i = sg l (f i) := fun i => by
    have h1 := sg_get hm i
    rw [h _ (place_lt hm i)] at h1
    have e : (((i % (m.length : Int)).toNat : Nat) : Int) = i % (m.length : Int) := Int.toNat_of_nonneg (Int.emod_nonneg i (by omega))
    rw [e, hp] at h1
    exact (Option.some.inj h1).symm
  refine ⟨hm, fun c hc => ?_, fun i ⟨h1, h2⟩ => ?_⟩
  · obtain ⟨k, hk, e⟩ := List.mem_iff_getElem.mp hc
    have q := h k hk
    rw [List.getElem?_eq_getElem hk, e] at q
    rw [Option.some.inj q]
    exact R.sgn _ (sg_mem R.ne _)
  · rw [key] at h1 h2
    rcases hs i with e | e
    · rw [e] at h2
      exact R.gap (f i) ⟨h1, h2⟩
    · rw [e] at h2
      exact R.gap (f i - 1) ⟨h2, by rw [Int.sub_add_cancel]; exact h1⟩
theorem rep_length (n : Nat) (l : List Nat) : ((List.replicate n l).flatten).length = n * l.length := by simp
theorem rep_get {l : List Nat} (hl : 0 < l.length) : ∀ (n k : Nat), k < n * l.length → ((List.replicate n l).flatten)[k]? = some (sg l (k : Int))
  | 0, k, h => by omega
  | n + 1, k, h => by
    rw [List.replicate_succ, List.flatten_cons]
    by_cases h1 : k < l.length
    · rw [List.getElem?_append_left h1]
      exact sg_nat h1
    · rw [List.getElem?_append_right (by omega), rep_get hl n (k - l.length) (by rw [Nat.succ_mul] at h; omega)]
      have e : ((k : Int)) = ((k - l.length : Nat) : Int) + (l.length : Int) := by omega
      rw [e, sg_add]
theorem Row.rep {l : List Nat} (R : Row l) {n : Nat} (hn : 0 < n) : Row (List.replicate n l).flatten := by
  have hlen := rep_length n l
  refine R.move (f := id) (by rw [hlen]; exact Nat.mul_pos hn R.ne) (fun k hk => rep_get R.ne n k (by rw [← hlen]; exact hk)) (fun i => sg_congr ?_) (fun i => .inl rfl)
  show (i % _) % _ = i % _
  rw [hlen]
  refine Int.emod_emod_of_dvd i ?_
  exact ⟨(n : Int), by rw [Int.natCast_mul, Int.mul_comm]⟩
/-- one sign becomes a point -/
theorem Row.dot {l : List Nat} (R : Row l) (p : Nat) : Row (l.set p 46) := by
  have hlen : (l.set p 46).length = l.length := List.length_set
  have key : ∀ i : Int, sg (l.set p 46) i = 46 ∨ sg (l.set p 46) i = sg l i := fun i => by
    unfold sg
    rw [hlen, List.getD_eq_getElem?_getD, List.getD_eq_getElem?_getD, List.getElem?_set]
    by_cases e : p = (i % (l.length : Int)).toNat
    · rw [if_pos e]
      by_cases h2 : p < l.length
      · rw [if_pos h2]
        exact .inl rfl
      · have := place_lt R.ne i
        omega
    · rw [if_neg e]
      exact .inr rfl
  refine ⟨by rw [hlen]; exact R.ne, fun c hc => ?_, fun i ⟨h1, h2⟩ => ?_⟩
  · rcases List.mem_or_eq_of_mem_set hc with h | h
    · exact R.sgn c h
    · exact .inr h
  · rcases key i with e | e
    · omega
    · rcases key (i + 1) with e2 | e2
      · omega
      · exact R.gap i ⟨by omega, by omega⟩
end Rg
namespace Rg
open PySem L2 TL
theorem take2_drop {l : List Nat} {a b i : Nat} : ((l.drop i).take 2 == [a, b]) = true ↔ l[i]? = some a ∧ l[i + 1]? = some b := by
  have e0 : l[i]? = (l.drop i)[0]? := by rw [List.getElem?_drop]; rfl
  have e1 : l[i + 1]? = (l.drop i)[1]? := by rw [List.getElem?_drop]
  rw [e0, e1, beq_iff_eq]
  cases l.drop i with
  | nil => simp
  | cons x r =>
    cases r with
    | nil => simp
    | cons y r => simp
theorem tl_dd : tl (Str.ofString "--") = [45, 45] := by decide +kernel
theorem dd_iff (y : Str) : (!(Builtin.Str.occurrences y (Str.ofString "--") 0 y.length 1).isEmpty) = true ↔ ∃ i, (tl y)[i]? = some 45 ∧ (tl y)[i + 1]? = some 45 := by
  rw [StrLaws.found_iff]
  have hl : (Str.ofString "--").length = 2 := by decide +kernel
  constructor
  · rintro ⟨i, _, h⟩
    rw [StrLaws.subAt_eq, hl, show (Str.ofString "--").cps.toList = [45, 45] from tl_dd] at h
    exact ⟨i, take2_drop.mp h⟩
  · rintro ⟨i, h⟩
    refine ⟨i, ?_, ?_⟩
    · have := (List.getElem?_eq_some_iff.mp h.2).1
      rw [hl, len_tl]
      omega
    · rw [StrLaws.subAt_eq, hl, show (Str.ofString "--").cps.toList = [45, 45] from tl_dd]
      exact take2_drop.mpr h
/-- what the program asks of a text is that it be a row -/
theorem row_asked {z : Str} {c : Nat} (h0 : 0 < (tl z).length) (hs : (tl z).count 45 + (tl z).count 46 = (tl z).length) (hc : (tl z)[0]? = some c) :
    (!(!(Builtin.Str.occurrences (z ++ (⟨#[c]⟩ : Str)) (Str.ofString "--") 0 (z ++ (⟨#[c]⟩ : Str)).length 1).isEmpty)) = true ↔ Row (tl z) := by
  have e : tl (z ++ (⟨#[c]⟩ : Str)) = tl z ++ (tl z).take 1 := by
    rw [tl_append]
    congr 1
    cases h : tl z with
    | nil => rw [h] at h0; simp at h0
    | cons x r =>
      rw [h] at hc
      have : x = c := by simpa using hc
      subst this
      rfl
  have d := dd_iff (z ++ (⟨#[c]⟩ : Str))
  rw [e] at d
  have g := gap_iff h0
  constructor
  · intro h
    refine ⟨h0, (signs_count _).2.mp hs, g.mpr fun i q => ?_⟩
    have := d.mpr ⟨i, q⟩
    rw [this] at h
    exact absurd h (by decide)
  · intro R
    cases q : (!(Builtin.Str.occurrences (z ++ (⟨#[c]⟩ : Str)) (Str.ofString "--") 0 (z ++ (⟨#[c]⟩ : Str)).length 1).isEmpty) with
    | false => rfl
    | true =>
      obtain ⟨i, hi⟩ := d.mp q
      exact absurd hi (g.mp R.gap i)
end Rg
namespace Rg
open PySem L2 TL
/-! ### a row that grows sign by sign -/
structure Part (n : Nat) (l : List Nat) : Prop where
  sgn : Signs l
  gap : ∀ i : Nat, ¬ (l[i]? = some 45 ∧ l[i + 1]? = some 45)
  fin : l.length = n → ¬ (l[n - 1]? = some 45 ∧ l[0]? = some 45)
theorem Part.nil {n : Nat} (h : 0 < n) : Part n [] := ⟨fun _ h => (nomatch h), fun i h => by simp at h, fun e => by simp at e; omega⟩
theorem Part.add {n : Nat} {l : List Nat} {c : Nat} (p : Part n l) (hc : c = 45 ∨ c = 46) (h1 : c = 45 → l.getLast? ≠ some 45) (h2 : c = 45 → l.length + 1 = n → n ≠ 1 ∧ l[0]? ≠ some 45) : Part n (l ++ [c]) := by
  refine ⟨fun x hx => ?_, fun i ⟨g1, g2⟩ => ?_, fun e ⟨g1, g2⟩ => ?_⟩
  · rcases List.mem_append.mp hx with h | h
    · exact p.sgn x h
    · rw [List.mem_singleton.mp h]
      exact hc
  · have hi := (List.getElem?_eq_some_iff.mp g2).1
    rw [List.length_append, List.length_singleton] at hi
    by_cases hl : i + 1 < l.length
    · rw [List.getElem?_append_left (by omega)] at g1
      rw [List.getElem?_append_left hl] at g2
      exact p.gap i ⟨g1, g2⟩
    · have e : i + 1 = l.length := by omega
      rw [List.getElem?_append_left (by omega)] at g1
      rw [e, List.getElem?_append_right (Nat.le_refl _), Nat.sub_self] at g2
      have ec : c = 45 := by simpa using g2
      refine h1 ec ?_
      rw [List.getLast?_eq_getElem?, show l.length - 1 = i by omega]
      exact g1
  · rw [List.length_append, List.length_singleton] at e
    rw [List.getElem?_append_right (by omega), show n - 1 - l.length = 0 by omega] at g1
    have ec : c = 45 := by simpa using g1
    obtain ⟨a1, a2⟩ := h2 ec e
    rw [List.getElem?_append_left (by omega)] at g2
    exact a2 g2
theorem Part.row {n : Nat} {l : List Nat} (p : Part n l) (e : l.length = n) (h : 0 < n) : Row l := by
  subst e
  refine ⟨h, p.sgn, (gap_iff h).mpr fun i ⟨g1, g2⟩ => ?_⟩
  have hi := (List.getElem?_eq_some_iff.mp g2).1
  rw [List.length_append, List.length_take] at hi
  rw [List.getElem?_append_left (by omega)] at g1
  by_cases hl : i + 1 < l.length
  · rw [List.getElem?_append_left hl] at g2
    exact p.gap i ⟨g1, g2⟩
  · have e : i + 1 = l.length := by omega
    rw [e, List.getElem?_append_right (Nat.le_refl _), Nat.sub_self, List.getElem?_take_of_lt (by omega)] at g2
    exact p.fin rfl ⟨by rw [show l.length - 1 = i by omega]; exact g1, g2⟩
theorem cut_last {z : Str} {c : Nat} (h : (tl z).getLast? = some c) : cutS z (some (-1)) none = ⟨#[c]⟩ := by
  refine ext_tl ?_
  show ((tl z).drop (HT.sIx z.length 0 (some (-1)))).take (HT.sIx z.length z.length none - HT.sIx z.length 0 (some (-1))) = [c]
  have e1 : HT.sIx z.length 0 (some (-1)) = z.length - 1 := by
    show (if (-1 : Int) < 0 then ((-1 : Int) + (z.length : Int)).toNat else min (-1 : Int).toNat z.length) = _
    rw [if_pos (by decide)]
    omega
  have e2 : HT.sIx z.length z.length none = z.length := rfl
  rw [e1, e2, len_tl]
  rw [List.getLast?_eq_getElem?] at h
  obtain ⟨hl, hg⟩ := List.getElem?_eq_some_iff.mp h
  rw [List.drop_eq_getElem_cons hl, hg, show (tl z).length - ((tl z).length - 1) = 1 by omega]
  rfl
/-- the rows of a rule, n signs each -/
structure Rows (n : Nat) (ls : List Str) : Prop where
  ne : 0 < ls.length
  len : ∀ z ∈ ls, (tl z).length = n
  row : ∀ z ∈ ls, Row (tl z)
theorem Rows.pos {n : Nat} {ls : List Str} (h : Rows n ls) : 0 < n := by
  have e := List.getElem_mem h.ne
  rw [← h.len _ e]
  exact (h.row _ e).ne
end Rg
namespace Rg
open PySem L2 TL
/-- a text k times -/
def repS (k : Nat) (z : Str) : Str := ⟨((List.replicate k (tl z)).flatten).toArray⟩
theorem tl_repS (k : Nat) (z : Str) : tl (repS k z) = (List.replicate k (tl z)).flatten := rfl
theorem Rows.mapRep {n k : Nat} {ls : List Str} (R : Rows n ls) (hk : 0 < k) : Rows (k * n) (ls.map (repS k)) := by
  refine ⟨by rw [List.length_map]; exact R.ne, fun z hz => ?_, fun z hz => ?_⟩
  all_goals obtain ⟨y, hy, rfl⟩ := List.mem_map.mp hz
  · rw [tl_repS, rep_length, R.len y hy]
  · rw [tl_repS]
    exact (R.row y hy).rep hk
theorem mem_rep {α : Type} {k : Nat} {l : List α} {x : α} (h : x ∈ (List.replicate k l).flatten) : x ∈ l := by
  rw [List.mem_flatten] at h
  obtain ⟨m, h1, h2⟩ := h
  rw [(List.mem_replicate.mp h1).2] at h2
  exact h2
theorem Rows.many {n k : Nat} {ls : List Str} (R : Rows n ls) (hk : 0 < k) : Rows n (List.replicate k ls).flatten :=
  ⟨by rw [show (List.replicate k ls).flatten.length = k * ls.length by simp]; exact Nat.mul_pos hk R.ne, fun z hz => R.len z (mem_rep hz), fun z hz => R.row z (mem_rep hz)⟩
theorem Rows.set {n : Nat} {ls : List Str} (R : Rows n ls) (p : Nat) {z : Str} (h : (tl z).length = n) (hr : Row (tl z)) : Rows n (ls.set p z) :=
  ⟨by rw [List.length_set]; exact R.ne, fun y hy => (List.mem_or_eq_of_mem_set hy).elim (R.len y) fun e => by rw [e]; exact h, fun y hy => (List.mem_or_eq_of_mem_set hy).elim (R.row y) fun e => by rw [e]; exact hr⟩
theorem rep_map {α β : Type} (f : α → β) (k : Nat) (l : List α) : (List.replicate k (l.map f)).flatten = (List.replicate k l).flatten.map f := by
  rw [List.map_flatten, List.map_replicate]
theorem rep_len' {α : Type} (k : Nat) (l : List α) : (List.replicate k l).flatten.length = k * l.length := by simp
theorem sIx_nat {n d p : Nat} : HT.sIx n d (some (p : Int)) = min p n := by
  show (if (p : Int) < 0 then ((p : Int) + (n : Int)).toNat else min (p : Int).toNat n) = _
  rw [if_neg (by omega)]
  rfl
/-- z[:p] + '.' + z[p + 1:] -/
theorem cut_dot {z s : Str} {p : Nat} (hs : tl s = [46]) (h : p < (tl z).length) : tl (cutS z none (some (p : Int)) ++ s ++ cutS z (some ((p : Int) + 1)) none) = (tl z).set p 46 := by
  rw [tl_append, tl_append, hs]
  have e1 : tl (cutS z none (some (p : Int))) = (tl z).take p := by
    show ((tl z).drop (HT.sIx z.length 0 none)).take (HT.sIx z.length z.length (some (p : Int)) - HT.sIx z.length 0 none) = _
    rw [sIx_nat]
    show ((tl z).drop 0).take (min p z.length - 0) = _
    rw [List.drop_zero, Nat.sub_zero, len_tl, Nat.min_eq_left (Nat.le_of_lt h)]
  have e2 : tl (cutS z (some ((p : Int) + 1)) none) = (tl z).drop (p + 1) := by
    show ((tl z).drop (HT.sIx z.length 0 (some ((p : Int) + 1)))).take (HT.sIx z.length z.length none - HT.sIx z.length 0 (some ((p : Int) + 1))) = _
    rw [show ((p : Int) + 1) = ((p + 1 : Nat) : Int) from rfl, sIx_nat]
    show ((tl z).drop (min (p + 1) z.length)).take (z.length - min (p + 1) z.length) = _
    rw [len_tl, Nat.min_eq_left (by omega), List.take_of_length_le (by rw [List.length_drop]; exact Nat.le_refl _)]
  rw [e1, e2, List.set_eq_take_append_cons_drop, if_pos h, List.append_assoc]
  rfl
theorem Rows.lenS {n : Nat} {ls : List Str} (R : Rows n ls) {z : Str} (h : z ∈ ls) : z.length = n := by rw [len_tl]; exact R.len z h
theorem take_snoc {α β : Type} {f : α → β} {ls : List α} {i : Nat} (h : i < ls.length) : (ls.take (i + 1)).map f = (ls.take i).map f ++ [f ls[i]] := by
  rw [List.take_add_one, List.getElem?_eq_getElem h, List.map_append]
  rfl
end Rg
/-! own words: == of own objects and of lists of texts -/
namespace Rg
open PySem L2 TL
theorem dp_strs {K : PySem.W.Frag} {H : Hp} : ∀ ls : List Str, DpAll K H (ls.map V.str) (ls.map PyData.str)
  | [] => .nil
  | z :: ls => .cons (.str z) (dp_strs ls)
theorem eqvAll_strs : ∀ ls ms : List Str, PyData.eqvAll (ls.map PyData.str) (ms.map PyData.str) = decide (ls = ms)
  | [], [] => rfl
  | [], _ :: _ => rfl
  | _ :: _, [] => rfl
  | x :: ls, y :: ms => by
    show (PyData.eqv (.str x) (.str y) && PyData.eqvAll (ls.map PyData.str) (ms.map PyData.str)) = _
    rw [eqvAll_strs ls ms]
    show ((x == y) && decide (ls = ms)) = _
    by_cases h1 : x = y
    · subst h1
      by_cases h2 : ls = ms
      · subst h2
        simp
      · rw [decide_eq_false h2, decide_eq_false fun e => h2 (List.cons.inj e).2]
        simp
    · rw [decide_eq_false fun e => h1 (List.cons.inj e).1, beq_eq_false_iff_ne.mpr h1]
      rfl
theorem eqv_tup (ls ms : List Str) : PyData.eqv (.tuple (ls.map PyData.str)) (.tuple (ms.map PyData.str)) = decide (ls = ms) := eqvAll_strs ls ms
theorem eqv_lst (ls ms : List Str) : PyData.eqv (.list (ls.map PyData.str)) (.list (ms.map PyData.str)) = decide (ls = ms) := eqvAll_strs ls ms
theorem depth_strs : ∀ ls : List Str, PyData.depthAll (ls.map PyData.str) ≤ 1
  | [] => Nat.zero_le _
  | z :: ls => by
    have ih := depth_strs ls
    simp only [List.map_cons, PyData.depthAll, PyData.depth]
    omega
theorem lay_strs : ∀ ls : List Str, (∀ z ∈ ls, Signs (tl z)) → PyData.canLayAll0 (ls.map PyData.str) = true
  | [], _ => rfl
  | z :: ls, h => by
    have ih := lay_strs ls fun y hy => h y (List.mem_cons_of_mem _ hy)
    show (PyData.strOk z && PyData.canLayAll0 (ls.map PyData.str)) = true
    rw [ih, Bool.and_true]
    show (z.cps.all fun x => decide (x < 0x110000)) = true
    rw [← Array.all_toList, List.all_eq_true]
    intro c hc
    rcases h z List.mem_cons_self c hc with e | e
    · rw [e]; rfl
    · rw [e]; rfl
theorem shaped_tup {ls : List Str} (h : ∀ z ∈ ls, Signs (tl z)) : SeqAt.shaped (.tuple (ls.map PyData.str)) = true := by
  have h1 := lay_strs ls h
  have h2 := depth_strs ls
  show (PyData.canLayAll0 (ls.map PyData.str) && decide (PyData.depth (.tuple (ls.map PyData.str)) ≤ 64)) = true
  rw [h1, Bool.true_and, decide_eq_true_eq]
  simp only [PyData.depth]
  omega
theorem shaped_lst {ls : List Str} (h : ∀ z ∈ ls, Signs (tl z)) : SeqAt.shaped (.list (ls.map PyData.str)) = true := by
  have h1 := lay_strs ls h
  have h2 := depth_strs ls
  show (PyData.canLayAll0 (ls.map PyData.str) && decide (PyData.depth (.list (ls.map PyData.str)) ≤ 64)) = true
  rw [h1, Bool.true_and, decide_eq_true_eq]
  simp only [PyData.depth]
  omega
theorem Rows.signs {n : Nat} {ls : List Str} (R : Rows n ls) : ∀ z ∈ ls, Signs (tl z) := fun z hz => (R.row z hz).sgn

/-! ### == of an object with its own __eq__ -/
def rEqOwn (K : PySem.W.Frag) (C : Addr) (sp : Sp) : R2 := fun x y H Q => ∃ a b dx dy fs gs, x = .ref a ∧ y = .ref b ∧ H a = some (.ins C dx fs) ∧ H b = some (.ins C dy gs) ∧ sp [.ref a, .ref b] H (fun v H' => ∃ k : Bool, v = .bl k ∧ Q (.bl k) H') E0
theorem op_eqOwn {X : Cx} {C : Addr} {n : Nat} {sp : Sp} (D : Me X.prog X.w X.K X.mg X.base C "__eq__" n ["self", "other"] sp) (hr : Room n X.A) : OpR X (compareOp .Eq) (rEqOwn X.K C sp) := by
  intro pins s σ H x y v u Q I rx ry h
  obtain ⟨a, b, dx, dy, fs, gs, rfl, rfl, ha, hb', q⟩ := h
  obtain ⟨f, fd, c, hm, F, hb⟩ := D.ex
  cases rx
  cases ry
  show wpAny (model X.prog X.w) X.A (richCompare .Eq (.ref a) (.ref b)) (EP X pins σ Q) X.xe s
  obtain ⟨mA, J, _⟩ := ins_get I.hok ha
  obtain ⟨mB, J', _⟩ := ins_get I.hok hb'
  obtain ⟨od, J, _⟩ := J.look
  obtain ⟨od', J', _⟩ := J'.look
  obtain ⟨m, hF⟩ := I.fr
  refine PySem.W.cmp_K (op := .Eq) (tb := .ref C) hr.units0 hF I.ok.mod.kin J J'.type (by simp [PySem.W.notFirst]) hm.at_ hm.fn ?_
  refine wpAny_call (codeAny_mono (F.run X.A X.stack s H ⟨[.ref a, .ref b], []⟩ [.ref a, .ref b] [.ref a, .ref b] _ E0 hr I.env0 (hb s [.ref a, .ref b] I.kIn rfl) (.cons rfl (.cons rfl .nil)) q) fun r s' hq => ?_)
  cases r with
  | error e => exact False.elim hq
  | ok fl =>
    cases fl with
    | ret w =>
      obtain ⟨z, H', I', rz, k, rfl, q'⟩ := I.after hq
      cases rz
      exact ⟨.bl k, H', I', rfl, q'⟩
    | next => exact False.elim hq
    | brk => exact False.elim hq
    | cont => exact False.elim hq
end Rg
/-! own mathematics: rows moved and mirrored -/
namespace Rg
open PySem L2 TL
/-- the list whose sign number i is the one with the number f i of l -/
def pick (l : List Nat) (f : Int → Int) : List Nat := (List.range l.length).map fun i : Nat => sg l (f (i : Int))
theorem pick_len (l : List Nat) (f : Int → Int) : (pick l f).length = l.length := by unfold pick; simp
theorem pick_get {l : List Nat} {f : Int → Int} {k : Nat} (h : k < l.length) : (pick l f)[k]? = some (sg l (f (k : Int))) := by
  unfold pick
  rw [List.getElem?_map, List.getElem?_range h]
  rfl
theorem pick_eq {l m : List Nat} {f : Int → Int} (hl : m.length = l.length) (h : ∀ k : Nat, k < l.length → m[k]? = some (sg l (f (k : Int)))) : m = pick l f := by
  refine List.ext_getElem? fun k => ?_
  by_cases hk : k < l.length
  · rw [h k hk, pick_get hk]
  · rw [List.getElem?_eq_none (by omega), List.getElem?_eq_none (by rw [pick_len]; omega)]
theorem pick_congr {l : List Nat} {f g : Int → Int} (h : ∀ k : Nat, k < l.length → sg l (f (k : Int)) = sg l (g (k : Int))) : pick l f = pick l g := by
  refine pick_eq (pick_len l f) fun k hk => ?_
  rw [pick_get hk, h k hk]
/-- what is asked of f: a step on is a step on or back, and it goes round with the length -/
structure Mv (n : Nat) (f : Int → Int) : Prop where
  step : ∀ i : Int, f (i + 1) = f i + 1 ∨ f (i + 1) = f i - 1
  round : ∀ i : Int, f (i % (n : Int)) % (n : Int) = f i % (n : Int)
theorem sg_pick {l : List Nat} (h0 : 0 < l.length) {f : Int → Int} (m : Mv l.length f) (i : Int) : sg (pick l f) i = sg l (f i) := by
  have hm : 0 < (pick l f).length := by rw [pick_len]; exact h0
  have h1 := sg_get hm i
  have hp := place_lt hm i
  rw [pick_len] at h1 hp
  rw [pick_get hp] at h1
  have e : (((i % (l.length : Int)).toNat : Nat) : Int) = i % (l.length : Int) := Int.toNat_of_nonneg (Int.emod_nonneg i (by omega))
  rw [e] at h1
  rw [← Option.some.inj h1]
  exact sg_congr (m.round i)
theorem Row.pick {l : List Nat} (R : Row l) {f : Int → Int} (m : Mv l.length f) : Row (pick l f) :=
  R.move (by rw [pick_len]; exact R.ne) f (fun k hk => pick_get (by rw [pick_len] at hk; exact hk)) (fun i => by rw [pick_len]; exact sg_congr (m.round i)) m.step
theorem mv_sub (n : Nat) (b : Int) : Mv n fun i => i - b :=
  ⟨fun i => .inl (by show i + 1 - b = i - b + 1; omega), fun i => by show (i % (n : Int) - b) % (n : Int) = (i - b) % (n : Int); rw [Int.sub_eq_add_neg, Int.emod_add_emod, Int.sub_eq_add_neg]⟩
theorem mv_mir (n : Nat) (b : Int) : Mv n fun i => b - i := by
  refine ⟨fun i => .inr (by show b - (i + 1) = b - i - 1; omega), fun i => ?_⟩
  show (b - i % (n : Int)) % (n : Int) = (b - i) % (n : Int)
  rw [Int.sub_emod, Int.emod_emod, ← Int.sub_emod]
theorem pick_pick {l : List Nat} (h0 : 0 < l.length) {f g : Int → Int} (m : Mv l.length f) : pick (pick l f) g = pick l fun i => f (g i) := by
  refine pick_eq (by rw [pick_len, pick_len]) fun k hk => ?_
  rw [pick_get (by rw [pick_len]; exact hk), sg_pick h0 m]
theorem pick_id {l : List Nat} {f : Int → Int} (h : ∀ i : Int, f i % (l.length : Int) = i % (l.length : Int)) : pick l f = l := by
  refine (pick_eq rfl fun k hk => ?_).symm
  rw [sg_nat hk, sg_congr (h k)]
/-- a row moved to the right -/
def rotS (b : Int) (z : Str) : Str := ⟨(pick (tl z) fun i => i - b).toArray⟩
/-- a row seen from the other side -/
def mirS (b : Int) (z : Str) : Str := ⟨(pick (tl z) fun i => b - i).toArray⟩
theorem tl_rotS (b : Int) (z : Str) : tl (rotS b z) = pick (tl z) fun i => i - b := rfl
theorem tl_mirS (b : Int) (z : Str) : tl (mirS b z) = pick (tl z) fun i => b - i := rfl
theorem Rows.map {n : Nat} {ls : List Str} (R : Rows n ls) {g : Str → Str} (hl : ∀ z, (tl (g z)).length = (tl z).length) (hr : ∀ z, Row (tl z) → Row (tl (g z))) : Rows n (ls.map g) := by
  refine ⟨by rw [List.length_map]; exact R.ne, fun z hz => ?_, fun z hz => ?_⟩
  all_goals obtain ⟨y, hy, rfl⟩ := List.mem_map.mp hz
  · rw [hl, R.len y hy]
  · exact hr y (R.row y hy)
theorem Rows.rot {n : Nat} {ls : List Str} (R : Rows n ls) (b : Int) : Rows n (ls.map (rotS b)) :=
  R.map (g := rotS b) (fun z => by rw [tl_rotS, pick_len]) fun z h => by rw [tl_rotS]; exact h.pick (mv_sub _ b)
theorem Rows.mir {n : Nat} {ls : List Str} (R : Rows n ls) (b : Int) : Rows n (ls.map (mirS b)) :=
  R.map (g := mirS b) (fun z => by rw [tl_mirS, pick_len]) fun z h => by rw [tl_mirS]; exact h.pick (mv_mir _ b)
theorem rot_rot {n : Nat} {ls : List Str} (R : Rows n ls) (a b : Int) : (ls.map (rotS a)).map (rotS b) = ls.map (rotS (a + b)) := by
  rw [List.map_map]
  refine List.map_congr_left fun z hz => ext_tl ?_
  show tl (rotS b (rotS a z)) = _
  rw [tl_rotS, tl_rotS, tl_rotS, pick_pick (R.row z hz).ne (mv_sub _ a)]
  refine pick_congr fun k _ => ?_
  show sg (tl z) ((k : Int) - b - a) = sg (tl z) ((k : Int) - (a + b))
  congr 1
  omega
theorem rot_width {n : Nat} {ls : List Str} (R : Rows n ls) : ls.map (rotS (n : Int)) = ls := by
  refine Eq.trans (List.map_congr_left fun z hz => ?_) (List.map_id ls)
  refine ext_tl ?_
  rw [tl_rotS]
  refine pick_id fun i => ?_
  rw [R.len z hz]
  exact Int.sub_emod_right i _
theorem mir_mir {n : Nat} {ls : List Str} (R : Rows n ls) (a b : Int) : (ls.map (mirS a)).map (mirS b) = ls.map (rotS (b - a)) := by
  rw [List.map_map]
  refine List.map_congr_left fun z hz => ext_tl ?_
  show tl (mirS b (mirS a z)) = _
  rw [tl_mirS, tl_mirS, tl_rotS, pick_pick (R.row z hz).ne (mv_mir _ a)]
  refine pick_congr fun k _ => ?_
  show sg (tl z) (a - (b - (k : Int))) = sg (tl z) ((k : Int) - (b - a))
  congr 1
  omega
/-- what the program does: the part from a cut on, and the part before it -/
theorem cut_rot {z : Str} {b : Int} {c : Nat} (h0 : 0 < (tl z).length) (hc : ((-b) % ((tl z).length : Int)) = (c : Int)) : cutS z (some (c : Int)) none ++ cutS z none (some (c : Int)) = rotS b z := by
  refine ext_tl ?_
  rw [tl_append, tl_rotS]
  have hlt : c < (tl z).length := by
    have := Int.emod_lt_of_pos (-b) (show (0 : Int) < (tl z).length by omega)
    omega
  have e1 : tl (cutS z none (some (c : Int))) = (tl z).take c := by
    show ((tl z).drop (HT.sIx z.length 0 none)).take (HT.sIx z.length z.length (some (c : Int)) - HT.sIx z.length 0 none) = _
    rw [sIx_nat]
    show ((tl z).drop 0).take (min c z.length - 0) = _
    rw [List.drop_zero, Nat.sub_zero, len_tl, Nat.min_eq_left (Nat.le_of_lt hlt)]
  have e2 : tl (cutS z (some (c : Int)) none) = (tl z).drop c := by
    show ((tl z).drop (HT.sIx z.length 0 (some (c : Int)))).take (HT.sIx z.length z.length none - HT.sIx z.length 0 (some (c : Int))) = _
    rw [sIx_nat]
    show ((tl z).drop (min c z.length)).take (z.length - min c z.length) = _
    rw [len_tl, Nat.min_eq_left (by omega), List.take_of_length_le (by rw [List.length_drop]; exact Nat.le_refl _)]
  rw [e1, e2]
  have hb : ∀ k : Int, sg (tl z) (k - b) = sg (tl z) (k + (c : Int)) := fun k => sg_congr (by
    rw [← hc, Int.add_emod_emod, Int.sub_eq_add_neg])
  refine pick_eq (by rw [List.length_append, List.length_drop, List.length_take]; omega) fun k hk => ?_
  rw [hb]
  by_cases h1 : k < (tl z).length - c
  · rw [List.getElem?_append_left (by rw [List.length_drop]; exact h1), List.getElem?_drop, sg_nat (by omega)]
    congr 2
    omega
  · rw [List.getElem?_append_right (by rw [List.length_drop]; omega), List.length_drop, List.getElem?_take_of_lt (by omega), sg_nat (by omega)]
    congr 1
    rw [← sg_add]
    congr 1
    omega
theorem atI_sg {l : List Nat} (h : 0 < l.length) (i : Int) : atI l (i % (l.length : Int)) = some (sg l i) := by
  have e : (((i % (l.length : Int)).toNat : Nat) : Int) = i % (l.length : Int) := Int.toNat_of_nonneg (Int.emod_nonneg i (by omega))
  rw [← e]
  exact atI_nat (sg_get h i)
theorem joinL_flat : ∀ parts : List (List Nat), joinL [] parts = parts.flatten
  | [] => rfl
  | [p] => by show p = [p].flatten; simp
  | p :: q :: r => by
    show p ++ ([] ++ joinL [] (q :: r)) = _
    rw [joinL_flat (q :: r)]
    simp
theorem join_singles (l : List Nat) : Txt.join (Str.ofString "") (l.map fun c => (⟨#[c]⟩ : Str)) = ⟨l.toArray⟩ := by
  refine ext_tl ?_
  rw [join_eq, tl_join, show tl (Str.ofString "") = [] by decide +kernel, joinL_flat, List.map_map]
  show (l.map fun c => [c]).flatten = l
  induction l with
  | nil => rfl
  | cons a l ih => rw [List.map_cons, List.flatten_cons, ih]; rfl
theorem sum_singles (l : List Nat) : ((l.map fun c => (⟨#[c]⟩ : Str)).map (·.length)).sum = l.length := by
  induction l with
  | nil => rfl
  | cons a l ih =>
    rw [List.map_cons, List.map_cons, List.sum_cons, ih, List.length_cons]
    show 1 + l.length = l.length + 1
    omega
/-- whether the sign with this number is a stroke -/
def rungB (z : Str) (q : Int) : Bool := decide (V.str (⟨#[sg (tl z) q]⟩ : Str) = V.str (Str.ofString "-"))
end Rg
/-! own words: rules one after the other, + of own objects, lcm -/
namespace Rg
open PySem L2 TL
/-- a row repeated to a length -/
def strS (L : Nat) (z : Str) : Str := repS (L / (tl z).length) z
theorem str_len {L : Nat} {z : Str} (h : (tl z).length ∣ L) : (tl (strS L z)).length = L := by
  unfold strS
  rw [tl_repS, rep_length]
  exact Nat.div_mul_cancel h
theorem str_row {L : Nat} {z : Str} (R : Row (tl z)) (h : (tl z).length ∣ L) (hL : 0 < L) : Row (tl (strS L z)) :=
  R.rep (Nat.div_pos (Nat.le_of_dvd hL h) R.ne)
theorem rep_rep (a b : Nat) (l : List Nat) : (List.replicate a (List.replicate b l).flatten).flatten = (List.replicate (a * b) l).flatten := by
  induction a with
  | zero => simp
  | succ a ih =>
    rw [List.replicate_succ, List.flatten_cons, ih, Nat.succ_mul, Nat.add_comm, ← List.replicate_append_replicate, List.flatten_append]
theorem str_str {L M : Nat} {z : Str} (h0 : 0 < (tl z).length) (h : (tl z).length ∣ L) (h2 : L ∣ M) (hL : 0 < L) : strS M (strS L z) = strS M z := by
  refine ext_tl ?_
  have e := str_len h
  unfold strS at e ⊢
  rw [tl_repS, e, tl_repS, tl_repS, rep_rep]
  congr 2
  obtain ⟨c, rfl⟩ := h
  obtain ⟨d, rfl⟩ := h2
  rw [Nat.mul_div_cancel_left _ hL, Nat.mul_div_cancel_left _ h0, Nat.mul_assoc, Nat.mul_div_cancel_left _ h0, Nat.mul_comm]
theorem str_self {z : Str} (h0 : 0 < (tl z).length) : strS (tl z).length z = z := by
  refine ext_tl ?_
  unfold strS
  rw [tl_repS, Nat.div_self h0]
  simp
/-- the rows of the one and then of the other, all of one length -/
def joinR (L : Nat) (ls ms : List Str) : List Str := (ls ++ ms).map (strS L)
theorem joinR_rows {n m : Nat} {ls ms : List Str} (R : Rows n ls) (S : Rows m ms) : Rows (Nat.lcm n m) (joinR (Nat.lcm n m) ls ms) := by
  have hL : 0 < Nat.lcm n m := Nat.lcm_pos R.pos S.pos
  have key : ∀ y ∈ ls ++ ms, Row (tl y) ∧ (tl y).length ∣ Nat.lcm n m := fun y hy => by
    rcases List.mem_append.mp hy with h | h
    · exact ⟨R.row y h, by rw [R.len y h]; exact Nat.dvd_lcm_left n m⟩
    · exact ⟨S.row y h, by rw [S.len y h]; exact Nat.dvd_lcm_right n m⟩
  refine ⟨by unfold joinR; rw [List.length_map, List.length_append]; have := R.ne; omega, fun z hz => ?_, fun z hz => ?_⟩
  all_goals
    unfold joinR at hz
    obtain ⟨y, hy, rfl⟩ := List.mem_map.mp hz
  · exact str_len (key y hy).2
  · exact str_row (key y hy).1 (key y hy).2 hL
theorem str_map {n L M : Nat} {ls : List Str} (R : Rows n ls) (h : n ∣ L) (h2 : L ∣ M) (hL : 0 < L) : (ls.map (strS L)).map (strS M) = ls.map (strS M) := by
  rw [List.map_map]
  refine List.map_congr_left fun z hz => ?_
  exact str_str (R.row z hz).ne (by rw [R.len z hz]; exact h) h2 hL
/-- both ways of adding three -/
theorem join_assoc {n m t : Nat} {ls ms ts : List Str} (R : Rows n ls) (S : Rows m ms) (T : Rows t ts) :
    joinR (Nat.lcm (Nat.lcm n m) t) (joinR (Nat.lcm n m) ls ms) ts = joinR (Nat.lcm n (Nat.lcm m t)) ls (joinR (Nat.lcm m t) ms ts) := by
  have e := Nat.lcm_assoc n m t
  unfold joinR
  have h1 : 0 < Nat.lcm n m := Nat.lcm_pos R.pos S.pos
  have h2 : 0 < Nat.lcm m t := Nat.lcm_pos S.pos T.pos
  simp only [List.map_append]
  rw [str_map R (Nat.dvd_lcm_left n m) (Nat.dvd_lcm_left _ t) h1, str_map S (Nat.dvd_lcm_right n m) (Nat.dvd_lcm_left _ t) h1]
  rw [str_map S (Nat.dvd_lcm_left m t) (Nat.dvd_lcm_right n _) h2, str_map T (Nat.dvd_lcm_right m t) (Nat.dvd_lcm_right n _) h2, e, List.append_assoc]

/-! ### lcm -/
def rLcm : List V → Hp → VK → Prop := fun vs H Q => ∃ a b : Nat, vs = [.int a, .int b] ∧ a < 2 ^ 64 ∧ b < 2 ^ 64 ∧ Q (.int ((Nat.lcm a b : Nat) : Int)) H
theorem cr_lcm {X : Cx} : CallR X (.builtin "math.lcm") rLcm := by
  intro pins s σ H vs us Q I r h
  obtain ⟨a, b, rfl, ha, hb, q⟩ := h
  obtain ⟨t, u, rfl⟩ := Vals.int2 r
  exact PySem.W.mc_lcm ha hb fun _ => ⟨.int _, H, I.tok _, ⟨_, rfl⟩, q⟩

/-! ### + of objects with their own __add__ -/
def rAddOwn (C : Addr) (sp : Sp) : R2 := fun x y H Q => ∃ a b dx dy fs gs, x = .ref a ∧ y = .ref b ∧ H a = some (.ins C dx fs) ∧ H b = some (.ins C dy gs) ∧ sp [.ref a, .ref b] H (fun v H' => (∃ c, v = .ref c) ∧ Q v H') E0
theorem op_addOwn {X : Cx} {C : Addr} {n : Nat} {sp : Sp} (D : Me X.prog X.w X.K X.mg X.base C "__add__" n ["self", "other"] sp) (hc : PySem.W.selfFirst X.K C = true) (hr : Room n X.A) : OpR X (binaryOp .Add) (rAddOwn C sp) := by
  intro pins s σ H x y v u Q I rx ry h
  obtain ⟨a, b, dx, dy, fs, gs, rfl, rfl, ha, hb', q⟩ := h
  obtain ⟨f, fd, c, hm, F, hb⟩ := D.ex
  cases rx
  cases ry
  obtain ⟨mA, J, _⟩ := ins_get I.hok ha
  obtain ⟨mB, J', _⟩ := ins_get I.hok hb'
  obtain ⟨od, J, _⟩ := J.look
  obtain ⟨od', J', _⟩ := J'.look
  obtain ⟨m, hF⟩ := I.fr
  refine PySem.W.binop_K (op := .Add) hF I.ok.mod.kin J J'.type hc hm.at_ hm.fn ?_
  refine wpAny_call (codeAny_mono (F.run X.A X.stack s H ⟨[.ref a, .ref b], []⟩ [.ref a, .ref b] [.ref a, .ref b] _ E0 hr I.env0 (hb s [.ref a, .ref b] I.kIn rfl) (.cons rfl (.cons rfl .nil)) q) fun r s' hq => ?_)
  cases r with
  | error e => exact False.elim hq
  | ok fl =>
    cases fl with
    | ret w =>
      obtain ⟨z, H', I', rz, ⟨c, rfl⟩, q'⟩ := I.after hq
      cases rz
      exact ⟨.ref c, H', I', rfl, q'⟩
    | next => exact False.elim hq
    | brk => exact False.elim hq
    | cont => exact False.elim hq

/-! ### the least multiple that is found by going on -/
theorem lcm_found {n m i : Nat} (hn : 0 < n) (hm : 0 < m) (h : m ∣ n * (i + 1)) (hj : ∀ j, 1 ≤ j → j ≤ i → ¬ m ∣ n * j) : n * (i + 1) = Nat.lcm n m := by
  obtain ⟨j, ej⟩ := Nat.dvd_lcm_left n m
  have h1 : Nat.lcm n m ∣ n * (i + 1) := Nat.lcm_dvd (Nat.dvd_mul_right n (i + 1)) h
  have hp : 0 < Nat.lcm n m := Nat.lcm_pos hn hm
  have hle := Nat.le_of_dvd (Nat.mul_pos hn (Nat.succ_pos i)) h1
  rw [ej] at hle hp
  have j1 : 1 ≤ j := Nat.pos_of_mul_pos_left hp |> fun z => by
    rcases Nat.eq_zero_or_pos j with q | q
    · rw [q, Nat.mul_zero] at hp; omega
    · exact q
  have j2 : j ≤ i + 1 := Nat.le_of_mul_le_mul_left hle hn
  by_cases e : j = i + 1
  · rw [ej, e]
  · exact absurd (by rw [← ej]; exact Nat.dvd_lcm_right n m) (hj j j1 (by omega))
theorem lcm_ends {n m : Nat} (hm : 0 < m) (hj : ∀ j, 1 ≤ j → j ≤ m → ¬ m ∣ n * j) : False := hj m hm (Nat.le_refl _) (Nat.dvd_mul_left m n)
theorem lcm60 {n m : Nat} (h1 : n ≤ 12) (h2 : m ≤ 5) : Nat.lcm n m ≤ 60 := Nat.le_trans (PySem.W.mc_lcm_le n m) (Nat.mul_le_mul h1 h2)
theorem join_len {L : Nat} {ls ms : List Str} : (joinR L ls ms).length = ls.length + ms.length := by unfold joinR; rw [List.length_map, List.length_append]
end Rg
/-! own words: methods called with keywords -/
namespace Rg
open PySem L2 TL
/-- o.m(e, .., k = v, ..) -/
def tMethN (C : Addr) (m : Str) (n l : Nat) (sp : Sp) (gV : List V → List V → List V) (E : XK) (ta : TE) (t tk : TA) : TE := fun σ H Q => ta σ H fun x H1 => ∃ a dx fs, x = .ref a ∧ H1 a = some (.ins C dx fs) ∧ fs.lookup m = none ∧
  t σ H1 fun vs H2 => tk σ H2 fun zs H3 => vs.length = n ∧ zs.length = l ∧ sp (gV (.ref a :: vs) zs) H3 Q E
/-- a method that may be called so: ks the keywords -/
structure MeK (P : Program) (w : World) (K : PySem.W.Frag) (mg : Str → Option Value) (base : Heap) (C : Addr) (x : Str) (k : Nat) (ps : List Str) (sp : Sp) (n : Nat) (ks : List Str) (gV : List V → List V → List V) : Prop where
  ex : ∃ f fd g, Cls K C ∧ Meth K C x f ∧ FnOk P w K mg base CX0 k f fd ps sp ∧ KBn K fd ps (n + 1) ks g gV
section
variable {X : Cx} {k n : Nat} {C : Addr} {m : Str} {ps ks : List Str} {sp : Sp} {gV : List V → List V → List V} {o e : Expr} {es : List Expr} {kws : List Keyword} {ta : TE} {t tk : TA} {pos apos : Pos}
theorem pe_methN {pl : Sem Bool} (he : PE X o ta) (D : MeK X.prog X.w X.K X.mg X.base C m k ps sp n ks gV) (hr : Room k X.A) (ha : PA X (e :: es) t) (hkw : PK X kws tk)
    (hall : (backToKw pos (keywordEach kws X.env)).all (·.1.isSome) = true := by rfl) (hks : (backToKw pos (keywordEach kws X.env)).filterMap (·.1) = ks := by rfl)
    (hst : starEach (e :: es) X.env = (false, eval e X.env) :: starEach es X.env := by rfl) (hpl : ((backTo pos (starEach (e :: es) X.env)).any (·.1) || (backToKw pos (keywordEach kws X.env)).any (·.1.isNone)) = false := by rfl)
    (ht : eval (.Call (.Attribute o m apos) (e :: es) kws pos) X.env = (do
      let ov ← eval o X.env
      standAt apos.atName
      let (f, first) ← holding [ov] (getMethod ov m pl)
      callWith pos f first (backTo pos (starEach (e :: es) X.env)) (backToKw pos (keywordEach kws X.env))) := by rfl) :
    PE X (.Call (.Attribute o m apos) (e :: es) kws pos) (tMethN C m n ks.length sp gV E0 ta t tk) := by
  obtain ⟨f, fd, g, c, hm, F, hb⟩ := D.ex
  refine ⟨fun pins s σ H Q I h => ?_⟩
  refine PySem.W.methodCall_KW (pl := pl) (thn (he.run pins s σ H _ I h) fun u s1 ⟨x, H1, I1, rx, a, dx, fs, ex, ea, l, q⟩ => ?_) ht
  subst ex
  obtain rfl : u = Value.ref a := rx
  refine getmeth_ok I1 ea c hm l ?_
  refine PySem.W.callWith_KW (first := [.ref a]) (h₀ := X.base) I.ok.mod.kin hm.kp hall (thn (ha.run pos pins s1 σ H1 _ I1 q) fun us s2 ⟨vs, H2, I2, r, q2⟩ => ?_) hpl hst
  refine thn (hkw.run pos pins s2 σ H2 _ I2 q2) fun ws s3 ⟨zs, H3, I3, rz, l1, l2, q3⟩ => ⟨I3.kIn, ?_⟩
  rw [hks]
  exact run_fnN (us := .ref a :: us) (vs := .ref a :: vs) F hr hb pass0 I3 (.cons rfl r) rz (congrArg Nat.succ l1) l2 q3
theorem pe_methN0 {pl : Sem Bool} (he : PE X o ta) (D : MeK X.prog X.w X.K X.mg X.base C m k ps sp 0 ks gV) (hr : Room k X.A) (hkw : PK X kws tk)
    (hall : (backToKw pos (keywordEach kws X.env)).all (·.1.isSome) = true := by rfl) (hks : (backToKw pos (keywordEach kws X.env)).filterMap (·.1) = ks := by rfl)
    (hpl : ((backTo pos (starEach [] X.env)).any (·.1) || (backToKw pos (keywordEach kws X.env)).any (·.1.isNone)) = false := by rfl)
    (ht : eval (.Call (.Attribute o m apos) [] kws pos) X.env = (do
      let ov ← eval o X.env
      standAt apos.atName
      let (f, first) ← holding [ov] (getMethod ov m pl)
      callWith pos f first (backTo pos (starEach [] X.env)) (backToKw pos (keywordEach kws X.env))) := by rfl) :
    PE X (.Call (.Attribute o m apos) [] kws pos) (tMethN C m 0 ks.length sp gV E0 ta tNil tk) := by
  obtain ⟨f, fd, g, c, hm, F, hb⟩ := D.ex
  refine ⟨fun pins s σ H Q I h => ?_⟩
  refine PySem.W.methodCall_KW (pl := pl) (thn (he.run pins s σ H _ I h) fun u s1 ⟨x, H1, I1, rx, a, dx, fs, ex, ea, l, q⟩ => ?_) ht
  subst ex
  obtain rfl : u = Value.ref a := rx
  refine getmeth_ok I1 ea c hm l ?_
  refine PySem.W.callWith_KW0 (first := [.ref a]) (h₀ := X.base) I.ok.mod.kin hm.kp hall ?_ hpl
  refine thn (hkw.run pos pins s1 σ H1 _ I1 q) fun ws s3 ⟨zs, H3, I3, rz, l1, l2, q3⟩ => ⟨I3.kIn, ?_⟩
  rw [hks]
  exact run_fnN (us := [.ref a]) (vs := [.ref a]) F hr hb pass0 I3 (.cons rfl .nil) rz rfl l2 q3
end
/-- keywords in the parameters' order, and the other way about -/
theorem kb_app {K : PySem.W.Frag} {fd : FuncData} {ps ks : List Str} {n : Nat} (h : ∀ us ws : List Value, us.length = n → ws.length = ks.length → bindArgs fd ⟨us, ks.zip ws⟩ = pure (ps.zip (us ++ ws))) : KBn K fd ps n ks (fun us ws => us ++ ws) (fun vs zs => vs ++ zs) :=
  ⟨fun _ us ws _ l1 l2 => .of_eq (h us ws l1 l2), fun r rz => r.append rz⟩
theorem vals_rev : ∀ {xs : List V} {us : List Value}, Vals xs us → Vals xs.reverse us.reverse
  | _, _, .nil => .nil
  | _, _, .cons r t => by
    rw [List.reverse_cons, List.reverse_cons]
    exact (vals_rev t).append (.cons r .nil)
theorem kb_rev {K : PySem.W.Frag} {fd : FuncData} {ps ks : List Str} {n : Nat} (h : ∀ us ws : List Value, us.length = n → ws.length = ks.length → bindArgs fd ⟨us, ks.zip ws⟩ = pure (ps.zip (us ++ ws.reverse))) : KBn K fd ps n ks (fun us ws => us ++ ws.reverse) (fun vs zs => vs ++ zs.reverse) :=
  ⟨fun _ us ws _ l1 l2 => .of_eq (h us ws l1 l2), fun r rz => r.append (vals_rev rz)⟩
/-- a class that may be called with keywords -/
structure MkrK (P : Program) (w : World) (K : PySem.W.Frag) (mg : Str → Option Value) (base : Heap) (x : Str) (C : Addr) (k : Nat) (ps : List Str) (sp : Sp) (ks : List Str) (gV : List V → List V → List V) : Prop where
  ex : ∃ f fd g, mg x = some (.ref C) ∧ Mk K C f ∧ FnOk P w K mg base CX0 k f fd ps sp ∧ KBn K fd ps 1 ks g gV
theorem pe_mkN0 {X : Cx} {x : Str} {k : Nat} {C : Addr} {ps ks : List Str} {sp : Sp} {gV : List V → List V → List V} {kws : List Keyword} {tk : TA} {p pos : Pos} (M : MkrK X.prog X.w X.K X.mg X.base x C k ps sp ks gV) (hr : Room (k + 1) X.A) (hg : Gl X x) (hkw : PK X kws tk)
    (hall : (backToKw pos (keywordEach kws X.env)).all (·.1.isSome) = true := by rfl) (hks : (backToKw pos (keywordEach kws X.env)).filterMap (·.1) = ks := by rfl) (hdb : (x == ("__debug__" : Str)) = false := by decide)
    (hpl : ((backTo pos (starEach [] X.env)).any (·.1) || (backToKw pos (keywordEach kws X.env)).any (·.1.isNone)) = false := by rfl) :
    PE X (.Call (.Name x p) [] kws pos) (tMakeK C 0 ks.length sp gV E0 tNil tk) := by
  obtain ⟨f, fd, g, hm, M, F, hb⟩ := M.ex
  exact pe_makeK0 M F hr hg hm hb pass0 hkw hall hks hdb hpl
/-- a def that may be called with keywords alone -/
structure DfK (P : Program) (w : World) (K : PySem.W.Frag) (mg : Str → Option Value) (base : Heap) (x : Str) (k : Nat) (ps : List Str) (sp : Sp) (ks : List Str) (gV : List V → List V → List V) : Prop where
  ex : ∃ f fd g, mg x = some (.ref f) ∧ FnOk P w K mg base CX0 k f fd ps sp ∧ PySem.W.keepIn K (.ref f) = true ∧ KBn K fd ps 0 ks g gV
theorem pe_dfN0 {X : Cx} {x : Str} {k : Nat} {ps ks : List Str} {sp : Sp} {gV : List V → List V → List V} {kws : List Keyword} {tk : TA} {p pos : Pos} (D : DfK X.prog X.w X.K X.mg X.base x k ps sp ks gV) (hr : Room k X.A) (hg : Gl X x) (hkw : PK X kws tk)
    (hall : (backToKw pos (keywordEach kws X.env)).all (·.1.isSome) = true := by rfl) (hks : (backToKw pos (keywordEach kws X.env)).filterMap (·.1) = ks := by rfl) (hdb : (x == ("__debug__" : Str)) = false := by decide)
    (hpl : ((backTo pos (starEach [] X.env)).any (·.1) || (backToKw pos (keywordEach kws X.env)).any (·.1.isNone)) = false := by rfl) :
    PE X (.Call (.Name x p) [] kws pos) (tCallN 0 ks.length sp gV E0 tNil tk) := by
  obtain ⟨f, fd, g, hm, F, hk, hb⟩ := D.ex
  refine ⟨fun pins s σ H Q I h => ?_⟩
  refine wpAny_Call_Name_kw (ld_glob I hg hm ?_ hdb)
  refine PySem.W.callWith_KW0 (first := []) (h₀ := X.base) I.ok.mod.kin hk hall ?_ hpl
  refine thn (hkw.run pos pins s σ H _ I h) fun ws s2 ⟨zs, H2, I2, rz, l1, l2, q2⟩ => ⟨I2.kIn, ?_⟩
  rw [hks]
  exact run_fnN F hr hb pass0 I2 .nil rz l1 l2 q2
end Rg
/-! own words: the source that the laws draw from, a list that is changed at each draw -/
namespace Rg
open PySem L2 TL
/-- the heap without the source's two changing lists -/
def out (s g : Addr) (H : Hp) : Hp := fun b => if b = s ∨ b = g then none else H b
theorem out_same {s g : Addr} {H : Hp} : Same (out s g H) H := fun b u e => by
  unfold out at e
  split at e
  · cases e
  · exact e
theorem out_at {s g b : Addr} {H : Hp} (h1 : b ≠ s) (h2 : b ≠ g) : out s g H b = H b := if_neg fun h => h.elim h1 h2
theorem _root_.L2.Same.out {s g : Addr} {H H' : Hp} (e : Same H H') : Same (out s g H) (out s g H') := fun b u q => by
  unfold Rg.out at q ⊢
  split at q
  · cases q
  · rename_i n
    rw [if_neg n]
    exact e _ _ q
/-- the source, drawn from m times at most -/
structure Src (H : Hp) (s g sm : Addr) (m : Nat) : Prop where
  ex : ∃ (gs ss : List Int) (pl st : Int), H s = some (.lst [.ref g, .ref sm, .int pl, .int st]) ∧ H g = some (.lst (gs.map V.int)) ∧ H sm = some (.lst (ss.map V.int)) ∧ sm ≠ g ∧ gs.length ≤ 63 ∧ ss.length ≤ 63 ∧
    (∀ z ∈ ss, -(10 ^ 18) < z ∧ z < 10 ^ 18) ∧ 0 ≤ pl ∧ pl ≤ (m : Int) ∧ 0 ≤ st ∧ st < 2147483629
theorem Src.same {H H' : Hp} {s g r : Addr} {m : Nat} (S : Src H s g r m) (e : Same H H') : Src H' s g r m := by
  obtain ⟨gs, ss, pl, st, h1, h2, h3, r⟩ := S.ex
  exact ⟨gs, ss, pl, st, e _ _ h1, e _ _ h2, e _ _ h3, r⟩
theorem Src.mono {H : Hp} {s g r : Addr} {m n : Nat} (S : Src H s g r m) (h : m ≤ n) : Src H s g r n := by
  obtain ⟨gs, ss, pl, st, h1, h2, h3, h4, h5, h6, h7, h8, h9, r⟩ := S.ex
  exact ⟨gs, ss, pl, st, h1, h2, h3, h4, h5, h6, h7, h8, by omega, r⟩
theorem Src.new {H : Hp} {s g r q : Addr} {m : Nat} (S : Src H s g r m) (h : H q = none) : q ≠ s ∧ q ≠ g ∧ q ≠ r := by
  obtain ⟨gs, ss, pl, st, h1, h2, h3, _⟩ := S.ex
  exact ⟨fun e => (by rw [e, h1] at h; cases h), fun e => (by rw [e, h2] at h; cases h), fun e => (by rw [e, h3] at h; cases h)⟩
theorem Src.put {H H0 : Hp} {s g r q : Addr} {m n : Nat} {o : HO} (S : Src H s g r m) (S0 : Src H0 s g r n) (h : H0 q = none) : Src (upd H q o) s g r m := by
  obtain ⟨n1, n2, n3⟩ := S0.new h
  obtain ⟨gs, ss, pl, st, h1, h2, h3, x⟩ := S.ex
  exact ⟨gs, ss, pl, st, by rw [upd_ne n1.symm]; exact h1, by rw [upd_ne n2.symm]; exact h2, by rw [upd_ne n3.symm]; exact h3, x⟩
theorem Src.keep {H H' : Hp} {s g r q : Addr} {m : Nat} {u : HO} (S : Src H s g r m) (h : H q = none) (e : H' q = some u) : out s g H' q = some u := by
  obtain ⟨h1, h2, _⟩ := S.new h
  rw [out_at h1 h2]
  exact e
theorem Src.free {H H' : Hp} {s g r q : Addr} {m : Nat} (S' : Src H' s g r m) (e : Same (out s g H) (out s g H')) (h : H' q = none) : H q = none := by
  obtain ⟨h1, h2, _⟩ := S'.new h
  cases z : H q with
  | none => rfl
  | some u =>
    have := e q u (by rw [out_at h1 h2]; exact z)
    rw [out_at h1 h2, h] at this
    cases this
theorem seq0 {n : Nat} (h : 0 < n) : seqIndex? 0 n = some 0 := by
  unfold seqIndex?
  simp [h]
theorem out_put {s g b : Addr} {H : Hp} {o : HO} (h : b = s ∨ b = g) : Same (out s g H) (out s g (upd H b o)) := fun c u e => by
  unfold out at e ⊢
  split at e
  · cases e
  · rename_i n
    rw [if_neg n, upd_ne (fun z => n (by rw [z]; exact h))]
    exact e
/-- what is new may be changed -/
theorem out_set {s g D : Addr} {H H' : Hp} {o : HO} (e : Same (out s g H) (out s g H')) (z : H D = none) : Same (out s g H) (out s g (upd H' D o)) := fun b u q => by
  have h := e b u q
  unfold out at q h ⊢
  split at q
  · cases q
  · rename_i n
    rw [if_neg n] at h
    rw [if_neg n, upd_ne (ne_of_none q z)]
    exact h
theorem out_ne {s g b D : Addr} {H : Hp} {o : HO} (n : b ≠ D) : out s g (upd H D o) b = out s g H b := by
  unfold out
  rw [upd_ne n]
theorem mul_tl0 (z : Str) (n : Int) (h : 0 ≤ n) : Txt.mul z n = ⟨((List.replicate n.toNat (tl z)).flatten).toArray⟩ := by
  by_cases h1 : 1 ≤ n
  · exact mul_tl z n h1
  · have e : n = 0 := by omega
    subst e
    rfl
/-- a text many times, or no time -/
def rRepS0 : R2 := fun x y H Q => ∃ z n, x = .str z ∧ y = .int n ∧ 0 ≤ n ∧ n < 2 ^ 63 ∧ z.length * n.toNat ≤ sizeLine ∧ Q (.str ⟨((List.replicate n.toNat (tl z)).flatten).toArray⟩) H
theorem op_rep_str0 {X : Cx} : OpR X (binaryOp .Mult) rRepS0 := by
  intro pins s σ H x y v u Q I rx ry h
  obtain ⟨z, n, rfl, rfl, h1, h63, hz, q⟩ := h
  by_cases h2 : 1 ≤ n
  · exact op_rep_str pins s σ H _ _ v u Q I rx ry ⟨z, n, rfl, rfl, h2, h63, hz, q⟩
  obtain ⟨t, rfl⟩ := rx
  obtain ⟨t', rfl⟩ := ry
  refine SB.mul ⟨?_, fun h => absurd (show n < 1 by omega) h, fun h => absurd (show n < 1 by omega) h⟩ fun t2 k => ?_
  · rw [decide_eq_false (by omega), decide_eq_false (by omega)]
    rfl
  · rw [mul_tl0 z n h1]
    exact ⟨.str _, H, I.tok _, ⟨_, rfl⟩, q⟩
end Rg
/-! own words: walks down the rows -/
namespace Rg
open PySem L2 TL
/-- where a walker goes on one row -/
def cross (z : Str) (n q : Int) : Int := if decide (q + 1 < n) && rungB z q then q + 1 else if decide (0 < q) && rungB z (q - 1) then q - 1 else q
def rowAt (ls : List Str) (r : Nat) : Str := ls.getD (r % ls.length) Str.empty
/-- where it stands behind k rows -/
def wk (ls : List Str) (n a : Int) : Nat → Int
  | 0 => a
  | k + 1 => cross (rowAt ls k) n (wk ls n a k)
def way (ls : List Str) (n a : Int) (d : Nat) : List Int := (List.range d).map (wk ls n a)
theorem way_len (ls : List Str) (n a : Int) (d : Nat) : (way ls n a d).length = d := by unfold way; simp
theorem way_get {ls : List Str} {n a : Int} {d k : Nat} (h : k < d) : (way ls n a d)[k]? = some (wk ls n a k) := by
  unfold way
  rw [List.getElem?_map, List.getElem?_range h]
  rfl
theorem way_add (ls : List Str) (n a : Int) (d : Nat) : way ls n a (d + 1) = way ls n a d ++ [wk ls n a d] := by
  unfold way
  rw [List.range_succ, List.map_append]
  rfl
theorem rowAt_mem {ls : List Str} (h : 0 < ls.length) (r : Nat) : rowAt ls r ∈ ls := by
  unfold rowAt
  have hr := Nat.mod_lt r h
  rw [List.getD_eq_getElem?_getD, List.getElem?_eq_getElem hr]
  exact List.getElem_mem hr
theorem rowAt_get {ls : List Str} (h : 0 < ls.length) (r : Nat) : ls[((r : Int) % (ls.length : Int)).toNat]? = some (rowAt ls r) := by
  unfold rowAt
  have hr := Nat.mod_lt r h
  rw [show ((r : Int) % (ls.length : Int)).toNat = r % ls.length by omega, List.getD_eq_getElem?_getD, List.getElem?_eq_getElem hr]
  rfl
theorem cross_on {z : Str} {n q : Int} (h0 : 0 ≤ q) (h1 : q < n) : 0 ≤ cross z n q ∧ cross z n q < n := by
  unfold cross
  split
  · rename_i h
    rw [Bool.and_eq_true, decide_eq_true_eq] at h
    omega
  · split
    · rename_i h
      rw [Bool.and_eq_true, decide_eq_true_eq] at h
      omega
    · omega
theorem wk_on {ls : List Str} {n a : Int} (h0 : 0 ≤ a) (h1 : a < n) : ∀ k, 0 ≤ wk ls n a k ∧ wk ls n a k < n
  | 0 => ⟨h0, h1⟩
  | k + 1 => cross_on (wk_on h0 h1 k).1 (wk_on h0 h1 k).2
end Rg
/-! own words: == and != of lists of texts, of numbers -/
namespace Rg
open PySem L2 TL
theorem rd_neS {K : PySem.W.Frag} {H : Hp} {p q : Addr} {ls ms : List Str} {Q : VK} (hp : H p = some (.lst (ls.map V.str))) (hq : H q = some (.lst (ms.map V.str))) (h1 : ∀ z ∈ ls, Signs (tl z)) (h2 : ∀ z ∈ ms, Signs (tl z)) (k : Q (.bl (!decide (ls = ms))) H) : rNeD K (.ref p) (.ref q) H Q := by
  refine ⟨_, _, .lst (SqL.of hp) (dp_strs ls), .lst (SqL.of hq) (dp_strs ms), shaped_lst h1, shaped_lst h2, ?_⟩
  rw [eqv_lst]
  exact k
theorem rd_eqS {K : PySem.W.Frag} {H : Hp} {p q : Addr} {ls ms : List Str} {Q : VK} (hp : H p = some (.lst (ls.map V.str))) (hq : H q = some (.lst (ms.map V.str))) (h1 : ∀ z ∈ ls, Signs (tl z)) (h2 : ∀ z ∈ ms, Signs (tl z)) (k : Q (.bl (decide (ls = ms))) H) : rEqD K (.ref p) (.ref q) H Q := by
  refine ⟨_, _, .lst (SqL.of hp) (dp_strs ls), .lst (SqL.of hq) (dp_strs ms), shaped_lst h1, shaped_lst h2, ?_⟩
  rw [eqv_lst]
  exact k
end Rg
/-! own words: the endless row: what a period of posts moves in all is nothing -/
namespace Rg
/-- the sum of h over the n posts from s -/
def sumZ (h : Int → Int) (s : Int) : Nat → Int
  | 0 => 0
  | n + 1 => sumZ h s n + h (s + n)
theorem sumZ_congr {h g : Int → Int} (e : ∀ i, h i = g i) (s : Int) : ∀ n, sumZ h s n = sumZ g s n
  | 0 => rfl
  | n + 1 => by rw [sumZ, sumZ, sumZ_congr e s n, e]
theorem sumZ_add (h g : Int → Int) (s : Int) : ∀ n, sumZ (fun i => h i + g i) s n = sumZ h s n + sumZ g s n
  | 0 => rfl
  | n + 1 => by
    rw [sumZ, sumZ, sumZ, sumZ_add h g s n]
    omega
theorem sumZ_zero (s : Int) : ∀ n, sumZ (fun _ => 0) s n = 0
  | 0 => rfl
  | n + 1 => by rw [sumZ, sumZ_zero s n]; rfl
theorem sumZ_neg (h : Int → Int) (s : Int) : ∀ n, sumZ (fun i => -h i) s n = -sumZ h s n
  | 0 => rfl
  | n + 1 => by
    rw [sumZ, sumZ, sumZ_neg h s n]
    omega
/-- one post further: the first goes, the one behind the last comes -/
theorem sumZ_next (h : Int → Int) (s : Int) : ∀ n, sumZ h (s + 1) n + h s = sumZ h s n + h (s + n)
  | 0 => by
    show (0 : Int) + h s = 0 + h (s + ((0 : Nat) : Int))
    rw [show s + ((0 : Nat) : Int) = s by omega]
  | n + 1 => by
    have ih := sumZ_next h s n
    rw [sumZ, sumZ, show s + 1 + (n : Int) = s + ((n + 1 : Nat) : Int) by omega]
    omega
/-- the same at each n-th post -/
def Per (n : Nat) (h : Int → Int) : Prop := ∀ i, h (i + n) = h i
def PerB (n : Nat) (r : Int → Bool) : Prop := ∀ i, r (i + n) = r i
/-- no two rungs side by side -/
def Lone (r : Int → Bool) : Prop := ∀ i, r i = true → r (i - 1) = false
theorem sumZ_per {n : Nat} {h : Int → Int} (p : Per n h) (s : Int) : sumZ h (s + 1) n = sumZ h s n := by
  have a := sumZ_next h s n
  have b := p s
  omega
theorem sumZ_back {n : Nat} {h : Int → Int} (p : Per n h) (s : Int) : sumZ (fun i => h (i - 1)) s n = sumZ h s n := by
  have e : ∀ (t : Int) (m : Nat), sumZ (fun i => h (i - 1)) (t + 1) m = sumZ h t m := by
    intro t m
    induction m with
    | zero => rfl
    | succ m ih =>
      rw [sumZ, sumZ, ih]
      show _ + h (t + 1 + (m : Int) - 1) = _
      rw [show t + 1 + (m : Int) - 1 = t + m by omega]
  have e1 := e (s - 1) n
  rw [show s - 1 + 1 = s by omega] at e1
  rw [e1]
  have e2 := sumZ_per p (s - 1)
  rw [show s - 1 + 1 = s by omega] at e2
  exact e2.symm
/-- where the walker stands behind a row -/
def cross1 (r : Int → Bool) (i : Int) : Int := if r i = true then i + 1 else if r (i - 1) = true then i - 1 else i
/-- .. behind all rows -/
def crossZ : List (Int → Bool) → Int → Int
  | [], i => i
  | r :: rs, i => crossZ rs (cross1 r i)
theorem cross1_per {n : Nat} {r : Int → Bool} (p : PerB n r) (i : Int) : cross1 r (i + n) = cross1 r i + n := by
  have a := p i
  have b := p (i - 1)
  rw [show i - 1 + (n : Int) = i + n - 1 by omega] at b
  unfold cross1
  rw [a, b]
  split
  · omega
  · split <;> omega
theorem crossZ_per {n : Nat} : ∀ {rs : List (Int → Bool)}, (∀ r ∈ rs, PerB n r) → ∀ i, crossZ rs (i + n) = crossZ rs i + n
  | [], _, _ => rfl
  | r :: rs, p, i => by
    show crossZ rs (cross1 r (i + n)) = crossZ rs (cross1 r i) + n
    rw [cross1_per (p r List.mem_cons_self), crossZ_per (fun q hq => p q (List.mem_cons_of_mem _ hq))]
/-- what a row does to a sum over a period: nothing -/
theorem sumZ_cross1 {n : Nat} {h : Int → Int} {r : Int → Bool} (p : Per n h) (q : PerB n r) (l : Lone r) (s : Int) : sumZ (fun i => h (cross1 r i)) s n = sumZ h s n := by
  have e : ∀ i, h (cross1 r i) = h i + ((if r i = true then h (i + 1) - h i else 0) + -((fun j => if r j = true then h (j + 1) - h j else 0) (i - 1))) := by
    intro i
    have hl := l i
    show _ = h i + ((if r i = true then h (i + 1) - h i else 0) + -(if r (i - 1) = true then h (i - 1 + 1) - h (i - 1) else 0))
    rw [show i - 1 + 1 = i by omega]
    unfold cross1
    cases a : r i with
    | true =>
      rw [hl a]
      simp
      omega
    | false =>
      cases b : r (i - 1) with
      | true =>
        simp
        omega
      | false => simp
  have pw : Per n (fun j => if r j = true then h (j + 1) - h j else 0) := fun i => by
    have a := q i
    have b := p i
    have c := p (i + 1)
    rw [show i + 1 + (n : Int) = i + n + 1 by omega] at c
    show (if r (i + n) = true then h (i + n + 1) - h (i + n) else 0) = if r i = true then h (i + 1) - h i else 0
    rw [a, b, c]
  rw [sumZ_congr e, sumZ_add, sumZ_add, sumZ_neg (fun i => (fun j => if r j = true then h (j + 1) - h j else 0) (i - 1)), sumZ_back pw]
  omega
theorem sumZ_moved1 {n : Nat} {r : Int → Bool} (q : PerB n r) (l : Lone r) (s : Int) : sumZ (fun i => cross1 r i - i) s n = 0 := by
  have e : ∀ i, cross1 r i - i = (if r i = true then 1 else 0) + -((fun j => if r j = true then (1 : Int) else 0) (i - 1)) := by
    intro i
    have hl := l i
    show _ = (if r i = true then 1 else 0) + -(if r (i - 1) = true then (1 : Int) else 0)
    unfold cross1
    cases a : r i with
    | true =>
      rw [hl a]
      simp
      omega
    | false =>
      cases b : r (i - 1) with
      | true =>
        simp
        omega
      | false => simp
  have pw : Per n (fun j => if r j = true then (1 : Int) else 0) := fun i => by
    show (if r (i + n) = true then (1 : Int) else 0) = if r i = true then 1 else 0
    rw [q i]
  rw [sumZ_congr e, sumZ_add, sumZ_neg (fun i => (fun j => if r j = true then (1 : Int) else 0) (i - 1)), sumZ_back pw]
  omega
/-- the posts of a period move by nothing in all -/
theorem sumZ_moved {n : Nat} : ∀ {rs : List (Int → Bool)}, (∀ r ∈ rs, PerB n r ∧ Lone r) → ∀ s, sumZ (fun i => crossZ rs i - i) s n = 0
  | [], _, s => by
    rw [sumZ_congr (g := fun _ => 0) (fun i => by show i - i = 0; omega)]
    exact sumZ_zero s n
  | r :: rs, p, s => by
    have pr := p r List.mem_cons_self
    have ps : ∀ q ∈ rs, PerB n q ∧ Lone q := fun q hq => p q (List.mem_cons_of_mem _ hq)
    have pd : Per n (fun j => crossZ rs j - j) := fun i => by
      show crossZ rs (i + n) - (i + n) = crossZ rs i - i
      rw [crossZ_per (fun q hq => (ps q hq).1)]
      omega
    rw [sumZ_congr (g := fun i => (fun j => crossZ rs j - j) (cross1 r i) + (cross1 r i - i)) (fun i => by
      show crossZ rs (cross1 r i) - i = crossZ rs (cross1 r i) - cross1 r i + (cross1 r i - i)
      omega), sumZ_add, sumZ_cross1 pd pr.1 pr.2, sumZ_moved ps, sumZ_moved1 pr.1 pr.2]
    rfl
open PySem L2 TL
/-- the row of a text, without end -/
theorem rungB_45 {z : Str} {q : Int} : rungB z q = true ↔ sg (tl z) q = 45 := by
  unfold rungB
  rw [decide_eq_true_eq]
  constructor
  · intro h
    have e := congrArg tl (V.str.inj h)
    exact (List.cons.inj e).1
  · intro h
    rw [h]
    rfl
theorem rungB_per {z : Str} {n : Nat} (h : (tl z).length = n) : PerB n (rungB z) := fun i => by
  show rungB z (i + (n : Int)) = rungB z i
  rw [← h]
  unfold rungB
  rw [sg_add]
theorem rungB_lone {z : Str} (h : Row (tl z)) : Lone (rungB z) := fun i e => by
  cases q : rungB z (i - 1) with
  | false => rfl
  | true =>
    have a := rungB_45.mp e
    have b := rungB_45.mp q
    exact absurd ⟨b, by rw [show i - 1 + 1 = i by omega]; exact a⟩ (h.gap (i - 1))
/-- the walker from post i behind all rows of a rule, on the endless row of posts -/
def goZ (ls : List Str) (i : Int) : Int := crossZ (ls.map rungB) i
theorem goZ_rows {n : Nat} {ls : List Str} (W : Rows n ls) : ∀ r ∈ ls.map rungB, PerB n r ∧ Lone r := fun r hr => by
  obtain ⟨z, hz, rfl⟩ := List.mem_map.mp hr
  exact ⟨rungB_per (W.len z hz), rungB_lone (W.row z hz)⟩
theorem goZ_per {n : Nat} {ls : List Str} (W : Rows n ls) (i : Int) : goZ ls (i + n) = goZ ls i + n := crossZ_per (fun r hr => (goZ_rows W r hr).1) i
theorem goZ_moved {n : Nat} {ls : List Str} (W : Rows n ls) (s : Int) : sumZ (fun i => goZ ls i - i) s n = 0 := sumZ_moved (goZ_rows W) s
/-- a row moves by one post at most, a rule by its height -/
theorem cross1_near (r : Int → Bool) (i : Int) : i - 1 ≤ cross1 r i ∧ cross1 r i ≤ i + 1 := by
  unfold cross1
  split
  · omega
  · split <;> omega
theorem crossZ_near : ∀ (rs : List (Int → Bool)) (i : Int), i - rs.length ≤ crossZ rs i ∧ crossZ rs i ≤ i + rs.length
  | [], i => by
    show i - ((0 : Nat) : Int) ≤ i ∧ i ≤ i + ((0 : Nat) : Int)
    omega
  | r :: rs, i => by
    have a := cross1_near r i
    have b := crossZ_near rs (cross1 r i)
    rw [List.length_cons]
    show i - ((rs.length + 1 : Nat) : Int) ≤ crossZ rs (cross1 r i) ∧ crossZ rs (cross1 r i) ≤ i + ((rs.length + 1 : Nat) : Int)
    omega
/-- a row crossed twice is not crossed -/
theorem cross1_twice {r : Int → Bool} (l : Lone r) (i : Int) : cross1 r (cross1 r i) = i := by
  have hl := l i
  have hm := l (i + 1)
  rw [show i + 1 - 1 = i by omega] at hm
  unfold cross1
  cases a : r i with
  | true =>
    have b : r (i + 1) = false := by
      cases c : r (i + 1) with
      | false => rfl
      | true => exact absurd ((hm c).symm.trans a) (by decide)
    simp only [if_true]
    rw [b, show i + 1 - 1 = i by omega, a]
    simp
  | false =>
    cases b : r (i - 1) with
    | true =>
      simp only [Bool.false_eq_true, if_false, if_true]
      rw [b]
      simp only [if_true]
      omega
    | false =>
      simp only [Bool.false_eq_true, if_false]
      rw [a, b]
      simp
theorem crossZ_append : ∀ (rs qs : List (Int → Bool)) (i : Int), crossZ (rs ++ qs) i = crossZ qs (crossZ rs i)
  | [], _, _ => rfl
  | r :: rs, qs, i => by
    show crossZ (rs ++ qs) (cross1 r i) = crossZ qs (crossZ rs (cross1 r i))
    rw [crossZ_append rs qs]
theorem goZ_append (ls ms : List Str) (i : Int) : goZ (ls ++ ms) i = goZ ms (goZ ls i) := by
  unfold goZ
  rw [List.map_append, crossZ_append]
/-- the rows turned round lead back -/
theorem crossZ_back : ∀ {rs : List (Int → Bool)}, (∀ r ∈ rs, Lone r) → ∀ i, crossZ rs.reverse (crossZ rs i) = i
  | [], _, _ => rfl
  | r :: rs, p, i => by
    rw [List.reverse_cons, crossZ_append]
    show cross1 r (crossZ rs.reverse (crossZ rs (cross1 r i))) = i
    rw [crossZ_back (fun q hq => p q (List.mem_cons_of_mem _ hq)), cross1_twice (p r List.mem_cons_self)]
theorem goZ_back {n : Nat} {ls : List Str} (W : Rows n ls) (i : Int) : goZ ls.reverse (goZ ls i) = i := by
  unfold goZ
  rw [List.map_reverse]
  exact crossZ_back (fun r hr => (goZ_rows W r hr).2) i
theorem goZ_inj {n : Nat} {ls : List Str} (W : Rows n ls) {i j : Int} (h : goZ ls i = goZ ls j) : i = j := by
  rw [← goZ_back W i, h, goZ_back W j]
end Rg
/-! own words: one round on the endless row, row by row -/
namespace Rg
open PySem L2 TL
theorem rungB_rest {z : Str} {n : Nat} (h : (tl z).length = n) (q : Int) : rungB z (q % (n : Int)) = rungB z q := by
  unfold rungB
  rw [sg_congr (l := tl z) (i := q % (n : Int)) (j := q) (by rw [h, Int.emod_emod])]
/-- behind a rounds's first k rows, on the endless row -/
def wkZ (ls : List Str) (a : Int) : Nat → Int
  | 0 => a
  | k + 1 => cross1 (rungB (rowAt ls k)) (wkZ ls a k)
theorem wkZ_near (ls : List Str) (a : Int) : ∀ k : Nat, a - k ≤ wkZ ls a k ∧ wkZ ls a k ≤ a + k
  | 0 => by
    show a - ((0 : Nat) : Int) ≤ a ∧ a ≤ a + ((0 : Nat) : Int)
    omega
  | k + 1 => by
    have ih := wkZ_near ls a k
    have c := cross1_near (rungB (rowAt ls k)) (wkZ ls a k)
    show a - ((k + 1 : Nat) : Int) ≤ cross1 (rungB (rowAt ls k)) (wkZ ls a k) ∧ cross1 (rungB (rowAt ls k)) (wkZ ls a k) ≤ a + ((k + 1 : Nat) : Int)
    omega
theorem crossZ_take (rs : List (Int → Bool)) (a : Int) (r : Int → Bool) : crossZ (rs ++ [r]) a = cross1 r (crossZ rs a) := by
  rw [crossZ_append]
  rfl
/-- one round on the endless row, row by row -/
theorem wkZ_take (ls : List Str) (a : Int) : ∀ k, k ≤ ls.length → wkZ ls a k = goZ (ls.take k) a
  | 0, _ => by rw [List.take_zero]; rfl
  | k + 1, h => by
    have e : rowAt ls k = ls[k] := by
      unfold rowAt
      rw [Nat.mod_eq_of_lt (by omega), List.getD_eq_getElem?_getD, List.getElem?_eq_getElem (by omega)]
      rfl
    rw [List.take_succ_eq_append_getElem (by omega), goZ_append]
    show cross1 (rungB (rowAt ls k)) (wkZ ls a k) = goZ [ls[k]] (goZ (ls.take k) a)
    rw [wkZ_take ls a k (by omega), e]
    rfl
theorem wkZ_round (ls : List Str) (a : Int) : wkZ ls a ls.length = goZ ls a := by
  rw [wkZ_take ls a _ (Nat.le_refl _), List.take_length]
end Rg
/-! own words: rounds on the endless row -/
namespace Rg
open PySem L2 TL
/-- a map of the posts that knows its posts only by their rest -/
def PerM (n : Nat) (g : Int → Int) : Prop := ∀ i, g (i + n) = g i + n
theorem PerM.nat {n : Nat} {g : Int → Int} (p : PerM n g) (i : Int) : ∀ m : Nat, g (i + n * m) = g i + n * m
  | 0 => by
    show g (i + (n : Int) * ((0 : Nat) : Int)) = g i + (n : Int) * ((0 : Nat) : Int)
    rw [show (n : Int) * ((0 : Nat) : Int) = 0 from Int.mul_zero _, Int.add_zero, Int.add_zero]
  | m + 1 => by
    have e : (n : Int) * ((m + 1 : Nat) : Int) = n * (m : Int) + n := by
      rw [Int.natCast_add, Int.mul_add]
      show (n : Int) * m + n * 1 = _
      rw [Int.mul_one]
    rw [e, ← Int.add_assoc, p, PerM.nat p i m]
    omega
theorem PerM.int {n : Nat} {g : Int → Int} (p : PerM n g) (i m : Int) : g (i + n * m) = g i + n * m := by
  rcases Int.le_total 0 m with h | h
  · have e : m = (m.toNat : Int) := (Int.toNat_of_nonneg h).symm
    rw [e]
    exact p.nat i m.toNat
  · have e : m = -((-m).toNat : Int) := by omega
    have q := p.nat (i + n * m) (-m).toNat
    have z : (n : Int) * ((-m).toNat : Int) = -(n * m) := by
      rw [Int.toNat_of_nonneg (by omega), Int.mul_neg]
    rw [z] at q
    rw [show i + (n : Int) * m + -(n * m) = i by omega] at q
    omega
/-- the same where only the rests agree -/
theorem PerM.rest {n : Nat} {g : Int → Int} (p : PerM n g) (i : Int) : g i = g (i % n) + (i - i % n) := by
  have e := p.int (i % n) (i / n)
  have d := Int.emod_add_mul_ediv i n
  rw [d] at e
  omega
theorem PerM.comp {n : Nat} {f g : Int → Int} (p : PerM n f) (q : PerM n g) : PerM n fun i => f (g i) := fun i => by
  show f (g (i + n)) = f (g i) + n
  rw [q, p]
/-- g, k times -/
def itG (g : Int → Int) : Nat → Int → Int
  | 0, i => i
  | k + 1, i => g (itG g k i)
theorem itG_add (g : Int → Int) (a i) : ∀ b, itG g (a + b) i = itG g b (itG g a i)
  | 0 => rfl
  | b + 1 => by
    show g (itG g (a + b) i) = g (itG g b (itG g a i))
    rw [itG_add g a i b]
theorem itG_per {n : Nat} {g : Int → Int} (p : PerM n g) : ∀ k, PerM n (itG g k)
  | 0 => fun _ => rfl
  | k + 1 => fun i => by
    show g (itG g k (i + n)) = g (itG g k i) + n
    rw [itG_per p k, p]
/-- after l rounds a post further by a multiple of the width: then in l rounds always so -/
theorem itG_lane {n : Nat} {g : Int → Int} (p : PerM n g) {l : Nat} {i m : Int} (h : itG g l i = i + n * m) : ∀ q : Nat, itG g (q * l) i = i + q * (n * m)
  | 0 => by
    rw [Nat.zero_mul]
    show i = i + ((0 : Nat) : Int) * _
    rw [show ((0 : Nat) : Int) * ((n : Int) * m) = 0 from Int.zero_mul _]
    omega
  | q + 1 => by
    have ih := itG_lane p h q
    have e : (q : Int) * ((n : Int) * m) = n * (q * m) := by
      rw [← Int.mul_assoc, Int.mul_comm (q : Int) n, Int.mul_assoc]
    rw [Nat.succ_mul, itG_add, ih, e, (itG_per p l).int i (q * m), h, Int.natCast_add]
    show i + (n : Int) * m + n * (q * m) = i + ((q : Int) + 1) * (n * m)
    rw [Int.add_mul, Int.one_mul, e]
    omega
/-- any number of rounds, by the lane of the post -/
theorem itG_rounds {n : Nat} {g : Int → Int} (p : PerM n g) {l : Nat} {i m : Int} (h : itG g l i = i + n * m) (t : Nat) : itG g t i = itG g (t % l) i + (t / l : Nat) * (n * m) := by
  have e : ((t / l : Nat) : Int) * ((n : Int) * m) = n * ((t / l : Nat) * m) := by
    rw [← Int.mul_assoc, Int.mul_comm ((t / l : Nat) : Int) n, Int.mul_assoc]
  have d : t = t / l * l + t % l := by
    have := Nat.div_add_mod t l
    rw [Nat.mul_comm] at this
    exact this.symm
  have z : itG g t i = itG g (t / l * l + t % l) i := by rw [← d]
  rw [z, itG_add, itG_lane p h, e, (itG_per p _).int]
theorem goZ_perM {n : Nat} {ls : List Str} (W : Rows n ls) : PerM n (goZ ls) := fun i => goZ_per W i
/-- posts whose rests behind the rows agree had rests that agree -/
theorem goZ_rest_inj {n : Nat} {ls : List Str} (W : Rows n ls) {i j : Int} (h : goZ ls i % n = goZ ls j % n) : i % n = j % n := by
  have a := Int.emod_add_mul_ediv (goZ ls i) n
  have b := Int.emod_add_mul_ediv (goZ ls j) n
  have q := (goZ_perM W).int j (goZ ls i / n - goZ ls j / n)
  have e : goZ ls (j + n * (goZ ls i / n - goZ ls j / n)) = goZ ls i := by
    rw [q, Int.mul_sub]
    omega
  have z := goZ_inj W e
  rw [← z, Int.add_mul_emod_self_left]
/-- more posts than rests: two share one -/
theorem pigeon : ∀ (n : Nat) (f : Nat → Nat), (∀ k, k ≤ n → f k < n) → ∃ i j, i < j ∧ j ≤ n ∧ f i = f j
  | 0, f, h => absurd (h 0 (Nat.le_refl 0)) (Nat.not_lt_zero _)
  | n + 1, f, h => by
    by_cases e : ∃ k, k ≤ n ∧ f k = f (n + 1)
    · obtain ⟨k, hk, q⟩ := e
      exact ⟨k, n + 1, by omega, Nat.le_refl _, q⟩
    · have ne : ∀ k, k ≤ n → f k ≠ f (n + 1) := fun k hk q => e ⟨k, hk, q⟩
      have hv := h (n + 1) (Nat.le_refl _)
      obtain ⟨i, j, hij, hj, q⟩ := pigeon n (fun k => if f (n + 1) < f k then f k - 1 else f k) fun k hk => by
        have a := ne k hk
        have b := h k (by omega)
        show (if f (n + 1) < f k then f k - 1 else f k) < n
        split <;> omega
      have q' : (if f (n + 1) < f i then f i - 1 else f i) = (if f (n + 1) < f j then f j - 1 else f j) := q
      have a := ne i (by omega)
      have b := ne j hj
      refine ⟨i, j, hij, by omega, ?_⟩
      split at q' <;> split at q' <;> omega
theorem itG_rest_inj {n : Nat} {ls : List Str} (W : Rows n ls) {i j : Int} : ∀ k, itG (goZ ls) k i % n = itG (goZ ls) k j % n → i % n = j % n
  | 0, h => h
  | k + 1, h => itG_rest_inj W k (goZ_rest_inj W h)
/-- every rest comes again within as many rounds as there are rests -/
theorem goZ_comes {n : Nat} {ls : List Str} (W : Rows n ls) (c : Int) : ∃ l : Nat, 0 < l ∧ l ≤ n ∧ itG (goZ ls) l c % n = c % n := by
  have h0 := W.pos
  obtain ⟨i, j, hij, hj, q⟩ := pigeon n (fun k => (itG (goZ ls) k c % n).toNat) fun k _ => by
    have a := Int.emod_nonneg (itG (goZ ls) k c) (show (n : Int) ≠ 0 by omega)
    have b := Int.emod_lt_of_pos (itG (goZ ls) k c) (show (0 : Int) < n by omega)
    show (itG (goZ ls) k c % n).toNat < n
    omega
  have q' : (itG (goZ ls) i c % n).toNat = (itG (goZ ls) j c % n).toNat := q
  have a := Int.emod_nonneg (itG (goZ ls) i c) (show (n : Int) ≠ 0 by omega)
  have b := Int.emod_nonneg (itG (goZ ls) j c) (show (n : Int) ≠ 0 by omega)
  have e : itG (goZ ls) i c % n = itG (goZ ls) j c % n := by omega
  refine ⟨j - i, by omega, by omega, ?_⟩
  have d : j = (j - i) + i := by omega
  rw [d, itG_add] at e
  exact (itG_rest_inj W i e).symm
/-- the least number of rounds behind which the rest comes again: the lane's length -/
theorem least_of {p : Nat → Prop} : ∀ l : Nat, 0 < l → p l → ∃ m : Nat, 0 < m ∧ m ≤ l ∧ p m ∧ ∀ k, 0 < k → k < m → ¬ p k := by
  intro l
  induction l using Nat.strongRecOn with
  | ind l ih =>
    intro h0 hp
    by_cases e : ∃ k, 0 < k ∧ k < l ∧ p k
    · obtain ⟨k, k0, kl, kp⟩ := e
      obtain ⟨m, m0, ml, mp, mm⟩ := ih k kl k0 kp
      exact ⟨m, m0, by omega, mp, mm⟩
    · exact ⟨l, h0, Nat.le_refl l, hp, fun k k0 kl kp => e ⟨k, k0, kl, kp⟩⟩
theorem goZ_lane {n : Nat} {ls : List Str} (W : Rows n ls) (c : Int) : ∃ l : Nat, 0 < l ∧ l ≤ n ∧ itG (goZ ls) l c % n = c % n ∧ ∀ k, 0 < k → k < l → itG (goZ ls) k c % n ≠ c % n := by
  obtain ⟨l, l0, ln, e⟩ := goZ_comes W c
  obtain ⟨m, m0, ml, mp, mm⟩ := least_of (p := fun k => itG (goZ ls) k c % n = c % n) l l0 e
  exact ⟨m, m0, by omega, mp, mm⟩
/-- within a lane's length no rest comes twice -/
theorem goZ_lane_ne {n : Nat} {ls : List Str} (W : Rows n ls) {c : Int} {l : Nat} (m : ∀ k, 0 < k → k < l → itG (goZ ls) k c % n ≠ c % n) {i j : Nat} (hij : i < j) (hj : j < l) : itG (goZ ls) i c % n ≠ itG (goZ ls) j c % n := fun e => by
  have d : j = (j - i) + i := by omega
  rw [d, itG_add] at e
  exact m (j - i) (by omega) (by omega) (itG_rest_inj W i e).symm
theorem itG_comm (g : Int → Int) (a b : Nat) (i : Int) : itG g a (itG g b i) = itG g b (itG g a i) := by
  rw [← itG_add, ← itG_add, Nat.add_comm]
/-- what a map does to a post follows from its rest -/
theorem itG_cong {n : Nat} {g : Int → Int} (p : PerM n g) (k : Nat) {i j : Int} (h : i % n = j % n) : itG g k i - i = itG g k j - j := by
  have a := (itG_per p k).rest i
  have b := (itG_per p k).rest j
  rw [h] at a
  omega
theorem itG_congR {n : Nat} {g : Int → Int} (p : PerM n g) (k : Nat) {i j : Int} (h : i % n = j % n) : itG g k i % n = itG g k j % n := by
  have a := Int.emod_add_mul_ediv i n
  have b := Int.emod_add_mul_ediv j n
  have e : i = j + n * (i / n - j / n) := by
    rw [Int.mul_sub]
    omega
  rw [e, (itG_per p k).int, Int.add_mul_emod_self_left]
/-- a lane: its first post, its length, its shift (in widths), and no rest twice -/
structure Lane (n : Nat) (ls : List Str) (c : Int) (l : Nat) (m : Int) : Prop where
  pos : 0 < l
  le : l ≤ n
  end_ : itG (goZ ls) l c = c + n * m
  ne : ∀ k, 0 < k → k < l → itG (goZ ls) k c % n ≠ c % n
theorem lane_of {n : Nat} {ls : List Str} (W : Rows n ls) (c : Int) : ∃ (l : Nat) (m : Int), Lane n ls c l m := by
  obtain ⟨l, l0, ln, e, mm⟩ := goZ_lane W c
  have a := Int.emod_add_mul_ediv (itG (goZ ls) l c) n
  have b := Int.emod_add_mul_ediv c n
  refine ⟨l, itG (goZ ls) l c / n - c / n, l0, ln, ?_, mm⟩
  rw [Int.mul_sub]
  omega
/-- each post of the lane, and each with a rest of the lane, has the lane's length and shift -/
theorem Lane.same {n : Nat} {ls : List Str} (W : Rows n ls) {c : Int} {l : Nat} {m : Int} (L : Lane n ls c l m) {i : Int} {k : Nat} (h : i % n = itG (goZ ls) k c % n) : Lane n ls i l m := by
  have p := goZ_perM W
  have e : itG (goZ ls) l (itG (goZ ls) k c) = itG (goZ ls) k c + n * m := by
    rw [itG_comm, L.end_, (itG_per p k).int]
  refine ⟨L.pos, L.le, ?_, fun q q0 ql z => ?_⟩
  · have d := itG_cong p l h
    omega
  · have d := itG_congR p q h
    rw [z, h, itG_comm] at d
    exact L.ne q q0 ql (itG_rest_inj W k d.symm)
theorem Lane.uniq {n : Nat} {ls : List Str} {c : Int} {l l' : Nat} {m m' : Int} (L : Lane n ls c l m) (L' : Lane n ls c l' m') : l = l' ∧ (n : Int) * m = n * m' := by
  have z : ∀ {l : Nat} {m : Int}, Lane n ls c l m → itG (goZ ls) l c % n = c % n := fun {l m} L => by rw [L.end_, Int.add_mul_emod_self_left]
  have e : l = l' := by
    rcases Nat.lt_trichotomy l l' with q | q | q
    · exact absurd (z L) (L'.ne l L.pos q)
    · exact q
    · exact absurd (z L') (L.ne l' L'.pos q)
  subst e
  have a := L.end_
  rw [L'.end_] at a
  exact ⟨rfl, by omega⟩
/-- whoever is met in the lane of c meets c in its own -/
theorem Lane.back {n : Nat} {ls : List Str} (W : Rows n ls) {c : Int} {l : Nat} {m : Int} (L : Lane n ls c l m) {i : Int} {k : Nat} (hk : k < l) (h : i % n = itG (goZ ls) k c % n) : ∃ q, q < l ∧ c % n = itG (goZ ls) q i % n := by
  have p := goZ_perM W
  cases k with
  | zero => exact ⟨0, L.pos, h.symm⟩
  | succ k =>
    refine ⟨l - (k + 1), by omega, ?_⟩
    rw [itG_congR p _ h, ← itG_add, show k + 1 + (l - (k + 1)) = l by omega, L.end_, Int.add_mul_emod_self_left]
end Rg
/-! own words: all lanes of a rule -/
namespace Rg
open PySem L2 TL
def laneLen (ls : List Str) (n : Nat) (c : Int) : Nat :=
  match (List.range n).find? (fun k => decide (itG (goZ ls) (k + 1) c % (n : Int) = c % n)) with
  | some k => k + 1
  | none => 0
def orb (ls : List Str) (n : Nat) (c : Int) : List Int := (List.range (laneLen ls n c)).map fun k => itG (goZ ls) k c % (n : Int)
def isFirst (ls : List Str) (n : Nat) (c : Int) : Bool := (orb ls n c).all fun z => decide (c ≤ z)
def firsts (ls : List Str) (n : Nat) : List Int := ((List.range n).map fun k : Nat => (k : Int)).filter (isFirst ls n)
section
variable {n : Nat} {ls : List Str}
theorem Lane.len {c : Int} {l : Nat} {m : Int} (L : Lane n ls c l m) : laneLen ls n c = l := by
  have h : (List.range n).find? (fun k => decide (itG (goZ ls) (k + 1) c % (n : Int) = c % n)) = some (l - 1) := by
    rw [List.find?_eq_some_iff_getElem]
    have p := L.pos
    have q := L.le
    refine ⟨?_, l - 1, by rw [List.length_range]; omega, by rw [List.getElem_range], fun j hj => ?_⟩
    · rw [decide_eq_true_eq, show l - 1 + 1 = l by omega, L.end_, Int.add_mul_emod_self_left]
    · rw [List.getElem_range, Bool.not_eq_true', decide_eq_false_iff_not]
      exact L.ne (j + 1) (by omega) (by omega)
  unfold laneLen
  rw [h]
  have p := L.pos
  show l - 1 + 1 = l
  omega
theorem lane_len (W : Rows n ls) (c : Int) : ∃ m, Lane n ls c (laneLen ls n c) m := by
  obtain ⟨l, m, L⟩ := lane_of W c
  exact ⟨m, L.len ▸ L⟩
theorem mem_orb {c z : Int} : z ∈ orb ls n c ↔ ∃ k, k < laneLen ls n c ∧ z = itG (goZ ls) k c % (n : Int) := by
  unfold orb
  rw [List.mem_map]
  constructor
  · rintro ⟨k, hk, e⟩
    exact ⟨k, List.mem_range.mp hk, e.symm⟩
  · rintro ⟨k, hk, e⟩
    exact ⟨k, List.mem_range.mpr hk, e.symm⟩
/-- any number of rounds leads into the lane -/
theorem orb_any (W : Rows n ls) (c : Int) (t : Nat) : itG (goZ ls) t c % (n : Int) ∈ orb ls n c := by
  obtain ⟨m, L⟩ := lane_len W c
  refine mem_orb.mpr ⟨t % laneLen ls n c, Nat.mod_lt _ L.pos, ?_⟩
  rw [itG_rounds (goZ_perM W) L.end_ t]
  have e : ((t / laneLen ls n c : Nat) : Int) * ((n : Int) * m) = n * ((t / laneLen ls n c : Nat) * m) := by
    rw [← Int.mul_assoc, Int.mul_comm ((t / laneLen ls n c : Nat) : Int) n, Int.mul_assoc]
  rw [e, Int.add_mul_emod_self_left]
theorem orb_range (W : Rows n ls) {c z : Int} (h : z ∈ orb ls n c) : 0 ≤ z ∧ z < n := by
  obtain ⟨k, _, rfl⟩ := mem_orb.mp h
  have := W.pos
  exact ⟨Int.emod_nonneg _ (by omega), Int.emod_lt_of_pos _ (by omega)⟩
theorem orb_self (W : Rows n ls) {c : Int} (h0 : 0 ≤ c) (h1 : c < n) : c ∈ orb ls n c := by
  have := orb_any W c 0
  rwa [show itG (goZ ls) 0 c = c from rfl, Int.emod_eq_of_lt h0 h1] at this
theorem orb_trans (W : Rows n ls) {c z y : Int} (h : z ∈ orb ls n c) (g : y ∈ orb ls n z) : y ∈ orb ls n c := by
  obtain ⟨j, _, rfl⟩ := mem_orb.mp h
  obtain ⟨k, _, rfl⟩ := mem_orb.mp g
  rw [itG_congR (goZ_perM W) k (Int.emod_emod _ _), ← itG_add]
  exact orb_any W c _
theorem orb_back (W : Rows n ls) {c z : Int} (h0 : 0 ≤ c) (h1 : c < n) (h : z ∈ orb ls n c) : c ∈ orb ls n z := by
  obtain ⟨m, L⟩ := lane_len W c
  obtain ⟨k, hk, e⟩ := mem_orb.mp h
  have z2 : z % (n : Int) = itG (goZ ls) k c % n := by rw [e, Int.emod_emod]
  obtain ⟨q, _, hq⟩ := L.back W hk z2
  rw [Int.emod_eq_of_lt h0 h1] at hq
  rw [hq]
  exact orb_any W z q
theorem orb_nodup (W : Rows n ls) (c : Int) : (orb ls n c).Nodup := by
  obtain ⟨m, L⟩ := lane_len W c
  unfold orb
  rw [List.Nodup, List.pairwise_map]
  refine List.Pairwise.imp_of_mem (R := fun a b => a < b) (fun {a b} ha hb hab => ?_) List.pairwise_lt_range
  exact goZ_lane_ne W L.ne hab (List.mem_range.mp hb)
theorem first_iff {c : Int} : isFirst ls n c = true ↔ ∀ z ∈ orb ls n c, c ≤ z := by
  unfold isFirst
  rw [List.all_eq_true]
  exact ⟨fun h z hz => of_decide_eq_true (h z hz), fun h z hz => decide_eq_true (h z hz)⟩
theorem mem_firsts {c : Int} : c ∈ firsts ls n ↔ 0 ≤ c ∧ c < n ∧ isFirst ls n c = true := by
  unfold firsts
  rw [List.mem_filter, List.mem_map]
  constructor
  · rintro ⟨⟨k, hk, rfl⟩, h⟩
    have := List.mem_range.mp hk
    exact ⟨by omega, by omega, h⟩
  · rintro ⟨h0, h1, h⟩
    exact ⟨⟨c.toNat, List.mem_range.mpr (by omega), by omega⟩, h⟩
/-- a list that is not empty has a least number -/
theorem least_mem : ∀ {l : List Int}, l ≠ [] → ∃ c ∈ l, ∀ z ∈ l, c ≤ z
  | [], h => absurd rfl h
  | [a], _ => ⟨a, List.mem_singleton.mpr rfl, fun z hz => by rw [List.mem_singleton.mp hz]; exact Int.le_refl _⟩
  | a :: b :: l, _ => by
    obtain ⟨c, hc, m⟩ := least_mem (l := b :: l) (by simp)
    rcases Int.le_total a c with h | h
    · exact ⟨a, List.mem_cons_self, fun z hz => by
        rcases List.mem_cons.mp hz with rfl | q
        · exact Int.le_refl _
        · exact Int.le_trans h (m z q)⟩
    · exact ⟨c, List.mem_cons_of_mem _ hc, fun z hz => by
        rcases List.mem_cons.mp hz with rfl | q
        · exact h
        · exact m z q⟩
/-- each rest lies in the lane of just one first rest -/
theorem first_of (W : Rows n ls) {z : Int} (h0 : 0 ≤ z) (h1 : z < n) : ∃ c ∈ firsts ls n, z ∈ orb ls n c := by
  have hs := orb_self W h0 h1
  obtain ⟨c, hc, m⟩ := least_mem (l := orb ls n z) (fun e => by rw [e] at hs; cases hs)
  obtain ⟨c0, c1⟩ := orb_range W hc
  exact ⟨c, mem_firsts.mpr ⟨c0, c1, first_iff.mpr fun y hy => m y (orb_trans W hc hy)⟩, orb_back W h0 h1 hc⟩
theorem first_one (W : Rows n ls) {c d z : Int} (hc : c ∈ firsts ls n) (hd : d ∈ firsts ls n) (h : z ∈ orb ls n c) (g : z ∈ orb ls n d) : c = d := by
  obtain ⟨c0, c1, fc⟩ := mem_firsts.mp hc
  obtain ⟨d0, d1, fd⟩ := mem_firsts.mp hd
  have a := first_iff.mp fc d (orb_trans W h (orb_back W d0 d1 g))
  have b := first_iff.mp fd c (orb_trans W g (orb_back W c0 c1 h))
  omega
theorem firsts_sorted : (firsts ls n).Pairwise (· < ·) := by
  unfold firsts
  refine List.Pairwise.filter _ ?_
  rw [List.pairwise_map]
  exact List.Pairwise.imp (fun {a b} h => by omega) List.pairwise_lt_range
/-- the lanes' rests are all rests, each once -/
theorem lanes_perm (W : Rows n ls) : ((firsts ls n).map (orb ls n)).flatten.Perm ((List.range n).map fun k : Nat => (k : Int)) := by
  rw [List.perm_ext_iff_of_nodup]
  · intro z
    rw [List.mem_flatten, List.mem_map]
    constructor
    · rintro ⟨l, hl, hz⟩
      obtain ⟨c, _, rfl⟩ := List.mem_map.mp hl
      obtain ⟨z0, z1⟩ := orb_range W hz
      exact ⟨z.toNat, List.mem_range.mpr (by omega), by omega⟩
    · rintro ⟨k, hk, rfl⟩
      have := List.mem_range.mp hk
      obtain ⟨c, hc, hz⟩ := first_of W (z := (k : Int)) (by omega) (by omega)
      exact ⟨_, List.mem_map.mpr ⟨c, hc, rfl⟩, hz⟩
  · rw [List.Nodup, List.pairwise_flatten]
    refine ⟨fun l hl => ?_, ?_⟩
    · obtain ⟨c, _, rfl⟩ := List.mem_map.mp hl
      exact orb_nodup W c
    · rw [List.pairwise_map]
      refine List.Pairwise.imp_of_mem (fun {c d} hc hd hcd x hx y hy e => ?_) firsts_sorted
      subst e
      have := first_one W hc hd hx hy
      omega
  · rw [List.Nodup, List.pairwise_map]
    exact List.Pairwise.imp (fun {a b} h => by omega) List.pairwise_lt_range
end
end Rg
/-! own words: shifts -/
namespace Rg
open PySem L2 TL
theorem sum_appI : ∀ (l m : List Int), (l ++ m).sum = l.sum + m.sum
  | [], m => by
    rw [List.nil_append, List.sum_nil]
    omega
  | a :: l, m => by
    rw [List.cons_append, List.sum_cons, List.sum_cons, sum_appI l m]
    omega
theorem perm_sumI {l m : List Int} (h : l.Perm m) : l.sum = m.sum := by
  induction h with
  | nil => rfl
  | cons a _ ih => rw [List.sum_cons, List.sum_cons, ih]
  | swap a b l =>
    rw [List.sum_cons, List.sum_cons, List.sum_cons, List.sum_cons]
    omega
  | trans _ _ ih1 ih2 => rw [ih1, ih2]
theorem sum_flatI (f : Int → Int) : ∀ L : List (List Int), (L.flatten.map f).sum = (L.map fun l => (l.map f).sum).sum
  | [] => rfl
  | l :: L => by
    rw [List.flatten_cons, List.map_append, sum_appI, List.map_cons, List.sum_cons, sum_flatI f L]
theorem sumZ_range (f : Int → Int) : ∀ n : Nat, sumZ f 0 n = (((List.range n).map fun k : Nat => (k : Int)).map f).sum
  | 0 => rfl
  | n + 1 => by
    rw [List.range_succ, List.map_append, List.map_append, sum_appI, ← sumZ_range f n]
    show sumZ f 0 n + f (0 + (n : Int)) = sumZ f 0 n + (f (n : Int) + 0)
    rw [Int.zero_add, Int.add_zero]
def moveZ (ls : List Str) (z : Int) : Int := goZ ls z - z
def shiftZ (ls : List Str) (n : Nat) (c : Int) : Int := itG (goZ ls) (laneLen ls n c) c - c
section
variable {n : Nat} {ls : List Str}
theorem moveZ_rest (W : Rows n ls) (i : Int) : moveZ ls (i % n) = moveZ ls i :=
  itG_cong (goZ_perM W) 1 (i := i % n) (j := i) (Int.emod_emod _ _)
theorem moved_sum (W : Rows n ls) (c : Int) : ∀ l : Nat, itG (goZ ls) l c - c = ((List.range l).map fun k => moveZ ls (itG (goZ ls) k c % n)).sum
  | 0 => by
    show c - c = 0
    omega
  | l + 1 => by
    rw [List.range_succ, List.map_append, sum_appI, ← moved_sum W c l]
    show goZ ls (itG (goZ ls) l c) - c = itG (goZ ls) l c - c + (moveZ ls (itG (goZ ls) l c % n) + 0)
    rw [moveZ_rest W]
    unfold moveZ
    omega
theorem shiftZ_sum (W : Rows n ls) (c : Int) : shiftZ ls n c = ((orb ls n c).map (moveZ ls)).sum := by
  unfold shiftZ orb
  rw [moved_sum W c, List.map_map]
  rfl
/-- the shifts of all lanes add up to nothing -/
theorem shifts_zero (W : Rows n ls) : ((firsts ls n).map (shiftZ ls n)).sum = 0 := by
  have e : (firsts ls n).map (shiftZ ls n) = ((firsts ls n).map (orb ls n)).map fun l => (l.map (moveZ ls)).sum := by
    rw [List.map_map]
    exact List.map_congr_left fun c _ => shiftZ_sum W c
  rw [e, ← sum_flatI, perm_sumI ((lanes_perm W).map (moveZ ls)), ← sumZ_range]
  exact goZ_moved W 0
/-- a shift is a multiple of the width -/
theorem shiftZ_mul (W : Rows n ls) (c : Int) : shiftZ ls n c % n = 0 := by
  obtain ⟨m, L⟩ := lane_len W c
  unfold shiftZ
  rw [L.end_, show c + (n : Int) * m - c = n * m by omega]
  exact Int.mul_emod_right _ _
/-- any number of rounds, by lengths and shifts -/
theorem after_lane (W : Rows n ls) (i : Int) (t : Nat) : itG (goZ ls) t i = itG (goZ ls) (t % laneLen ls n i) i + (t / laneLen ls n i : Nat) * shiftZ ls n i := by
  obtain ⟨m, L⟩ := lane_len W i
  have e : shiftZ ls n i = n * m := by
    unfold shiftZ
    rw [L.end_]
    omega
  rw [e]
  exact itG_rounds (goZ_perM W) L.end_ t
/-- length and shift are those of the lane, whichever of its posts one asks -/
theorem lane_rest (W : Rows n ls) {c i : Int} {k : Nat} (h : i % n = itG (goZ ls) k c % n) : laneLen ls n i = laneLen ls n c ∧ shiftZ ls n i = shiftZ ls n c := by
  obtain ⟨m, L⟩ := lane_len W c
  have M := L.same W h
  have e := M.len
  refine ⟨e, ?_⟩
  unfold shiftZ
  rw [e, M.end_, L.end_]
  omega
end
end Rg
namespace Rg
open PySem L2 TL
local macro_rules | `(tactic| walk_at "sd") => `(tactic| (first | (with_reducible show (_ : Int) ≤ _; omega) | (with_reducible show (_ : Int) < _; omega) | ((fail_if_success (with_reducible show (_ : Int) ≤ _)); rfl) | assumption | omega | (show (0 : Int) < _; omega) | (refine Or.inl ⟨?_, ?_⟩ <;> omega) | (refine Or.inr ⟨?_, ?_⟩ <;> omega) | (refine And.intro ?_ ?_ <;> omega) | exact cp60 | exact cp18 | exact cm60 | exact ps60 | exact Nat.le_of_ble_eq_true rfl | decide))
local macro_rules | `(tactic| walk_at "r") => `(tactic| (first | refine ⟨_, rfl, ?_⟩ | refine Or.inl ⟨_, rfl, ?_⟩ | refine ⟨_, _, rfl, rfl, ?_⟩ | refine ⟨_, _, _, _, rfl, rfl, SqL.of (by assumption), (by assumption), ?_⟩ | refine And.intro (Or.inl ⟨rfl, _, SqL.of (by assumption)⟩) ?_ | refine And.intro ⟨_, rfl⟩ ?_ | refine ⟨_, _, rfl, .inl (SqL.of (by assumption)), ?_⟩ | (refine And.intro ?_ ?_; focus (walk_at "sd"; done))))
local macro_rules | `(tactic| walk_at "x") => `(tactic| (first | refine ⟨_, rfl, ?_⟩ | refine Or.inl ⟨_, rfl, ?_⟩ | refine ⟨_, _, rfl, rfl, ?_⟩ | refine ⟨_, _, _, _, rfl, rfl, SqL.of (by assumption), (by assumption), ?_⟩ | refine And.intro (Or.inl ⟨rfl, _, SqL.of (by assumption)⟩) ?_ | refine And.intro ⟨_, rfl⟩ ?_ | refine ⟨_, _, rfl, .inl (SqL.of (by assumption)), ?_⟩ | refine ⟨_, _, rfl, .inr (SqT.of (by assumption)), ?_⟩ | refine ⟨_, _, _, _, rfl, rfl, SqT.of (by assumption), (by assumption), ?_⟩ | with_reducible refine iteF ?_ | with_reducible refine iteT ?_ | (refine And.intro ?_ ?_; focus (walk_at "sd"; done))))
local macro_rules | `(tactic| walk_at "rd") => `(tactic| repeat (first | refine ⟨_, rfl, ?_⟩ | refine Or.inl ⟨_, rfl, ?_⟩ | refine ⟨_, _, rfl, rfl, ?_⟩ | refine ⟨_, _, _, _, rfl, rfl, SqL.of (by assumption), (by assumption), ?_⟩ | refine And.intro (Or.inl ⟨rfl, _, SqL.of (by assumption)⟩) ?_ | refine And.intro ⟨_, rfl⟩ ?_ | refine ⟨_, _, rfl, .inl (SqL.of (by assumption)), ?_⟩ | (refine And.intro ?_ ?_; focus (walk_at "sd"; done))))
local macro_rules | `(tactic| walk_at "rx") => `(tactic| repeat (first | refine ⟨_, rfl, ?_⟩ | refine Or.inl ⟨_, rfl, ?_⟩ | refine ⟨_, _, rfl, rfl, ?_⟩ | refine ⟨_, _, _, _, rfl, rfl, SqL.of (by assumption), (by assumption), ?_⟩ | refine And.intro (Or.inl ⟨rfl, _, SqL.of (by assumption)⟩) ?_ | refine And.intro ⟨_, rfl⟩ ?_ | refine ⟨_, _, rfl, .inl (SqL.of (by assumption)), ?_⟩ | refine ⟨_, _, rfl, .inr (SqT.of (by assumption)), ?_⟩ | refine ⟨_, _, _, _, rfl, rfl, SqT.of (by assumption), (by assumption), ?_⟩ | with_reducible refine iteF ?_ | with_reducible refine iteT ?_ | (refine And.intro ?_ ?_; focus (walk_at "sd"; done))))
def top (i : Nat) : Stmt := PySem.Challenge.pw_rungrepeats_k19_steps_on_the_endless_row.main.body.getD i (.Pass ⟨0, 0, 0, 0⟩)
abbrev s_is_marked : Stmt := top 15
abbrev N_is_marked : List Str := ["text"]
theorem sc_is_marked : FnScope N_is_marked ["text"] (defScope s_is_marked) := ⟨rfl, rfl, rfl, by decide +kernel, rfl, by decide +kernel, by decide +kernel⟩
section
variable {P : Program} {w : World} {K : PySem.W.Frag} {mg : Str → Option Value} {base : Heap}
/-- marks alone, no two rungs side by side: as the program asks it -/
def Mk (z : Str) : Bool := decide ((tl z).count 45 + (tl z).count 46 = (tl z).length) && (!(!(Builtin.Str.occurrences z (Str.ofString "--") 0 z.length 1).isEmpty))
def spIsMarked : Sp := fun vs H Q _ => ∃ z : Str, vs = [.str z] ∧ z.length ≤ sizeLine ∧ Q (.bl (Mk z)) H
theorem ok_is_marked {f : Addr} {fd : FuncData} (F : Fun K "is_marked" "is_marked" s_is_marked f fd) (B : Bi mg) : FnOk P w K mg base CX0 1 f fd ["text"] spIsMarked := by
  refine F.ok sc_is_marked (fun vs H Q E h => ?_) (fun cdv A outer s H vs Q E hr h => ?_)
  · obtain ⟨z, rfl, _⟩ := h
    rfl
  · obtain ⟨z, rfl, hz, k⟩ := h
    refine ⟨_, (pss_one (ps_ret (pe_and (pe_cmpR op_eq (pe_op op_add (pe_m1 PySem.F.slot_str_count PySem.F.type_str_count mt_count (pv 0) pe_str) (pe_m1 PySem.F.slot_str_count PySem.F.type_str_count mt_count (pv 0) pe_str)) (pe_callB call_len_str (by rfl) B.len_ PySem.boot_len (pa_cons (pv 0) pa_nil)) (nomark _)) (pe_one (pe_cmpR op_notin_str pe_str (pv 0) (by rfl)))))), ?_⟩
    walk_at "rx"
    have e1 : Txt.count z (Str.ofString "-") = ((tl z).count 45 : Nat) := count_one z 45
    have e2 : Txt.count z (Str.ofString ".") = ((tl z).count 46 : Nat) := count_one z 46
    rw [e1, e2, len_tl]
    unfold Mk at k
    refine ite2 (fun hc => ?_) (fun hc => ?_)
    · have hs : (tl z).count 45 + (tl z).count 46 = (tl z).length := by
        have := of_decide_eq_true hc
        injection this with this
        omega
      rw [decide_eq_true hs, Bool.true_and] at k
      walk_at "rx"
      exact k
    · have hs : ¬ (tl z).count 45 + (tl z).count 46 = (tl z).length := fun h => hc (decide_eq_true (congrArg V.int (by omega)))
      rw [decide_eq_false hs, Bool.false_and] at k
      walk_at "rx"
      exact k
end
abbrev s_is_row : Stmt := top 16
abbrev N_is_row : List Str := ["text"]
theorem sc_is_row : FnScope N_is_row ["text"] (defScope s_is_row) := ⟨rfl, rfl, rfl, by decide +kernel, rfl, by decide +kernel, by decide +kernel⟩
section
variable {P : Program} {w : World} {K : PySem.W.Frag} {mg : Str → Option Value} {base : Heap}
theorem mk_row {z : Str} {c : Nat} (h0 : 0 < (tl z).length) (hc : (tl z)[0]? = some c) : Mk (z ++ (⟨#[c]⟩ : Str)) = true ↔ Row (tl z) := by
  have e : tl (z ++ (⟨#[c]⟩ : Str)) = tl z ++ [c] := tl_append z _
  unfold Mk
  rw [e, Bool.and_eq_true, decide_eq_true_eq, List.count_append, List.count_append, List.length_append, List.length_singleton]
  have q := (signs_count (tl z)).1
  have q1 := (signs_count [c]).1
  rw [List.length_singleton] at q1
  constructor
  · rintro ⟨h1, h2⟩
    have hs : (tl z).count 45 + (tl z).count 46 = (tl z).length := by omega
    exact (row_asked h0 hs hc).mp h2
  · intro R
    have hs := (signs_count (tl z)).2.mpr R.sgn
    have hs1 : ([c]).count 45 + ([c]).count 46 = ([c] : List Nat).length := (signs_count [c]).2.mpr fun x hx => by
      rw [List.mem_singleton.mp hx]
      exact R.sgn c (List.mem_of_getElem? hc)
    rw [List.length_singleton] at hs1
    exact ⟨by omega, (row_asked h0 hs hc).mpr R⟩
def spIsRow : Sp := fun vs H Q _ => ∃ z : Str, vs = [.str z] ∧ z.length < sizeLine ∧ ∀ b : Bool, (b = true ↔ Row (tl z)) → Q (.bl b) H
theorem ok_is_row {f : Addr} {fd : FuncData} (F : Fun K "is_row" "is_row" s_is_row f fd) (B : Bi mg) (D_is_marked : Df P w K mg base "is_marked" 1 ["text"] spIsMarked) : FnOk P w K mg base CX0 2 f fd ["text"] spIsRow := by
  refine F.ok sc_is_row (fun vs H Q E h => ?_) (fun cdv A outer s H vs Q E hr h => ?_)
  · obtain ⟨z, rfl, _⟩ := h
    rfl
  · obtain ⟨z, rfl, hz, k⟩ := h
    refine ⟨_, (pss_one (ps_ret (pe_and (pe_cmpR op_ne (pv 0) pe_str (nomark _)) (pe_one (pe_df D_is_marked (hr.mono (by first | decide | omega)) (by rfl) (pa_cons (pe_op op_add_str (pv 0) (pe_ix ix_str (pv 0) pe_int (fun _ _ => rfl))) pa_nil)))))), ?_⟩
    walk_at "rx"
    refine ite2 (fun hc => ?_) (fun hc => ?_)
    · have hne : 0 < (tl z).length := by
        rcases Nat.eq_zero_or_pos (tl z).length with q | q
        · rw [decide_eq_true (congrArg V.str (ext_tl (List.length_eq_zero_iff.mp q : tl z = tl (Str.ofString "")) ))] at hc
          exact absurd hc (by decide)
        · exact q
      have hg := sg_first hne
      walk_at "rx"
      refine ⟨_, _, _, rfl, rfl, Nat.le_of_lt hz, atI_k' 0 rfl hg, ?_⟩
      refine ⟨_, _, rfl, rfl, hz, ?_⟩
      walk_at "rx"
      refine ⟨?_, k _ (mk_row hne hg)⟩
      have : (z ++ (⟨#[sg (tl z) 0]⟩ : Str)).length = z.length + 1 := by
        rw [len_tl, tl_append, List.length_append, len_tl]
        rfl
      omega
    · walk_at "rx"
      refine k false ⟨fun h => (nomatch h), fun R => ?_⟩
      rw [Bool.not_eq_true, Bool.not_eq_false', decide_eq_true_eq] at hc
      injection hc with e
      rw [e] at R
      exact absurd R.ne (by decide +kernel)
end
abbrev s_Rule_u__init_u_ : Stmt := inClass (top 18) 0
abbrev N_Rule_u__init_u_ : List Str := ["self", "texts", "row"]
theorem sc_Rule_u__init_u_ : FnScope N_Rule_u__init_u_ ["self", "texts"] (defScope s_Rule_u__init_u_) := ⟨rfl, rfl, rfl, by decide +kernel, rfl, by decide +kernel, by decide +kernel⟩
section
variable {P : Program} {w : World} {K : PySem.W.Frag} {mg : Str → Option Value} {base : Heap}
/-- what is known of the class -/
structure Rl (K : PySem.W.Frag) (C : Addr) : Prop where
  cl : Cls K C
  nR : NoAttr K C "_rows"
  c1 : PySem.W.findIn K (.ref C) "__class__" = some (some (.builtin "object.__class__"))
  c2 : PySem.W.specialIn K (.builtin "object.__class__") "__get__" = some (some (.builtin "getset_descriptor.__get__"))
  c3 : PySem.W.takesIn K (.builtin "object.__class__") = some true
  c4 : PySem.W.mroIn K C (.type "object") = some true
  sf : PySem.W.selfFirst K C = true
theorem Rl.c5 {K : PySem.W.Frag} {C : Addr} (_ : Rl K C) : PySem.W.kitOne K (.ref C) (.ref C) = some true := by
  unfold PySem.W.kitOne
  rw [if_pos (beq_self_eq_true _)]
theorem Rl.ty {K : PySem.W.Frag} {C : Addr} (T : Rl K C) {H : Hp} {a dx : Addr} {fs : List (Str × V)} (e : H a = some (.ins C dx fs)) : TyX K H (.ref a) (.ref C) := .base (.ins e T.cl T.c1 T.c2 T.c3 T.c4)
/-- at p an object of the class stands, with these rows -/
def RuleAt (C : Addr) (H : Hp) (p : Addr) (ls : List Str) : Prop := ∃ dx u, H p = some (.ins C dx [("_rows", V.ref u)]) ∧ H u = some (.tup (ls.map V.str))
theorem RuleAt.same {C : Addr} {H H' : Hp} {p : Addr} {ls : List Str} (h : RuleAt C H p ls) (s : Same H H') : RuleAt C H' p ls := by
  obtain ⟨dx, u, h1, h2⟩ := h
  exact ⟨dx, u, s _ _ h1, s _ _ h2⟩
theorem RuleAt.put {C : Addr} {H : Hp} {p l : Addr} {ls : List Str} {xs : List V} {o : HO} (h : RuleAt C H p ls) (hl : H l = some (.lst xs)) : RuleAt C (upd H l o) p ls := by
  obtain ⟨dx, u, h1, h2⟩ := h
  exact ⟨dx, u, by rw [upd_ne (ne_of h1 hl (by intro z; cases z))]; exact h1, by rw [upd_ne (ne_of h2 hl (by intro z; cases z))]; exact h2⟩
def spInit (C : Addr) : Sp := fun vs H Q _ => ∃ (p t dx : Addr) (n : Nat) (ls : List Str), vs = [.ref p, .ref t] ∧ H p = some (.ins C dx []) ∧ H t = some (.lst (ls.map V.str)) ∧ Rows n ls ∧ n ≤ 5000 ∧
  ∀ H' : Hp, RuleAt C H' p ls → (∀ b o, H b = some o → b ≠ p → H' b = some o) → Q .non H'
theorem ok_Rule_init {f C : Addr} {fd : FuncData} (F : Fun K "__init__" "Rule.__init__" s_Rule_u__init_u_ f fd) (B : Bi mg) (T : Rl K C) (D_is_row : Df P w K mg base "is_row" 2 ["text"] spIsRow) : FnOk P w K mg base CX0 3 f fd ["self", "texts"] (spInit C) := by
  refine F.ok sc_Rule_u__init_u_ (fun vs H Q E h => ?_) (fun cdv A outer s H vs Q E hr h => ?_)
  · obtain ⟨p, t, dx, n, ls, rfl, _⟩ := h
    rfl
  · obtain ⟨p, t, dx, n, ls, rfl, hp, ht, R, hn, k⟩ := h
    have npt : p ≠ t := ne_of hp ht (by intro z; cases z)
    have n5 : n < sizeLine := Nat.lt_of_le_of_lt hn (by decide)
    refine ⟨_, (pss_cons (ps_if (pt_cmpR op_eq (pe_callB call_len_seq (by rfl) B.len_ PySem.boot_len (pa_cons (pv 1) pa_nil)) pe_int (nomark _))
    (pss_one ps_never)
    pss_nil)
    (pss_cons (ps_for PassesOwn.never rfl (pi_list (pv 1)) (pg_name (i := 2) sc_Rule_u__init_u_.nd rfl (Or.inl rfl))
    (pss_one (ps_if (PW.pt (pw_or (pt_not (pt_val (pe_df D_is_row (hr.mono (by first | decide | omega)) (by rfl) (pa_cons (pv 2) pa_nil)))) (pw_or1 (pt_cmpR op_ne (pe_callB call_len_str (by rfl) B.len_ PySem.boot_len (pa_cons (pv 2) pa_nil)) (pe_callB call_len_str (by rfl) B.len_ PySem.boot_len (pa_cons (pe_ix ix_list (pv 1) pe_int (fun _ _ => rfl)) pa_nil)) (nomark _)))))
    (pss_one ps_never)
    pss_nil)))
    (pss_one (ps_fld (pv 0) (pe_callTy call_tuple_of (by rfl) B.tuple_ (by decide +kernel) (pa_cons (pv 1) pa_nil)) rfl)))), ?_⟩
    walk_at "rd"
    refine ite2 (fun hc => ?_) (fun hc => ?_)
    · exfalso
      have e := of_decide_eq_true hc
      injection e with e
      rw [List.length_map] at e
      have := R.ne
      omega
    walk_at "rd"
    refine ⟨⟨_, SqL.of ht⟩, ?_⟩
    refine for_list (K := K) (a := t) (xs := ls.map V.str) (fun i σ H' => H' = H ∧ ∃ v, σ = [some (.ref p), some (.ref t), v]) ⟨rfl, none, rfl⟩ (fun i σ H' _ h => by rw [h.1]; exact SqL.of ht) ?_ ?_
    · rintro i x σ H' hi ⟨rfl, v, rfl⟩
      have hil : i < ls.length := by
        have := (List.getElem?_eq_some_iff.mp hi).1
        rw [List.length_map] at this
        exact this
      rw [getS hil] at hi
      obtain rfl := Option.some.inj hi
      have hz := R.lenS (List.getElem_mem hil)
      have hz0 := R.lenS (List.getElem_mem R.ne)
      walk_at "rd"
      intro b hb
      obtain rfl := hb.mpr (R.row _ (List.getElem_mem hil))
      have iz := atI_k' (i := 0) 0 rfl (getS R.ne)
      walk_at "rd"
      rw [hz, hz0]
      walk_at "rd"
      refine iteNS rfl ?_
      walk_at "rd"
      exact ⟨_, rfl⟩
    · rintro σ H' ⟨rfl, v, rfl⟩
      walk_at "rd"
      refine ⟨t, _, rfl, .inl ⟨SqL.of ht, fun u hu => ?_⟩⟩
      have npu : p ≠ u := ne_of_none hp hu
      walk_at "rd"
      refine ⟨p, C, dx, [], rfl, by rw [upd_ne npu]; exact hp, T.cl, T.nR, by decide, ?_⟩
      refine k _ ⟨dx, u, upd_same, by rw [upd_ne npu.symm, upd_same]⟩ fun b o e hb => ?_
      rw [upd_ne hb, upd_ne (ne_of_none e hu)]
      exact e
theorem mk_at {C : Addr} {H : Hp} {t x dx : Addr} {n : Nat} {ls : List Str} {Q : VK} (ht : H t = some (.lst (ls.map V.str))) (W : Rows n ls) (hn : n ≤ 5000) (nx : H x = none) (ndx : H dx = none) (k : ∀ H' : Hp, Same H H' → RuleAt C H' x ls → Q .non H') :
    spInit C [.ref x, .ref t] (upd (upd H dx (.own x)) x (.ins C dx [])) Q E0 :=
  ⟨x, t, dx, n, ls, rfl, upd_same, by rw [upd_ne (ne_of_none ht nx), upd_ne (ne_of_none ht ndx)]; exact ht, W, hn, fun H' RA keep => k H' (L2.Same.made nx ndx keep) RA⟩
theorem lkR {m : Str} (v : V) (h : ¬ m = "_rows") : ([("_rows", v)] : List (Str × V)).lookup m = none := by
  have : (m == ("_rows" : Str)) = false := by simpa using h
  simp [List.lookup, this]
end
abbrev s__law_source : Stmt := top 20
abbrev N__law_source : List Str := ["script", "great", "small", "cell"]
theorem sc__law_source : FnScope N__law_source ["script"] (defScope s__law_source) := ⟨rfl, rfl, rfl, by decide +kernel, rfl, by decide +kernel, by decide +kernel⟩
section
variable {P : Program} {w : World} {K : PySem.W.Frag} {mg : Str → Option Value} {base : Heap}
def spSource (K : PySem.W.Frag) : Sp := fun vs H Q _ => ∃ (a : Addr) (ns : List Int), vs = [.ref a] ∧ SqL K H a (ns.map V.int) ∧ ns.length ≤ 63 ∧ ∀ (s g r : Addr) (H' : Hp), Same H H' → H s = none → H g = none → H r = none → Src H' s g r 0 → Q (.ref s) H'
theorem ok__law_source {f : Addr} {fd : FuncData} (F : Fun K "_law_source" "_law_source" s__law_source f fd) (B : Bi mg) : FnOk P w K mg base CX0 2 f fd ["script"] (spSource K) := by
  refine F.ok sc__law_source (fun vs H Q E h => ?_) (fun cdv A outer s H vs Q E hr h => ?_)
  · obtain ⟨a, ns, rfl, _⟩ := h
    rfl
  · obtain ⟨a, ns, rfl, hS, hl, k⟩ := h
    refine ⟨_, (pss_cons (ps_setLc (i := 1) (own := [("cell", 3)]) (g := gName 3) (tt := _) rfl sc__law_source.nd rfl rfl (sw_true rfl rfl rfl (by decide +kernel)) (pi_list (pv 0)) (blkOk_by (N := N__law_source) (sc := defScope s__law_source) (by decide +kernel)) (fun _ _ _ _ _ => pg_name (i := 3) sc__law_source.nd rfl (Or.inl rfl)) (fun _ _ _ _ _ => pts_one (pt_cmpR op_ge (pe_callB call_abs (by rfl) B.abs_ (by decide +kernel) (pa_cons (pv 3) pa_nil)) (pe_op op_pow pe_int pe_int) (nomark _))) (fun _ _ _ _ _ => (pe_callB call_abs (by rfl) B.abs_ (by decide +kernel) (pa_cons (pv 3) pa_nil))))
    (pss_cons (ps_setLc (i := 2) (own := [("cell", 3)]) (g := gName 3) (tt := _) rfl sc__law_source.nd rfl rfl (sw_true rfl rfl rfl (by decide +kernel)) (pi_list (pv 0)) (blkOk_by (N := N__law_source) (sc := defScope s__law_source) (by decide +kernel)) (fun _ _ _ _ _ => pg_name (i := 3) sc__law_source.nd rfl (Or.inl rfl)) (fun _ _ _ _ _ => pts_one (pt_cmpR op_lt (pe_callB call_abs (by rfl) B.abs_ (by decide +kernel) (pa_cons (pv 3) pa_nil)) (pe_op op_pow pe_int pe_int) (nomark _))) (fun _ _ _ _ _ => (pv 3)))
    (pss_one (ps_ret (pe_lst (pa_cons (pv 1) (pa_cons (pv 2) (pa_cons pe_int (pa_cons pe_int pa_nil))))))))), ?_⟩
    have hcp := cp18
    have e18 : (10 : Int) ^ (18 : Int).toNat = 10 ^ 18 := rfl
    refine ⟨_, rfl, a, rfl, ⟨_, hS⟩, fun D hD => ?_⟩
    refine lc_list (K := K) (a := a) (xs := ns.map V.int) (fun i H' => Same H H' ∧ ∃ gs : List Int, gs.length ≤ i ∧ H' D = some (.lst (gs.map V.int))) ⟨L2.Same.upd hD, [], Nat.le_refl _, upd_same⟩ (fun i H' _ h => h.1.seq hS) ?_ ?_
    · rintro i x H' hi ⟨sm, gs, hgs, hD'⟩
      have hil : i < ns.length := by
        have := (List.getElem?_eq_some_iff.mp hi).1
        rw [List.length_map] at this
        exact this
      rw [getV hil] at hi
      obtain rfl := Option.some.inj hi
      refine ⟨rfl, ?_⟩
      walk_at "rd"
      refine ite2 (fun hc => ?_) (fun hc => ?_)
      · walk_at "rd"
        refine ⟨_, hD', by rw [List.length_map]; exact Nat.lt_of_le_of_lt hgs (Nat.lt_of_lt_of_le hil (Nat.le_trans hl (by decide))), sm.put hD, gs ++ [if ns[i] < 0 then -ns[i] else ns[i]], by rw [List.length_append]; exact Nat.add_le_add_right hgs 1, ?_⟩
        rw [upd_same, List.map_append]
        rfl
      · exact ⟨sm, gs, Nat.le_succ_of_le hgs, hD'⟩
    · rintro H' ⟨sm, gs, hgs, hD'⟩
      rw [List.length_map] at hgs
      walk_at "rd"
      refine ⟨⟨_, sm.seq hS⟩, fun D2 hD2 => ?_⟩
      refine lc_list (K := K) (a := a) (xs := ns.map V.int) (fun i H2 => Same H' H2 ∧ ∃ ss : List Int, ss.length ≤ i ∧ (∀ z ∈ ss, -(10 ^ 18) < z ∧ z < 10 ^ 18) ∧ H2 D2 = some (.lst (ss.map V.int))) ⟨L2.Same.upd hD2, [], Nat.le_refl _, (fun _ h => nomatch h), upd_same⟩ (fun i H2 _ h => (sm.trans h.1).seq hS) ?_ ?_
      · rintro i x H2 hi ⟨sm2, ss, hss, hb, hD2'⟩
        have hil : i < ns.length := by
          have := (List.getElem?_eq_some_iff.mp hi).1
          rw [List.length_map] at this
          exact this
        rw [getV hil] at hi
        obtain rfl := Option.some.inj hi
        refine ⟨rfl, ?_⟩
        walk_at "rd"
        refine ite2 (fun hc => ?_) (fun hc => ?_)
        · walk_at "rd"
          refine ⟨_, hD2', by rw [List.length_map]; exact Nat.lt_of_le_of_lt hss (Nat.lt_of_lt_of_le hil (Nat.le_trans hl (by decide))), sm2.put hD2, ss ++ [ns[i]], by rw [List.length_append]; exact Nat.add_le_add_right hss 1, fun z hz => ?_, ?_⟩
          · rcases List.mem_append.mp hz with h | h
            · exact hb z h
            · rw [List.mem_singleton.mp h]
              have := of_decide_eq_true hc
              rw [e18] at this
              split at this <;> omega
          · rw [upd_same, List.map_append]
            rfl
        · exact ⟨sm2, ss, Nat.le_succ_of_le hss, hb, hD2'⟩
      · rintro H2 ⟨sm2, ss, hss, hb, hD2'⟩
        rw [List.length_map] at hss
        walk_at "rd"
        intro s hs
        have ng : D ≠ s := ne_of_none (sm2 _ _ hD') hs
        have n2 : D2 ≠ s := ne_of_none hD2' hs
        have n3 : D2 ≠ D := fun e => by rw [e, hD'] at hD2; cases hD2
        refine k s D D2 _ ((sm.trans sm2).up hs) ((sm.trans sm2).free hs) hD (sm.free hD2) ⟨gs, ss, 0, 1, upd_same, ?_, ?_, n3, by omega, by omega, hb, by omega, by omega, by omega, by omega⟩
        · rw [upd_ne ng]
          exact sm2 _ _ hD'
        · rw [upd_ne n2]
          exact hD2'
end
abbrev s__law_draw : Stmt := top 21
abbrev N__law_draw : List Str := ["source", "limit", "great", "digit", "small", "place", "cell", "state"]
theorem sc__law_draw : FnScope N__law_draw ["source", "limit"] (defScope s__law_draw) := ⟨rfl, rfl, rfl, by decide +kernel, rfl, by decide +kernel, by decide +kernel⟩
section
variable {P : Program} {w : World} {K : PySem.W.Frag} {mg : Str → Option Value} {base : Heap}
def spDraw : Sp := fun vs H Q _ => ∃ (s g sm : Addr) (m : Nat) (b : Int), vs = [.ref s, .int b] ∧ Src H s g sm m ∧ m ≤ 2 ^ 40 ∧ 0 < b ∧ b < 1073741824 ∧ ∀ (c : Int) (H' : Hp), 0 ≤ c → c < b → Src H' s g sm (m + 1) → Same (out s g H) (out s g H') → Q (.int c) H'
theorem dp_ints {K : PySem.W.Frag} {H : Hp} : ∀ ns : List Int, DpAll K H (ns.map V.int) (ns.map PyData.int)
  | [] => .nil
  | z :: ns => .cons (.int z) (dp_ints ns)
theorem lay_ints : ∀ ns : List Int, PyData.canLayAll0 (ns.map PyData.int) = true
  | [] => rfl
  | z :: ns => by
    show (true && PyData.canLayAll0 (ns.map PyData.int)) = true
    rw [lay_ints ns]
    rfl
theorem depth_ints : ∀ ns : List Int, PyData.depthAll (ns.map PyData.int) ≤ 1
  | [] => Nat.zero_le _
  | z :: ns => by
    have ih := depth_ints ns
    simp only [List.map_cons, PyData.depthAll, PyData.depth]
    omega
theorem shaped_ints (ns : List Int) : SeqAt.shaped (.list (ns.map PyData.int)) = true := by
  have h1 := lay_ints ns
  have h2 := depth_ints ns
  show (PyData.canLayAll0 (ns.map PyData.int) && decide (PyData.depth (.list (ns.map PyData.int)) ≤ 64)) = true
  rw [h1, Bool.true_and, decide_eq_true_eq]
  simp only [PyData.depth]
  omega
/-- is a list of numbers empty? -/
theorem rd_some {K : PySem.W.Frag} {H : Hp} {p q : Addr} {ns : List Int} {Q : VK} (hp : H p = some (.lst (ns.map V.int))) (hq : H q = some (.lst [])) (k : Q (.bl (!decide (ns = []))) H) : rNeD K (.ref p) (.ref q) H Q := by
  refine ⟨_, _, .lst (SqL.of hp) (dp_ints ns), .lst (SqL.of hq) .nil, shaped_ints ns, shaped_ints [], ?_⟩
  cases ns with
  | nil => exact k
  | cons z ns => exact k
theorem ok__law_draw {f : Addr} {fd : FuncData} (F : Fun K "_law_draw" "_law_draw" s__law_draw f fd) (B : Bi mg) : FnOk P w K mg base CX0 2 f fd ["source", "limit"] spDraw := by
  refine F.ok sc__law_draw (fun vs H Q E h => ?_) (fun cdv A outer s0 H vs Q E hr h => ?_)
  · obtain ⟨s, g, sm, m, b, rfl, _⟩ := h
    rfl
  · obtain ⟨s, g, sm, m, b, rfl, S, hm, hb0, hb1, k⟩ := h
    refine ⟨_, (pss_cons (ps_set (i := 2) sc__law_draw.nd rfl (Or.inl rfl) (pe_ix ix_list (pv 0) pe_int (fun _ _ => rfl)))
    (pss_cons (ps_if (pt_cmpR (op_neD hr.units) (pv 2) (pe_lst pa_nil) (nomark _))
    (pss_cons (ps_set (i := 3) sc__law_draw.nd rfl (Or.inl rfl) (pe_op op_mod (pe_callTy call_int1 (by rfl) B.int_ (by decide +kernel) (pa_cons (pe_ix ix_list (pv 2) pe_int (fun _ _ => rfl)) pa_nil)) (pv 1)))
    (pss_cons (ps_asg (pe_op op_fdiv (pe_ix ix_list (pv 2) pe_int (fun _ _ => rfl)) (pv 1)) (pg_sub (pv 2) pe_int set_list))
    (pss_cons (ps_if (pt_cmpR op_eq (pe_ix ix_list (pv 2) pe_int (fun _ _ => rfl)) pe_int (nomark _))
    (pss_one (ps_expr (pe_bm PySem.F.plainAttrs_list PySem.F.slot_list_pop PySem.F.type_list_pop mt_popAt (pv 2) (pa_cons pe_int pa_nil))))
    pss_nil)
    (pss_one (ps_ret (pv 3))))))
    pss_nil)
    (pss_cons (ps_set (i := 4) sc__law_draw.nd rfl (Or.inl rfl) (pe_ix ix_list (pv 0) pe_int (fun _ _ => rfl)))
    (pss_cons (ps_set (i := 5) sc__law_draw.nd rfl (Or.inl rfl) (pe_ix ix_list (pv 0) pe_int (fun _ _ => rfl)))
    (pss_cons (ps_set (i := 6) sc__law_draw.nd rfl (Or.inl rfl) pe_int)
    (pss_cons (ps_if (pt_cmpR (op_neD hr.units) (pv 4) (pe_lst pa_nil) (nomark _))
    (pss_one (ps_set (i := 6) sc__law_draw.nd rfl (Or.inl rfl) (pe_ix ix_list (pv 4) (pe_op op_mod (pe_callTy call_int1 (by rfl) B.int_ (by decide +kernel) (pa_cons (pv 5) pa_nil)) (pe_callB call_len_seq (by rfl) B.len_ PySem.boot_len (pa_cons (pv 4) pa_nil))) (fun _ _ => rfl))))
    pss_nil)
    (pss_cons (ps_set (i := 7) sc__law_draw.nd rfl (Or.inl rfl) (pe_op op_mod (pe_callTy call_int1 (by rfl) B.int_ (by decide +kernel) (pa_cons (pe_op op_add (pe_op op_add (pe_op op_powW (pe_op op_add (pe_op op_add (pe_ix ix_list (pv 0) pe_int (fun _ _ => rfl)) (pv 6)) (pe_op op_mul pe_int (pv 5))) pe_int) (pe_op op_mul pe_int (pv 6))) pe_int) pa_nil)) pe_int))
    (pss_cons (ps_asg (pe_op op_add (pv 5) pe_int) (pg_sub (pv 0) pe_int set_list))
    (pss_cons (ps_asg (pv 7) (pg_sub (pv 0) pe_int set_list))
    (pss_one (ps_ret (pe_op op_mod (pe_callTy call_int1 (by rfl) B.int_ (by decide +kernel) (pa_cons (pe_op op_fdiv (pv 7) pe_int) pa_nil)) (pv 1))))))))))))), ?_⟩
    obtain ⟨gs, ss, pl, st, h1, h2, h3, nsg, hgl, hsl, hss, p0, p1, t0, t1⟩ := S.ex
    have nG : g ≠ s := fun e => by
      rw [e, h1] at h2
      cases gs with
      | nil => cases h2
      | cons => cases h2
    have nM : sm ≠ s := fun e => by
      rw [e, h1] at h3
      cases ss with
      | nil => cases h3
      | cons => cases h3
    have i0 : atI [V.ref g, V.ref sm, V.int pl, V.int st] 0 = some (V.ref g) := rfl
    have i1 : atI [V.ref g, V.ref sm, V.int pl, V.int st] 1 = some (V.ref sm) := rfl
    have i2 : atI [V.ref g, V.ref sm, V.int pl, V.int st] 2 = some (V.int pl) := rfl
    have i3 : atI [V.ref g, V.ref sm, V.int pl, V.int st] 3 = some (V.int st) := rfl
    walk_at "rd"
    intro e1 ze1
    generalize ee1 : upd _ e1 _ = H1
    obtain ⟨s1, he1⟩ := nw ee1 ze1
    have h1' := s1 _ _ h1
    have h2' := s1 _ _ h2
    have h3' := s1 _ _ h3
    refine rd_some h2' he1 ?_
    walk_at "rd"
    refine ite2 (fun hc => ?_) (fun hc => ?_)
    · obtain ⟨x, xs, rfl⟩ : ∃ x xs, gs = x :: xs := by
        cases gs with
        | nil => cases hc
        | cons x xs => exact ⟨x, xs, rfl⟩
      have j0 : atI ((x :: xs).map V.int) 0 = some (V.int x) := atI_k' (i := 0) 0 rfl rfl
      walk_at "rd"
      refine ⟨g, _, 0, 0, rfl, rfl, h2', ixN_nat (p := 0) (by rw [List.length_map]; exact Nat.succ_pos _), ?_⟩
      generalize eA : upd _ g _ = HA
      have hAg : HA g = some (.lst ((x / b :: xs).map V.int)) := by rw [← eA]; exact upd_same
      have hAs : HA s = some (.lst [V.ref g, V.ref sm, V.int pl, V.int st]) := by rw [← eA, upd_ne nG.symm]; exact h1'
      have hAm : HA sm = some (.lst (ss.map V.int)) := by rw [← eA, upd_ne nsg]; exact h3'
      have sA : Same (out s g H) (out s g HA) := s1.out.trans (eA ▸ out_put (.inr rfl))
      have j1 : atI ((x / b :: xs).map V.int) 0 = some (V.int (x / b)) := atI_k' (i := 0) 0 rfl rfl
      have c0 := Int.emod_nonneg x (show b ≠ 0 by omega)
      have c1 := Int.emod_lt_of_pos x hb0
      walk_at "rd"
      refine cutIf (fun σ H' => (∃ o, σ = [some (.ref s), some (.int b), some (.ref g), some (.int (x % b)), none, none, none, o]) ∧ Src H' s g sm (m + 1) ∧ Same (out s g H) (out s g H')) ?_ ?_ (fun _ => ⟨⟨_, rfl⟩, ⟨x / b :: xs, ss, pl, st, hAs, hAg, hAm, nsg, hgl, hsl, hss, p0, by omega, t0, t1⟩, sA⟩)
      · rintro σ H' ⟨⟨o, rfl⟩, S', s'⟩
        walk_at "rd"
        exact k _ _ c0 c1 S' s'
      · intro hT hc2
        walk_at "rd"
        refine ⟨g, _, 0, 0, _, rfl, rfl, hAg, by decide, by decide, seq0 (by rw [List.length_map]; exact Nat.succ_pos _), rfl, ?_⟩
        refine hT _ _ ⟨⟨_, rfl⟩, ⟨xs, ss, pl, st, ?_, ?_, ?_, nsg, Nat.le_of_succ_le hgl, hsl, hss, p0, by omega, t0, t1⟩, sA.trans (out_put (.inr rfl))⟩
        · rw [upd_ne nG.symm]; exact hAs
        · exact upd_same
        · rw [upd_ne nsg]; exact hAm
    · have hn : gs = [] := by
        cases gs with
        | nil => rfl
        | cons x xs => exact absurd rfl hc
      subst hn
      walk_at "rd"
      intro e2 ze2
      generalize ee2 : upd _ e2 _ = H2
      obtain ⟨s2, he2⟩ := nw ee2 ze2
      refine rd_some (s2 _ _ h3') he2 ?_
      walk_at "rd"
      have s02 := s1.trans s2
      have h12 := s02 _ _ h1
      have h22 := s02 _ _ h2
      have h32 := s02 _ _ h3
      refine cutIf (fun σ H' => H2 = H' ∧ ∃ c : Int, -(10 ^ 18) < c ∧ c < 10 ^ 18 ∧ σ = [some (.ref s), some (.int b), some (.ref g), none, some (.ref sm), some (.int pl), some (.int c), none]) ?_ ?_ (fun _ => ⟨rfl, 0, by omega, by omega, rfl⟩)
      rotate_left
      · intro hT hc2
        have hs0 : 0 < ss.length := by
          cases ss with
          | nil => cases hc2
          | cons => exact Nat.succ_pos _
        have hlv : ((ss.map V.int).length : Int) = (ss.length : Int) := by rw [List.length_map]
        have hp : (pl % ((ss.map V.int).length : Int)).toNat < ss.length := by
          rw [hlv]
          have q1 := Int.emod_nonneg pl (show (ss.length : Int) ≠ 0 by omega)
          have q2 := Int.emod_lt_of_pos pl (show (0 : Int) < (ss.length : Int) by omega)
          omega
        have iz : atI (ss.map V.int) (pl % ((ss.map V.int).length : Int)) = some (V.int (ss[(pl % ((ss.map V.int).length : Int)).toNat]'hp)) :=
          atI_k' _ (Int.toNat_of_nonneg (Int.emod_nonneg pl (by rw [hlv]; omega))).symm (getV hp)
        have hb := hss _ (List.getElem_mem hp)
        have pp : (0 : Int) < ((ss.map V.int).length : Int) := by rw [hlv]; omega
        repeat (first | exact hT _ _ ⟨rfl, _, hb.1, hb.2, rfl⟩ | walk_at "r")
      rintro σ _ ⟨rfl, c, c0, c1, rfl⟩
      have hpw : CPowW (st + c + 7919 * pl) 3 := ⟨by decide, 64, by omega, by decide⟩
      walk_at "rd"
      refine ⟨s, _, 2, 2, rfl, rfl, h12, rfl, ?_⟩
      generalize eA : upd _ s _ = HA
      have hAs : HA s = some (.lst [V.ref g, V.ref sm, V.int (pl + 1), V.int st]) := by rw [← eA]; exact upd_same
      have hAg : HA g = some (.lst (([] : List Int).map V.int)) := by rw [← eA, upd_ne nG]; exact h22
      have hAm : HA sm = some (.lst (ss.map V.int)) := by rw [← eA, upd_ne nM]; exact h32
      have sA : Same (out s g H) (out s g HA) := s02.out.trans (eA ▸ out_put (.inl rfl))
      walk_at "rd"
      refine ⟨s, _, 3, 3, rfl, rfl, hAs, rfl, ?_⟩
      have z0 := Int.emod_nonneg ((st + c + 7919 * pl) ^ (3 : Int).toNat + 48271 * c + 12345) (show (2147483629 : Int) ≠ 0 by decide)
      have z1 := Int.emod_lt_of_pos ((st + c + 7919 * pl) ^ (3 : Int).toNat + 48271 * c + 12345) (show (0 : Int) < 2147483629 by decide)
      walk_at "rd"
      refine k _ _ (Int.emod_nonneg _ (by omega)) (Int.emod_lt_of_pos _ hb0) ⟨[], ss, pl + 1, _, upd_same, ?_, ?_, nsg, by decide, hsl, hss, by omega, by omega, z0, z1⟩ (sA.trans (out_put (.inl rfl)))
      · rw [upd_ne nG]; exact hAg
      · rw [upd_ne nM]; exact hAm
end
abbrev s__law_number : Stmt := top 22
abbrev N__law_number : List Str := ["source", "limit", "parts", "number", "k"]
theorem sc__law_number : FnScope N__law_number ["source", "limit", "parts"] (defScope s__law_number) := ⟨rfl, rfl, rfl, by decide +kernel, rfl, by decide +kernel, by decide +kernel⟩
section
variable {P : Program} {w : World} {K : PySem.W.Frag} {mg : Str → Option Value} {base : Heap}
def spNumber : Sp := fun vs H Q _ => ∃ (s g sm : Addr) (m p : Nat) (b : Int), vs = [.ref s, .int b, .int p] ∧ Src H s g sm m ∧ m + p ≤ 2 ^ 40 ∧ 0 < b ∧ ∀ (c : Int) (H' : Hp), 0 ≤ c → c < b → Src H' s g sm (m + p) → Same (out s g H) (out s g H') → Q (.int c) H'
theorem ok__law_number {f : Addr} {fd : FuncData} (F : Fun K "_law_number" "_law_number" s__law_number f fd) (B : Bi mg) (D_law_draw : Df P w K mg base "_law_draw" 2 ["source", "limit"] spDraw) : FnOk P w K mg base CX0 3 f fd ["source", "limit", "parts"] spNumber := by
  refine F.ok sc__law_number (fun vs H Q E h => ?_) (fun cdv A outer s0 H vs Q E hr h => ?_)
  · obtain ⟨s, g, sm, m, p, b, rfl, _⟩ := h
    rfl
  · obtain ⟨s, g, sm, m, p, b, rfl, S, hm, hb, k⟩ := h
    refine ⟨_, (pss_cons (ps_set (i := 3) sc__law_number.nd rfl (Or.inl rfl) pe_int)
    (pss_cons (ps_for PassesOwn.never rfl (pi_range1 (by rfl) B.range_ (pa_cons (pv 2) pa_nil)) (pg_name (i := 4) sc__law_number.nd rfl (Or.inl rfl))
    (pss_one (ps_set (i := 3) sc__law_number.nd rfl (Or.inl rfl) (pe_op op_add (pe_op op_mul (pv 3) pe_int) (pe_df D_law_draw (hr.mono (by first | decide | omega)) (by rfl) (pa_cons (pv 0) (pa_cons pe_int pa_nil)))))))
    (pss_one (ps_ret (pe_op op_mod (pe_callTy call_int1 (by rfl) B.int_ (by decide +kernel) (pa_cons (pv 3) pa_nil)) (pv 1)))))), ?_⟩
    have hp62 : (p : Int) < 2 ^ 62 := by omega
    walk_at "rd"
    refine for_range (lo := 0) (n := (p : Int).toNat) (fun i σ H' => ∃ (c : Int) (o : Option V), σ = [some (.ref s), some (.int b), some (.int p), some (.int c), o] ∧ Src H' s g sm (m + i) ∧ Same (out s g H) (out s g H')) ⟨0, none, rfl, S, Same.refl _⟩ ?_ ?_
    · rintro i σ H' hi ⟨c, o, rfl, S', s1⟩
      walk_at "rd"
      refine ⟨s, g, sm, m + i, _, rfl, S', by omega, by decide, by decide, fun c2 H2 _ _ S2 s2 => ?_⟩
      walk_at "rd"
      exact ⟨_, _, rfl, S2, s1.trans s2⟩
    · rintro σ H' ⟨c, o, rfl, S', s1⟩
      walk_at "rd"
      exact k _ _ (Int.emod_nonneg _ (by omega)) (Int.emod_lt_of_pos _ hb) S' s1
end
abbrev s__law_signed : Stmt := top 23
abbrev N__law_signed : List Str := ["source", "limit", "parts", "number"]
theorem sc__law_signed : FnScope N__law_signed ["source", "limit", "parts"] (defScope s__law_signed) := ⟨rfl, rfl, rfl, by decide +kernel, rfl, by decide +kernel, by decide +kernel⟩
section
variable {P : Program} {w : World} {K : PySem.W.Frag} {mg : Str → Option Value} {base : Heap}
def spSigned : Sp := fun vs H Q _ => ∃ (s g sm : Addr) (m p : Nat) (b : Int), vs = [.ref s, .int b, .int p] ∧ Src H s g sm m ∧ m + p + 1 ≤ 2 ^ 40 ∧ 0 < b ∧ ∀ (c : Int) (H' : Hp), -b < c → c < b → Src H' s g sm (m + p + 1) → Same (out s g H) (out s g H') → Q (.int c) H'
theorem ok__law_signed {f : Addr} {fd : FuncData} (F : Fun K "_law_signed" "_law_signed" s__law_signed f fd) (B : Bi mg) (D_law_number : Df P w K mg base "_law_number" 3 ["source", "limit", "parts"] spNumber) (D_law_draw : Df P w K mg base "_law_draw" 2 ["source", "limit"] spDraw) : FnOk P w K mg base CX0 4 f fd ["source", "limit", "parts"] spSigned := by
  refine F.ok sc__law_signed (fun vs H Q E h => ?_) (fun cdv A outer s0 H vs Q E hr h => ?_)
  · obtain ⟨s, g, sm, m, p, b, rfl, _⟩ := h
    rfl
  · obtain ⟨s, g, sm, m, p, b, rfl, S, hm, hb, k⟩ := h
    refine ⟨_, (pss_cons (ps_set (i := 3) sc__law_signed.nd rfl (Or.inl rfl) (pe_df D_law_number (hr.mono (by first | decide | omega)) (by rfl) (pa_cons (pv 0) (pa_cons (pv 1) (pa_cons (pv 2) pa_nil)))))
    (pss_cons (ps_if (pt_cmpR op_eq (pe_df D_law_draw (hr.mono (by first | decide | omega)) (by rfl) (pa_cons (pv 0) (pa_cons pe_int pa_nil))) pe_int (nomark _))
    (pss_one (ps_ret (pe_un un_neg (pv 3))))
    pss_nil)
    (pss_one (ps_ret (pv 3))))), ?_⟩
    walk_at "rd"
    refine ⟨s, g, sm, m, p, b, rfl, S, by omega, hb, fun c H1 c0 c1 S1 t1 => ?_⟩
    walk_at "rd"
    refine ⟨s, g, sm, m + p, _, rfl, S1, by omega, by decide, by decide, fun d H2 _ _ S2 t2 => ?_⟩
    walk_at "rd"
    refine ite2 (fun _ => ?_) (fun _ => ?_)
    · walk_at "rd"
      exact k _ _ (by omega) (by omega) S2 (t1.trans t2)
    · walk_at "rd"
      exact k _ _ (by omega) (by omega) S2 (t1.trans t2)
end
abbrev s__law_lines : Stmt := top 24
abbrev N__law_lines : List Str := ["span", "lines", "k", "longer", "line"]
theorem sc__law_lines : FnScope N__law_lines ["span"] (defScope s__law_lines) := ⟨rfl, rfl, rfl, by decide +kernel, rfl, by decide +kernel, by decide +kernel⟩
section
variable {P : Program} {w : World} {K : PySem.W.Frag} {mg : Str → Option Value} {base : Heap}
/-- a part of a row: no two strokes side by side -/
def Half (k : Nat) (l : List Nat) : Prop := l.length = k ∧ Signs l ∧ ∀ i : Nat, ¬ (l[i]? = some 45 ∧ l[i + 1]? = some 45)
theorem Half.add {k c : Nat} {l : List Nat} (h : Half k l) (hc : c = 45 ∨ c = 46) (h1 : c = 45 → l.getLast? ≠ some 45) : Half (k + 1) (l ++ [c]) := by
  obtain ⟨h2, h3, h4⟩ := h
  refine ⟨by rw [List.length_append, h2]; rfl, fun x hx => ?_, fun i ⟨g1, g2⟩ => ?_⟩
  · rcases List.mem_append.mp hx with h | h
    · exact h3 x h
    · rw [List.mem_singleton.mp h]
      exact hc
  · have hi := (List.getElem?_eq_some_iff.mp g2).1
    rw [List.length_append, List.length_singleton] at hi
    by_cases hl : i + 1 < l.length
    · rw [List.getElem?_append_left (by omega)] at g1
      rw [List.getElem?_append_left hl] at g2
      exact h4 i ⟨g1, g2⟩
    · have e : i + 1 = l.length := by omega
      rw [List.getElem?_append_left (by omega)] at g1
      rw [e, List.getElem?_append_right (Nat.le_refl _), Nat.sub_self] at g2
      have ec : c = 45 := by simpa using g2
      refine h1 ec ?_
      rw [List.getLast?_eq_getElem?, show l.length - 1 = i by omega]
      exact g1
theorem Half.row {k : Nat} {l : List Nat} (h : Half k l) (h0 : 0 < k) (he : l[0]? = some 46 ∨ l[k - 1]? = some 46) : Row l := by
  obtain ⟨rfl, h3, h4⟩ := h
  exact Part.row (n := l.length) ⟨h3, h4, fun _ ⟨g1, g2⟩ => by rcases he with e | e <;> simp_all⟩ rfl h0
def dots (k : Nat) : Str := ⟨(List.replicate k 46).toArray⟩
theorem tl_dots (k : Nat) : tl (dots k) = List.replicate k 46 := rfl
theorem dots_add (k : Nat) : dots k ++ Str.ofString "." = dots (k + 1) := ext_tl (by
  rw [tl_append, tl_dots, tl_dots, show tl (Str.ofString ".") = [46] by decide +kernel, List.replicate_succ'])
theorem is_dot {c : Nat} (h : decide (V.str (⟨#[c]⟩ : Str) = V.str (Str.ofString ".")) = true) : c = 46 := by
  have e := of_decide_eq_true h
  injection e with e
  have e2 := congrArg tl e
  rw [show tl (Str.ofString ".") = [46] by decide +kernel] at e2
  injection e2
theorem no_dot {z : Str} {k : Nat} (h : z = dots k) {i c : Nat} (e : (tl z)[i]? = some c) : c = 46 := by
  rw [h, tl_dots, List.getElem?_replicate] at e
  split at e
  · exact (Option.some.inj e).symm
  · cases e
def spLinesSpan : Sp := fun vs H Q _ => ∃ n : Nat, vs = [.int n] ∧ 0 < n ∧ n ≤ 6 ∧ ∀ (ls : List Str) (q : Addr) (H' : Hp), Rows n ls → ls.length ≤ 64 → Same H H' → H q = none → H' q = some (.lst (ls.map V.str)) → Q (.ref q) H'
theorem ok__law_lines {f : Addr} {fd : FuncData} (F : Fun K "_law_lines" "_law_lines" s__law_lines f fd) (B : Bi mg) : FnOk P w K mg base CX0 2 f fd ["span"] spLinesSpan := by
  refine F.ok sc__law_lines (fun vs H Q E h => ?_) (fun cdv A outer s0 H vs Q E hr h => ?_)
  · obtain ⟨n, rfl, _⟩ := h
    rfl
  · obtain ⟨n, rfl, hn0, hn6, k⟩ := h
    refine ⟨_, (pss_cons (ps_set (i := 1) sc__law_lines.nd rfl (Or.inl rfl) (pe_lst (pa_cons pe_str pa_nil)))
    (pss_cons (ps_for PassesOwn.never rfl (pi_range1 (by rfl) B.range_ (pa_cons (pv 0) pa_nil)) (pg_name (i := 2) sc__law_lines.nd rfl (Or.inl rfl))
    (pss_cons (ps_set (i := 3) sc__law_lines.nd rfl (Or.inl rfl) (pe_lst pa_nil))
    (pss_cons (ps_for PassesOwn.never rfl (pi_list (pv 1)) (pg_name (i := 4) sc__law_lines.nd rfl (Or.inl rfl))
    (pss_cons (ps_expr (pe_bm PySem.F.plainAttrs_list PySem.F.slot_list_append PySem.F.type_list_append mt_append (pv 3) (pa_cons (pe_op op_add_str (pv 4) pe_str) pa_nil)))
    (pss_one (ps_if (pt_cmpR op_ne (pe_slice sl_str (pv 4) (po_some (pe_un un_neg pe_int)) po_none) pe_str (nomark _))
    (pss_one (ps_expr (pe_bm PySem.F.plainAttrs_list PySem.F.slot_list_append PySem.F.type_list_append mt_append (pv 3) (pa_cons (pe_op op_add_str (pv 4) pe_str) pa_nil))))
    pss_nil))))
    (pss_one (ps_set (i := 1) sc__law_lines.nd rfl (Or.inl rfl) (pv 3))))))
    (pss_one (ps_ret (pe_lc (own := [("line", 4)]) (g := gName 4) (tt := _) rfl sc__law_lines.nd (pi_list (pv 1)) (blkOk_by (N := N__law_lines) (sc := defScope s__law_lines) (by decide +kernel)) (fun _ _ _ _ _ => pg_name (i := 4) sc__law_lines.nd rfl (Or.inl rfl)) (fun _ _ _ _ _ => pts_one (PW.pt (pw_or (pt_cmpR op_eq (pe_ix ix_str (pv 4) pe_int (fun _ _ => rfl)) pe_str (nomark _)) (pw_or1 (pt_cmpR op_eq (pe_ix ix_str (pv 4) (pe_un un_neg pe_int) (fun _ _ => rfl)) pe_str (nomark _)))))) (fun _ _ _ _ _ => (pv 4))))))), ?_⟩
    have hn62 : (n : Int) < 2 ^ 62 := by omega
    have e45 : tl (Str.ofString "-") = [45] := by decide +kernel
    have e46 : tl (Str.ofString ".") = [46] := by decide +kernel
    walk_at "rd"
    intro l0 zl0
    generalize el0 : upd _ l0 _ = H1
    obtain ⟨s1, hl0⟩ := nw el0 zl0
    walk_at "rd"
    refine for_range (lo := 0) (n := (n : Int).toNat) (fun i σ H' => ∃ (ls : List Str) (q : Addr) (o2 o3 o4 : Option V), σ = [some (.int n), some (.ref q), o2, o3, o4] ∧ Same H H' ∧ H q = none ∧ H' q = some (.lst (ls.map V.str)) ∧ (∀ z ∈ ls, Half i (tl z)) ∧ dots i ∈ ls ∧ ls.length ≤ 2 ^ i)
      ⟨[Str.ofString ""], l0, none, none, none, rfl, s1, zl0, hl0, fun z hz => ?_, ?_, Nat.le_refl _⟩ ?_ ?_
    · rw [List.mem_singleton.mp hz, show tl (Str.ofString "") = [] by decide +kernel]
      exact ⟨rfl, (fun _ h => by cases h), fun i h => by simp at h⟩
    · exact List.mem_singleton.mpr (ext_tl (by rw [tl_dots]; decide +kernel))
    · rintro i σ H' hi ⟨ls, q, o2, o3, o4, rfl, s2, zq, hq, hH, hd, hl⟩
      have hi6 : i < 6 := by omega
      have hl64 : ls.length ≤ 32 := Nat.le_trans hl (by have := Nat.pow_le_pow_right (show 0 < 2 by decide) (show i ≤ 5 by omega); omega)
      walk_at "rd"
      intro D zD
      generalize eD : upd _ D _ = H2
      obtain ⟨s3, hD⟩ := nw eD zD
      have nqD : q ≠ D := ne_of_none hq zD
      walk_at "rd"
      refine ⟨⟨_, SqL.of (s3 _ _ hq)⟩, ?_⟩
      refine for_list (K := K) (a := q) (xs := ls.map V.str) (fun j σ H3 => ∃ (ms : List Str) (o4 : Option V), σ = [some (.int n), some (.ref q), some (.int (0 + (i : Int))), some (.ref D), o4] ∧ Same H' H3 ∧ H3 D = some (.lst (ms.map V.str)) ∧ (∀ z ∈ ms, Half (i + 1) (tl z)) ∧ (dots i ∈ ls.take j → dots (i + 1) ∈ ms) ∧ ms.length ≤ 2 * j)
        ⟨[], _, rfl, s3, hD, (fun _ h => nomatch h), (fun h => by simp at h), Nat.le_refl _⟩ (fun j σ H3 _ h => by
          obtain ⟨_, _, _, s, _⟩ := h
          exact SqL.of (s _ _ hq)) ?_ ?_
      · rintro j x σ H3 hj ⟨ms, o4, rfl, s4, hD3, hM, hdm, hml⟩
        have hjl : j < ls.length := by
          have := (List.getElem?_eq_some_iff.mp hj).1
          rw [List.length_map] at this
          exact this
        rw [getS hjl] at hj
        obtain rfl := Option.some.inj hj
        have hz := hH _ (List.getElem_mem hjl)
        have hzl : (ls[j]'hjl).length = i := by rw [len_tl]; exact hz.1
        have hs46 : (ls[j]'hjl).length + (Str.ofString ".").length ≤ sizeLine := by
          rw [hzl, show (Str.ofString ".").length = 1 by decide +kernel]
          exact Nat.le_trans (show i + 1 ≤ 7 by omega) (by decide)
        have hs45 : (ls[j]'hjl).length + (Str.ofString "-").length ≤ sizeLine := by
          rw [hzl, show (Str.ofString "-").length = 1 by decide +kernel]
          exact Nat.le_trans (show i + 1 ≤ 7 by omega) (by decide)
        have hzs : (ls[j]'hjl).length ≤ sizeLine := by rw [hzl]; exact Nat.le_trans (show i ≤ 7 by omega) (by decide)
        have hms : ∀ x : Nat, x ≤ 2 * 32 + 2 → x < sizeLine := fun x hx => Nat.lt_of_le_of_lt hx (by decide)
        walk_at "rd"
        refine ⟨D, _, _, rfl, rfl, hD3, by rw [List.length_map]; exact hms _ (by omega), ?_⟩
        generalize eA : upd _ D _ = HA
        have hA : HA D = some (.lst ((ms ++ [ls[j]'hjl ++ Str.ofString "."]).map V.str)) := by rw [← eA, upd_same, List.map_append]; rfl
        have sA : Same H' HA := by rw [← eA]; exact s4.put zD
        have mA : ∀ z ∈ ms ++ [ls[j]'hjl ++ Str.ofString "."], Half (i + 1) (tl z) := fun z hz2 => by
          rcases List.mem_append.mp hz2 with h | h
          · exact hM z h
          · rw [List.mem_singleton.mp h, tl_append, e46]
            exact hz.add (.inr rfl) (fun h => by cases h)
        have dA : dots i ∈ ls.take (j + 1) → dots (i + 1) ∈ ms ++ [ls[j]'hjl ++ Str.ofString "."] := fun h => by
          rw [List.take_add_one, List.getElem?_eq_getElem hjl] at h
          rcases List.mem_append.mp h with h | h
          · exact List.mem_append_left _ (hdm h)
          · rw [← dots_add, show dots i = ls[j]'hjl by simpa using h]
            exact List.mem_append_right _ (List.mem_singleton.mpr rfl)
        walk_at "rd"
        refine ite2 (fun hc => ?_) (fun hc => ?_)
        · have hm : (tl (ls[j]'hjl)).getLast? ≠ some 45 := fun h2 => by
            rw [cut_last h2] at hc
            exact absurd hc (by decide +kernel)
          walk_at "rd"
          refine ⟨D, _, _, rfl, rfl, hA, by rw [List.length_map, List.length_append]; exact hms _ (by simp; omega), ?_⟩
          refine ⟨(ms ++ [ls[j]'hjl ++ Str.ofString "."]) ++ [ls[j]'hjl ++ Str.ofString "-"], _, rfl, sA.put zD, by rw [upd_same]; simp, fun z hz2 => ?_, fun h => List.mem_append_left _ (dA h), by rw [List.length_append, List.length_append]; simp; omega⟩
          rcases List.mem_append.mp hz2 with h | h
          · exact mA z h
          · rw [List.mem_singleton.mp h, tl_append, e45]
            exact hz.add (.inl rfl) (fun _ => hm)
        · exact ⟨_, _, rfl, sA, hA, mA, dA, by rw [List.length_append]; simp; omega⟩
      · rintro σ H3 ⟨ms, o4, rfl, s4, hD3, hM, hdm, hml⟩
        rw [List.length_map] at hml hdm
        walk_at "rd"
        refine ⟨ms, D, _, _, _, rfl, s2.trans s4, s2.free zD, hD3, hM, hdm (by rw [List.take_length]; exact hd), ?_⟩
        rw [Nat.pow_succ]
        omega
    · rintro σ H' ⟨ls, q, o2, o3, o4, rfl, s2, zq, hq, hH, hd, hl⟩
      rw [show (n : Int).toNat = n from rfl] at hH hd hl
      have hl64 : ls.length ≤ 64 := Nat.le_trans hl (by have := Nat.pow_le_pow_right (show 0 < 2 by decide) (show n ≤ 6 by omega); omega)
      walk_at "rd"
      refine ⟨⟨_, SqL.of hq⟩, fun D hD => ?_⟩
      refine lc_list (K := K) (a := q) (xs := ls.map V.str) (fun j H3 => ∃ ms : List Str, Same H' H3 ∧ H3 D = some (.lst (ms.map V.str)) ∧ (∀ z ∈ ms, (tl z).length = n ∧ Row (tl z)) ∧ (dots n ∈ ls.take j → dots n ∈ ms) ∧ ms.length ≤ j)
        ⟨[], L2.Same.upd hD, upd_same, (fun _ h => by cases h), (fun h => by simp at h), Nat.le_refl _⟩ (fun j H3 _ h => by
          obtain ⟨_, s, _⟩ := h
          exact SqL.of (s _ _ hq)) ?_ ?_
      · rintro j x H3 hj ⟨ms, s4, hD3, hM, hdm, hml⟩
        have hjl : j < ls.length := by
          have := (List.getElem?_eq_some_iff.mp hj).1
          rw [List.length_map] at this
          exact this
        rw [getS hjl] at hj
        obtain rfl := Option.some.inj hj
        have hz := hH _ (List.getElem_mem hjl)
        have hz1 : (tl (ls[j]'hjl)).length = n := hz.1
        have hzl : (ls[j]'hjl).length ≤ sizeLine := by rw [len_tl, hz1]; exact Nat.le_trans hn6 (by decide)
        have ia : atI (tl (ls[j]'hjl)) 0 = some ((tl (ls[j]'hjl))[0]'(by omega)) := atI_k' (i := 0) 0 rfl (List.getElem?_eq_getElem (by omega))
        have ib : atI (tl (ls[j]'hjl)) (-1) = some ((tl (ls[j]'hjl))[n - 1]'(by omega)) := atI_back ((congrArg (fun m => (tl (ls[j]'hjl))[m - 1]?) hz1).trans (List.getElem?_eq_getElem (by omega)))
        have hdk : ∀ ms' : List Str, (∀ z ∈ ms, z ∈ ms') → (ls[j]'hjl = dots n → dots n ∈ ms') → dots n ∈ ls.take (j + 1) → dots n ∈ ms' := fun ms' h1 h2 h => by
          rw [List.take_add_one, List.getElem?_eq_getElem hjl] at h
          rcases List.mem_append.mp h with h | h
          · exact h1 _ (hdm h)
          · exact h2 (List.mem_singleton.mp (show dots n ∈ [ls[j]'hjl] from h)).symm
        refine ⟨rfl, ?_⟩
        walk_at "rd"
        have take : ((tl (ls[j]'hjl))[0]? = some 46 ∨ (tl (ls[j]'hjl))[n - 1]? = some 46) → ∃ acc : List V, H3 D = some (.lst acc) ∧ acc.length < sizeLine ∧ (fun j H3 => ∃ ms : List Str, Same H' H3 ∧ H3 D = some (.lst (ms.map V.str)) ∧ (∀ z ∈ ms, (tl z).length = n ∧ Row (tl z)) ∧ (dots n ∈ ls.take j → dots n ∈ ms) ∧ ms.length ≤ j) (j + 1) (upd H3 D (.lst (acc ++ [V.str (ls[j]'hjl)]))) := fun he =>
          ⟨_, hD3, by rw [List.length_map]; exact Nat.lt_of_le_of_lt (show ms.length ≤ 64 by omega) (by decide), ms ++ [ls[j]'hjl], s4.put hD, by rw [upd_same, List.map_append]; rfl, fun z hz2 => by
            rcases List.mem_append.mp hz2 with h | h
            · exact hM z h
            · rw [List.mem_singleton.mp h]
              exact ⟨hz1, hz.row hn0 he⟩, hdk _ (fun z h => List.mem_append_left _ h) (fun h => h ▸ List.mem_append_right _ (List.mem_singleton.mpr rfl)), by rw [List.length_append]; simp; omega⟩
        have q0 : (tl (ls[j]'hjl))[0]? = some _ := List.getElem?_eq_getElem (by omega)
        have qn : (tl (ls[j]'hjl))[n - 1]? = some _ := List.getElem?_eq_getElem (by omega)
        refine ⟨_, _, _, rfl, rfl, hzl, ia, ?_⟩
        walk_at "rd"
        refine ite2 (fun hc => ?_) (fun hc => ?_)
        · walk_at "rd"
          exact take (.inl (q0.trans (congrArg some (is_dot hc))))
        walk_at "rd"
        refine ⟨_, _, _, rfl, rfl, hzl, ib, ?_⟩
        walk_at "rd"
        refine ite2 (fun hc2 => ?_) (fun hc2 => ?_)
        · walk_at "rd"
          exact take (.inr (qn.trans (congrArg some (is_dot hc2))))
        · refine ⟨ms, s4, hD3, hM, hdk ms (fun z h => h) (fun h => ?_), by omega⟩
          have e := no_dot h qn
          rw [e] at hc2
          exact absurd (show decide (V.str (⟨#[46]⟩ : Str) = V.str (Str.ofString ".")) = true by decide +kernel) hc2
      · rintro H3 ⟨ms, s4, hD3, hM, hdm, hml⟩
        rw [List.length_map] at hml hdm
        rw [List.take_length] at hdm
        refine k ms D H3 ⟨List.length_pos_of_mem (hdm hd), fun z hz => (hM z hz).1, fun z hz => (hM z hz).2⟩ (by omega) (s2.trans s4) (s2.free hD) hD3
end
abbrev s__law_texts : Stmt := top 25
abbrev N__law_texts : List Str := ["source", "most", "way", "span", "lines", "texts", "k", "last"]
theorem sc__law_texts : FnScope N__law_texts ["source", "most"] (defScope s__law_texts) := ⟨rfl, rfl, rfl, by decide +kernel, rfl, by decide +kernel, by decide +kernel⟩
section
variable {P : Program} {w : World} {K : PySem.W.Frag} {mg : Str → Option Value} {base : Heap}
theorem sIx_back {n d : Nat} (h : 0 < n) : HT.sIx n d (some (-1)) = n - 1 := by
  show (if (-1 : Int) < 0 then ((-1 : Int) + (n : Int)).toNat else min (-1 : Int).toNat n) = _
  rw [if_pos (by decide)]
  omega
theorem tl_cut (z : Str) (i j : Option Int) : tl (cutS z i j) = ((tl z).drop (HT.sIx z.length 0 i)).take (HT.sIx z.length z.length j - HT.sIx z.length 0 i) := rfl
theorem tl_back {z : Str} (h : 0 < (tl z).length) : tl (cutS z (some (-1)) none) = (tl z).drop ((tl z).length - 1) := by
  rw [tl_cut, sIx_back (by rw [len_tl]; exact h)]
  show ((tl z).drop (z.length - 1)).take (z.length - (z.length - 1)) = _
  rw [len_tl, List.take_of_length_le (by rw [List.length_drop]; omega)]
theorem tl_front {z : Str} (h : 0 < (tl z).length) : tl (cutS z none (some (-1))) = (tl z).take ((tl z).length - 1) := by
  rw [tl_cut, sIx_back (by rw [len_tl]; exact h)]
  show ((tl z).drop 0).take (z.length - 1 - 0) = _
  rw [List.drop_zero, Nat.sub_zero, len_tl]
theorem tl_from {z : Str} (c : Nat) : tl (cutS z (some (c : Int)) none) = (tl z).drop c := by
  rw [tl_cut, sIx_nat]
  show ((tl z).drop (min c z.length)).take (z.length - min c z.length) = _
  rw [len_tl]
  by_cases h : c ≤ (tl z).length
  · rw [Nat.min_eq_left h, List.take_of_length_le (by rw [List.length_drop]; exact Nat.le_refl _)]
  · rw [Nat.min_eq_right (by omega), Nat.sub_self, List.take_zero, List.drop_of_length_le (by omega)]
theorem tl_to {z : Str} (c : Nat) : tl (cutS z none (some (c : Int))) = (tl z).take c := by
  rw [tl_cut, sIx_nat]
  show ((tl z).drop 0).take (min c z.length - 0) = _
  rw [List.drop_zero, Nat.sub_zero, len_tl]
  by_cases h : c ≤ (tl z).length
  · rw [Nat.min_eq_left h]
  · rw [Nat.min_eq_right (by omega), List.take_of_length_le (Nat.le_refl _), List.take_of_length_le (by omega)]
theorem sg_turn {l : List Nat} (h : 0 < l.length) {c : Nat} (hc : c ≤ l.length) : ∀ k : Nat, k < (l.drop c ++ l.take c).length → (l.drop c ++ l.take c)[k]? = some (sg l ((k : Int) + (c : Int))) := fun k hk => by
  have hlen : (l.drop c ++ l.take c).length = l.length := by rw [List.length_append, List.length_drop, List.length_take, Nat.min_eq_left hc]; omega
  rw [hlen] at hk
  by_cases h1 : k < l.length - c
  · rw [List.getElem?_append_left (by rw [List.length_drop]; exact h1), List.getElem?_drop]
    have e : (k : Int) + (c : Int) = ((c + k : Nat) : Int) := by omega
    rw [e]
    exact sg_nat (by omega)
  · rw [List.getElem?_append_right (by rw [List.length_drop]; omega), List.length_drop, List.getElem?_take_of_lt (by omega)]
    have e : (k : Int) + (c : Int) = ((k - (l.length - c) : Nat) : Int) + (l.length : Int) := by omega
    rw [e, sg_add]
    exact sg_nat (by omega)
theorem Row.turn {l : List Nat} (R : Row l) {c : Nat} (hc : c ≤ l.length) : Row (l.drop c ++ l.take c) := by
  have hlen : (l.drop c ++ l.take c).length = l.length := by rw [List.length_append, List.length_drop, List.length_take, Nat.min_eq_left hc]; omega
  refine R.move (f := fun i => i + (c : Int)) (by rw [hlen]; exact R.ne) (sg_turn R.ne hc) (fun i => sg_congr ?_) (fun i => .inl (by show i + 1 + (c : Int) = i + (c : Int) + 1; omega))
  show (i % _ + (c : Int)) % _ = (i + (c : Int)) % _
  rw [hlen, Int.emod_add_emod]
theorem at_lt {ls : List Str} {c : Int} (h0 : 0 ≤ c) (h : c < ((ls.map V.str).length : Nat)) : ∃ z, z ∈ ls ∧ atI (ls.map V.str) c = some (V.str z) := by
  rw [List.length_map] at h
  have hc : c.toNat < ls.length := by omega
  exact ⟨ls[c.toNat], List.getElem_mem hc, atI_k' c.toNat (by omega) (getS hc)⟩
def spTexts : Sp := fun vs H Q _ => ∃ (s g sm : Addr) (m : Nat) (mo : Int), vs = [.ref s, .int mo] ∧ Src H s g sm m ∧ m + 30 ≤ 2 ^ 40 ∧ 6 ≤ mo ∧
  ∀ (n : Nat) (ls : List Str) (q : Addr) (H' : Hp), Rows n ls → n ≤ 6 → ls.length ≤ 9 → Src H' s g sm (m + 30) → Same (out s g H) (out s g H') → H q = none → out s g H' q = some (.lst (ls.map V.str)) → Q (.ref q) H'
theorem or_go {c : Bool} {H' : Hp} {σ : St} {K : Bool → Hp → Prop} {t : TT} (W : Hp → Prop) (hK : ∀ b H2, W H2 → K b H2) (h0 : W H') (ht : (∀ b H2, W H2 → K b H2) → t σ H' K) : if c = true then K true H' else t σ H' K := by
  cases c with
  | true => exact hK true H' h0
  | false => exact ht hK
structure TxAt (H : Hp) (s g sm L D : Addr) (sp m i : Nat) (ls ms : List Str) (H' : Hp) : Prop where
  d : H' D = some (.lst (ms.map V.str))
  w : Rows sp ms
  l : ms.length ≤ 1 + i
  src : Src H' s g sm (m + 4 + 2 * i)
  fr : Same (out s g H) (out s g H')
  o : out s g H' L = some (.lst (ls.map V.str))
theorem TxAt.add {H : Hp} {s g sm L D : Addr} {sp m i j m2 r : Nat} {ls ms : List Str} {H' H2 : Hp} {y : Str} (T : TxAt H s g sm L D sp m i ls ms H') (S0 : Src H s g sm r) (zD : H D = none) (nLD : L ≠ D) (hd : H2 D = some (.lst (ms.map V.str))) (S2 : Src H2 s g sm m2) (hm : m2 ≤ m + 4 + 2 * (i + 1)) (t2 : Same (out s g H) (out s g H2)) (o2 : out s g H2 L = some (.lst (ls.map V.str)))
    (hy : (tl y).length = sp) (ry : Row (tl y)) (hj : j = i + 1) : TxAt H s g sm L D sp m j ls (ms ++ [y]) (upd H2 D (.lst (ms.map V.str ++ [V.str y]))) := by
  subst hj
  refine ⟨by rw [upd_same, List.map_append]; rfl, ⟨by rw [List.length_append]; exact Nat.succ_pos _, fun z hz => ?_, fun z hz => ?_⟩, by rw [List.length_append]; exact Nat.succ_le_succ T.l, (S2.put S0 zD).mono hm, out_set t2 zD, by rw [out_ne nLD]; exact o2⟩
  · rcases List.mem_append.mp hz with h | h
    · exact T.w.len z h
    · rw [List.mem_singleton.mp h]; exact hy
  · rcases List.mem_append.mp hz with h | h
    · exact T.w.row z h
    · rw [List.mem_singleton.mp h]; exact ry
theorem ok__law_texts {f : Addr} {fd : FuncData} (F : Fun K "_law_texts" "_law_texts" s__law_texts f fd) (B : Bi mg) (D_law_draw : Df P w K mg base "_law_draw" 2 ["source", "limit"] spDraw) (D_law_lines : Df P w K mg base "_law_lines" 2 ["span"] spLinesSpan) : FnOk P w K mg base CX0 3 f fd ["source", "most"] spTexts := by
  refine F.ok sc__law_texts (fun vs H Q E h => ?_) (fun cdv A outer s0 H vs Q E hr h => ?_)
  · obtain ⟨s, g, sm, m, mo, rfl, _⟩ := h
    rfl
  · obtain ⟨s, g, sm, m, mo, rfl, S, hm, hmo, k⟩ := h
    refine ⟨_, (pss_cons (ps_set (i := 2) sc__law_texts.nd rfl (Or.inl rfl) (pe_df D_law_draw (hr.mono (by first | decide | omega)) (by rfl) (pa_cons (pv 0) (pa_cons pe_int pa_nil))))
    (pss_cons (ps_set (i := 3) sc__law_texts.nd rfl (Or.inl rfl) (pe_ix ix_list (pe_lst (pa_cons pe_int (pa_cons pe_int (pa_cons pe_int (pa_cons pe_int (pa_cons pe_int (pa_cons pe_int (pa_cons pe_int (pa_cons pe_int (pa_cons pe_int pa_nil)))))))))) (pe_df D_law_draw (hr.mono (by first | decide | omega)) (by rfl) (pa_cons (pv 0) (pa_cons pe_int pa_nil))) (fun _ _ => rfl)))
    (pss_cons (ps_set (i := 4) sc__law_texts.nd rfl (Or.inl rfl) (pe_df D_law_lines (hr.mono (by first | decide | omega)) (by rfl) (pa_cons (pv 3) pa_nil)))
    (pss_cons (ps_set (i := 5) sc__law_texts.nd rfl (Or.inl rfl) (pe_lst (pa_cons (pe_ix ix_list (pv 4) (pe_df D_law_draw (hr.mono (by first | decide | omega)) (by rfl) (pa_cons (pv 0) (pa_cons (pe_callB call_len_seq (by rfl) B.len_ PySem.boot_len (pa_cons (pv 4) pa_nil)) pa_nil))) (fun _ _ => rfl)) pa_nil)))
    (pss_cons (ps_for PassesOwn.never rfl (pi_range1 (by rfl) B.range_ (pa_cons (pe_df D_law_draw (hr.mono (by first | decide | omega)) (by rfl) (pa_cons (pv 0) (pa_cons (pe_callB (call_min2 rfl) (by rfl) B.min_ (by decide +kernel) (pa_cons pe_int (pa_cons (pe_op op_fdiv (pv 1) (pv 3)) pa_nil))) pa_nil))) pa_nil)) (pg_name (i := 6) sc__law_texts.nd rfl (Or.inl rfl))
    (pss_cons (ps_set (i := 7) sc__law_texts.nd rfl (Or.inl rfl) (pe_ix ix_list (pv 5) (pe_un un_neg pe_int) (fun _ _ => rfl)))
    (pss_one (ps_if (PW.pt (pw_or (pt_cmpR op_eq (pv 2) pe_int (nomark _)) (pw_or1 (PW.pt (pw_and (pt_cmpR op_eq (pv 2) pe_int (nomark _)) (pw_and1 (pt_cmpR op_eq (pe_df D_law_draw (hr.mono (by first | decide | omega)) (by rfl) (pa_cons (pv 0) (pa_cons pe_int pa_nil))) pe_int (nomark _))))))))
    (pss_one (ps_expr (pe_bm PySem.F.plainAttrs_list PySem.F.slot_list_append PySem.F.type_list_append mt_append (pv 5) (pa_cons (pe_op op_add_str (pe_slice sl_str (pv 7) (po_some (pe_un un_neg pe_int)) po_none) (pe_slice sl_str (pv 7) po_none (po_some (pe_un un_neg pe_int)))) pa_nil))))
    (pss_one (ps_if (pt_cmpR op_eq (pv 2) pe_int (nomark _))
    (pss_one (ps_expr (pe_bm PySem.F.plainAttrs_list PySem.F.slot_list_append PySem.F.type_list_append mt_append (pv 5) (pa_cons (pe_op op_add_str (pe_slice sl_str (pv 7) (po_some pe_int) po_none) (pe_slice sl_str (pv 7) po_none (po_some pe_int))) pa_nil))))
    (pss_one (ps_expr (pe_bm PySem.F.plainAttrs_list PySem.F.slot_list_append PySem.F.type_list_append mt_append (pv 5) (pa_cons (pe_ix ix_list (pv 4) (pe_df D_law_draw (hr.mono (by first | decide | omega)) (by rfl) (pa_cons (pv 0) (pa_cons (pe_callB call_len_seq (by rfl) B.len_ PySem.boot_len (pa_cons (pv 4) pa_nil)) pa_nil))) (fun _ _ => rfl)) pa_nil))))))))))
    (pss_one (ps_ret (pv 5)))))))), ?_⟩
    walk_at "rd"
    refine ⟨s, g, sm, m, _, rfl, S, by omega, by decide, by decide, fun way H1 w0 w1 S1 t1 => ?_⟩
    walk_at "rd"
    intro p1 zp1
    generalize ep1 : upd _ p1 _ = H2
    obtain ⟨s2, hp1⟩ := nw ep1 zp1
    have S2 := S1.same s2
    walk_at "rd"
    refine ⟨s, g, sm, m + 1, _, rfl, S2, by omega, by decide, by decide, fun c H3 c0 c1 S3 t3 => ?_⟩
    have hp13 : H3 p1 = some _ := out_same _ _ (t3 _ _ (S1.keep zp1 hp1))
    obtain ⟨sp, ic, sp0, sp6⟩ : ∃ sp : Nat, atI [V.int 1, V.int 2, V.int 2, V.int 3, V.int 3, V.int 4, V.int 4, V.int 5, V.int 6] c = some (V.int sp) ∧ 0 < sp ∧ sp ≤ 6 := by
      have hc : c = 0 ∨ c = 1 ∨ c = 2 ∨ c = 3 ∨ c = 4 ∨ c = 5 ∨ c = 6 ∨ c = 7 ∨ c = 8 := by omega
      rcases hc with rfl | rfl | rfl | rfl | rfl | rfl | rfl | rfl | rfl
      · exact ⟨1, rfl, by decide, by decide⟩
      · exact ⟨2, rfl, by decide, by decide⟩
      · exact ⟨2, rfl, by decide, by decide⟩
      · exact ⟨3, rfl, by decide, by decide⟩
      · exact ⟨3, rfl, by decide, by decide⟩
      · exact ⟨4, rfl, by decide, by decide⟩
      · exact ⟨4, rfl, by decide, by decide⟩
      · exact ⟨5, rfl, by decide, by decide⟩
      · exact ⟨6, rfl, by decide, by decide⟩
    walk_at "rd"
    intro ls L H4 W hl64 s4 zL hL
    have S4 := S3.same s4
    have hl0 := W.ne
    walk_at "rd"
    have pL : (0 : Int) < ((ls.map V.str).length : Nat) := by rw [List.length_map]; omega
    have pL2 : ((ls.map V.str).length : Int) < 1073741824 := by rw [List.length_map]; omega
    refine ⟨s, g, sm, m + 2, _, rfl, S4, by omega, pL, pL2, fun c2 H5 c20 c21 S5 t5 => ?_⟩
    have tt : Same (out s g H) (out s g H5) := t1.trans (s2.out.trans (t3.trans (s4.out.trans t5)))
    have oL : out s g H5 L = some (.lst (ls.map V.str)) := t5 _ _ (S3.keep zL hL)
    have hL5 := out_same _ _ oL
    obtain ⟨z0, hz0, iz0⟩ := at_lt c20 c21
    walk_at "rd"
    intro D zD
    generalize eD : upd _ D _ = H6
    obtain ⟨s6, hD⟩ := nw eD zD
    have S6 := S5.same s6
    have oL6 := s6.out _ _ oL
    have zDH : H D = none := S5.free tt zD
    have hsp : (0 : Int) < (sp : Int) := by omega
    have hdv : 1 ≤ mo / (sp : Int) := by
      rw [Int.le_ediv_iff_mul_le hsp]
      omega
    walk_at "rd"
    refine ⟨_, _, rfl, ?_⟩
    generalize elim : (if mo / (sp : Int) < 9 then mo / (sp : Int) else 9) = lim
    have hlim : 1 ≤ lim ∧ lim ≤ 9 := by
      rw [← elim]
      split <;> omega
    walk_at "rd"
    refine ⟨s, g, sm, m + 3, _, rfl, S6, by omega, by omega, by omega, fun c3 H7 c30 c31 S7 t7 => ?_⟩
    have nLD : L ≠ D := fun e => by rw [e] at hL5; rw [hL5] at zD; cases zD
    have oD7 : H7 D = some (.lst [V.str z0]) := out_same _ _ (t7 _ _ (S5.keep zD hD))
    walk_at "rd"
    refine for_range (lo := 0) (n := c3.toNat) (fun i σ H' => ∃ (ms : List Str) (o6 o7 : Option V), σ = [some (.ref s), some (.int mo), some (.int way), some (.int sp), some (.ref L), some (.ref D), o6, o7] ∧ TxAt H s g sm L D sp m i ls ms H')
      ⟨[z0], none, none, rfl, oD7, ⟨Nat.succ_pos 0, fun z hz => by rw [List.mem_singleton.mp hz]; exact W.len _ hz0, fun z hz => by rw [List.mem_singleton.mp hz]; exact W.row _ hz0⟩, Nat.le_refl _, S7, (tt.trans s6.out).trans t7, t7 _ _ oL6⟩ ?_ ?_
    · rintro i σ H' hi ⟨ms, o6, o7, rfl, TX⟩
      have hi8 : i < 9 := by omega
      have hm0 := TX.w.ne
      have hml := TX.l
      have hlast : ms[ms.length - 1]'(by omega) ∈ ms := List.getElem_mem (by omega)
      generalize ez : ms[ms.length - 1]'(by omega) = z at hlast
      have iz : atI (ms.map V.str) (-1) = some (V.str z) := atI_back (by rw [List.length_map, List.getElem?_map, List.getElem?_eq_getElem (by omega), ez]; rfl)
      have hzn : (tl z).length = sp := TX.w.len _ hlast
      have hzr := TX.w.row _ hlast
      have hz0' : 0 < (tl z).length := by omega
      have big : ∀ x : Nat, x ≤ 100 → x < sizeLine := fun x hx => Nat.lt_of_le_of_lt hx (by decide)
      have hzl : z.length ≤ sizeLine := Nat.le_of_lt (big _ (by rw [len_tl]; omega))
      have hdl : (ms.map V.str).length < sizeLine := big _ (by rw [List.length_map]; omega)
      have hD' := TX.d
      have hL' := out_same _ _ TX.o
      have hyl1 : (cutS z (some (-1)) none).length + (cutS z none (some (-1))).length ≤ sizeLine := Nat.le_of_lt (big _ (by rw [len_tl, len_tl, tl_back hz0', tl_front hz0', List.length_drop, List.length_take]; omega))
      have e1 : tl (cutS z (some (-1)) none ++ cutS z none (some (-1))) = (tl z).drop ((tl z).length - 1) ++ (tl z).take ((tl z).length - 1) := by rw [tl_append, tl_back hz0', tl_front hz0']
      have r1 := hzr.turn (c := (tl z).length - 1) (by omega)
      have n1 : ((tl z).drop ((tl z).length - 1) ++ (tl z).take ((tl z).length - 1)).length = sp := by rw [List.length_append, List.length_drop, List.length_take]; omega
      rw [← e1] at r1 n1
      have hyl2 : (cutS z (some 1) none).length + (cutS z none (some 1)).length ≤ sizeLine := Nat.le_of_lt (big _ (by
        have a1 := tl_from (z := z) 1
        have a2 := tl_to (z := z) 1
        rw [len_tl, len_tl]
        rw [show ((1 : Nat) : Int) = 1 from rfl] at a1 a2
        rw [a1, a2, List.length_drop, List.length_take]; omega))
      have e2 : tl (cutS z (some 1) none ++ cutS z none (some 1)) = (tl z).drop 1 ++ (tl z).take 1 := by
        have a1 := tl_from (z := z) 1
        have a2 := tl_to (z := z) 1
        rw [show ((1 : Nat) : Int) = 1 from rfl] at a1 a2
        rw [tl_append, a1, a2]
      have r2 := hzr.turn (c := 1) (by omega)
      have n2 : ((tl z).drop 1 ++ (tl z).take 1).length = sp := by rw [List.length_append, List.length_drop, List.length_take]; omega
      rw [← e2] at r2 n2
      walk_at "rd"
      refine or_go (fun H2 => ∃ m2, m2 ≤ m + 4 + 2 * i + 1 ∧ Src H2 s g sm m2 ∧ Same (out s g H) (out s g H2) ∧ H2 D = some (.lst (ms.map V.str)) ∧ out s g H2 L = some (.lst (ls.map V.str))) ?_ ⟨_, by omega, TX.src, TX.fr, TX.d, TX.o⟩ ?_
      · rintro b H2 ⟨m2, hm2, S2', f2, hd2, ho2⟩
        have hL2 := out_same _ _ ho2
        refine ite2 (fun hb => ?_) (fun hb => ?_)
        · walk_at "rd"
          refine ⟨D, _, _, rfl, rfl, hd2, hdl, ?_⟩
          exact ⟨_, _, _, rfl, TX.add S zDH nLD hd2 S2' (by omega) f2 ho2 n1 r1 rfl⟩
        · walk_at "rd"
          refine ite2 (fun hw => ?_) (fun hw => ?_)
          · walk_at "rd"
            refine ⟨D, _, _, rfl, rfl, hd2, hdl, ?_⟩
            exact ⟨_, _, _, rfl, TX.add S zDH nLD hd2 S2' (by omega) f2 ho2 n2 r2 rfl⟩
          · walk_at "rd"
            refine ⟨s, g, sm, m2, _, rfl, S2', by omega, pL, pL2, fun c4 H8 c40 c41 S8 t8 => ?_⟩
            obtain ⟨z4, hz4, iz4⟩ := at_lt c40 c41
            have oD8 : H8 D = some (.lst (ms.map V.str)) := by
              obtain ⟨q1, q2, _⟩ := S.new zDH
              have : out s g H2 D = some (.lst (ms.map V.str)) := by rw [out_at q1 q2]; exact hd2
              exact out_same _ _ (t8 _ _ this)
            have hL8 := out_same _ _ (t8 _ _ ho2)
            walk_at "rd"
            refine ⟨D, _, _, rfl, rfl, oD8, hdl, ?_⟩
            exact ⟨_, _, _, rfl, TX.add S zDH nLD oD8 S8 (by omega) (f2.trans t8) (t8 _ _ ho2) (W.len _ hz4) (W.row _ hz4) rfl⟩
      · intro hK
        walk_at "rd"
        refine ite2 (fun _ => ?_) (fun _ => ?_)
        · walk_at "rd"
          refine ⟨s, g, sm, m + 4 + 2 * i, _, rfl, TX.src, by omega, by decide, by decide, fun c5 H9 _ _ S9 t9 => ?_⟩
          walk_at "rd"
          have oD9 : H9 D = some (.lst (ms.map V.str)) := by
            obtain ⟨q1, q2, _⟩ := S.new zDH
            have : out s g H' D = some (.lst (ms.map V.str)) := by rw [out_at q1 q2]; exact TX.d
            exact out_same _ _ (t9 _ _ this)
          exact hK _ _ ⟨_, Nat.le_refl _, S9, TX.fr.trans t9, oD9, t9 _ _ TX.o⟩
        · exact hK _ _ ⟨_, by omega, TX.src, TX.fr, TX.d, TX.o⟩
    · rintro σ H' ⟨ms, o6, o7, rfl, TX⟩
      walk_at "rd"
      have hD2 : out s g H' D = some (.lst (ms.map V.str)) := by
        obtain ⟨n1, n2, _⟩ := S.new zDH
        rw [out_at n1 n2]
        exact TX.d
      have hml := TX.l
      exact k sp ms D H' TX.w sp6 (by omega) (TX.src.mono (by omega)) TX.fr zDH hD2
end
abbrev s__law_integer : Stmt := top 27
abbrev N__law_integer : List Str := ["actual", "expected"]
theorem sc__law_integer : FnScope N__law_integer ["actual", "expected"] (defScope s__law_integer) := ⟨rfl, rfl, rfl, by decide +kernel, rfl, by decide +kernel, by decide +kernel⟩
section
variable {P : Program} {w : World} {K : PySem.W.Frag} {mg : Str → Option Value} {base : Heap}
def spInteger : Sp := fun vs H Q _ => ∃ i : Int, vs = [.int i, .int i] ∧ Q (.bl true) H
theorem ok__law_integer {f : Addr} {fd : FuncData} (F : Fun K "_law_integer" "_law_integer" s__law_integer f fd) (B : Bi mg) : FnOk P w K mg base CX0 2 f fd ["actual", "expected"] spInteger := by
  refine F.ok sc__law_integer (fun vs H Q E h => ?_) (fun cdv A outer s0 H vs Q E hr h => ?_)
  · obtain ⟨i, rfl, _⟩ := h
    rfl
  · obtain ⟨i, rfl, k⟩ := h
    refine ⟨_, (pss_one (ps_ret (pe_and (pe_callB call_isi (by rfl) B.isinstance_ (by decide +kernel) (pa_cons (pv 0) (pa_cons (pe_bltn (v := .ty "int") (u := .type "int") (by rfl) B.int_ (by decide +kernel) rfl) pa_nil))) (pe_and (pe_not (pe_callB call_isi (by rfl) B.isinstance_ (by decide +kernel) (pa_cons (pv 0) (pa_cons (pe_bltn (v := .ty "bool") (u := .type "bool") (by rfl) B.bool_ (by decide +kernel) rfl) pa_nil)))) (pe_one (pe_cmpR op_eq (pv 0) (pv 1) (nomark _))))))), ?_⟩
    walk_at "rd"
    refine ⟨_, _, _, _, true, rfl, .ty _, .base (.int _), kit_ty (by decide +kernel), ?_⟩
    walk_at "rd"
    refine ⟨_, _, _, _, false, rfl, .ty _, .base (.int _), kit_ty (by decide +kernel), ?_⟩
    walk_at "rd"
    rw [decide_eq_true rfl]
    exact k
end
abbrev s__law_step : Stmt := top 26
abbrev N__law_step : List Str := ["texts", "start", "at", "line"]
theorem sc__law_step : FnScope N__law_step ["texts", "start"] (defScope s__law_step) := ⟨rfl, rfl, rfl, by decide +kernel, rfl, by decide +kernel, by decide +kernel⟩
section
variable {P : Program} {w : World} {K : PySem.W.Frag} {mg : Str → Option Value} {base : Heap}
def spLawStepZ : Sp := fun vs H Q _ => ∃ (t : Addr) (q : Int) (n : Nat) (ls : List Str), vs = [.ref t, .int q] ∧ H t = some (.lst (ls.map V.str)) ∧ Rows n ls ∧ n ≤ 5000 ∧ Q (.int (goZ ls q - q)) H
theorem ok__law_step {f : Addr} {fd : FuncData} (F : Fun K "_law_step" "_law_step" s__law_step f fd) (B : Bi mg) : FnOk P w K mg base CX0 2 f fd ["texts", "start"] spLawStepZ := by
  refine F.ok sc__law_step (fun vs H Q E h => ?_) (fun cdv A outer s0 H vs Q E hr h => ?_)
  · obtain ⟨t, q, n, ls, rfl, _⟩ := h
    rfl
  · obtain ⟨t, q, n, ls, rfl, ht, W, hn, k⟩ := h
    refine ⟨_, (pss_cons (ps_set (i := 2) sc__law_step.nd rfl (Or.inl rfl) (pv 1))
    (pss_cons (ps_for PassesOwn.never rfl (pi_list (pv 0)) (pg_name (i := 3) sc__law_step.nd rfl (Or.inl rfl))
    (pss_one (ps_if (pt_cmpR op_eq (pe_ix ix_str (pv 3) (pe_op op_mod (pe_callTy call_int1 (by rfl) B.int_ (by decide +kernel) (pa_cons (pv 2) pa_nil)) (pe_callB call_len_str (by rfl) B.len_ PySem.boot_len (pa_cons (pv 3) pa_nil))) (fun _ _ => rfl)) pe_str (nomark _))
    (pss_one (ps_set (i := 2) sc__law_step.nd rfl (Or.inl rfl) (pe_op op_add (pv 2) pe_int)))
    (pss_one (ps_if (pt_cmpR op_eq (pe_ix ix_str (pv 3) (pe_op op_mod (pe_callTy call_int1 (by rfl) B.int_ (by decide +kernel) (pa_cons (pe_op op_sub (pv 2) pe_int) pa_nil)) (pe_callB call_len_str (by rfl) B.len_ PySem.boot_len (pa_cons (pv 3) pa_nil))) (fun _ _ => rfl)) pe_str (nomark _))
    (pss_one (ps_set (i := 2) sc__law_step.nd rfl (Or.inl rfl) (pe_op op_sub (pv 2) pe_int)))
    pss_nil)))))
    (pss_one (ps_ret (pe_op op_sub (pv 2) (pv 1)))))), ?_⟩
    walk_at "rd"
    refine ⟨⟨_, SqL.of ht⟩, ?_⟩
    refine for_list (K := K) (a := t) (xs := ls.map V.str) (fun i σ H' => H = H' ∧ ∃ o, σ = [some (.ref t), some (.int q), some (.int (wkZ ls q i)), o]) ⟨rfl, none, rfl⟩ (fun i σ H' _ h => by rw [← h.1]; exact SqL.of ht) ?_ ?_
    · rintro i x σ _ hi ⟨rfl, o, rfl⟩
      have hil : i < ls.length := by
        have := (List.getElem?_eq_some_iff.mp hi).1
        rw [List.length_map] at this
        exact this
      rw [getS hil] at hi
      obtain rfl := Option.some.inj hi
      have e : rowAt ls i = ls[i] := by
        unfold rowAt
        rw [Nat.mod_eq_of_lt hil, List.getD_eq_getElem?_getD, List.getElem?_eq_getElem hil]
        rfl
      have hz0 := (W.row _ (List.getElem_mem hil)).ne
      have hz1 : (tl ls[i]).length ≤ 5000 := by rw [W.len _ (List.getElem_mem hil)]; exact hn
      have kk : ∀ y, y = cross1 (rungB ls[i]) (wkZ ls q i) → H = H ∧ ∃ o, [some (.ref t), some (.int q), some (.int y), some (.str ls[i])] = [some (V.ref t), some (V.int q), some (V.int (wkZ ls q (i + 1))), o] := fun y hy => by
        have e2 : wkZ ls q (i + 1) = y := by
          rw [hy, ← e]
          rfl
        rw [e2]
        exact ⟨rfl, _, rfl⟩
      generalize ls[i] = z at hz0 hz1 kk
      generalize wkZ ls q i = y at kk
      have hzl : z.length ≤ sizeLine := by rw [len_tl]; exact Nat.le_trans hz1 (by decide)
      have ic : ∀ q : Int, atI z.cps.toList (q % (z.length : Int)) = some (sg (tl z) q) := fun q => by
        rw [len_tl]
        exact atI_sg hz0 q
      have pn : (0 : Int) < (z.length : Int) := by rw [len_tl]; omega
      unfold cross1 at kk
      walk_at "rd"
      refine ⟨_, _, _, rfl, rfl, hzl, ic _, ?_⟩
      walk_at "rd"
      refine ite2 (fun hb => ?_) (fun hb => ?_)
      · walk_at "rd"
        exact (kk _ (by rw [if_pos (show rungB z y = true from hb)])).2
      walk_at "rd"
      refine ⟨_, _, _, rfl, rfl, hzl, ic _, ?_⟩
      walk_at "rd"
      refine ite2 (fun hc => ?_) (fun hc => ?_)
      · walk_at "rd"
        exact (kk _ (by rw [if_neg (show ¬ rungB z y = true from hb), if_pos (show rungB z (y - 1) = true from hc)])).2
      · exact kk _ (by rw [if_neg (show ¬ rungB z y = true from hb), if_neg (show ¬ rungB z (y - 1) = true from hc)])
    · rintro σ _ ⟨rfl, o, rfl⟩
      rw [List.length_map, wkZ_round]
      walk_at "rd"
      exact k
end
abbrev s_check_number : Stmt := top 10
abbrev N_check_number : List Str := ["number"]
theorem sc_check_number : FnScope N_check_number ["number"] (defScope s_check_number) := ⟨rfl, rfl, rfl, by decide +kernel, rfl, by decide +kernel, by decide +kernel⟩
section
variable {P : Program} {w : World} {K : PySem.W.Frag} {mg : Str → Option Value} {base : Heap}
def spCheckNumber : Sp := fun vs H Q _ => ∃ n : Int, vs = [.int n] ∧ 0 ≤ n ∧ Q .non H
theorem ok_check_number {f : Addr} {fd : FuncData} (F : Fun K "check_number" "check_number" s_check_number f fd) (B : Bi mg) : FnOk P w K mg base CX0 2 f fd ["number"] spCheckNumber := by
  refine F.ok sc_check_number (fun vs H Q E h => ?_) (fun cdv A outer s H vs Q E hr h => ?_)
  · obtain ⟨n, rfl, _⟩ := h
    rfl
  · obtain ⟨n, rfl, hn, k⟩ := h
    refine ⟨_, (pss_one (ps_if (pt_cmpR op_lt (pv 0) pe_int (nomark _))
    (pss_one ps_never)
    pss_nil)), ?_⟩
    walk_at "rd"
    refine ite2 (fun hc => ?_) (fun hc => ?_)
    · exact absurd (of_decide_eq_true hc) (by omega)
    · exact k
end
abbrev s_check_half_post : Stmt := top 9
abbrev N_check_half_post : List Str := ["post"]
theorem sc_check_half_post : FnScope N_check_half_post ["post"] (defScope s_check_half_post) := ⟨rfl, rfl, rfl, by decide +kernel, rfl, by decide +kernel, by decide +kernel⟩
section
variable {P : Program} {w : World} {K : PySem.W.Frag} {mg : Str → Option Value} {base : Heap}
def spCheckHalf : Sp := fun vs H Q _ => ∃ n : Int, vs = [.int n] ∧ 0 ≤ n ∧ Q .non H
theorem ok_check_half_post {f : Addr} {fd : FuncData} (F : Fun K "check_half_post" "check_half_post" s_check_half_post f fd) (B : Bi mg) : FnOk P w K mg base CX0 2 f fd ["post"] spCheckHalf := by
  refine F.ok sc_check_half_post (fun vs H Q E h => ?_) (fun cdv A outer s H vs Q E hr h => ?_)
  · obtain ⟨n, rfl, _⟩ := h
    rfl
  · obtain ⟨n, rfl, hn, k⟩ := h
    refine ⟨_, (pss_one (ps_if (pt_cmpR op_lt (pv 0) pe_int (nomark _))
    (pss_one ps_never)
    pss_nil)), ?_⟩
    walk_at "rd"
    refine ite2 (fun hc => ?_) (fun hc => ?_)
    · exact absurd (of_decide_eq_true hc) (by omega)
    · exact k
end
abbrev s_Rule_width : Stmt := inClass (top 18) 2
abbrev N_Rule_width : List Str := ["self"]
theorem sc_Rule_width : FnScope N_Rule_width ["self"] (defScope s_Rule_width) := ⟨rfl, rfl, rfl, by decide +kernel, rfl, by decide +kernel, by decide +kernel⟩
section
variable {P : Program} {w : World} {K : PySem.W.Frag} {mg : Str → Option Value} {base : Heap}
def spWidth (C : Addr) : Sp := fun vs H Q _ => ∃ (p : Addr) (ls : List Str) (n : Nat), vs = [.ref p] ∧ RuleAt C H p ls ∧ Rows n ls ∧ n ≤ 5000 ∧ Q (.int n) H
theorem ok_Rule_width {f C : Addr} {fd : FuncData} (F : Fun K "width" "Rule.width" s_Rule_width f fd) (B : Bi mg) (T : Rl K C) : FnOk P w K mg base CX0 2 f fd ["self"] (spWidth C) := by
  refine F.ok sc_Rule_width (fun vs H Q E h => ?_) (fun cdv A outer s H vs Q E hr h => ?_)
  · obtain ⟨p, ls, n, rfl, _⟩ := h
    rfl
  · obtain ⟨p, ls, n, rfl, ⟨dx, u, hp, hu⟩, R, hn, k⟩ := h
    refine ⟨_, (pss_one (ps_ret (pe_callB call_len_str (by rfl) B.len_ PySem.boot_len (pa_cons (pe_ix ix_tup (pe_fld (pv 0) rfl) pe_int (fun _ _ => rfl)) pa_nil)))), ?_⟩
    walk_at "rd"
    refine ⟨p, C, dx, _, _, rfl, hp, T.cl, T.nR, rfl, ?_⟩
    have hz := R.lenS (List.getElem_mem R.ne)
    refine ⟨u, _, _, _, rfl, rfl, SqT.of hu, atI_k' 0 rfl (getS R.ne), ?_⟩
    refine ⟨_, rfl, Nat.le_trans (Nat.le_of_eq hz) (Nat.le_trans hn (by decide)), ?_⟩
    rw [hz]
    exact k
end
abbrev s_Rule_height : Stmt := inClass (top 18) 3
abbrev N_Rule_height : List Str := ["self"]
theorem sc_Rule_height : FnScope N_Rule_height ["self"] (defScope s_Rule_height) := ⟨rfl, rfl, rfl, by decide +kernel, rfl, by decide +kernel, by decide +kernel⟩
section
variable {P : Program} {w : World} {K : PySem.W.Frag} {mg : Str → Option Value} {base : Heap}
def spHeight (C : Addr) : Sp := fun vs H Q _ => ∃ (p : Addr) (ls : List Str), vs = [.ref p] ∧ RuleAt C H p ls ∧ Q (.int ls.length) H
theorem ok_Rule_height {f C : Addr} {fd : FuncData} (F : Fun K "height" "Rule.height" s_Rule_height f fd) (B : Bi mg) (T : Rl K C) : FnOk P w K mg base CX0 2 f fd ["self"] (spHeight C) := by
  refine F.ok sc_Rule_height (fun vs H Q E h => ?_) (fun cdv A outer s H vs Q E hr h => ?_)
  · obtain ⟨p, ls, rfl, _⟩ := h
    rfl
  · obtain ⟨p, ls, rfl, ⟨dx, u, hp, hu⟩, k⟩ := h
    refine ⟨_, (pss_one (ps_ret (pe_callB call_len_seq (by rfl) B.len_ PySem.boot_len (pa_cons (pe_fld (pv 0) rfl) pa_nil)))), ?_⟩
    walk_at "rd"
    refine ⟨p, C, dx, _, _, rfl, hp, T.cl, T.nR, rfl, ?_⟩
    refine ⟨u, _, rfl, .inr (SqT.of hu), ?_⟩
    rw [List.length_map]
    exact k
end
abbrev s_Rule_has_rung : Stmt := inClass (top 18) 7
abbrev N_Rule_has_rung : List Str := ["self", "row", "post"]
theorem sc_Rule_has_rung : FnScope N_Rule_has_rung ["self", "row", "post"] (defScope s_Rule_has_rung) := ⟨rfl, rfl, rfl, by decide +kernel, rfl, by decide +kernel, by decide +kernel⟩
section
variable {P : Program} {w : World} {K : PySem.W.Frag} {mg : Str → Option Value} {base : Heap}
def spHasRung (C : Addr) : Sp := fun vs H Q _ => ∃ (p : Addr) (r q : Int) (n : Nat) (ls : List Str) (z : Str), vs = [.ref p, .int r, .int q] ∧ RuleAt C H p ls ∧ Rows n ls ∧ n ≤ 5000 ∧ 0 ≤ r ∧ 0 ≤ q ∧ ls[(r % (ls.length : Int)).toNat]? = some z ∧ Q (.bl (rungB z q)) H
theorem ok_Rule_has_rung {f C : Addr} {fd : FuncData} (F : Fun K "has_rung" "Rule.has_rung" s_Rule_has_rung f fd) (B : Bi mg) (T : Rl K C) (D_check_number : Df P w K mg base "check_number" 2 ["number"] spCheckNumber) (D_check_half_post : Df P w K mg base "check_half_post" 2 ["post"] spCheckHalf) (P_width : Pr P w K mg base C "width" 2 (spWidth C)) (P_height : Pr P w K mg base C "height" 2 (spHeight C)) : FnOk P w K mg base CX0 4 f fd ["self", "row", "post"] (spHasRung C) := by
  refine F.ok sc_Rule_has_rung (fun vs H Q E h => ?_) (fun cdv A outer s H vs Q E hr h => ?_)
  · obtain ⟨p, r, q, n, ls, z, rfl, _⟩ := h
    rfl
  · obtain ⟨p, r, q, n, ls, z, rfl, R, W, hn, hr0, hq0, hz, k⟩ := h
    refine ⟨_, (pss_cons (ps_expr (pe_df D_check_number (hr.mono (by first | decide | omega)) (by rfl) (pa_cons (pv 1) pa_nil)))
    (pss_cons (ps_expr (pe_df D_check_half_post (hr.mono (by first | decide | omega)) (by rfl) (pa_cons (pv 2) pa_nil)))
    (pss_one (ps_ret (pe_cmpR op_eq (pe_ix ix_str (pe_ix ix_tup (pe_fld (pv 0) rfl) (pe_op op_mod (pv 1) (pe_pr (pv 0) P_height (hr.mono (by first | decide | omega)) rfl)) (fun _ _ => rfl)) (pe_op op_mod (pv 2) (pe_pr (pv 0) P_width (hr.mono (by first | decide | omega)) rfl)) (fun _ _ => rfl)) pe_str (nomark _)))))), ?_⟩
    obtain ⟨dx, u, hp, hu⟩ := id R
    have hzm : z ∈ ls := List.mem_of_getElem? hz
    have hzn : (tl z).length = n := W.len z hzm
    have h0 := W.pos
    have hl0 := W.ne
    have hzl : z.length ≤ sizeLine := by rw [len_tl, hzn]; exact Nat.le_trans hn (by decide)
    have e : (((r % (ls.length : Int)).toNat : Nat) : Int) = r % (ls.length : Int) := Int.toNat_of_nonneg (Int.emod_nonneg r (by omega))
    have iz : atI (ls.map V.str) (r % (ls.length : Int)) = some (V.str z) := by
      rw [← e]
      exact atI_nat (by rw [List.getElem?_map, hz]; rfl)
    have ic : atI z.cps.toList (q % (n : Int)) = some (sg (tl z) q) := by
      have x := atI_sg (l := tl z) (by omega) q
      rw [hzn] at x
      exact x
    have pl : (0 : Int) < (ls.length : Int) := by omega
    have pn : (0 : Int) < (n : Int) := by omega
    walk_at "rd"
    try (refine ⟨r, rfl, hr0, ?_⟩; walk_at "rd")
    try (refine ⟨q, rfl, hq0, ?_⟩; walk_at "rd")
    refine ⟨p, C, dx, _, _, rfl, hp, T.cl, T.nR, rfl, ?_⟩
    walk_at "rd"
    refine ⟨p, dx, _, rfl, hp, p, ls, rfl, R, ?_⟩
    walk_at "rd"
    refine ⟨u, _, _, _, rfl, rfl, SqT.of hu, iz, ?_⟩
    walk_at "rd"
    refine ⟨p, dx, _, rfl, hp, p, ls, n, rfl, R, W, hn, ?_⟩
    walk_at "rd"
    refine ⟨_, _, _, rfl, rfl, hzl, ic, ?_⟩
    walk_at "rd"
    exact k
end
abbrev s__past_row : Stmt := top 12
abbrev N__past_row : List Str := ["rule", "row", "post"]
theorem sc__past_row : FnScope N__past_row ["rule", "row", "post"] (defScope s__past_row) := ⟨rfl, rfl, rfl, by decide +kernel, rfl, by decide +kernel, by decide +kernel⟩
section
variable {P : Program} {w : World} {K : PySem.W.Frag} {mg : Str → Option Value} {base : Heap}
/-- where a walker on the endless row goes on one row -/
def spPastZ (C : Addr) : Sp := fun vs H Q _ => ∃ (p : Addr) (q : Int) (r n : Nat) (ls : List Str), vs = [.ref p, .int r, .int q] ∧ RuleAt C H p ls ∧ Rows n ls ∧ n ≤ 5000 ∧ Q (.int (cross1 (rungB (rowAt ls r)) q)) H
theorem ok__past_row {f C : Addr} {fd : FuncData} (F : Fun K "_past_row" "_past_row" s__past_row f fd) (B : Bi mg) (E_has_rung : Me P w K mg base C "has_rung" 4 ["self", "row", "post"] (spHasRung C)) (P_width : Pr P w K mg base C "width" 2 (spWidth C)) : FnOk P w K mg base CX0 5 f fd ["rule", "row", "post"] (spPastZ C) := by
  refine F.ok sc__past_row (fun vs H Q E h => ?_) (fun cdv A outer s0 H vs Q E hr h => ?_)
  · obtain ⟨p, q, r, n, ls, rfl, _⟩ := h
    rfl
  · obtain ⟨p, q, r, n, ls, rfl, R, W, hn, k⟩ := h
    refine ⟨_, (pss_cons (ps_if (pt_val (pe_me (pv 0) E_has_rung (hr.mono (by first | decide | omega)) (pa_cons (pv 1) (pa_cons (pe_op op_mod (pv 2) (pe_pr (pv 0) P_width (hr.mono (by first | decide | omega)) rfl)) pa_nil))))
    (pss_one (ps_ret (pe_op op_add (pv 2) pe_int)))
    pss_nil)
    (pss_cons (ps_if (pt_val (pe_me (pv 0) E_has_rung (hr.mono (by first | decide | omega)) (pa_cons (pv 1) (pa_cons (pe_op op_mod (pe_op op_sub (pv 2) pe_int) (pe_pr (pv 0) P_width (hr.mono (by first | decide | omega)) rfl)) pa_nil))))
    (pss_one (ps_ret (pe_op op_sub (pv 2) pe_int)))
    pss_nil)
    (pss_one (ps_ret (pv 2))))), ?_⟩
    obtain ⟨dx, u, hp, _⟩ := id R
    have hr0 : (0 : Int) ≤ (r : Int) := Int.natCast_nonneg _
    have hz := rowAt_get W.ne r
    have hzl : (tl (rowAt ls r)).length = n := W.len _ (rowAt_mem W.ne r)
    generalize rowAt ls r = z at hz hzl k
    have pn : (0 : Int) < (n : Int) := by have := W.pos; omega
    have m0 : ∀ q : Int, 0 ≤ q % (n : Int) := fun q => Int.emod_nonneg _ (by omega)
    have e := rungB_rest hzl
    unfold cross1 at k
    walk_at "rd"
    refine ⟨p, dx, _, rfl, hp, lkR _ (by decide +kernel), ?_⟩
    walk_at "rd"
    refine ⟨p, dx, _, rfl, hp, p, ls, n, rfl, R, W, hn, ?_⟩
    walk_at "rd"
    refine ⟨p, r, _, n, ls, z, rfl, R, W, hn, hr0, m0 q, hz, ?_⟩
    rw [e]
    walk_at "rd"
    refine ite2 (fun hc => ?_) (fun hc => ?_)
    · rw [if_pos hc] at k
      walk_at "rd"
      exact k
    rw [if_neg hc] at k
    walk_at "rd"
    refine ⟨p, dx, _, rfl, hp, lkR _ (by decide +kernel), ?_⟩
    walk_at "rd"
    refine ⟨p, dx, _, rfl, hp, p, ls, n, rfl, R, W, hn, ?_⟩
    walk_at "rd"
    refine ⟨p, r, _, n, ls, z, rfl, R, W, hn, hr0, m0 (q - 1), hz, ?_⟩
    rw [e]
    walk_at "rd"
    refine ite2 (fun hb => ?_) (fun hb => ?_)
    · rw [if_pos hb] at k
      walk_at "rd"
      exact k
    · rw [if_neg hb] at k
      walk_at "rd"
      exact k
end
abbrev s_step_of : Stmt := top 13
abbrev N_step_of : List Str := ["rule", "post", "at", "row"]
theorem sc_step_of : FnScope N_step_of ["rule", "post"] (defScope s_step_of) := ⟨rfl, rfl, rfl, by decide +kernel, rfl, by decide +kernel, by decide +kernel⟩
section
variable {P : Program} {w : World} {K : PySem.W.Frag} {mg : Str → Option Value} {base : Heap}
def spStepOf (C : Addr) : Sp := fun vs H Q _ => ∃ (p : Addr) (q : Int) (n : Nat) (ls : List Str), vs = [.ref p, .int q] ∧ RuleAt C H p ls ∧ Rows n ls ∧ n ≤ 5000 ∧ ls.length ≤ 5000 ∧ Q (.int (goZ ls q - q)) H
theorem ok_step_of {f C : Addr} {fd : FuncData} (F : Fun K "step_of" "step_of" s_step_of f fd) (B : Bi mg) (D_past_row : Df P w K mg base "_past_row" 5 ["rule", "row", "post"] (spPastZ C)) (P_height : Pr P w K mg base C "height" 2 (spHeight C)) : FnOk P w K mg base CX0 6 f fd ["rule", "post"] (spStepOf C) := by
  refine F.ok sc_step_of (fun vs H Q E h => ?_) (fun cdv A outer s0 H vs Q E hr h => ?_)
  · obtain ⟨p, q, n, ls, rfl, _⟩ := h
    rfl
  · obtain ⟨p, q, n, ls, rfl, R, W, hn, hl, k⟩ := h
    refine ⟨_, (pss_cons (ps_set (i := 2) sc_step_of.nd rfl (Or.inl rfl) (pv 1))
    (pss_cons (ps_for PassesOwn.never rfl (pi_range1 (by rfl) B.range_ (pa_cons (pe_pr (pv 0) P_height (hr.mono (by first | decide | omega)) rfl) pa_nil)) (pg_name (i := 3) sc_step_of.nd rfl (Or.inl rfl))
    (pss_one (ps_set (i := 2) sc_step_of.nd rfl (Or.inl rfl) (pe_df D_past_row (hr.mono (by first | decide | omega)) (by rfl) (pa_cons (pv 0) (pa_cons (pv 3) (pa_cons (pv 2) pa_nil)))))))
    (pss_one (ps_ret (pe_op op_sub (pv 2) (pv 1)))))), ?_⟩
    obtain ⟨dx, u, hp, _⟩ := id R
    have hl62 : (ls.length : Int) < 2 ^ 62 := by omega
    walk_at "rd"
    refine ⟨p, dx, _, rfl, hp, p, ls, rfl, R, ?_⟩
    walk_at "rd"
    refine for_range (lo := 0) (n := ls.length) (fun i σ H' => ∃ o, σ = [some (.ref p), some (.int q), some (.int (wkZ ls q i)), o] ∧ H = H') ⟨none, rfl, rfl⟩ ?_ ?_
    · rintro i σ _ hi ⟨o, rfl, rfl⟩
      walk_at "rd"
      rw [Int.zero_add]
      refine ⟨p, _, i, n, ls, rfl, R, W, hn, ?_⟩
      exact ⟨_, rfl, rfl⟩
    · rintro σ _ ⟨o, rfl, rfl⟩
      rw [wkZ_round]
      walk_at "rd"
      exact k
end
abbrev s_law : Stmt := top 28
abbrev N_law : List Str := ["script", "source", "starts", "first", "second", "one", "two", "start", "moved", "k"]
theorem sc_law : FnScope N_law ["script"] (defScope s_law) := ⟨rfl, rfl, rfl, by decide +kernel, rfl, by decide +kernel, by decide +kernel⟩
section
variable {P : Program} {w : World} {K : PySem.W.Frag} {mg : Str → Option Value} {base : Heap}
def spLaw (K : PySem.W.Frag) : Sp := fun vs H Q _ => ∃ (a : Addr) (ns : List Int), vs = [.ref a] ∧ SqL K H a (ns.map V.int) ∧ ns.length ≤ 63 ∧ ∀ H', Q (.bl true) H'
abbrev gApp : List V → List V → List V := fun vs zs => vs ++ zs
theorem sum_movedS {n : Nat} {ls : List Str} (W : Rows n ls) (c : Int) : ((List.range n).map fun k : Nat => goZ ls (c + (k : Int)) - (c + (k : Int))).sum = 0 := by
  rw [← goZ_moved W c]
  have e : ∀ m : Nat, ((List.range m).map fun k : Nat => goZ ls (c + (k : Int)) - (c + (k : Int))).sum = sumZ (fun i => goZ ls i - i) c m := fun m => by
    induction m with
    | zero => rfl
    | succ m ih =>
      rw [List.range_succ, List.map_append, sum_appI, ih, sumZ]
      show _ + (_ + 0) = _
      rw [Int.add_zero]
  exact e n
theorem ok_law {f C : Addr} {fd : FuncData} (F : Fun K "law" "law" s_law f fd) (B : Bi mg) (T : Rl K C) (G_Rule : mg "Rule" = some (.ref C)) (D_law_source : Df P w K mg base "_law_source" 2 ["script"] (spSource K)) (D_law_draw : Df P w K mg base "_law_draw" 2 ["source", "limit"] spDraw) (D_law_signed : Df P w K mg base "_law_signed" 4 ["source", "limit", "parts"] spSigned)
    (D_law_texts : Df P w K mg base "_law_texts" 3 ["source", "most"] spTexts) (D_law_integer : Df P w K mg base "_law_integer" 2 ["actual", "expected"] spInteger) (D_law_step : Df P w K mg base "_law_step" 2 ["texts", "start"] spLawStepZ)
    (D_step_of : Df P w K mg base "step_of" 6 ["rule", "post"] (spStepOf C)) (DK_step_of_rule_post : DfK P w K mg base "step_of" 6 ["rule", "post"] (spStepOf C) ["rule", "post"] gApp) (M_Rule : Mkr P w K mg base "Rule" C 3 ["self", "texts"] (spInit C)) : FnOk P w K mg base CX0 7 f fd ["script"] (spLaw K) := by
  refine F.ok sc_law (fun vs H Q E h => ?_) (fun cdv A outer s0 H vs Q E hr h => ?_)
  · obtain ⟨a, ns, rfl, _⟩ := h
    rfl
  · obtain ⟨a, ns, rfl, hS, hlen, k⟩ := h
    refine ⟨_, (pss_cons (ps_set (i := 1) sc_law.nd rfl (Or.inl rfl) (pe_df D_law_source (hr.mono (by first | decide | omega)) (by rfl) (pa_cons (pv 0) pa_nil)))
    (pss_cons (ps_set (i := 2) sc_law.nd rfl (Or.inr rfl) (pe_lst (pa_cons (pe_op op_sub (pe_df D_law_draw (hr.mono (by first | decide | omega)) (by rfl) (pa_cons (pv 1) (pa_cons pe_int pa_nil))) pe_int) (pa_cons (pe_df D_law_signed (hr.mono (by first | decide | omega)) (by rfl) (pa_cons (pv 1) (pa_cons (pe_op op_pow pe_int pe_int) (pa_cons pe_int pa_nil)))) (pa_cons (pe_df D_law_signed (hr.mono (by first | decide | omega)) (by rfl) (pa_cons (pv 1) (pa_cons (pe_op op_pow pe_int pe_int) (pa_cons pe_int pa_nil)))) pa_nil)))))
    (pss_cons (ps_set (i := 3) sc_law.nd rfl (Or.inl rfl) (pe_df D_law_texts (hr.mono (by first | decide | omega)) (by rfl) (pa_cons (pv 1) (pa_cons pe_int pa_nil))))
    (pss_cons (ps_set (i := 4) sc_law.nd rfl (Or.inl rfl) (pe_df D_law_texts (hr.mono (by first | decide | omega)) (by rfl) (pa_cons (pv 1) (pa_cons pe_int pa_nil))))
    (pss_cons (ps_set (i := 5) sc_law.nd rfl (Or.inr rfl) (pe_mk M_Rule (hr.mono (by first | decide | omega)) (by rfl) (pa_cons (pe_callTy call_list_of (by rfl) B.list_ (by decide +kernel) (pa_cons (pv 3) pa_nil)) pa_nil)))
    (pss_cons (ps_set (i := 6) sc_law.nd rfl (Or.inl rfl) (pe_mk M_Rule (hr.mono (by first | decide | omega)) (by rfl) (pa_cons (pe_callTy call_list_of (by rfl) B.list_ (by decide +kernel) (pa_cons (pv 4) pa_nil)) pa_nil)))
    (pss_cons (ps_for PassesOwn.never rfl (pi_list (pv 2)) (pg_name (i := 7) sc_law.nd rfl (Or.inl rfl))
    (pss_cons (ps_if (pt_not (pt_val (pe_df D_law_integer (hr.mono (by first | decide | omega)) (by rfl) (pa_cons (pe_df D_step_of (hr.mono (by first | decide | omega)) (by rfl) (pa_cons (pv 5) (pa_cons (pv 7) pa_nil))) (pa_cons (pe_df D_law_step (hr.mono (by first | decide | omega)) (by rfl) (pa_cons (pv 3) (pa_cons (pv 7) pa_nil))) pa_nil)))))
    (pss_one (ps_ret pe_bl))
    pss_nil)
    (pss_cons (ps_if (pt_not (pt_val (pe_df D_law_integer (hr.mono (by first | decide | omega)) (by rfl) (pa_cons (pe_df D_step_of (hr.mono (by first | decide | omega)) (by rfl) (pa_cons (pv 6) (pa_cons (pv 7) pa_nil))) (pa_cons (pe_df D_law_step (hr.mono (by first | decide | omega)) (by rfl) (pa_cons (pv 4) (pa_cons (pv 7) pa_nil))) pa_nil)))))
    (pss_one (ps_ret pe_bl))
    pss_nil)
    (pss_cons (ps_if (pt_not (pt_val (pe_df D_law_integer (hr.mono (by first | decide | omega)) (by rfl) (pa_cons (pe_df D_step_of (hr.mono (by first | decide | omega)) (by rfl) (pa_cons (pv 5) (pa_cons (pe_op op_add (pv 7) (pe_callB call_len_str (by rfl) B.len_ PySem.boot_len (pa_cons (pe_ix ix_list (pv 3) pe_int (fun _ _ => rfl)) pa_nil))) pa_nil))) (pa_cons (pe_df D_law_step (hr.mono (by first | decide | omega)) (by rfl) (pa_cons (pv 3) (pa_cons (pv 7) pa_nil))) pa_nil)))))
    (pss_one (ps_ret pe_bl))
    pss_nil)
    (pss_one (ps_if (pt_not (pt_val (pe_df D_law_integer (hr.mono (by first | decide | omega)) (by rfl) (pa_cons (pe_df D_step_of (hr.mono (by first | decide | omega)) (by rfl) (pa_cons (pv 6) (pa_cons (pe_op op_sub (pv 7) (pe_callB call_len_str (by rfl) B.len_ PySem.boot_len (pa_cons (pe_ix ix_list (pv 4) pe_int (fun _ _ => rfl)) pa_nil))) pa_nil))) (pa_cons (pe_df D_law_step (hr.mono (by first | decide | omega)) (by rfl) (pa_cons (pv 4) (pa_cons (pv 7) pa_nil))) pa_nil)))))
    (pss_one (ps_ret pe_bl))
    pss_nil))))))
    (pss_cons (ps_set (i := 8) sc_law.nd rfl (Or.inl rfl) (pe_callB (cr_sum rfl) (by rfl) B.sum_ (by decide +kernel) (pa_cons (pe_lc (own := [("k", 9)]) (g := gName 9) (tt := tYes) rfl sc_law.nd (pi_range1 (by rfl) B.range_ (pa_cons (pe_callB call_len_str (by rfl) B.len_ PySem.boot_len (pa_cons (pe_ix ix_list (pv 3) pe_int (fun _ _ => rfl)) pa_nil)) pa_nil)) (blkOk_by (N := N_law) (sc := defScope s_law) (by decide +kernel)) (fun _ _ _ _ _ => pg_name (i := 9) sc_law.nd rfl (Or.inl rfl)) (fun _ _ _ _ _ => pts_nil) (fun _ _ _ _ _ => (pe_df D_step_of (hr.mono (by first | decide | omega)) (by rfl) (pa_cons (pv 5) (pa_cons (pe_op op_add (pe_ix (show IxR _ (rIxL K) from ix_list) (pv 2) pe_int (fun _ _ => rfl)) (pv 9)) pa_nil))))) pa_nil)))
    (pss_one (ps_ret (pe_and (pe_cmpR op_eq (pv 8) pe_int (nomark _)) (pe_one (pe_df D_law_integer (hr.mono (by first | decide | omega)) (by rfl) (pa_cons (pe_dfN0 DK_step_of_rule_post (hr.mono (by first | decide | omega)) (by rfl) (pk_cons (pv 6) (pk_cons (pe_ix ix_list (pv 2) pe_int (fun _ _ => rfl)) pk_nil))) (pa_cons (pe_df D_law_step (hr.mono (by first | decide | omega)) (by rfl) (pa_cons (pv 4) (pa_cons (pe_ix ix_list (pv 2) pe_int (fun _ _ => rfl)) pa_nil))) pa_nil))))))))))))))), ?_⟩
    walk_at "rd"
    refine ⟨a, ns, rfl, hS, hlen, fun s g sm H1 s1 _ _ _ S1 => ?_⟩
    clear s1
    walk_at "rd"
    refine ⟨s, g, sm, 0, _, rfl, S1, by decide, by decide, by decide, fun c1 H2 _ _ S2 t2 => ?_⟩
    clear t2
    have hcp1 := cp61
    have hcp2 := cp20
    walk_at "rd"
    refine ⟨s, g, sm, _, 8, _, rfl, S2, by decide, by decide +kernel, fun c2 H3 _ _ S3 t3 => ?_⟩
    clear t3
    walk_at "rd"
    refine ⟨s, g, sm, _, 5, _, rfl, S3, by decide, by decide +kernel, fun c3 H4 _ _ S4 t4 => ?_⟩
    clear t4
    generalize ec1 : c1 - 9 = d1
    walk_at "rd"
    intro st zst
    generalize est : upd _ st _ = H5
    obtain ⟨s5, hst⟩ := nw est zst
    have S5 := S4.same s5
    have ost := S4.keep zst hst
    clear s5 zst hst est S1 S2 S3 S4
    walk_at "rd"
    refine ⟨s, g, sm, _, _, rfl, S5, by decide, by decide, fun n1 ls1 tx1 H6 W1 hn1 hl1 S6 t6 _ otx1 => ?_⟩
    have ost6 := t6 _ _ ost
    clear t6 ost S5
    walk_at "rd"
    refine ⟨s, g, sm, _, _, rfl, S6, by decide, by decide, fun n2 ls2 tx2 H7 W2 hn2 hl2 S7 t7 _ otx2 => ?_⟩
    have hst7 := out_same _ _ (t7 _ _ ost6)
    have htx1 := out_same _ _ (t7 _ _ otx1)
    have htx2 := out_same _ _ otx2
    clear t7 ost6 S6 otx1 otx2 S7
    walk_at "rd"
    intro h1 zh1
    generalize eh1 : upd _ h1 _ = H8
    obtain ⟨s8, hh1⟩ := nw eh1 zh1
    walk_at "rd"
    intro x1 dx1 nx1 ndx1 _
    refine mk_at hh1 W1 (by omega) nx1 ndx1 fun H9 s9 RX1 => ⟨rfl, ?_⟩
    have s79 := s8.trans s9
    have hst9 := s79 _ _ hst7
    have htx19 := s79 _ _ htx1
    have htx29 := s79 _ _ htx2
    clear s8 s9 s79 hst7 htx1 htx2 hh1 zh1 eh1 nx1 ndx1
    walk_at "rd"
    intro h2 zh2
    generalize eh2 : upd _ h2 _ = HA
    obtain ⟨sA, hh2⟩ := nw eh2 zh2
    walk_at "rd"
    intro x2 dx2 nx2 ndx2 _
    refine mk_at hh2 W2 (by omega) nx2 ndx2 fun HB sB RX2 => ⟨rfl, ?_⟩
    have s9B := sA.trans sB
    have hst' : HB st = some (.lst [V.int d1, V.int c2, V.int c3]) := by
      rw [← ec1]
      exact s9B _ _ hst9
    have htx1' := s9B _ _ htx19
    have htx2' := s9B _ _ htx29
    have RX1' := RX1.same s9B
    clear sA sB s9B hst9 htx19 htx29 hh2 zh2 eh2 nx2 ndx2 RX1
    have n10 := W1.pos
    have n20 := W2.pos
    have iz1 := atI_k' (i := 0) 0 rfl (getS W1.ne)
    have iz2 := atI_k' (i := 0) 0 rfl (getS W2.ne)
    have hz1 : (ls1[0]'W1.ne).length = n1 := W1.lenS (List.getElem_mem W1.ne)
    have hz2 : (ls2[0]'W2.ne).length = n2 := W2.lenS (List.getElem_mem W2.ne)
    have hzl1 : (ls1[0]'W1.ne).length ≤ sizeLine := by rw [hz1]; exact Nat.le_trans hn1 (by decide)
    have hzl2 : (ls2[0]'W2.ne).length ≤ sizeLine := by rw [hz2]; exact Nat.le_trans hn2 (by decide)
    walk_at "rd"
    refine ⟨⟨_, SqL.of hst'⟩, ?_⟩
    refine for_list (K := K) (a := st) (xs := [V.int d1, V.int c2, V.int c3]) (fun i σ H' => ∃ (o : Option V), σ = [some (.ref a), some (.ref s), some (.ref st), some (.ref tx1), some (.ref tx2), some (.ref x1), some (.ref x2), o, none, none] ∧ HB = H') ⟨_, rfl, rfl⟩ (fun i σ H' _ h => by
      obtain ⟨_, _, h⟩ := h
      rw [← h]
      exact SqL.of hst') ?_ ?_
    · rintro i kv σ _ hi ⟨o, rfl, rfl⟩
      obtain ⟨c, rfl⟩ : ∃ c : Int, kv = .int c := by
        match i, hi with
        | 0, hi => exact ⟨_, (Option.some.inj hi).symm⟩
        | 1, hi => exact ⟨_, (Option.some.inj hi).symm⟩
        | 2, hi => exact ⟨_, (Option.some.inj hi).symm⟩
      have e1 : goZ ls1 (c + (n1 : Int)) - (c + (n1 : Int)) = goZ ls1 c - c := by
        rw [goZ_per W1]
        omega
      have e2 : goZ ls2 (c - (n2 : Int)) - (c - (n2 : Int)) = goZ ls2 c - c := by
        have q := goZ_per W2 (c - (n2 : Int))
        rw [Int.sub_add_cancel] at q
        omega
      walk_at "rd"
      refine ⟨x1, c, n1, ls1, rfl, RX1', W1, by omega, by omega, ?_⟩
      walk_at "rd"
      refine ⟨tx1, c, n1, ls1, rfl, htx1', W1, by omega, ?_⟩
      walk_at "rd"
      refine ⟨x2, c, n2, ls2, rfl, RX2, W2, by omega, by omega, ?_⟩
      walk_at "rd"
      refine ⟨tx2, c, n2, ls2, rfl, htx2', W2, by omega, ?_⟩
      walk_at "rd"
      rw [hz1]
      refine ⟨x1, c + (n1 : Int), n1, ls1, rfl, RX1', W1, by omega, by omega, ?_⟩
      walk_at "rd"
      refine ⟨tx1, c, n1, ls1, rfl, htx1', W1, by omega, ?_⟩
      rw [e1]
      walk_at "rd"
      rw [hz2]
      refine ⟨x2, c - (n2 : Int), n2, ls2, rfl, RX2, W2, by omega, by omega, ?_⟩
      walk_at "rd"
      refine ⟨tx2, c, n2, ls2, rfl, htx2', W2, by omega, ?_⟩
      rw [e2]
      repeat (first | exact ⟨_, rfl, rfl⟩ | walk_at "r")
    rintro σ _ ⟨o, rfl, rfl⟩
    have i0 : atI [V.int d1, V.int c2, V.int c3] 0 = some (V.int d1) := rfl
    have i1 : atI [V.int d1, V.int c2, V.int c3] 1 = some (V.int c2) := rfl
    have hn62 : (n1 : Int) < 2 ^ 62 := by omega
    walk_at "rd"
    rw [hz1]
    walk_at "rd"
    intro D hD
    refine lc_range (lo := 0) (n := n1) (fun j H2 => Same HB H2 ∧ H2 D = some (.lst (((List.range j).map fun k : Nat => goZ ls1 (d1 + (k : Int)) - (d1 + (k : Int))).map V.int))) ⟨L2.Same.upd hD, upd_same⟩ ?_ ?_
    · rintro j H2 hj ⟨sm', hA⟩
      refine ⟨rfl, ?_⟩
      have hst2 := sm' _ _ hst'
      walk_at "rd"
      rw [Int.zero_add]
      refine ⟨x1, d1 + (j : Int), n1, ls1, rfl, RX1'.same sm', W1, by omega, by omega, ?_⟩
      refine ⟨_, hA, by rw [List.length_map, List.length_map, List.length_range]; exact Nat.lt_of_lt_of_le hj (Nat.le_trans hn1 (by decide)), sm'.put hD, ?_⟩
      rw [upd_same, List.range_succ, List.map_append, List.map_append]
      rfl
    rintro HC ⟨sC, hC⟩
    refine ⟨D, _, rfl, SqL.of hC, ?_⟩
    rw [sum_movedS W1]
    have hstC := sC _ _ hst'
    walk_at "rd"
    refine ⟨x2, c2, n2, ls2, rfl, RX2.same sC, W2, by omega, by omega, ?_⟩
    walk_at "rd"
    refine ⟨tx2, c2, n2, ls2, rfl, sC _ _ htx2', W2, by omega, ?_⟩
    repeat (first | exact k _ | walk_at "r")
end
theorem all_mk {l : PySem.W.OpenLaw} {w : World} {K : PySem.W.Frag} {h : Heap} {mg : Str → Option Value} {fa : Addr} (X : K.In h) (G : h.Ns mainGlobals mg) (hfa : mg "law" = some (.ref fa))
    {C : Addr}
    {f1 : Addr} {od1 an1 : Option Addr} {sl1 : Array (Option Value)} {oc1 kV1 dc1 pm1 cd1 ct1 : Value}
    {f2 : Addr} {od2 an2 : Option Addr} {sl2 : Array (Option Value)} {oc2 kV2 dc2 pm2 cd2 ct2 : Value}
    {f3 : Addr} {od3 an3 : Option Addr} {sl3 : Array (Option Value)} {oc3 kV3 dc3 pm3 cd3 ct3 : Value}
    {f4 : Addr} {od4 an4 : Option Addr} {sl4 : Array (Option Value)} {oc4 kV4 dc4 pm4 cd4 ct4 : Value}
    {f5 : Addr} {od5 an5 : Option Addr} {sl5 : Array (Option Value)} {oc5 kV5 dc5 pm5 cd5 ct5 : Value}
    {f6 : Addr} {od6 an6 : Option Addr} {sl6 : Array (Option Value)} {oc6 kV6 dc6 pm6 cd6 ct6 : Value}
    {f7 : Addr} {od7 an7 : Option Addr} {sl7 : Array (Option Value)} {oc7 kV7 dc7 pm7 cd7 ct7 : Value}
    {f8 : Addr} {od8 an8 : Option Addr} {sl8 : Array (Option Value)} {oc8 kV8 dc8 pm8 cd8 ct8 : Value}
    {f9 : Addr} {od9 an9 : Option Addr} {sl9 : Array (Option Value)} {oc9 kV9 dc9 pm9 cd9 ct9 : Value}
    {f10 : Addr} {od10 an10 : Option Addr} {sl10 : Array (Option Value)} {oc10 kV10 dc10 pm10 cd10 ct10 : Value}
    {f11 : Addr} {od11 an11 : Option Addr} {sl11 : Array (Option Value)} {oc11 kV11 dc11 pm11 cd11 ct11 : Value}
    {f12 : Addr} {od12 an12 : Option Addr} {sl12 : Array (Option Value)} {oc12 kV12 dc12 pm12 cd12 ct12 : Value}
    {f13 : Addr} {od13 an13 : Option Addr} {sl13 : Array (Option Value)} {oc13 kV13 dc13 pm13 cd13 ct13 : Value}
    {f14 : Addr} {od14 an14 : Option Addr} {sl14 : Array (Option Value)} {oc14 kV14 dc14 pm14 cd14 ct14 : Value}
    {p14 : Addr} {re14 : List Value}
    {f15 : Addr} {od15 an15 : Option Addr} {sl15 : Array (Option Value)} {oc15 kV15 dc15 pm15 cd15 ct15 : Value}
    {p15 : Addr} {re15 : List Value}
    {f16 : Addr} {od16 an16 : Option Addr} {sl16 : Array (Option Value)} {oc16 kV16 dc16 pm16 cd16 ct16 : Value}
    {f17 : Addr} {od17 an17 : Option Addr} {sl17 : Array (Option Value)} {oc17 kV17 dc17 pm17 cd17 ct17 : Value}
    {f18 : Addr} {od18 an18 : Option Addr} {sl18 : Array (Option Value)} {oc18 kV18 dc18 pm18 cd18 ct18 : Value}
    {f19 : Addr} {od19 an19 : Option Addr} {sl19 : Array (Option Value)} {oc19 kV19 dc19 pm19 cd19 ct19 : Value}
    (aCRule : PySem.W.nsIn K mainGlobals "Rule" = some (some (.ref C)))
    (a1 : PySem.W.nsIn K mainGlobals "is_marked" = some (some (.ref f1)))
    (l1 : K.lookup f1 = some ⟨oc1, od1, .func (PySem.W.fnOf "is_marked" "is_marked" (defArgs s_is_marked) (defBody s_is_marked) (defScope s_is_marked) .none kV1 dc1 pm1 an1 cd1 ct1), sl1⟩)
    (c1 : PySem.W.codeIn K cd1 "is_marked" = true)
    (k1 : PySem.W.keepIn K (.ref f1) = true)
    (a2 : PySem.W.nsIn K mainGlobals "is_row" = some (some (.ref f2)))
    (l2 : K.lookup f2 = some ⟨oc2, od2, .func (PySem.W.fnOf "is_row" "is_row" (defArgs s_is_row) (defBody s_is_row) (defScope s_is_row) .none kV2 dc2 pm2 an2 cd2 ct2), sl2⟩)
    (c2 : PySem.W.codeIn K cd2 "is_row" = true)
    (k2 : PySem.W.keepIn K (.ref f2) = true)
    (a3 : PySem.W.findIn K (.ref C) "__init__" = some (some (.ref f3)))
    (i3 : PySem.W.isFn K (.ref f3) = true)
    (l3 : K.lookup f3 = some ⟨oc3, od3, .func (PySem.W.fnOf "__init__" "Rule.__init__" (defArgs s_Rule_u__init_u_) (defBody s_Rule_u__init_u_) (defScope s_Rule_u__init_u_) .none kV3 dc3 pm3 an3 cd3 ct3), sl3⟩)
    (c3 : PySem.W.codeIn K cd3 "Rule.__init__" = true)
    (k3 : PySem.W.keepIn K (.ref f3) = true)
    (a4 : PySem.W.nsIn K mainGlobals "_law_source" = some (some (.ref f4)))
    (l4 : K.lookup f4 = some ⟨oc4, od4, .func (PySem.W.fnOf "_law_source" "_law_source" (defArgs s__law_source) (defBody s__law_source) (defScope s__law_source) .none kV4 dc4 pm4 an4 cd4 ct4), sl4⟩)
    (c4 : PySem.W.codeIn K cd4 "_law_source" = true)
    (k4 : PySem.W.keepIn K (.ref f4) = true)
    (a5 : PySem.W.nsIn K mainGlobals "_law_draw" = some (some (.ref f5)))
    (l5 : K.lookup f5 = some ⟨oc5, od5, .func (PySem.W.fnOf "_law_draw" "_law_draw" (defArgs s__law_draw) (defBody s__law_draw) (defScope s__law_draw) .none kV5 dc5 pm5 an5 cd5 ct5), sl5⟩)
    (c5 : PySem.W.codeIn K cd5 "_law_draw" = true)
    (k5 : PySem.W.keepIn K (.ref f5) = true)
    (a6 : PySem.W.nsIn K mainGlobals "_law_number" = some (some (.ref f6)))
    (l6 : K.lookup f6 = some ⟨oc6, od6, .func (PySem.W.fnOf "_law_number" "_law_number" (defArgs s__law_number) (defBody s__law_number) (defScope s__law_number) .none kV6 dc6 pm6 an6 cd6 ct6), sl6⟩)
    (c6 : PySem.W.codeIn K cd6 "_law_number" = true)
    (k6 : PySem.W.keepIn K (.ref f6) = true)
    (a7 : PySem.W.nsIn K mainGlobals "_law_signed" = some (some (.ref f7)))
    (l7 : K.lookup f7 = some ⟨oc7, od7, .func (PySem.W.fnOf "_law_signed" "_law_signed" (defArgs s__law_signed) (defBody s__law_signed) (defScope s__law_signed) .none kV7 dc7 pm7 an7 cd7 ct7), sl7⟩)
    (c7 : PySem.W.codeIn K cd7 "_law_signed" = true)
    (k7 : PySem.W.keepIn K (.ref f7) = true)
    (a8 : PySem.W.nsIn K mainGlobals "_law_lines" = some (some (.ref f8)))
    (l8 : K.lookup f8 = some ⟨oc8, od8, .func (PySem.W.fnOf "_law_lines" "_law_lines" (defArgs s__law_lines) (defBody s__law_lines) (defScope s__law_lines) .none kV8 dc8 pm8 an8 cd8 ct8), sl8⟩)
    (c8 : PySem.W.codeIn K cd8 "_law_lines" = true)
    (k8 : PySem.W.keepIn K (.ref f8) = true)
    (a9 : PySem.W.nsIn K mainGlobals "_law_texts" = some (some (.ref f9)))
    (l9 : K.lookup f9 = some ⟨oc9, od9, .func (PySem.W.fnOf "_law_texts" "_law_texts" (defArgs s__law_texts) (defBody s__law_texts) (defScope s__law_texts) .none kV9 dc9 pm9 an9 cd9 ct9), sl9⟩)
    (c9 : PySem.W.codeIn K cd9 "_law_texts" = true)
    (k9 : PySem.W.keepIn K (.ref f9) = true)
    (a10 : PySem.W.nsIn K mainGlobals "_law_integer" = some (some (.ref f10)))
    (l10 : K.lookup f10 = some ⟨oc10, od10, .func (PySem.W.fnOf "_law_integer" "_law_integer" (defArgs s__law_integer) (defBody s__law_integer) (defScope s__law_integer) .none kV10 dc10 pm10 an10 cd10 ct10), sl10⟩)
    (c10 : PySem.W.codeIn K cd10 "_law_integer" = true)
    (k10 : PySem.W.keepIn K (.ref f10) = true)
    (a11 : PySem.W.nsIn K mainGlobals "_law_step" = some (some (.ref f11)))
    (l11 : K.lookup f11 = some ⟨oc11, od11, .func (PySem.W.fnOf "_law_step" "_law_step" (defArgs s__law_step) (defBody s__law_step) (defScope s__law_step) .none kV11 dc11 pm11 an11 cd11 ct11), sl11⟩)
    (c11 : PySem.W.codeIn K cd11 "_law_step" = true)
    (k11 : PySem.W.keepIn K (.ref f11) = true)
    (a12 : PySem.W.nsIn K mainGlobals "check_number" = some (some (.ref f12)))
    (l12 : K.lookup f12 = some ⟨oc12, od12, .func (PySem.W.fnOf "check_number" "check_number" (defArgs s_check_number) (defBody s_check_number) (defScope s_check_number) .none kV12 dc12 pm12 an12 cd12 ct12), sl12⟩)
    (c12 : PySem.W.codeIn K cd12 "check_number" = true)
    (k12 : PySem.W.keepIn K (.ref f12) = true)
    (a13 : PySem.W.nsIn K mainGlobals "check_half_post" = some (some (.ref f13)))
    (l13 : K.lookup f13 = some ⟨oc13, od13, .func (PySem.W.fnOf "check_half_post" "check_half_post" (defArgs s_check_half_post) (defBody s_check_half_post) (defScope s_check_half_post) .none kV13 dc13 pm13 an13 cd13 ct13), sl13⟩)
    (c13 : PySem.W.codeIn K cd13 "check_half_post" = true)
    (k13 : PySem.W.keepIn K (.ref f13) = true)
    (a14 : PySem.W.findIn K (.ref C) "width" = some (some (.ref p14)))
    (g14 : PySem.W.specialIn K (.ref p14) "__get__" = some (some (.builtin "property.__get__")))
    (t14 : PySem.W.takesIn K (.ref p14) = some true)
    (r14 : PySem.W.recIn K p14 "property" = some (.ref f14 :: re14))
    (l14 : K.lookup f14 = some ⟨oc14, od14, .func (PySem.W.fnOf "width" "Rule.width" (defArgs s_Rule_width) (defBody s_Rule_width) (defScope s_Rule_width) .none kV14 dc14 pm14 an14 cd14 ct14), sl14⟩)
    (c14 : PySem.W.codeIn K cd14 "Rule.width" = true)
    (k14 : PySem.W.keepIn K (.ref f14) = true)
    (a15 : PySem.W.findIn K (.ref C) "height" = some (some (.ref p15)))
    (g15 : PySem.W.specialIn K (.ref p15) "__get__" = some (some (.builtin "property.__get__")))
    (t15 : PySem.W.takesIn K (.ref p15) = some true)
    (r15 : PySem.W.recIn K p15 "property" = some (.ref f15 :: re15))
    (l15 : K.lookup f15 = some ⟨oc15, od15, .func (PySem.W.fnOf "height" "Rule.height" (defArgs s_Rule_height) (defBody s_Rule_height) (defScope s_Rule_height) .none kV15 dc15 pm15 an15 cd15 ct15), sl15⟩)
    (c15 : PySem.W.codeIn K cd15 "Rule.height" = true)
    (k15 : PySem.W.keepIn K (.ref f15) = true)
    (a16 : PySem.W.findIn K (.ref C) "has_rung" = some (some (.ref f16)))
    (i16 : PySem.W.isFn K (.ref f16) = true)
    (l16 : K.lookup f16 = some ⟨oc16, od16, .func (PySem.W.fnOf "has_rung" "Rule.has_rung" (defArgs s_Rule_has_rung) (defBody s_Rule_has_rung) (defScope s_Rule_has_rung) .none kV16 dc16 pm16 an16 cd16 ct16), sl16⟩)
    (c16 : PySem.W.codeIn K cd16 "Rule.has_rung" = true)
    (k16 : PySem.W.keepIn K (.ref f16) = true)
    (a17 : PySem.W.nsIn K mainGlobals "_past_row" = some (some (.ref f17)))
    (l17 : K.lookup f17 = some ⟨oc17, od17, .func (PySem.W.fnOf "_past_row" "_past_row" (defArgs s__past_row) (defBody s__past_row) (defScope s__past_row) .none kV17 dc17 pm17 an17 cd17 ct17), sl17⟩)
    (c17 : PySem.W.codeIn K cd17 "_past_row" = true)
    (k17 : PySem.W.keepIn K (.ref f17) = true)
    (a18 : PySem.W.nsIn K mainGlobals "step_of" = some (some (.ref f18)))
    (l18 : K.lookup f18 = some ⟨oc18, od18, .func (PySem.W.fnOf "step_of" "step_of" (defArgs s_step_of) (defBody s_step_of) (defScope s_step_of) .none kV18 dc18 pm18 an18 cd18 ct18), sl18⟩)
    (c18 : PySem.W.codeIn K cd18 "step_of" = true)
    (k18 : PySem.W.keepIn K (.ref f18) = true)
    (a19 : PySem.W.nsIn K mainGlobals "law" = some (some (.ref f19)))
    (l19 : K.lookup f19 = some ⟨oc19, od19, .func (PySem.W.fnOf "law" "law" (defArgs s_law) (defBody s_law) (defScope s_law) .none kV19 dc19 pm19 an19 cd19 ct19), sl19⟩)
    (c19 : PySem.W.codeIn K cd19 "law" = true)
    (k19 : PySem.W.keepIn K (.ref f19) = true)
    (pg : PySem.W.plainGet K C Str.empty = true)
    (hd : PySem.W.hasDictIn K C = true)
    (po : PySem.W.plainOver K C = true)
    (sa : PySem.W.findIn K (.ref C) "__setattr__" = some (some (.builtin "object.__setattr__")))
    (mk : PySem.W.makesIn K C = true)
    (kc : PySem.W.keepIn K (.ref C) = true)
    (nR : PySem.W.findIn K (.ref C) "_rows" = some none)
    (cl1 : PySem.W.findIn K (.ref C) "__class__" = some (some (.builtin "object.__class__")))
    (cl2 : PySem.W.specialIn K (.builtin "object.__class__") "__get__" = some (some (.builtin "getset_descriptor.__get__")))
    (cl3 : PySem.W.takesIn K (.builtin "object.__class__") = some true)
    (cl4 : PySem.W.mroIn K C (.type "object") = some true)
    (sf : PySem.W.selfFirst K C = true)
    (zlen : PySem.W.nsIn K mainGlobals "len" = some none)
    (zint : PySem.W.nsIn K mainGlobals "int" = some none)
    (zrange : PySem.W.nsIn K mainGlobals "range" = some none)
    (zlist : PySem.W.nsIn K mainGlobals "list" = some none)
    (ztuple : PySem.W.nsIn K mainGlobals "tuple" = some none)
    (zisinstance : PySem.W.nsIn K mainGlobals "isinstance" = some none)
    (zall : PySem.W.nsIn K mainGlobals "all" = some none)
    (zany : PySem.W.nsIn K mainGlobals "any" = some none)
    (zbool : PySem.W.nsIn K mainGlobals "bool" = some none)
    (zstr : PySem.W.nsIn K mainGlobals "str" = some none)
    (zmin : PySem.W.nsIn K mainGlobals "min" = some none)
    (zmax : PySem.W.nsIn K mainGlobals "max" = some none)
    (zabs : PySem.W.nsIn K mainGlobals "abs" = some none)
    (zsum : PySem.W.nsIn K mainGlobals "sum" = some none)
    (zsorted : PySem.W.nsIn K mainGlobals "sorted" = some none)
    (zset : PySem.W.nsIn K mainGlobals "set" = some none)
    (zValueError : PySem.W.nsIn K mainGlobals "ValueError" = some none) :
    ∃ fd : FuncData, (∀ (s : Shared) (v : Value), BindsTo s fd ⟨[v], []⟩ [("script", v)]) ∧ ∀ base : Heap, K.In base → base.Ns mainGlobals mg → FnOk l.prog w K mg base CX0 7 fa fd ["script"] (spLaw K) := by
  have e := hfa.symm.trans (PySem.W.mg_of X G a19)
  cases e
  have B : Bi mg := ⟨PySem.W.mg_none_of X G zlen, PySem.W.mg_none_of X G zint, PySem.W.mg_none_of X G zrange, PySem.W.mg_none_of X G zlist, PySem.W.mg_none_of X G ztuple, PySem.W.mg_none_of X G zisinstance, PySem.W.mg_none_of X G zall, PySem.W.mg_none_of X G zany, PySem.W.mg_none_of X G zbool, PySem.W.mg_none_of X G zstr, PySem.W.mg_none_of X G zmin, PySem.W.mg_none_of X G zmax, PySem.W.mg_none_of X G zabs, PySem.W.mg_none_of X G zsum, PySem.W.mg_none_of X G zsorted, PySem.W.mg_none_of X G zset, PySem.W.mg_none_of X G zValueError⟩
  have G_Rule := PySem.W.mg_of X G aCRule
  have T : Rl K C := ⟨⟨pg, hd, po, sa⟩, nR, cl1, cl2, cl3, cl4, sf⟩
  have F1 := fun_mk (st := s_is_marked) l1 c1 k1
  have b1 := F1.binds (ps := ["text"]) fun _ _ _ _ _ _ us hl => match us, hl with | [_], _ => rfl
  have F2 := fun_mk (st := s_is_row) l2 c2 k2
  have b2 := F2.binds (ps := ["text"]) fun _ _ _ _ _ _ us hl => match us, hl with | [_], _ => rfl
  have F3 := fun_mk (st := s_Rule_u__init_u_) l3 c3 k3
  have b3 := F3.binds (ps := ["self", "texts"]) fun _ _ _ _ _ _ us hl => match us, hl with | [_, _], _ => rfl
  have F4 := fun_mk (st := s__law_source) l4 c4 k4
  have b4 := F4.binds (ps := ["script"]) fun _ _ _ _ _ _ us hl => match us, hl with | [_], _ => rfl
  have F5 := fun_mk (st := s__law_draw) l5 c5 k5
  have b5 := F5.binds (ps := ["source", "limit"]) fun _ _ _ _ _ _ us hl => match us, hl with | [_, _], _ => rfl
  have F6 := fun_mk (st := s__law_number) l6 c6 k6
  have b6 := F6.binds (ps := ["source", "limit", "parts"]) fun _ _ _ _ _ _ us hl => match us, hl with | [_, _, _], _ => rfl
  have F7 := fun_mk (st := s__law_signed) l7 c7 k7
  have b7 := F7.binds (ps := ["source", "limit", "parts"]) fun _ _ _ _ _ _ us hl => match us, hl with | [_, _, _], _ => rfl
  have F8 := fun_mk (st := s__law_lines) l8 c8 k8
  have b8 := F8.binds (ps := ["span"]) fun _ _ _ _ _ _ us hl => match us, hl with | [_], _ => rfl
  have F9 := fun_mk (st := s__law_texts) l9 c9 k9
  have b9 := F9.binds (ps := ["source", "most"]) fun _ _ _ _ _ _ us hl => match us, hl with | [_, _], _ => rfl
  have F10 := fun_mk (st := s__law_integer) l10 c10 k10
  have b10 := F10.binds (ps := ["actual", "expected"]) fun _ _ _ _ _ _ us hl => match us, hl with | [_, _], _ => rfl
  have F11 := fun_mk (st := s__law_step) l11 c11 k11
  have b11 := F11.binds (ps := ["texts", "start"]) fun _ _ _ _ _ _ us hl => match us, hl with | [_, _], _ => rfl
  have F12 := fun_mk (st := s_check_number) l12 c12 k12
  have b12 := F12.binds (ps := ["number"]) fun _ _ _ _ _ _ us hl => match us, hl with | [_], _ => rfl
  have F13 := fun_mk (st := s_check_half_post) l13 c13 k13
  have b13 := F13.binds (ps := ["post"]) fun _ _ _ _ _ _ us hl => match us, hl with | [_], _ => rfl
  have F14 := fun_mk (st := s_Rule_width) l14 c14 k14
  have b14 := F14.binds (ps := ["self"]) fun _ _ _ _ _ _ us hl => match us, hl with | [_], _ => rfl
  have F15 := fun_mk (st := s_Rule_height) l15 c15 k15
  have b15 := F15.binds (ps := ["self"]) fun _ _ _ _ _ _ us hl => match us, hl with | [_], _ => rfl
  have F16 := fun_mk (st := s_Rule_has_rung) l16 c16 k16
  have b16 := F16.binds (ps := ["self", "row", "post"]) fun _ _ _ _ _ _ us hl => match us, hl with | [_, _, _], _ => rfl
  have F17 := fun_mk (st := s__past_row) l17 c17 k17
  have b17 := F17.binds (ps := ["rule", "row", "post"]) fun _ _ _ _ _ _ us hl => match us, hl with | [_, _, _], _ => rfl
  have F18 := fun_mk (st := s_step_of) l18 c18 k18
  have b18 := F18.binds (ps := ["rule", "post"]) fun _ _ _ _ _ _ us hl => match us, hl with | [_, _], _ => rfl
  have F19 := fun_mk (st := s_law) l19 c19 k19
  have b19 := F19.binds (ps := ["script"]) fun _ _ _ _ _ _ us hl => match us, hl with | [_], _ => rfl
  refine ⟨PySem.W.fnOf "law" "law" (defArgs s_law) (defBody s_law) (defScope s_law) .none kV19 dc19 pm19 an19 cd19 ct19, fun s v => .of_eq rfl, fun base _ _ => ?_⟩
  have G1 : FnOk l.prog w K mg base CX0 1 f1 _ ["text"] spIsMarked := ok_is_marked F1 B
  have D_is_marked := Df.mk' F1 G1 (PySem.W.mg_of X G a1) b1
  have G2 : FnOk l.prog w K mg base CX0 2 f2 _ ["text"] spIsRow := ok_is_row F2 B D_is_marked
  have D_is_row := Df.mk' F2 G2 (PySem.W.mg_of X G a2) b2
  have G3 : FnOk l.prog w K mg base CX0 3 f3 _ ["self", "texts"] (spInit C) := ok_Rule_init F3 B T D_is_row
  have M_Rule : Mkr l.prog w K mg base "Rule" C 3 ["self", "texts"] (spInit C) := ⟨_, _, PySem.W.mg_of X G aCRule, ⟨mk, a3, i3, kc⟩, G3, b3⟩
  have G4 : FnOk l.prog w K mg base CX0 2 f4 _ ["script"] (spSource K) := ok__law_source F4 B
  have D_law_source := Df.mk' F4 G4 (PySem.W.mg_of X G a4) b4
  have G5 : FnOk l.prog w K mg base CX0 2 f5 _ ["source", "limit"] spDraw := ok__law_draw F5 B
  have D_law_draw := Df.mk' F5 G5 (PySem.W.mg_of X G a5) b5
  have G6 : FnOk l.prog w K mg base CX0 3 f6 _ ["source", "limit", "parts"] spNumber := ok__law_number F6 B D_law_draw
  have D_law_number := Df.mk' F6 G6 (PySem.W.mg_of X G a6) b6
  have G7 : FnOk l.prog w K mg base CX0 4 f7 _ ["source", "limit", "parts"] spSigned := ok__law_signed F7 B D_law_number D_law_draw
  have D_law_signed := Df.mk' F7 G7 (PySem.W.mg_of X G a7) b7
  have G8 : FnOk l.prog w K mg base CX0 2 f8 _ ["span"] spLinesSpan := ok__law_lines F8 B
  have D_law_lines := Df.mk' F8 G8 (PySem.W.mg_of X G a8) b8
  have G9 : FnOk l.prog w K mg base CX0 3 f9 _ ["source", "most"] spTexts := ok__law_texts F9 B D_law_draw D_law_lines
  have D_law_texts := Df.mk' F9 G9 (PySem.W.mg_of X G a9) b9
  have G10 : FnOk l.prog w K mg base CX0 2 f10 _ ["actual", "expected"] spInteger := ok__law_integer F10 B
  have D_law_integer := Df.mk' F10 G10 (PySem.W.mg_of X G a10) b10
  have G11 : FnOk l.prog w K mg base CX0 2 f11 _ ["texts", "start"] spLawStepZ := ok__law_step F11 B
  have D_law_step := Df.mk' F11 G11 (PySem.W.mg_of X G a11) b11
  have G12 : FnOk l.prog w K mg base CX0 2 f12 _ ["number"] spCheckNumber := ok_check_number F12 B
  have D_check_number := Df.mk' F12 G12 (PySem.W.mg_of X G a12) b12
  have G13 : FnOk l.prog w K mg base CX0 2 f13 _ ["post"] spCheckHalf := ok_check_half_post F13 B
  have D_check_half_post := Df.mk' F13 G13 (PySem.W.mg_of X G a13) b13
  have G14 : FnOk l.prog w K mg base CX0 2 f14 _ ["self"] (spWidth C) := ok_Rule_width F14 B T
  have P_width : Pr l.prog w K mg base C "width" 2 (spWidth C) := ⟨_, _, _, T.cl, ⟨a14, g14, t14, _, r14⟩, G14, b14⟩
  have G15 : FnOk l.prog w K mg base CX0 2 f15 _ ["self"] (spHeight C) := ok_Rule_height F15 B T
  have P_height : Pr l.prog w K mg base C "height" 2 (spHeight C) := ⟨_, _, _, T.cl, ⟨a15, g15, t15, _, r15⟩, G15, b15⟩
  have G16 : FnOk l.prog w K mg base CX0 4 f16 _ ["self", "row", "post"] (spHasRung C) := ok_Rule_has_rung F16 B T D_check_number D_check_half_post P_width P_height
  have E_has_rung : Me l.prog w K mg base C "has_rung" 4 ["self", "row", "post"] (spHasRung C) := ⟨_, _, T.cl, ⟨a16, i16, k16⟩, G16, b16⟩
  have G17 : FnOk l.prog w K mg base CX0 5 f17 _ ["rule", "row", "post"] (spPastZ C) := ok__past_row F17 B E_has_rung P_width
  have D_past_row := Df.mk' F17 G17 (PySem.W.mg_of X G a17) b17
  have G18 : FnOk l.prog w K mg base CX0 6 f18 _ ["rule", "post"] (spStepOf C) := ok_step_of F18 B D_past_row P_height
  have D_step_of := Df.mk' F18 G18 (PySem.W.mg_of X G a18) b18
  have DK_step_of_rule_post : DfK l.prog w K mg base "step_of" 6 ["rule", "post"] (spStepOf C) ["rule", "post"] gApp := ⟨_, _, _, PySem.W.mg_of X G a18, G18, k18, kb_app fun us ws h1 h2 => match us, ws, h1, h2 with | [], [_, _], _, _ => rfl⟩
  exact ok_law F19 B T G_Rule D_law_source D_law_draw D_law_signed D_law_texts D_law_integer D_law_step D_step_of DK_step_of_rule_post M_Rule
theorem walk {l : PySem.W.OpenLaw} {q : Program} {loose : List Str} {XP : (Str → Option Value) → Heap → Prop} {YP : World → Heap → Prop} {d : DefRec} {K : Params → PySem.W.Frag} (hn : l.most = some 63) (hdf : d.params.defaults = [])
    (hY : ∀ (w : World) (h : Heap), YP w h → (K w.params).In h)
    (F : ∀ (w : World) (mg : Str → Option Value) (fa : Addr) (h : Heap), (K w.params).In h → h.Ns mainGlobals mg → mg d.name = some (.ref fa) →
      ∃ fd : FuncData, (∀ (s : Shared) (u : Value), BindsTo s fd ⟨[u], []⟩ [("script", u)]) ∧ ∀ base : Heap, (K w.params).In base → base.Ns mainGlobals mg → FnOk l.prog w (K w.params) mg base CX0 7 fa fd ["script"] (spLaw (K w.params))) :
    PySem.W.WalkO q loose XP YP l.row.toRowW d [] (fun f vs => PySem.call f vs) :=
  L2.walk_of (n := 63) (k := 7) (x := "script") (CX := fun _ => CX0) (sp := fun w => spLaw (K w.params)) hn (by decide) hdf ⟨rfl, by decide, by decide⟩ hY F (fun _ _ a ns hl _ hS => ⟨a, ns, rfl, hS, hl, fun _ => rfl⟩) fun _ _ _ _ _ z => z
end Rg
open PySem PySem.W PyProof.Rows
set_option maxRecDepth 100000 in
set_option maxHeartbeats 0 in
theorem PySem.Challenge.cw_rungrepeats_k19_steps_on_the_endless_row_holds : PySem.Challenge.rw_rungrepeats_k19_steps_on_the_endless_row.Holds := by
  w_on; o_law; k_head; (case hw => w_witness2)
  k_fill
  refine Rg.walk (l := PySem.Challenge.rw_rungrepeats_k19_steps_on_the_endless_row) rfl rfl (fun w h Y => PySem.W.kIn_of Y) ?F
  case F =>
    intro w mg fa h KX G hmg
    refine' Rg.all_mk KX G hmg ?aCRule ?a1 ?l1 ?c1 ?k1 ?a2 ?l2 ?c2 ?k2 ?a3 ?i3 ?l3 ?c3 ?k3 ?a4 ?l4 ?c4 ?k4 ?a5 ?l5 ?c5 ?k5 ?a6 ?l6 ?c6 ?k6 ?a7 ?l7 ?c7 ?k7 ?a8 ?l8 ?c8 ?k8 ?a9 ?l9 ?c9 ?k9 ?a10 ?l10 ?c10 ?k10 ?a11 ?l11 ?c11 ?k11 ?a12 ?l12 ?c12 ?k12 ?a13 ?l13 ?c13 ?k13 ?a14 ?g14 ?t14 ?r14 ?l14 ?c14 ?k14 ?a15 ?g15 ?t15 ?r15 ?l15 ?c15 ?k15 ?a16 ?i16 ?l16 ?c16 ?k16 ?a17 ?l17 ?c17 ?k17 ?a18 ?l18 ?c18 ?k18 ?a19 ?l19 ?c19 ?k19 ?pg ?hd ?po ?sa ?mk ?kc ?nR ?cl1 ?cl2 ?cl3 ?cl4 ?sf ?zlen ?zint ?zrange ?zlist ?ztuple ?zisinstance ?zall ?zany ?zbool ?zstr ?zmin ?zmax ?zabs ?zsum ?zsorted ?zset ?zValueError
    (case aCRule => k_is)
    (case a1 => k_is)
    (case l1 => k_is)
    (case c1 => k_is)
    (case k1 => k_is)
    (case a2 => k_is)
    (case l2 => k_is)
    (case c2 => k_is)
    (case k2 => k_is)
    (case a3 => k_is)
    (case i3 => k_is)
    (case l3 => k_is)
    (case c3 => k_is)
    (case k3 => k_is)
    (case a4 => k_is)
    (case l4 => k_is)
    (case c4 => k_is)
    (case k4 => k_is)
    (case a5 => k_is)
    (case l5 => k_is)
    (case c5 => k_is)
    (case k5 => k_is)
    (case a6 => k_is)
    (case l6 => k_is)
    (case c6 => k_is)
    (case k6 => k_is)
    (case a7 => k_is)
    (case l7 => k_is)
    (case c7 => k_is)
    (case k7 => k_is)
    (case a8 => k_is)
    (case l8 => k_is)
    (case c8 => k_is)
    (case k8 => k_is)
    (case a9 => k_is)
    (case l9 => k_is)
    (case c9 => k_is)
    (case k9 => k_is)
    (case a10 => k_is)
    (case l10 => k_is)
    (case c10 => k_is)
    (case k10 => k_is)
    (case a11 => k_is)
    (case l11 => k_is)
    (case c11 => k_is)
    (case k11 => k_is)
    (case a12 => k_is)
    (case l12 => k_is)
    (case c12 => k_is)
    (case k12 => k_is)
    (case a13 => k_is)
    (case l13 => k_is)
    (case c13 => k_is)
    (case k13 => k_is)
    (case a14 => k_is)
    (case g14 => k_is)
    (case t14 => k_is)
    (case r14 => k_is)
    (case l14 => k_is)
    (case c14 => k_is)
    (case k14 => k_is)
    (case a15 => k_is)
    (case g15 => k_is)
    (case t15 => k_is)
    (case r15 => k_is)
    (case l15 => k_is)
    (case c15 => k_is)
    (case k15 => k_is)
    (case a16 => k_is)
    (case i16 => k_is)
    (case l16 => k_is)
    (case c16 => k_is)
    (case k16 => k_is)
    (case a17 => k_is)
    (case l17 => k_is)
    (case c17 => k_is)
    (case k17 => k_is)
    (case a18 => k_is)
    (case l18 => k_is)
    (case c18 => k_is)
    (case k18 => k_is)
    (case a19 => k_is)
    (case l19 => k_is)
    (case c19 => k_is)
    (case k19 => k_is)
    (case pg => k_is)
    (case hd => k_is)
    (case po => k_is)
    (case sa => k_is)
    (case mk => k_is)
    (case kc => k_is)
    (case nR => k_is)
    (case cl1 => k_is)
    (case cl2 => k_is)
    (case cl3 => k_is)
    (case cl4 => k_is)
    (case sf => k_is)
    (case zlen => k_is)
    (case zint => k_is)
    (case zrange => k_is)
    (case zlist => k_is)
    (case ztuple => k_is)
    (case zisinstance => k_is)
    (case zall => k_is)
    (case zany => k_is)
    (case zbool => k_is)
    (case zstr => k_is)
    (case zmin => k_is)
    (case zmax => k_is)
    (case zabs => k_is)
    (case zsum => k_is)
    (case zsorted => k_is)
    (case zset => k_is)
    (case zValueError => k_is)
