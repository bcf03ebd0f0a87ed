import PyProof.Rows.All
import Wide.All
import OpenK.AllK
import Wide.FinOn
import HandS.ForMost
import HandS.IsInst
import HandS.Property
import HandS.Wide
import HandS.Gcd
import HandS.More
import HandS.OwnEq
import HandS.Style
import KE.KMathGC
import HandS.Strs
import HandS.Conv
import PySem.Challenge.RW_rungrepeats_k11_rungs_of_made_rules
set_option Elab.async false
set_option maxRecDepth 100000
set_option maxHeartbeats 4000000
set_option linter.unusedVariables false
/-! own words, shared by the proofs of this program's laws -/
namespace Rg
open PySem L2 TL

/-- the built-ins that are read are not shadowed -/
structure Bi (mg : Str → Option Value) : Prop where
  len_ : mg "len" = none
  int_ : mg "int" = none
  range_ : mg "range" = none
  list_ : mg "list" = none
  tuple_ : mg "tuple" = none
  isinstance_ : mg "isinstance" = none
  all_ : mg "all" = none
  any_ : mg "any" = none
  bool_ : mg "bool" = none
  str_ : mg "str" = none
  min_ : mg "min" = none
  max_ : mg "max" = none
  abs_ : mg "abs" = none
  sum_ : mg "sum" = none
  sorted_ : mg "sorted" = none
  set_ : mg "set" = none
  ValueError_ : mg "ValueError" = none

/-- a def of the module that keeps a promise -/
structure Df (P : Program) (w : World) (K : PySem.W.Frag) (mg : Str → Option Value) (base : Heap) (x : Str) (k : Nat) (ps : List Str) (sp : Sp) : Prop where
  ex : ∃ f fd, mg x = some (.ref f) ∧ FnOk P w K mg base CX0 k f fd ps sp ∧ PySem.W.keepIn K (.ref f) = true ∧ Binds K fd ps []
section
variable {X : Cx} {x : Str} {k : Nat} {ps : List Str} {sp : Sp} {e : Expr} {es : List Expr} {t : TA} {p pos : Pos}
theorem pe_df (D : Df X.prog X.w X.K X.mg X.base x k ps sp) (hr : Room k X.A) (hg : Gl X x) (ha : PA X (e :: es) t) (hdb : (x == ("__debug__" : Str)) = false := by decide)
    (he : starEach (e :: es) X.env = (false, eval e X.env) :: starEach es X.env := by rfl) (hpl : (backTo pos (starEach es X.env)).any (·.1) = false := by rfl) :
    PE X (.Call (.Name x p) (e :: es) [] pos) (tCall sp [] E0 t) := by
  obtain ⟨f, fd, hm, F, hk, hb⟩ := D.ex
  exact pe_call F hr hg hm hk hb .nil pass0 ha hdb he hpl
end
theorem Df.mk' {P : Program} {w : World} {K : PySem.W.Frag} {mg : Str → Option Value} {base : Heap} {x q : Str} {st : Stmt} {k : Nat} {ps : List Str} {sp : Sp} {f : Addr} {fd : FuncData} (F : Fun K x q st f fd) (G : FnOk P w K mg base CX0 k f fd ps sp)
    (hm : mg x = some (.ref f)) (hb : Binds K fd ps []) : Df P w K mg base x k ps sp := ⟨f, fd, hm, G, F.kp, hb⟩

/-- an own class: made by an __init__ that keeps sp -/
structure Mkr (P : Program) (w : World) (K : PySem.W.Frag) (mg : Str → Option Value) (base : Heap) (x : Str) (C : Addr) (k : Nat) (ps : List Str) (sp : Sp) : Prop where
  ex : ∃ f fd, mg x = some (.ref C) ∧ Mk K C f ∧ FnOk P w K mg base CX0 k f fd ps sp ∧ Binds K fd ps []
/-- a property of the class at C -/
structure Pr (P : Program) (w : World) (K : PySem.W.Frag) (mg : Str → Option Value) (base : Heap) (C : Addr) (x : Str) (k : Nat) (sp : Sp) : Prop where
  ex : ∃ p g fd, Cls K C ∧ PropOf K C x p g ∧ FnOk P w K mg base CX0 k g fd ["self"] sp ∧ Binds K fd ["self"] []
/-- a method of the class at C -/
structure Me (P : Program) (w : World) (K : PySem.W.Frag) (mg : Str → Option Value) (base : Heap) (C : Addr) (x : Str) (k : Nat) (ps : List Str) (sp : Sp) : Prop where
  ex : ∃ f fd, Cls K C ∧ Meth K C x f ∧ FnOk P w K mg base CX0 k f fd ps sp ∧ Binds K fd ps []
section
variable {X : Cx} {x m : Str} {k : Nat} {C : Addr} {ps : List Str} {sp : Sp} {o e : Expr} {es : List Expr} {ta : TE} {t : TA} {p pos apos : Pos}
theorem pe_mk (M : Mkr X.prog X.w X.K X.mg X.base x C k ps sp) (hr : Room (k + 1) X.A) (hg : Gl X x) (ha : PA X (e :: es) t) (hdb : (x == ("__debug__" : Str)) = false := by decide)
    (he : starEach (e :: es) X.env = (false, eval e X.env) :: starEach es X.env := by rfl) (hpl : (backTo pos (starEach es X.env)).any (·.1) = false := by rfl) :
    PE X (.Call (.Name x p) (e :: es) [] pos) (tMake C sp [] E0 t) := by
  obtain ⟨f, fd, hm, M, F, hb⟩ := M.ex
  exact pe_make M F hr hg hm hb .nil pass0 ha hdb he hpl
theorem pe_pr (he : PE X o ta) (D : Pr X.prog X.w X.K X.mg X.base C x k sp) (hr : Room (k + 1) X.A) (hab : attributeBase o x X.env (eval o X.env) = eval o X.env) : PE X (.Attribute o x pos) (tProp C sp [] E0 ta) := by
  obtain ⟨p, g, fd, c, hp, F, hb⟩ := D.ex
  exact pe_prop he c hp F hr hb .nil pass0 hab
theorem pe_me {pl : Sem Bool} (he : PE X o ta) (D : Me X.prog X.w X.K X.mg X.base C m k ps sp) (hr : Room k X.A) (ha : PA X (e :: es) t)
    (hst : starEach (e :: es) X.env = (false, eval e X.env) :: starEach es X.env := by rfl) (hpl : (backTo pos (starEach es X.env)).any (·.1) = false := by rfl)
    (ht : eval (.Call (.Attribute o m apos) (e :: es) [] pos) X.env = (do
      let ov ← eval o X.env
      standAt apos.atName
      let (f, first) ← holding [ov] (getMethod ov m pl)
      callWith pos f first (backTo pos (starEach (e :: es) X.env)) (backToKw pos (keywordEach [] X.env))) := by rfl) :
    PE X (.Call (.Attribute o m apos) (e :: es) [] pos) (tMeth C m sp [] E0 ta t) := by
  obtain ⟨f, fd, c, hm, F, hb⟩ := D.ex
  exact pe_meth he c hm F hr hb .nil pass0 ha hst hpl ht
theorem pe_me0 {pl : Sem Bool} (he : PE X o ta) (D : Me X.prog X.w X.K X.mg X.base C m k ps sp) (hr : Room k X.A)
    (ht : eval (.Call (.Attribute o m apos) [] [] pos) X.env = (do
      let ov ← eval o X.env
      standAt apos.atName
      let (f, first) ← holding [ov] (getMethod ov m pl)
      callWith pos f first (backTo pos (starEach [] X.env)) (backToKw pos (keywordEach [] X.env))) := by rfl) :
    PE X (.Call (.Attribute o m apos) [] [] pos) (tMeth C m sp [] E0 ta tNil) := by
  obtain ⟨f, fd, c, hm, F, hb⟩ := D.ex
  exact pe_meth0 he c hm F hr hb .nil pass0 ht
end

/-! ### a text many times -/
theorem foldl_nat (items : Array Nat) : ∀ (k : Nat) (acc : Array Nat), List.foldl (fun x1 x2 => x1 ++ x2) acc (List.replicate k items) = (acc.toList ++ (List.replicate k items.toList).flatten).toArray
  | 0, acc => by simp
  | k + 1, acc => by simp [List.replicate_succ, foldl_nat items k, List.append_assoc]
theorem mul_tl (z : Str) (n : Int) (h : 1 ≤ n) : Txt.mul z n = ⟨((List.replicate n.toNat (tl z)).flatten).toArray⟩ := by
  unfold Txt.mul
  rw [if_neg (by omega)]
  by_cases h1 : (n == 1 || z.length == 0) = true
  · rw [if_pos h1]
    refine ext_tl ?_
    show tl z = (List.replicate n.toNat (tl z)).flatten
    rw [Bool.or_eq_true, beq_iff_eq, beq_iff_eq] at h1
    rcases h1 with e | e
    · subst e
      simp
    · have e2 : tl z = [] := by
        rw [len_tl] at e
        exact List.length_eq_zero_iff.mp e
      rw [e2]
      simp
  · rw [if_neg h1]
    congr 1
    show List.foldl (fun x1 x2 => x1 ++ x2) #[] (List.replicate n.toNat z.cps) = _
    rw [foldl_nat]
    simp [tl]
def rRepS : R2 := fun x y H Q => ∃ z n, x = .str z ∧ y = .int n ∧ 1 ≤ n ∧ n < 2 ^ 63 ∧ z.length * n.toNat ≤ sizeLine ∧ Q (.str ⟨((List.replicate n.toNat (tl z)).flatten).toArray⟩) H
theorem op_rep_str {X : Cx} : OpR X (binaryOp .Mult) rRepS := by
  intro pins s σ H x y v u Q I rx ry h
  obtain ⟨z, n, rfl, rfl, h1, h63, hz, q⟩ := h
  obtain ⟨t, rfl⟩ := rx
  obtain ⟨t', rfl⟩ := ry
  have hp : ((z.length : Int)) * n ≤ 2 ^ 24 := by
    have e : ((z.length * n.toNat : Nat) : Int) ≤ ((2 ^ 24 : Nat) : Int) := Int.ofNat_le.mpr hz
    rw [Int.natCast_mul, Int.toNat_of_nonneg (by omega)] at e
    exact e
  refine SB.mul ⟨?_, fun _ _ => ?_, fun _ _ => ?_⟩ fun t2 k => ?_
  · rw [decide_eq_false (by omega), decide_eq_false (by omega)]
    rfl
  · have := (Int.le_ediv_iff_mul_le (a := (z.length : Int)) (b := 2 ^ 63 - 1) (c := n) (by omega)).mpr (by omega)
    omega
  · exact decide_eq_false (by omega)
  · rw [mul_tl z n h1]
    exact ⟨.str _, H, I.tok _, ⟨_, rfl⟩, q⟩

abbrev rLenSeq (K : PySem.W.Frag) : List V → Hp → VK → Prop := fun xs H Q => ∃ p ys, xs = [.ref p] ∧ (SqL K H p ys ∨ SqT K H p ys) ∧ Q (.int ys.length) H
abbrev rJoin (K : PySem.W.Frag) : V → List V → Hp → VK → Prop := fun x xs H Q => ∃ a p, ∃ ys : List Str, x = .str a ∧ xs = [.ref p] ∧ (SqL K H p (ys.map V.str) ∨ SqT K H p (ys.map V.str)) ∧
    (ys.map (·.length)).sum + ys.length * a.length ≤ 16777216 ∧ Q (.str (Txt.join a ys)) H
/-! ### sides -/
theorem cp60 : CPow 10 60 := ⟨by decide, by decide, by decide⟩
theorem cp18 : CPow 10 18 := ⟨by decide, by decide, by decide⟩
theorem cp61 : CPow 10 61 := ⟨by decide, by decide, by decide⟩
theorem cp20 : CPow 10 20 := ⟨by decide, by decide, by decide⟩
theorem cp30 : CPow 10 30 := ⟨by decide, by decide, by decide⟩
theorem cm60 : CMulW ((10 : Int) ^ (60 : Int).toNat) ((10 : Int) ^ (60 : Int).toNat) := by
  show _ < _
  decide +kernel
theorem ps60 : (0 : Int) < (10 : Int) ^ (60 : Int).toNat * (10 : Int) ^ (60 : Int).toNat := by decide +kernel
/-- what is drawn: as many as the limits, each from 0 on below its limit -/
def Drawn (ds ls : List Int) : Prop := ds.length = ls.length ∧ ∀ (i : Nat) (d l : Int), ds[i]? = some d → ls[i]? = some l → 0 ≤ d ∧ d < l
theorem Drawn.at {ds ls : List Int} (h : Drawn ds ls) {i : Nat} {l : Int} (e : ls[i]? = some l) : ∃ d, (ds.map V.int)[i]? = some (V.int d) ∧ ds[i]? = some d ∧ 0 ≤ d ∧ d < l := by
  have hi := (List.getElem?_eq_some_iff.mp e).1
  rw [← h.1] at hi
  refine ⟨ds[i], ?_, List.getElem?_eq_getElem hi, h.2 i _ l (List.getElem?_eq_getElem hi) e⟩
  rw [List.getElem?_map, List.getElem?_eq_getElem hi]
  rfl
theorem getV {ns : List Int} {i : Nat} (h : i < ns.length) : (ns.map V.int)[i]? = some (V.int ns[i]) := by
  rw [List.getElem?_map, List.getElem?_eq_getElem h]
  rfl
theorem getS {ns : List Str} {i : Nat} (h : i < ns.length) : (ns.map V.str)[i]? = some (V.str ns[i]) := by
  rw [List.getElem?_map, List.getElem?_eq_getElem h]
  rfl
/-- an index that is a number -/
theorem atI_k {xs : List V} {i : Int} {v : V} (k : Nat) (e : i = (k : Int)) (h : xs[k]? = some v) : atI xs i = some v := by
  subst e
  exact atI_nat h
theorem atI_k' {α : Type} {xs : List α} {i : Int} {v : α} (k : Nat) (e : i = (k : Int)) (h : xs[k]? = some v) : atI xs i = some v := by
  subst e
  exact atI_nat h
theorem ixN_nat {n p : Nat} (h : p < n) : ixN n (p : Int) = some p := by
  unfold ixN
  rw [if_pos (by omega), if_pos (by omega)]
  rfl
theorem _root_.L2.Same.upd {H : Hp} {p : Addr} {o : HO} (h : H p = none) : Same H (upd H p o) := fun b u e => by rw [upd_ne (ne_of_none e h)]; exact e
theorem _root_.L2.Same.up {H H1 : Hp} {p : Addr} {o : HO} (s : Same H H1) (h : H1 p = none) : Same H (L2.upd H1 p o) := s.trans (L2.Same.upd h)
/-- an object that is new with regard to H may be changed -/
theorem _root_.L2.Same.put {H H1 : Hp} {p : Addr} {o : HO} (s : Same H H1) (h : H p = none) : Same H (L2.upd H1 p o) := fun b u e => by rw [upd_ne (ne_of_none e h)]; exact s b u e

/-! ### len of an object with its own __len__ -/
def rLenOwn (C : Addr) (sp : Sp) : List V → Hp → VK → Prop := fun xs H Q => ∃ a dx fs, xs = [.ref a] ∧ H a = some (.ins C dx fs) ∧ sp [.ref a] H (fun v H' => ∃ n : Int, v = .int n ∧ (0 ≤ n ∧ n < 2 ^ 63) ∧ Q (.int n) H') E0
theorem call_lenR {X : Cx} {C : Addr} {k : Nat} {sp : Sp} (D : Me X.prog X.w X.K X.mg X.base C "__len__" k ["self"] sp) (hr : Room (k + 1) X.A) : CallR X (.builtin "len") (rLenOwn C sp) := by
  intro pins s σ H xs us Q I r h
  obtain ⟨a, dx, fs, rfl, ea, q⟩ := h
  obtain ⟨f, fd, c, hm, F, hb⟩ := D.ex
  cases r with
  | cons rv rn =>
    cases rn
    obtain rfl := (show _ = Value.ref a from rv)
    obtain ⟨mA, O, _⟩ := ins_get I.hok ea
    obtain ⟨od, J, _⟩ := O.look
    refine Calls.call_function_entry PySem.kind_len PySem.plain_len PySem.entry_len (PySem.args_len1 _) ?_
    unfold Builtin.«len»
    refine wpAny_bind (m := oneArg "len" _) (wpAny_pure ?_)
    refine wpAny_bind (m := callSpecial? (.ref a) (Str.ofString "__len__")) (PySem.W.special_fn I.kIn J hm.at_ (beq_iff_eq.mp hm.fn) ?_)
    refine wpAny_call (codeAny_mono (F.run X.A.in1 X.stack s H ⟨[.ref a], []⟩ [.ref a] [.ref a] _ E0 hr.in1 I.env0.in1 (hb _ [.ref a] I.kIn rfl) (.cons rfl .nil) q) fun r s' hq => ?_)
    cases r with
    | error e => exact False.elim hq
    | ok fl =>
      cases fl with
      | ret u =>
        obtain ⟨v, H', I3, rv, n, rfl, ⟨h0, h1⟩, q3⟩ := I.after hq
        obtain ⟨t, rfl⟩ := rv
        refine wpAny_bind (wpAny_holding (wpAny_pure ?_))
        refine wpAny_bind (wpAny_letGo ?_)
        show wpAny _ _ (if n < 0 then _ else _) _ _ _
        rw [if_neg (by omega)]
        show wpAny _ _ (if n ≥ 2 ^ 63 then _ else _) _ _ _
        rw [if_neg (by omega)]
        exact wpAny_bind (wpAny_mkInt (wpAny_pure ⟨_, rfl, ⟨.int n, H', I3.tok _, ⟨_, rfl⟩, q3⟩⟩))
      | next => exact False.elim hq
      | brk => exact False.elim hq
      | cont => exact False.elim hq
theorem atI_back {α : Type} {xs : List α} {v : α} (h : xs[xs.length - 1]? = some v) : atI xs (-1) = some v := by
  have hl := (List.getElem?_eq_some_iff.mp h).1
  unfold atI ixN
  rw [if_neg (by omega), if_pos (by omega)]
  show xs[((-1 : Int) + (xs.length : Int)).toNat]? = some v
  rw [show ((-1 : Int) + (xs.length : Int)).toNat = xs.length - 1 by omega]
  exact h
/-- what follows an if is shown once, for all that W says -/
theorem cutIf {b : Bool} {A : Prop} {D : Ends} {σ : St} {H : Hp} (W : St → Hp → Prop) (hT : ∀ σ' H', W σ' H' → D.nx σ' H') (hA : (∀ σ' H', W σ' H' → D.nx σ' H') → b = true → A) (hB : b = false → W σ H) : if b = true then A else tNext D σ H := by
  cases b with
  | true => exact hA hT rfl
  | false => exact hT σ H (hB rfl)
theorem cutIf2 {b : Bool} {A B : Prop} {D : Ends} (W : St → Hp → Prop) (hT : ∀ σ' H', W σ' H' → D.nx σ' H') (hA : (∀ σ' H', W σ' H' → D.nx σ' H') → b = true → A) (hB : (∀ σ' H', W σ' H' → D.nx σ' H') → b = false → B) : if b = true then A else B := by
  cases b with
  | true => exact hA hT rfl
  | false => exact hB hT rfl
/-- a new object -/
theorem nw {H H1 : Hp} {p : Addr} {o : HO} (e : upd H p o = H1) (h : H p = none) : Same H H1 ∧ H1 p = some o := by
  subst e
  exact ⟨L2.Same.upd h, upd_same⟩
theorem cutAnd {b : Bool} {A A2 : Prop} {D : Ends} {σ : St} {H : Hp} (W : St → Hp → Prop) (hT : ∀ σ' H', W σ' H' → D.nx σ' H') (hA : (∀ σ' H', W σ' H' → D.nx σ' H') → b = true → A) (hB : b = false → W σ H) :
    if b = true then A else (if false = true then A2 else tNext D σ H) := by
  cases b with
  | true => exact hA hT rfl
  | false => exact hT σ H (hB rfl)
/-- a power of a great number -/
def CPowW (i j : Int) : Prop := 0 ≤ j ∧ ∃ k : Nat, i.natAbs < 2 ^ k ∧ (k : Int) * j ≤ 2 ^ 27
theorem op_powW {X : Cx} : OpR X (binaryOp .Pow) (rI CPowW fun i j => .int (i ^ j.toNat)) := opI fun _ _ _ _ _ _ _ hc q => by
  obtain ⟨h0, k, hk, hz⟩ := hc
  refine PyProof.Rows.pow_int h0 (Int.le_trans (Int.mul_le_mul_of_nonneg_right (Int.ofNat_le.mpr (PyProof.Rows.intBits_le hk)) h0) hz) q
end Rg
/-! own mathematics: rows -/
namespace Rg
open PySem L2 TL

/-! ### how often one sign stands in a text -/
theorem cnt_run (x : Str) (c limit : Nat) : ∀ (m cur : Nat) (st : Array Nat × Nat), st.snd ≤ cur → st.fst.size + m ≤ limit →
    (forIn (List.range' cur m) st (StrLaws.occBody x ⟨#[c]⟩ x.length limit)).run.fst.size = st.fst.size + (((x.cps.toList).drop cur).take m).count c
  | 0, cur, st, h, _ => by simp
  | m + 1, cur, st, h, hl => by
    rw [List.range'_succ, List.forIn_cons]
    unfold StrLaws.occBody
    by_cases hc : x.cps.toList[cur]? = some c
    · have h2 := (StrLaws.subAt_one x c cur).mpr hc
      rw [if_pos ⟨⟨⟨by omega, h⟩, h2.1⟩, h2.2⟩]
      have ih := cnt_run x c limit m (cur + 1) (st.fst.push cur, cur + 1) (Nat.le_refl _) (by show (st.fst.push cur).size + m ≤ limit; rw [Array.size_push]; omega)
      obtain ⟨hlt, hget⟩ := List.getElem?_eq_some_iff.mp hc
      have e : (x.cps.toList.drop cur).take (m + 1) = c :: (x.cps.toList.drop (cur + 1)).take m := by
        rw [List.drop_eq_getElem_cons hlt, List.take_succ_cons, hget]
      refine Eq.trans ih ?_
      rw [e, List.count_cons_self]
      show (st.fst.push cur).size + _ = _
      rw [Array.size_push]
      omega
    · rw [if_neg fun z => hc ((StrLaws.subAt_one x c cur).mp ⟨z.1.2, z.2⟩)]
      have ih := cnt_run x c limit m (cur + 1) (st.fst, st.snd) (Nat.le_succ_of_le h) (by show st.fst.size + m ≤ limit; omega)
      refine Eq.trans ih ?_
      show st.fst.size + _ = _
      by_cases hlt : cur < x.cps.toList.length
      · have e : (x.cps.toList.drop cur).take (m + 1) = x.cps.toList[cur] :: (x.cps.toList.drop (cur + 1)).take m := by
          rw [List.drop_eq_getElem_cons hlt, List.take_succ_cons]
        have hne : ¬ (x.cps.toList[cur] == c) = true := fun z => hc (by rw [List.getElem?_eq_getElem hlt, beq_iff_eq.mp z])
        rw [e, List.count_cons_of_ne (fun z => hne (beq_iff_eq.mpr z))]
      · rw [List.drop_of_length_le (by omega), List.drop_of_length_le (by omega)]
        simp
theorem count_one (x : Str) (c : Nat) : Txt.count x ⟨#[c]⟩ = ((tl x).count c : Nat) := by
  show (((Builtin.Str.occurrences x ⟨#[c]⟩ 0 x.length (x.length + 1)).length : Nat) : Int) = _
  rw [StrLaws.occ_eq]
  have h := cnt_run x c (x.length + 1) (x.length + 1 - 0) 0 ((#[] : Array Nat), 0) (Nat.le_refl _) (by simp)
  rw [Array.length_toList, h]
  have e : ((x.cps.toList.drop 0).take (x.length + 1 - 0)) = x.cps.toList := by
    rw [List.drop_zero, List.take_of_length_le]
    show x.cps.toList.length ≤ x.cps.size + 1
    simp
  rw [e]
  simp [tl]

/-! ### rows -/
/-- the sign number i, modulo the length -/
def sg (l : List Nat) (i : Int) : Nat := l.getD (i % (l.length : Int)).toNat 0
def Signs (l : List Nat) : Prop := ∀ c ∈ l, c = 45 ∨ c = 46
structure Row (l : List Nat) : Prop where
  ne : 0 < l.length
  sgn : Signs l
  gap : ∀ i : Int, ¬ (sg l i = 45 ∧ sg l (i + 1) = 45)
theorem place_lt {l : List Nat} (h : 0 < l.length) (i : Int) : (i % (l.length : Int)).toNat < l.length := by
  have h1 := Int.emod_nonneg i (show (l.length : Int) ≠ 0 by omega)
  have h2 := Int.emod_lt_of_pos i (show (0 : Int) < l.length by omega)
  omega
theorem sg_get {l : List Nat} (h : 0 < l.length) (i : Int) : l[(i % (l.length : Int)).toNat]? = some (sg l i) := by
  unfold sg
  rw [List.getD_eq_getElem?_getD, List.getElem?_eq_getElem (place_lt h i)]
  rfl
theorem sg_nat {l : List Nat} {k : Nat} (h : k < l.length) : l[k]? = some (sg l (k : Int)) := by
  have e : ((k : Int) % (l.length : Int)).toNat = k := by
    rw [Int.emod_eq_of_lt (by omega) (by omega)]
    omega
  have q := sg_get (l := l) (by omega) (k : Int)
  rw [e] at q
  exact q
theorem sg_mem {l : List Nat} (h : 0 < l.length) (i : Int) : sg l i ∈ l := List.mem_of_getElem? (sg_get h i)
theorem sg_congr {l : List Nat} {i j : Int} (h : i % (l.length : Int) = j % (l.length : Int)) : sg l i = sg l j := by
  unfold sg
  rw [h]
theorem sg_add {l : List Nat} (i : Int) : sg l (i + (l.length : Int)) = sg l i := sg_congr (Int.add_emod_right i _)
theorem sg_first {l : List Nat} (h : 0 < l.length) : l[0]? = some (sg l 0) := sg_nat h
/-- what the program looks at: the signs and the first one behind them -/
theorem gap_iff {l : List Nat} (h : 0 < l.length) : (∀ i : Int, ¬ (sg l i = 45 ∧ sg l (i + 1) = 45)) ↔ ∀ i : Nat, ¬ ((l ++ l.take 1)[i]? = some 45 ∧ (l ++ l.take 1)[i + 1]? = some 45) := by
  have hn : ∀ k : Nat, k ≤ l.length → (l ++ l.take 1)[k]? = some (sg l (k : Int)) := fun k hk => by
    by_cases h1 : k < l.length
    · rw [List.getElem?_append_left h1]
      exact sg_nat h1
    · have e : k = l.length := by omega
      subst e
      rw [List.getElem?_append_right (Nat.le_refl _), Nat.sub_self, List.getElem?_take_of_lt (by omega), sg_first h]
      have q := sg_add (l := l) 0
      rw [Int.zero_add] at q
      rw [q]
  have hlen : (l ++ l.take 1).length = l.length + 1 := by
    rw [List.length_append, List.length_take]
    omega
  constructor
  · rintro g i ⟨h1, h2⟩
    have hi := (List.getElem?_eq_some_iff.mp h2).1
    rw [hlen] at hi
    rw [hn i (by omega)] at h1
    rw [hn (i + 1) (by omega)] at h2
    exact g (i : Int) ⟨Option.some.inj h1, by simpa using h2⟩
  · rintro g i ⟨h1, h2⟩
    have hp := place_lt h i
    have h0 := Int.emod_nonneg i (show (l.length : Int) ≠ 0 by omega)
    have e : (((i % (l.length : Int)).toNat : Nat) : Int) = i % (l.length : Int) := Int.toNat_of_nonneg h0
    have a1 : sg l (((i % (l.length : Int)).toNat : Nat) : Int) = sg l i := sg_congr (by rw [e, Int.emod_emod])
    have a2 : sg l ((((i % (l.length : Int)).toNat + 1 : Nat) : Nat) : Int) = sg l (i + 1) := sg_congr (by
      rw [Int.natCast_add, e]
      show (i % (l.length : Int) + 1) % (l.length : Int) = (i + 1) % (l.length : Int)
      rw [Int.emod_add_emod])
    refine g (i % (l.length : Int)).toNat ⟨?_, ?_⟩
    · rw [hn _ (by omega), a1, h1]
    · rw [hn _ (by omega), a2, h2]
theorem signs_count : ∀ l : List Nat, l.count 45 + l.count 46 ≤ l.length ∧ (l.count 45 + l.count 46 = l.length ↔ Signs l)
  | [] => ⟨by simp, by simp [Signs]⟩
  | a :: l => by
    obtain ⟨h1, h2⟩ := signs_count l
    by_cases e : a = 45
    · subst e
      rw [List.count_cons_self, List.count_cons_of_ne (by decide)]
      refine ⟨by simp; omega, ⟨fun h c hc => ?_, fun h => ?_⟩⟩
      · rcases List.mem_cons.mp hc with rfl | hc
        · exact .inl rfl
        · exact h2.mp (by simp at h; omega) c hc
      · have := h2.mpr fun c hc => h c (List.mem_cons_of_mem _ hc)
        simp; omega
    · by_cases e2 : a = 46
      · subst e2
        rw [List.count_cons_self, List.count_cons_of_ne (by decide)]
        refine ⟨by simp; omega, ⟨fun h c hc => ?_, fun h => ?_⟩⟩
        · rcases List.mem_cons.mp hc with rfl | hc
          · exact .inr rfl
          · exact h2.mp (by simp at h; omega) c hc
        · have := h2.mpr fun c hc => h c (List.mem_cons_of_mem _ hc)
          simp; omega
      · rw [List.count_cons_of_ne (fun z => e z), List.count_cons_of_ne (fun z => e2 z)]
        refine ⟨by simp; omega, ⟨fun h => ?_, fun h => ?_⟩⟩
        · simp at h; omega
        · rcases h a List.mem_cons_self with q | q
          · exact absurd q e
          · exact absurd q e2
/-- a list whose signs are those of a row, one after the other, at other places -/
theorem Row.move {l m : List Nat} (R : Row l) (hm : 0 < m.length) (f : Int → Int) (h : ∀ k : Nat, k < m.length → m[k]? = some (sg l (f k))) (hp : ∀ i : Int, sg l (f (i % (m.length : Int))) = sg l (f i)) (hs : ∀ i : Int, f (i + 1) = f i + 1 ∨ f (i + 1) = f i - 1) : Row m := by
  have key : ∀ i : Int, sg m i = sg l (f i) := fun i => by
    have h1 := sg_get hm i
    rw [h _ (place_lt hm i)] at h1
    have e : (((i % (m.length : Int)).toNat : Nat) : Int) = i % (m.length : Int) := Int.toNat_of_nonneg (Int.emod_nonneg i (by omega))
    rw [e, hp] at h1
    exact (Option.some.inj h1).symm
  refine ⟨hm, fun c hc => ?_, fun i ⟨h1, h2⟩ => ?_⟩
  · obtain ⟨k, hk, e⟩ := List.mem_iff_getElem.mp hc
    have q := h k hk
    rw [List.getElem?_eq_getElem hk, e] at q
    rw [Option.some.inj q]
    exact R.sgn _ (sg_mem R.ne _)
  · rw [key] at h1 h2
    rcases hs i with e | e
    · rw [e] at h2
      exact R.gap (f i) ⟨h1, h2⟩
    · rw [e] at h2
      exact R.gap (f i - 1) ⟨h2, by rw [Int.sub_add_cancel]; exact h1⟩
theorem rep_length (n : Nat) (l : List Nat) : ((List.replicate n l).flatten).length = n * l.length := by simp
theorem rep_get {l : List Nat} (hl : 0 < l.length) : ∀ (n k : Nat), k < n * l.length → ((List.replicate n l).flatten)[k]? = some (sg l (k : Int))
  | 0, k, h => by omega
  | n + 1, k, h => by
    rw [List.replicate_succ, List.flatten_cons]
    by_cases h1 : k < l.length
    · rw [List.getElem?_append_left h1]
      exact sg_nat h1
    · rw [List.getElem?_append_right (by omega), rep_get hl n (k - l.length) (by rw [Nat.succ_mul] at h; omega)]
      have e : ((k : Int)) = ((k - l.length : Nat) : Int) + (l.length : Int) := by omega
      rw [e, sg_add]
theorem Row.rep {l : List Nat} (R : Row l) {n : Nat} (hn : 0 < n) : Row (List.replicate n l).flatten := by
  have hlen := rep_length n l
  refine R.move (f := id) (by rw [hlen]; exact Nat.mul_pos hn R.ne) (fun k hk => rep_get R.ne n k (by rw [← hlen]; exact hk)) (fun i => sg_congr ?_) (fun i => .inl rfl)
  show (i % _) % _ = i % _
  rw [hlen]
  refine Int.emod_emod_of_dvd i ?_
  exact ⟨(n : Int), by rw [Int.natCast_mul, Int.mul_comm]⟩
/-- one sign becomes a point -/
theorem Row.dot {l : List Nat} (R : Row l) (p : Nat) : Row (l.set p 46) := by
  have hlen : (l.set p 46).length = l.length := List.length_set
  have key : ∀ i : Int, sg (l.set p 46) i = 46 ∨ sg (l.set p 46) i = sg l i := fun i => by
    unfold sg
    rw [hlen, List.getD_eq_getElem?_getD, List.getD_eq_getElem?_getD, List.getElem?_set]
    by_cases e : p = (i % (l.length : Int)).toNat
    · rw [if_pos e]
      by_cases h2 : p < l.length
      · rw [if_pos h2]
        exact .inl rfl
      · have := place_lt R.ne i
        omega
    · rw [if_neg e]
      exact .inr rfl
  refine ⟨by rw [hlen]; exact R.ne, fun c hc => ?_, fun i ⟨h1, h2⟩ => ?_⟩
  · rcases List.mem_or_eq_of_mem_set hc with h | h
    · exact R.sgn c h
    · exact .inr h
  · rcases key i with e | e
    · omega
    · rcases key (i + 1) with e2 | e2
      · omega
      · exact R.gap i ⟨by omega, by omega⟩
end Rg
namespace Rg
open PySem L2 TL
theorem take2_drop {l : List Nat} {a b i : Nat} : ((l.drop i).take 2 == [a, b]) = true ↔ l[i]? = some a ∧ l[i + 1]? = some b := by
  have e0 : l[i]? = (l.drop i)[0]? := by rw [List.getElem?_drop]; rfl
  have e1 : l[i + 1]? = (l.drop i)[1]? := by rw [List.getElem?_drop]
  rw [e0, e1, beq_iff_eq]
  cases l.drop i with
  | nil => simp
  | cons x r =>
    cases r with
    | nil => simp
    | cons y r => simp
theorem tl_dd : tl (Str.ofString "--") = [45, 45] := by decide +kernel
theorem dd_iff (y : Str) : (!(Builtin.Str.occurrences y (Str.ofString "--") 0 y.length 1).isEmpty) = true ↔ ∃ i, (tl y)[i]? = some 45 ∧ (tl y)[i + 1]? = some 45 := by
  rw [StrLaws.found_iff]
  have hl : (Str.ofString "--").length = 2 := by decide +kernel
  constructor
  · rintro ⟨i, _, h⟩
    rw [StrLaws.subAt_eq, hl, show (Str.ofString "--").cps.toList = [45, 45] from tl_dd] at h
    exact ⟨i, take2_drop.mp h⟩
  · rintro ⟨i, h⟩
    refine ⟨i, ?_, ?_⟩
    · have := (List.getElem?_eq_some_iff.mp h.2).1
      rw [hl, len_tl]
      omega
    · rw [StrLaws.subAt_eq, hl, show (Str.ofString "--").cps.toList = [45, 45] from tl_dd]
      exact take2_drop.mpr h
/-- what the program asks of a text is that it be a row -/
theorem row_asked {z : Str} {c : Nat} (h0 : 0 < (tl z).length) (hs : (tl z).count 45 + (tl z).count 46 = (tl z).length) (hc : (tl z)[0]? = some c) :
    (!(!(Builtin.Str.occurrences (z ++ (⟨#[c]⟩ : Str)) (Str.ofString "--") 0 (z ++ (⟨#[c]⟩ : Str)).length 1).isEmpty)) = true ↔ Row (tl z) := by
  have e : tl (z ++ (⟨#[c]⟩ : Str)) = tl z ++ (tl z).take 1 := by
    rw [tl_append]
    congr 1
    cases h : tl z with
    | nil => rw [h] at h0; simp at h0
    | cons x r =>
      rw [h] at hc
      have : x = c := by simpa using hc
      subst this
      rfl
  have d := dd_iff (z ++ (⟨#[c]⟩ : Str))
  rw [e] at d
  have g := gap_iff h0
  constructor
  · intro h
    refine ⟨h0, (signs_count _).2.mp hs, g.mpr fun i q => ?_⟩
    have := d.mpr ⟨i, q⟩
    rw [this] at h
    exact absurd h (by decide)
  · intro R
    cases q : (!(Builtin.Str.occurrences (z ++ (⟨#[c]⟩ : Str)) (Str.ofString "--") 0 (z ++ (⟨#[c]⟩ : Str)).length 1).isEmpty) with
    | false => rfl
    | true =>
      obtain ⟨i, hi⟩ := d.mp q
      exact absurd hi (g.mp R.gap i)
end Rg
namespace Rg
open PySem L2 TL
/-! ### a row that grows sign by sign -/
structure Part (n : Nat) (l : List Nat) : Prop where
  sgn : Signs l
  gap : ∀ i : Nat, ¬ (l[i]? = some 45 ∧ l[i + 1]? = some 45)
  fin : l.length = n → ¬ (l[n - 1]? = some 45 ∧ l[0]? = some 45)
theorem Part.nil {n : Nat} (h : 0 < n) : Part n [] := ⟨fun _ h => (nomatch h), fun i h => by simp at h, fun e => by simp at e; omega⟩
theorem Part.add {n : Nat} {l : List Nat} {c : Nat} (p : Part n l) (hc : c = 45 ∨ c = 46) (h1 : c = 45 → l.getLast? ≠ some 45) (h2 : c = 45 → l.length + 1 = n → n ≠ 1 ∧ l[0]? ≠ some 45) : Part n (l ++ [c]) := by
  refine ⟨fun x hx => ?_, fun i ⟨g1, g2⟩ => ?_, fun e ⟨g1, g2⟩ => ?_⟩
  · rcases List.mem_append.mp hx with h | h
    · exact p.sgn x h
    · rw [List.mem_singleton.mp h]
      exact hc
  · have hi := (List.getElem?_eq_some_iff.mp g2).1
    rw [List.length_append, List.length_singleton] at hi
    by_cases hl : i + 1 < l.length
    · rw [List.getElem?_append_left (by omega)] at g1
      rw [List.getElem?_append_left hl] at g2
      exact p.gap i ⟨g1, g2⟩
    · have e : i + 1 = l.length := by omega
      rw [List.getElem?_append_left (by omega)] at g1
      rw [e, List.getElem?_append_right (Nat.le_refl _), Nat.sub_self] at g2
      have ec : c = 45 := by simpa using g2
      refine h1 ec ?_
      rw [List.getLast?_eq_getElem?, show l.length - 1 = i by omega]
      exact g1
  · rw [List.length_append, List.length_singleton] at e
    rw [List.getElem?_append_right (by omega), show n - 1 - l.length = 0 by omega] at g1
    have ec : c = 45 := by simpa using g1
    obtain ⟨a1, a2⟩ := h2 ec e
    rw [List.getElem?_append_left (by omega)] at g2
    exact a2 g2
theorem Part.row {n : Nat} {l : List Nat} (p : Part n l) (e : l.length = n) (h : 0 < n) : Row l := by
  subst e
  refine ⟨h, p.sgn, (gap_iff h).mpr fun i ⟨g1, g2⟩ => ?_⟩
  have hi := (List.getElem?_eq_some_iff.mp g2).1
  rw [List.length_append, List.length_take] at hi
  rw [List.getElem?_append_left (by omega)] at g1
  by_cases hl : i + 1 < l.length
  · rw [List.getElem?_append_left hl] at g2
    exact p.gap i ⟨g1, g2⟩
  · have e : i + 1 = l.length := by omega
    rw [e, List.getElem?_append_right (Nat.le_refl _), Nat.sub_self, List.getElem?_take_of_lt (by omega)] at g2
    exact p.fin rfl ⟨by rw [show l.length - 1 = i by omega]; exact g1, g2⟩
theorem cut_last {z : Str} {c : Nat} (h : (tl z).getLast? = some c) : cutS z (some (-1)) none = ⟨#[c]⟩ := by
  refine ext_tl ?_
  show ((tl z).drop (HT.sIx z.length 0 (some (-1)))).take (HT.sIx z.length z.length none - HT.sIx z.length 0 (some (-1))) = [c]
  have e1 : HT.sIx z.length 0 (some (-1)) = z.length - 1 := by
    show (if (-1 : Int) < 0 then ((-1 : Int) + (z.length : Int)).toNat else min (-1 : Int).toNat z.length) = _
    rw [if_pos (by decide)]
    omega
  have e2 : HT.sIx z.length z.length none = z.length := rfl
  rw [e1, e2, len_tl]
  rw [List.getLast?_eq_getElem?] at h
  obtain ⟨hl, hg⟩ := List.getElem?_eq_some_iff.mp h
  rw [List.drop_eq_getElem_cons hl, hg, show (tl z).length - ((tl z).length - 1) = 1 by omega]
  rfl
/-- the rows of a rule, n signs each -/
structure Rows (n : Nat) (ls : List Str) : Prop where
  ne : 0 < ls.length
  len : ∀ z ∈ ls, (tl z).length = n
  row : ∀ z ∈ ls, Row (tl z)
theorem Rows.pos {n : Nat} {ls : List Str} (h : Rows n ls) : 0 < n := by
  have e := List.getElem_mem h.ne
  rw [← h.len _ e]
  exact (h.row _ e).ne
end Rg
namespace Rg
open PySem L2 TL
/-- a text k times -/
def repS (k : Nat) (z : Str) : Str := ⟨((List.replicate k (tl z)).flatten).toArray⟩
theorem tl_repS (k : Nat) (z : Str) : tl (repS k z) = (List.replicate k (tl z)).flatten := rfl
theorem Rows.mapRep {n k : Nat} {ls : List Str} (R : Rows n ls) (hk : 0 < k) : Rows (k * n) (ls.map (repS k)) := by
  refine ⟨by rw [List.length_map]; exact R.ne, fun z hz => ?_, fun z hz => ?_⟩
  all_goals obtain ⟨y, hy, rfl⟩ := List.mem_map.mp hz
  · rw [tl_repS, rep_length, R.len y hy]
  · rw [tl_repS]
    exact (R.row y hy).rep hk
theorem mem_rep {α : Type} {k : Nat} {l : List α} {x : α} (h : x ∈ (List.replicate k l).flatten) : x ∈ l := by
  rw [List.mem_flatten] at h
  obtain ⟨m, h1, h2⟩ := h
  rw [(List.mem_replicate.mp h1).2] at h2
  exact h2
theorem Rows.many {n k : Nat} {ls : List Str} (R : Rows n ls) (hk : 0 < k) : Rows n (List.replicate k ls).flatten :=
  ⟨by rw [show (List.replicate k ls).flatten.length = k * ls.length by simp]; exact Nat.mul_pos hk R.ne, fun z hz => R.len z (mem_rep hz), fun z hz => R.row z (mem_rep hz)⟩
theorem Rows.set {n : Nat} {ls : List Str} (R : Rows n ls) (p : Nat) {z : Str} (h : (tl z).length = n) (hr : Row (tl z)) : Rows n (ls.set p z) :=
  ⟨by rw [List.length_set]; exact R.ne, fun y hy => (List.mem_or_eq_of_mem_set hy).elim (R.len y) fun e => by rw [e]; exact h, fun y hy => (List.mem_or_eq_of_mem_set hy).elim (R.row y) fun e => by rw [e]; exact hr⟩
theorem rep_map {α β : Type} (f : α → β) (k : Nat) (l : List α) : (List.replicate k (l.map f)).flatten = (List.replicate k l).flatten.map f := by
  rw [List.map_flatten, List.map_replicate]
theorem rep_len' {α : Type} (k : Nat) (l : List α) : (List.replicate k l).flatten.length = k * l.length := by simp
theorem sIx_nat {n d p : Nat} : HT.sIx n d (some (p : Int)) = min p n := by
  show (if (p : Int) < 0 then ((p : Int) + (n : Int)).toNat else min (p : Int).toNat n) = _
  rw [if_neg (by omega)]
  rfl
/-- z[:p] + '.' + z[p + 1:] -/
theorem cut_dot {z s : Str} {p : Nat} (hs : tl s = [46]) (h : p < (tl z).length) : tl (cutS z none (some (p : Int)) ++ s ++ cutS z (some ((p : Int) + 1)) none) = (tl z).set p 46 := by
  rw [tl_append, tl_append, hs]
  have e1 : tl (cutS z none (some (p : Int))) = (tl z).take p := by
    show ((tl z).drop (HT.sIx z.length 0 none)).take (HT.sIx z.length z.length (some (p : Int)) - HT.sIx z.length 0 none) = _
    rw [sIx_nat]
    show ((tl z).drop 0).take (min p z.length - 0) = _
    rw [List.drop_zero, Nat.sub_zero, len_tl, Nat.min_eq_left (Nat.le_of_lt h)]
  have e2 : tl (cutS z (some ((p : Int) + 1)) none) = (tl z).drop (p + 1) := by
    show ((tl z).drop (HT.sIx z.length 0 (some ((p : Int) + 1)))).take (HT.sIx z.length z.length none - HT.sIx z.length 0 (some ((p : Int) + 1))) = _
    rw [show ((p : Int) + 1) = ((p + 1 : Nat) : Int) from rfl, sIx_nat]
    show ((tl z).drop (min (p + 1) z.length)).take (z.length - min (p + 1) z.length) = _
    rw [len_tl, Nat.min_eq_left (by omega), List.take_of_length_le (by rw [List.length_drop]; exact Nat.le_refl _)]
  rw [e1, e2, List.set_eq_take_append_cons_drop, if_pos h, List.append_assoc]
  rfl
theorem Rows.lenS {n : Nat} {ls : List Str} (R : Rows n ls) {z : Str} (h : z ∈ ls) : z.length = n := by rw [len_tl]; exact R.len z h
theorem take_snoc {α β : Type} {f : α → β} {ls : List α} {i : Nat} (h : i < ls.length) : (ls.take (i + 1)).map f = (ls.take i).map f ++ [f ls[i]] := by
  rw [List.take_add_one, List.getElem?_eq_getElem h, List.map_append]
  rfl
end Rg
/-! own words: == of own objects and of lists of texts -/
namespace Rg
open PySem L2 TL
theorem dp_strs {K : PySem.W.Frag} {H : Hp} : ∀ ls : List Str, DpAll K H (ls.map V.str) (ls.map PyData.str)
  | [] => .nil
  | z :: ls => .cons (.str z) (dp_strs ls)
theorem eqvAll_strs : ∀ ls ms : List Str, PyData.eqvAll (ls.map PyData.str) (ms.map PyData.str) = decide (ls = ms)
  | [], [] => rfl
  | [], _ :: _ => rfl
  | _ :: _, [] => rfl
  | x :: ls, y :: ms => by
    show (PyData.eqv (.str x) (.str y) && PyData.eqvAll (ls.map PyData.str) (ms.map PyData.str)) = _
    rw [eqvAll_strs ls ms]
    show ((x == y) && decide (ls = ms)) = _
    by_cases h1 : x = y
    · subst h1
      by_cases h2 : ls = ms
      · subst h2
        simp
      · rw [decide_eq_false h2, decide_eq_false fun e => h2 (List.cons.inj e).2]
        simp
    · rw [decide_eq_false fun e => h1 (List.cons.inj e).1, beq_eq_false_iff_ne.mpr h1]
      rfl
theorem eqv_tup (ls ms : List Str) : PyData.eqv (.tuple (ls.map PyData.str)) (.tuple (ms.map PyData.str)) = decide (ls = ms) := eqvAll_strs ls ms
theorem eqv_lst (ls ms : List Str) : PyData.eqv (.list (ls.map PyData.str)) (.list (ms.map PyData.str)) = decide (ls = ms) := eqvAll_strs ls ms
theorem depth_strs : ∀ ls : List Str, PyData.depthAll (ls.map PyData.str) ≤ 1
  | [] => Nat.zero_le _
  | z :: ls => by
    have ih := depth_strs ls
    simp only [List.map_cons, PyData.depthAll, PyData.depth]
    omega
theorem lay_strs : ∀ ls : List Str, (∀ z ∈ ls, Signs (tl z)) → PyData.canLayAll0 (ls.map PyData.str) = true
  | [], _ => rfl
  | z :: ls, h => by
    have ih := lay_strs ls fun y hy => h y (List.mem_cons_of_mem _ hy)
    show (PyData.strOk z && PyData.canLayAll0 (ls.map PyData.str)) = true
    rw [ih, Bool.and_true]
    show (z.cps.all fun x => decide (x < 0x110000)) = true
    rw [← Array.all_toList, List.all_eq_true]
    intro c hc
    rcases h z List.mem_cons_self c hc with e | e
    · rw [e]; rfl
    · rw [e]; rfl
theorem shaped_tup {ls : List Str} (h : ∀ z ∈ ls, Signs (tl z)) : SeqAt.shaped (.tuple (ls.map PyData.str)) = true := by
  have h1 := lay_strs ls h
  have h2 := depth_strs ls
  show (PyData.canLayAll0 (ls.map PyData.str) && decide (PyData.depth (.tuple (ls.map PyData.str)) ≤ 64)) = true
  rw [h1, Bool.true_and, decide_eq_true_eq]
  simp only [PyData.depth]
  omega
theorem shaped_lst {ls : List Str} (h : ∀ z ∈ ls, Signs (tl z)) : SeqAt.shaped (.list (ls.map PyData.str)) = true := by
  have h1 := lay_strs ls h
  have h2 := depth_strs ls
  show (PyData.canLayAll0 (ls.map PyData.str) && decide (PyData.depth (.list (ls.map PyData.str)) ≤ 64)) = true
  rw [h1, Bool.true_and, decide_eq_true_eq]
  simp only [PyData.depth]
  omega
theorem Rows.signs {n : Nat} {ls : List Str} (R : Rows n ls) : ∀ z ∈ ls, Signs (tl z) := fun z hz => (R.row z hz).sgn

/-! ### == of an object with its own __eq__ -/
def rEqOwn (K : PySem.W.Frag) (C : Addr) (sp : Sp) : R2 := fun x y H Q => ∃ a b dx dy fs gs, x = .ref a ∧ y = .ref b ∧ H a = some (.ins C dx fs) ∧ H b = some (.ins C dy gs) ∧ sp [.ref a, .ref b] H (fun v H' => ∃ k : Bool, v = .bl k ∧ Q (.bl k) H') E0
theorem op_eqOwn {X : Cx} {C : Addr} {n : Nat} {sp : Sp} (D : Me X.prog X.w X.K X.mg X.base C "__eq__" n ["self", "other"] sp) (hr : Room n X.A) : OpR X (compareOp .Eq) (rEqOwn X.K C sp) := by
  intro pins s σ H x y v u Q I rx ry h
  obtain ⟨a, b, dx, dy, fs, gs, rfl, rfl, ha, hb', q⟩ := h
  obtain ⟨f, fd, c, hm, F, hb⟩ := D.ex
  cases rx
  cases ry
  show wpAny (model X.prog X.w) X.A (richCompare .Eq (.ref a) (.ref b)) (EP X pins σ Q) X.xe s
  obtain ⟨mA, J, _⟩ := ins_get I.hok ha
  obtain ⟨mB, J', _⟩ := ins_get I.hok hb'
  obtain ⟨od, J, _⟩ := J.look
  obtain ⟨od', J', _⟩ := J'.look
  obtain ⟨m, hF⟩ := I.fr
  refine PySem.W.cmp_K (op := .Eq) (tb := .ref C) hr.units0 hF I.ok.mod.kin J J'.type (by simp [PySem.W.notFirst]) hm.at_ hm.fn ?_
  refine wpAny_call (codeAny_mono (F.run X.A X.stack s H ⟨[.ref a, .ref b], []⟩ [.ref a, .ref b] [.ref a, .ref b] _ E0 hr I.env0 (hb s [.ref a, .ref b] I.kIn rfl) (.cons rfl (.cons rfl .nil)) q) fun r s' hq => ?_)
  cases r with
  | error e => exact False.elim hq
  | ok fl =>
    cases fl with
    | ret w =>
      obtain ⟨z, H', I', rz, k, rfl, q'⟩ := I.after hq
      cases rz
      exact ⟨.bl k, H', I', rfl, q'⟩
    | next => exact False.elim hq
    | brk => exact False.elim hq
    | cont => exact False.elim hq
end Rg
/-! own mathematics: rows moved and mirrored -/
namespace Rg
open PySem L2 TL
/-- the list whose sign number i is the one with the number f i of l -/
def pick (l : List Nat) (f : Int → Int) : List Nat := (List.range l.length).map fun i : Nat => sg l (f (i : Int))
theorem pick_len (l : List Nat) (f : Int → Int) : (pick l f).length = l.length := by unfold pick; simp
theorem pick_get {l : List Nat} {f : Int → Int} {k : Nat} (h : k < l.length) : (pick l f)[k]? = some (sg l (f (k : Int))) := by
  unfold pick
  rw [List.getElem?_map, List.getElem?_range h]
  rfl
theorem pick_eq {l m : List Nat} {f : Int → Int} (hl : m.length = l.length) (h : ∀ k : Nat, k < l.length → m[k]? = some (sg l (f (k : Int)))) : m = pick l f := by
  refine List.ext_getElem? fun k => ?_
  by_cases hk : k < l.length
  · rw [h k hk, pick_get hk]
  · rw [List.getElem?_eq_none (by omega), List.getElem?_eq_none (by rw [pick_len]; omega)]
theorem pick_congr {l : List Nat} {f g : Int → Int} (h : ∀ k : Nat, k < l.length → sg l (f (k : Int)) = sg l (g (k : Int))) : pick l f = pick l g := by
  refine pick_eq (pick_len l f) fun k hk => ?_
  rw [pick_get hk, h k hk]
/-- what is asked of f: a step on is a step on or back, and it goes round with the length -/
structure Mv (n : Nat) (f : Int → Int) : Prop where
  step : ∀ i : Int, f (i + 1) = f i + 1 ∨ f (i + 1) = f i - 1
  round : ∀ i : Int, f (i % (n : Int)) % (n : Int) = f i % (n : Int)
theorem sg_pick {l : List Nat} (h0 : 0 < l.length) {f : Int → Int} (m : Mv l.length f) (i : Int) : sg (pick l f) i = sg l (f i) := by
  have hm : 0 < (pick l f).length := by rw [pick_len]; exact h0
  have h1 := sg_get hm i
  have hp := place_lt hm i
  rw [pick_len] at h1 hp
  rw [pick_get hp] at h1
  have e : (((i % (l.length : Int)).toNat : Nat) : Int) = i % (l.length : Int) := Int.toNat_of_nonneg (Int.emod_nonneg i (by omega))
  rw [e] at h1
  rw [← Option.some.inj h1]
  exact sg_congr (m.round i)
theorem Row.pick {l : List Nat} (R : Row l) {f : Int → Int} (m : Mv l.length f) : Row (pick l f) :=
  R.move (by rw [pick_len]; exact R.ne) f (fun k hk => pick_get (by rw [pick_len] at hk; exact hk)) (fun i => by rw [pick_len]; exact sg_congr (m.round i)) m.step
theorem mv_sub (n : Nat) (b : Int) : Mv n fun i => i - b :=
  ⟨fun i => .inl (by show i + 1 - b = i - b + 1; omega), fun i => by show (i % (n : Int) - b) % (n : Int) = (i - b) % (n : Int); rw [Int.sub_eq_add_neg, Int.emod_add_emod, Int.sub_eq_add_neg]⟩
theorem mv_mir (n : Nat) (b : Int) : Mv n fun i => b - i := by
  refine ⟨fun i => .inr (by show b - (i + 1) = b - i - 1; omega), fun i => ?_⟩
  show (b - i % (n : Int)) % (n : Int) = (b - i) % (n : Int)
  rw [Int.sub_emod, Int.emod_emod, ← Int.sub_emod]
theorem pick_pick {l : List Nat} (h0 : 0 < l.length) {f g : Int → Int} (m : Mv l.length f) : pick (pick l f) g = pick l fun i => f (g i) := by
  refine pick_eq (by rw [pick_len, pick_len]) fun k hk => ?_
  rw [pick_get (by rw [pick_len]; exact hk), sg_pick h0 m]
theorem pick_id {l : List Nat} {f : Int → Int} (h : ∀ i : Int, f i % (l.length : Int) = i % (l.length : Int)) : pick l f = l := by
  refine (pick_eq rfl fun k hk => ?_).symm
  rw [sg_nat hk, sg_congr (h k)]
/-- a row moved to the right -/
def rotS (b : Int) (z : Str) : Str := ⟨(pick (tl z) fun i => i - b).toArray⟩
/-- a row seen from the other side -/
def mirS (b : Int) (z : Str) : Str := ⟨(pick (tl z) fun i => b - i).toArray⟩
theorem tl_rotS (b : Int) (z : Str) : tl (rotS b z) = pick (tl z) fun i => i - b := rfl
theorem tl_mirS (b : Int) (z : Str) : tl (mirS b z) = pick (tl z) fun i => b - i := rfl
theorem Rows.map {n : Nat} {ls : List Str} (R : Rows n ls) {g : Str → Str} (hl : ∀ z, (tl (g z)).length = (tl z).length) (hr : ∀ z, Row (tl z) → Row (tl (g z))) : Rows n (ls.map g) := by
  refine ⟨by rw [List.length_map]; exact R.ne, fun z hz => ?_, fun z hz => ?_⟩
  all_goals obtain ⟨y, hy, rfl⟩ := List.mem_map.mp hz
  · rw [hl, R.len y hy]
  · exact hr y (R.row y hy)
theorem Rows.rot {n : Nat} {ls : List Str} (R : Rows n ls) (b : Int) : Rows n (ls.map (rotS b)) :=
  R.map (g := rotS b) (fun z => by rw [tl_rotS, pick_len]) fun z h => by rw [tl_rotS]; exact h.pick (mv_sub _ b)
theorem Rows.mir {n : Nat} {ls : List Str} (R : Rows n ls) (b : Int) : Rows n (ls.map (mirS b)) :=
  R.map (g := mirS b) (fun z => by rw [tl_mirS, pick_len]) fun z h => by rw [tl_mirS]; exact h.pick (mv_mir _ b)
theorem rot_rot {n : Nat} {ls : List Str} (R : Rows n ls) (a b : Int) : (ls.map (rotS a)).map (rotS b) = ls.map (rotS (a + b)) := by
  rw [List.map_map]
  refine List.map_congr_left fun z hz => ext_tl ?_
  show tl (rotS b (rotS a z)) = _
  rw [tl_rotS, tl_rotS, tl_rotS, pick_pick (R.row z hz).ne (mv_sub _ a)]
  refine pick_congr fun k _ => ?_
  show sg (tl z) ((k : Int) - b - a) = sg (tl z) ((k : Int) - (a + b))
  congr 1
  omega
theorem rot_width {n : Nat} {ls : List Str} (R : Rows n ls) : ls.map (rotS (n : Int)) = ls := by
  refine Eq.trans (List.map_congr_left fun z hz => ?_) (List.map_id ls)
  refine ext_tl ?_
  rw [tl_rotS]
  refine pick_id fun i => ?_
  rw [R.len z hz]
  exact Int.sub_emod_right i _
theorem mir_mir {n : Nat} {ls : List Str} (R : Rows n ls) (a b : Int) : (ls.map (mirS a)).map (mirS b) = ls.map (rotS (b - a)) := by
  rw [List.map_map]
  refine List.map_congr_left fun z hz => ext_tl ?_
  show tl (mirS b (mirS a z)) = _
  rw [tl_mirS, tl_mirS, tl_rotS, pick_pick (R.row z hz).ne (mv_mir _ a)]
  refine pick_congr fun k _ => ?_
  show sg (tl z) (a - (b - (k : Int))) = sg (tl z) ((k : Int) - (b - a))
  congr 1
  omega
/-- what the program does: the part from a cut on, and the part before it -/
theorem cut_rot {z : Str} {b : Int} {c : Nat} (h0 : 0 < (tl z).length) (hc : ((-b) % ((tl z).length : Int)) = (c : Int)) : cutS z (some (c : Int)) none ++ cutS z none (some (c : Int)) = rotS b z := by
  refine ext_tl ?_
  rw [tl_append, tl_rotS]
  have hlt : c < (tl z).length := by
    have := Int.emod_lt_of_pos (-b) (show (0 : Int) < (tl z).length by omega)
    omega
  have e1 : tl (cutS z none (some (c : Int))) = (tl z).take c := by
    show ((tl z).drop (HT.sIx z.length 0 none)).take (HT.sIx z.length z.length (some (c : Int)) - HT.sIx z.length 0 none) = _
    rw [sIx_nat]
    show ((tl z).drop 0).take (min c z.length - 0) = _
    rw [List.drop_zero, Nat.sub_zero, len_tl, Nat.min_eq_left (Nat.le_of_lt hlt)]
  have e2 : tl (cutS z (some (c : Int)) none) = (tl z).drop c := by
    show ((tl z).drop (HT.sIx z.length 0 (some (c : Int)))).take (HT.sIx z.length z.length none - HT.sIx z.length 0 (some (c : Int))) = _
    rw [sIx_nat]
    show ((tl z).drop (min c z.length)).take (z.length - min c z.length) = _
    rw [len_tl, Nat.min_eq_left (by omega), List.take_of_length_le (by rw [List.length_drop]; exact Nat.le_refl _)]
  rw [e1, e2]
  have hb : ∀ k : Int, sg (tl z) (k - b) = sg (tl z) (k + (c : Int)) := fun k => sg_congr (by
    rw [← hc, Int.add_emod_emod, Int.sub_eq_add_neg])
  refine pick_eq (by rw [List.length_append, List.length_drop, List.length_take]; omega) fun k hk => ?_
  rw [hb]
  by_cases h1 : k < (tl z).length - c
  · rw [List.getElem?_append_left (by rw [List.length_drop]; exact h1), List.getElem?_drop, sg_nat (by omega)]
    congr 2
    omega
  · rw [List.getElem?_append_right (by rw [List.length_drop]; omega), List.length_drop, List.getElem?_take_of_lt (by omega), sg_nat (by omega)]
    congr 1
    rw [← sg_add]
    congr 1
    omega
theorem atI_sg {l : List Nat} (h : 0 < l.length) (i : Int) : atI l (i % (l.length : Int)) = some (sg l i) := by
  have e : (((i % (l.length : Int)).toNat : Nat) : Int) = i % (l.length : Int) := Int.toNat_of_nonneg (Int.emod_nonneg i (by omega))
  rw [← e]
  exact atI_nat (sg_get h i)
theorem joinL_flat : ∀ parts : List (List Nat), joinL [] parts = parts.flatten
  | [] => rfl
  | [p] => by show p = [p].flatten; simp
  | p :: q :: r => by
    show p ++ ([] ++ joinL [] (q :: r)) = _
    rw [joinL_flat (q :: r)]
    simp
theorem join_singles (l : List Nat) : Txt.join (Str.ofString "") (l.map fun c => (⟨#[c]⟩ : Str)) = ⟨l.toArray⟩ := by
  refine ext_tl ?_
  rw [join_eq, tl_join, show tl (Str.ofString "") = [] by decide +kernel, joinL_flat, List.map_map]
  show (l.map fun c => [c]).flatten = l
  induction l with
  | nil => rfl
  | cons a l ih => rw [List.map_cons, List.flatten_cons, ih]; rfl
theorem sum_singles (l : List Nat) : ((l.map fun c => (⟨#[c]⟩ : Str)).map (·.length)).sum = l.length := by
  induction l with
  | nil => rfl
  | cons a l ih =>
    rw [List.map_cons, List.map_cons, List.sum_cons, ih, List.length_cons]
    show 1 + l.length = l.length + 1
    omega
/-- whether the sign with this number is a stroke -/
def rungB (z : Str) (q : Int) : Bool := decide (V.str (⟨#[sg (tl z) q]⟩ : Str) = V.str (Str.ofString "-"))
end Rg
/-! own words: rules one after the other, + of own objects, lcm -/
namespace Rg
open PySem L2 TL
/-- a row repeated to a length -/
def strS (L : Nat) (z : Str) : Str := repS (L / (tl z).length) z
theorem str_len {L : Nat} {z : Str} (h : (tl z).length ∣ L) : (tl (strS L z)).length = L := by
  unfold strS
  rw [tl_repS, rep_length]
  exact Nat.div_mul_cancel h
theorem str_row {L : Nat} {z : Str} (R : Row (tl z)) (h : (tl z).length ∣ L) (hL : 0 < L) : Row (tl (strS L z)) :=
  R.rep (Nat.div_pos (Nat.le_of_dvd hL h) R.ne)
theorem rep_rep (a b : Nat) (l : List Nat) : (List.replicate a (List.replicate b l).flatten).flatten = (List.replicate (a * b) l).flatten := by
  induction a with
  | zero => simp
  | succ a ih =>
    rw [List.replicate_succ, List.flatten_cons, ih, Nat.succ_mul, Nat.add_comm, ← List.replicate_append_replicate, List.flatten_append]
theorem str_str {L M : Nat} {z : Str} (h0 : 0 < (tl z).length) (h : (tl z).length ∣ L) (h2 : L ∣ M) (hL : 0 < L) : strS M (strS L z) = strS M z := by
  refine ext_tl ?_
  have e := str_len h
  unfold strS at e ⊢
  rw [tl_repS, e, tl_repS, tl_repS, rep_rep]
  congr 2
  obtain ⟨c, rfl⟩ := h
  obtain ⟨d, rfl⟩ := h2
  rw [Nat.mul_div_cancel_left _ hL, Nat.mul_div_cancel_left _ h0, Nat.mul_assoc, Nat.mul_div_cancel_left _ h0, Nat.mul_comm]
theorem str_self {z : Str} (h0 : 0 < (tl z).length) : strS (tl z).length z = z := by
  refine ext_tl ?_
  unfold strS
  rw [tl_repS, Nat.div_self h0]
  simp
/-- the rows of the one and then of the other, all of one length -/
def joinR (L : Nat) (ls ms : List Str) : List Str := (ls ++ ms).map (strS L)
theorem joinR_rows {n m : Nat} {ls ms : List Str} (R : Rows n ls) (S : Rows m ms) : Rows (Nat.lcm n m) (joinR (Nat.lcm n m) ls ms) := by
  have hL : 0 < Nat.lcm n m := Nat.lcm_pos R.pos S.pos
  have key : ∀ y ∈ ls ++ ms, Row (tl y) ∧ (tl y).length ∣ Nat.lcm n m := fun y hy => by
    rcases List.mem_append.mp hy with h | h
    · exact ⟨R.row y h, by rw [R.len y h]; exact Nat.dvd_lcm_left n m⟩
    · exact ⟨S.row y h, by rw [S.len y h]; exact Nat.dvd_lcm_right n m⟩
  refine ⟨by unfold joinR; rw [List.length_map, List.length_append]; have := R.ne; omega, fun z hz => ?_, fun z hz => ?_⟩
  all_goals
    unfold joinR at hz
    obtain ⟨y, hy, rfl⟩ := List.mem_map.mp hz
  · exact str_len (key y hy).2
  · exact str_row (key y hy).1 (key y hy).2 hL
theorem str_map {n L M : Nat} {ls : List Str} (R : Rows n ls) (h : n ∣ L) (h2 : L ∣ M) (hL : 0 < L) : (ls.map (strS L)).map (strS M) = ls.map (strS M) := by
  rw [List.map_map]
  refine List.map_congr_left fun z hz => ?_
  exact str_str (R.row z hz).ne (by rw [R.len z hz]; exact h) h2 hL
/-- both ways of adding three -/
theorem join_assoc {n m t : Nat} {ls ms ts : List Str} (R : Rows n ls) (S : Rows m ms) (T : Rows t ts) :
    joinR (Nat.lcm (Nat.lcm n m) t) (joinR (Nat.lcm n m) ls ms) ts = joinR (Nat.lcm n (Nat.lcm m t)) ls (joinR (Nat.lcm m t) ms ts) := by
  have e := Nat.lcm_assoc n m t
  unfold joinR
  have h1 : 0 < Nat.lcm n m := Nat.lcm_pos R.pos S.pos
  have h2 : 0 < Nat.lcm m t := Nat.lcm_pos S.pos T.pos
  simp only [List.map_append]
  rw [str_map R (Nat.dvd_lcm_left n m) (Nat.dvd_lcm_left _ t) h1, str_map S (Nat.dvd_lcm_right n m) (Nat.dvd_lcm_left _ t) h1]
  rw [str_map S (Nat.dvd_lcm_left m t) (Nat.dvd_lcm_right n _) h2, str_map T (Nat.dvd_lcm_right m t) (Nat.dvd_lcm_right n _) h2, e, List.append_assoc]

/-! ### lcm -/
def rLcm : List V → Hp → VK → Prop := fun vs H Q => ∃ a b : Nat, vs = [.int a, .int b] ∧ a < 2 ^ 64 ∧ b < 2 ^ 64 ∧ Q (.int ((Nat.lcm a b : Nat) : Int)) H
theorem cr_lcm {X : Cx} : CallR X (.builtin "math.lcm") rLcm := by
  intro pins s σ H vs us Q I r h
  obtain ⟨a, b, rfl, ha, hb, q⟩ := h
  obtain ⟨t, u, rfl⟩ := Vals.int2 r
  exact PySem.W.mc_lcm ha hb fun _ => ⟨.int _, H, I.tok _, ⟨_, rfl⟩, q⟩

/-! ### + of objects with their own __add__ -/
def rAddOwn (C : Addr) (sp : Sp) : R2 := fun x y H Q => ∃ a b dx dy fs gs, x = .ref a ∧ y = .ref b ∧ H a = some (.ins C dx fs) ∧ H b = some (.ins C dy gs) ∧ sp [.ref a, .ref b] H (fun v H' => (∃ c, v = .ref c) ∧ Q v H') E0
theorem op_addOwn {X : Cx} {C : Addr} {n : Nat} {sp : Sp} (D : Me X.prog X.w X.K X.mg X.base C "__add__" n ["self", "other"] sp) (hc : PySem.W.selfFirst X.K C = true) (hr : Room n X.A) : OpR X (binaryOp .Add) (rAddOwn C sp) := by
  intro pins s σ H x y v u Q I rx ry h
  obtain ⟨a, b, dx, dy, fs, gs, rfl, rfl, ha, hb', q⟩ := h
  obtain ⟨f, fd, c, hm, F, hb⟩ := D.ex
  cases rx
  cases ry
  obtain ⟨mA, J, _⟩ := ins_get I.hok ha
  obtain ⟨mB, J', _⟩ := ins_get I.hok hb'
  obtain ⟨od, J, _⟩ := J.look
  obtain ⟨od', J', _⟩ := J'.look
  obtain ⟨m, hF⟩ := I.fr
  refine PySem.W.binop_K (op := .Add) hF I.ok.mod.kin J J'.type hc hm.at_ hm.fn ?_
  refine wpAny_call (codeAny_mono (F.run X.A X.stack s H ⟨[.ref a, .ref b], []⟩ [.ref a, .ref b] [.ref a, .ref b] _ E0 hr I.env0 (hb s [.ref a, .ref b] I.kIn rfl) (.cons rfl (.cons rfl .nil)) q) fun r s' hq => ?_)
  cases r with
  | error e => exact False.elim hq
  | ok fl =>
    cases fl with
    | ret w =>
      obtain ⟨z, H', I', rz, ⟨c, rfl⟩, q'⟩ := I.after hq
      cases rz
      exact ⟨.ref c, H', I', rfl, q'⟩
    | next => exact False.elim hq
    | brk => exact False.elim hq
    | cont => exact False.elim hq

/-! ### the least multiple that is found by going on -/
theorem lcm_found {n m i : Nat} (hn : 0 < n) (hm : 0 < m) (h : m ∣ n * (i + 1)) (hj : ∀ j, 1 ≤ j → j ≤ i → ¬ m ∣ n * j) : n * (i + 1) = Nat.lcm n m := by
  obtain ⟨j, ej⟩ := Nat.dvd_lcm_left n m
  have h1 : Nat.lcm n m ∣ n * (i + 1) := Nat.lcm_dvd (Nat.dvd_mul_right n (i + 1)) h
  have hp : 0 < Nat.lcm n m := Nat.lcm_pos hn hm
  have hle := Nat.le_of_dvd (Nat.mul_pos hn (Nat.succ_pos i)) h1
  rw [ej] at hle hp
  have j1 : 1 ≤ j := Nat.pos_of_mul_pos_left hp |> fun z => by
    rcases Nat.eq_zero_or_pos j with q | q
    · rw [q, Nat.mul_zero] at hp; omega
    · exact q
  have j2 : j ≤ i + 1 := Nat.le_of_mul_le_mul_left hle hn
  by_cases e : j = i + 1
  · rw [ej, e]
  · exact absurd (by rw [← ej]; exact Nat.dvd_lcm_right n m) (hj j j1 (by omega))
theorem lcm_ends {n m : Nat} (hm : 0 < m) (hj : ∀ j, 1 ≤ j → j ≤ m → ¬ m ∣ n * j) : False := hj m hm (Nat.le_refl _) (Nat.dvd_mul_left m n)
theorem lcm60 {n m : Nat} (h1 : n ≤ 12) (h2 : m ≤ 5) : Nat.lcm n m ≤ 60 := Nat.le_trans (PySem.W.mc_lcm_le n m) (Nat.mul_le_mul h1 h2)
theorem join_len {L : Nat} {ls ms : List Str} : (joinR L ls ms).length = ls.length + ms.length := by unfold joinR; rw [List.length_map, List.length_append]
end Rg
/-! own words: the source that the laws draw from, a list that is changed at each draw -/
namespace Rg
open PySem L2 TL
/-- the heap without the source's two changing lists -/
def out (s g : Addr) (H : Hp) : Hp := fun b => if b = s ∨ b = g then none else H b
theorem out_same {s g : Addr} {H : Hp} : Same (out s g H) H := fun b u e => by
  unfold out at e
  split at e
  · cases e
  · exact e
theorem out_at {s g b : Addr} {H : Hp} (h1 : b ≠ s) (h2 : b ≠ g) : out s g H b = H b := if_neg fun h => h.elim h1 h2
theorem _root_.L2.Same.out {s g : Addr} {H H' : Hp} (e : Same H H') : Same (out s g H) (out s g H') := fun b u q => by
  unfold Rg.out at q ⊢
  split at q
  · cases q
  · rename_i n
    rw [if_neg n]
    exact e _ _ q
/-- the source, drawn from m times at most -/
structure Src (H : Hp) (s g sm : Addr) (m : Nat) : Prop where
  ex : ∃ (gs ss : List Int) (pl st : Int), H s = some (.lst [.ref g, .ref sm, .int pl, .int st]) ∧ H g = some (.lst (gs.map V.int)) ∧ H sm = some (.lst (ss.map V.int)) ∧ sm ≠ g ∧ gs.length ≤ 63 ∧ ss.length ≤ 63 ∧
    (∀ z ∈ ss, -(10 ^ 18) < z ∧ z < 10 ^ 18) ∧ 0 ≤ pl ∧ pl ≤ (m : Int) ∧ 0 ≤ st ∧ st < 2147483629
theorem Src.same {H H' : Hp} {s g r : Addr} {m : Nat} (S : Src H s g r m) (e : Same H H') : Src H' s g r m := by
  obtain ⟨gs, ss, pl, st, h1, h2, h3, r⟩ := S.ex
  exact ⟨gs, ss, pl, st, e _ _ h1, e _ _ h2, e _ _ h3, r⟩
theorem Src.mono {H : Hp} {s g r : Addr} {m n : Nat} (S : Src H s g r m) (h : m ≤ n) : Src H s g r n := by
  obtain ⟨gs, ss, pl, st, h1, h2, h3, h4, h5, h6, h7, h8, h9, r⟩ := S.ex
  exact ⟨gs, ss, pl, st, h1, h2, h3, h4, h5, h6, h7, h8, by omega, r⟩
theorem Src.new {H : Hp} {s g r q : Addr} {m : Nat} (S : Src H s g r m) (h : H q = none) : q ≠ s ∧ q ≠ g ∧ q ≠ r := by
  obtain ⟨gs, ss, pl, st, h1, h2, h3, _⟩ := S.ex
  exact ⟨fun e => (by rw [e, h1] at h; cases h), fun e => (by rw [e, h2] at h; cases h), fun e => (by rw [e, h3] at h; cases h)⟩
theorem Src.put {H H0 : Hp} {s g r q : Addr} {m n : Nat} {o : HO} (S : Src H s g r m) (S0 : Src H0 s g r n) (h : H0 q = none) : Src (upd H q o) s g r m := by
  obtain ⟨n1, n2, n3⟩ := S0.new h
  obtain ⟨gs, ss, pl, st, h1, h2, h3, x⟩ := S.ex
  exact ⟨gs, ss, pl, st, by rw [upd_ne n1.symm]; exact h1, by rw [upd_ne n2.symm]; exact h2, by rw [upd_ne n3.symm]; exact h3, x⟩
theorem Src.keep {H H' : Hp} {s g r q : Addr} {m : Nat} {u : HO} (S : Src H s g r m) (h : H q = none) (e : H' q = some u) : out s g H' q = some u := by
  obtain ⟨h1, h2, _⟩ := S.new h
  rw [out_at h1 h2]
  exact e
theorem Src.free {H H' : Hp} {s g r q : Addr} {m : Nat} (S' : Src H' s g r m) (e : Same (out s g H) (out s g H')) (h : H' q = none) : H q = none := by
  obtain ⟨h1, h2, _⟩ := S'.new h
  cases z : H q with
  | none => rfl
  | some u =>
    have := e q u (by rw [out_at h1 h2]; exact z)
    rw [out_at h1 h2, h] at this
    cases this
theorem seq0 {n : Nat} (h : 0 < n) : seqIndex? 0 n = some 0 := by
  unfold seqIndex?
  simp [h]
theorem out_put {s g b : Addr} {H : Hp} {o : HO} (h : b = s ∨ b = g) : Same (out s g H) (out s g (upd H b o)) := fun c u e => by
  unfold out at e ⊢
  split at e
  · cases e
  · rename_i n
    rw [if_neg n, upd_ne (fun z => n (by rw [z]; exact h))]
    exact e
/-- what is new may be changed -/
theorem out_set {s g D : Addr} {H H' : Hp} {o : HO} (e : Same (out s g H) (out s g H')) (z : H D = none) : Same (out s g H) (out s g (upd H' D o)) := fun b u q => by
  have h := e b u q
  unfold out at q h ⊢
  split at q
  · cases q
  · rename_i n
    rw [if_neg n] at h
    rw [if_neg n, upd_ne (ne_of_none q z)]
    exact h
theorem out_ne {s g b D : Addr} {H : Hp} {o : HO} (n : b ≠ D) : out s g (upd H D o) b = out s g H b := by
  unfold out
  rw [upd_ne n]
theorem mul_tl0 (z : Str) (n : Int) (h : 0 ≤ n) : Txt.mul z n = ⟨((List.replicate n.toNat (tl z)).flatten).toArray⟩ := by
  by_cases h1 : 1 ≤ n
  · exact mul_tl z n h1
  · have e : n = 0 := by omega
    subst e
    rfl
/-- a text many times, or no time -/
def rRepS0 : R2 := fun x y H Q => ∃ z n, x = .str z ∧ y = .int n ∧ 0 ≤ n ∧ n < 2 ^ 63 ∧ z.length * n.toNat ≤ sizeLine ∧ Q (.str ⟨((List.replicate n.toNat (tl z)).flatten).toArray⟩) H
theorem op_rep_str0 {X : Cx} : OpR X (binaryOp .Mult) rRepS0 := by
  intro pins s σ H x y v u Q I rx ry h
  obtain ⟨z, n, rfl, rfl, h1, h63, hz, q⟩ := h
  by_cases h2 : 1 ≤ n
  · exact op_rep_str pins s σ H _ _ v u Q I rx ry ⟨z, n, rfl, rfl, h2, h63, hz, q⟩
  obtain ⟨t, rfl⟩ := rx
  obtain ⟨t', rfl⟩ := ry
  refine SB.mul ⟨?_, fun h => absurd (show n < 1 by omega) h, fun h => absurd (show n < 1 by omega) h⟩ fun t2 k => ?_
  · rw [decide_eq_false (by omega), decide_eq_false (by omega)]
    rfl
  · rw [mul_tl0 z n h1]
    exact ⟨.str _, H, I.tok _, ⟨_, rfl⟩, q⟩
end Rg
/-! own words: walks down the rows -/
namespace Rg
open PySem L2 TL
/-- where a walker goes on one row -/
def cross (z : Str) (n q : Int) : Int := if decide (q + 1 < n) && rungB z q then q + 1 else if decide (0 < q) && rungB z (q - 1) then q - 1 else q
def rowAt (ls : List Str) (r : Nat) : Str := ls.getD (r % ls.length) Str.empty
/-- where it stands behind k rows -/
def wk (ls : List Str) (n a : Int) : Nat → Int
  | 0 => a
  | k + 1 => cross (rowAt ls k) n (wk ls n a k)
def way (ls : List Str) (n a : Int) (d : Nat) : List Int := (List.range d).map (wk ls n a)
theorem way_len (ls : List Str) (n a : Int) (d : Nat) : (way ls n a d).length = d := by unfold way; simp
theorem way_get {ls : List Str} {n a : Int} {d k : Nat} (h : k < d) : (way ls n a d)[k]? = some (wk ls n a k) := by
  unfold way
  rw [List.getElem?_map, List.getElem?_range h]
  rfl
theorem way_add (ls : List Str) (n a : Int) (d : Nat) : way ls n a (d + 1) = way ls n a d ++ [wk ls n a d] := by
  unfold way
  rw [List.range_succ, List.map_append]
  rfl
theorem rowAt_mem {ls : List Str} (h : 0 < ls.length) (r : Nat) : rowAt ls r ∈ ls := by
  unfold rowAt
  have hr := Nat.mod_lt r h
  rw [List.getD_eq_getElem?_getD, List.getElem?_eq_getElem hr]
  exact List.getElem_mem hr
theorem rowAt_get {ls : List Str} (h : 0 < ls.length) (r : Nat) : ls[((r : Int) % (ls.length : Int)).toNat]? = some (rowAt ls r) := by
  unfold rowAt
  have hr := Nat.mod_lt r h
  rw [show ((r : Int) % (ls.length : Int)).toNat = r % ls.length by omega, List.getD_eq_getElem?_getD, List.getElem?_eq_getElem hr]
  rfl
theorem cross_on {z : Str} {n q : Int} (h0 : 0 ≤ q) (h1 : q < n) : 0 ≤ cross z n q ∧ cross z n q < n := by
  unfold cross
  split
  · rename_i h
    rw [Bool.and_eq_true, decide_eq_true_eq] at h
    omega
  · split
    · rename_i h
      rw [Bool.and_eq_true, decide_eq_true_eq] at h
      omega
    · omega
theorem wk_on {ls : List Str} {n a : Int} (h0 : 0 ≤ a) (h1 : a < n) : ∀ k, 0 ≤ wk ls n a k ∧ wk ls n a k < n
  | 0 => ⟨h0, h1⟩
  | k + 1 => cross_on (wk_on h0 h1 k).1 (wk_on h0 h1 k).2
end Rg
/-! own words: == and != of lists of texts, of numbers -/
namespace Rg
open PySem L2 TL
theorem rd_neS {K : PySem.W.Frag} {H : Hp} {p q : Addr} {ls ms : List Str} {Q : VK} (hp : H p = some (.lst (ls.map V.str))) (hq : H q = some (.lst (ms.map V.str))) (h1 : ∀ z ∈ ls, Signs (tl z)) (h2 : ∀ z ∈ ms, Signs (tl z)) (k : Q (.bl (!decide (ls = ms))) H) : rNeD K (.ref p) (.ref q) H Q := by
  refine ⟨_, _, .lst (SqL.of hp) (dp_strs ls), .lst (SqL.of hq) (dp_strs ms), shaped_lst h1, shaped_lst h2, ?_⟩
  rw [eqv_lst]
  exact k
theorem rd_eqS {K : PySem.W.Frag} {H : Hp} {p q : Addr} {ls ms : List Str} {Q : VK} (hp : H p = some (.lst (ls.map V.str))) (hq : H q = some (.lst (ms.map V.str))) (h1 : ∀ z ∈ ls, Signs (tl z)) (h2 : ∀ z ∈ ms, Signs (tl z)) (k : Q (.bl (decide (ls = ms))) H) : rEqD K (.ref p) (.ref q) H Q := by
  refine ⟨_, _, .lst (SqL.of hp) (dp_strs ls), .lst (SqL.of hq) (dp_strs ms), shaped_lst h1, shaped_lst h2, ?_⟩
  rw [eqv_lst]
  exact k
end Rg
/-! own words: who meets whom; sets of numbers -/
namespace Rg
open PySem L2 TL
theorem rung_sg {z : Str} {q : Int} (h : rungB z q = true) : sg (tl z) q = 45 := by
  unfold rungB at h
  have e := of_decide_eq_true h
  injection e with e
  have e2 := congrArg tl e
  rw [show tl (Str.ofString "-") = [45] by decide +kernel] at e2
  injection e2
theorem cross_cross {z : Str} (R : Row (tl z)) {n q : Int} (h0 : 0 ≤ q) (h1 : q < n) : cross z n (cross z n q) = q := by
  have gap : ∀ i : Int, rungB z i = true → rungB z (i + 1) = true → False := fun i g1 g2 => R.gap i ⟨rung_sg g1, rung_sg g2⟩
  by_cases c1 : q + 1 < n ∧ rungB z q = true
  · have e : cross z n q = q + 1 := by
      unfold cross
      rw [if_pos (by rw [Bool.and_eq_true, decide_eq_true_eq]; exact c1)]
    rw [e]
    unfold cross
    rw [if_neg (by rw [Bool.and_eq_true]; exact fun h => gap q c1.2 h.2), if_pos (by rw [Bool.and_eq_true, decide_eq_true_eq, Int.add_sub_cancel]; exact ⟨by omega, c1.2⟩), Int.add_sub_cancel]
  · have n1 : ¬ (decide (q + 1 < n) && rungB z q) = true := by rw [Bool.and_eq_true, decide_eq_true_eq]; exact c1
    by_cases c2 : 0 < q ∧ rungB z (q - 1) = true
    · have e : cross z n q = q - 1 := by
        unfold cross
        rw [if_neg n1, if_pos (by rw [Bool.and_eq_true, decide_eq_true_eq]; exact c2)]
      rw [e]
      unfold cross
      rw [if_pos (by rw [Bool.and_eq_true, decide_eq_true_eq]; exact ⟨by omega, c2.2⟩), Int.sub_add_cancel]
    · have e : cross z n q = q := by
        unfold cross
        rw [if_neg n1, if_neg (by rw [Bool.and_eq_true, decide_eq_true_eq]; exact c2)]
      rw [e, e]
/-- who stands at a post behind k rows -/
def who (ls : List Str) (n : Int) : Nat → Int → Int
  | 0, a => a
  | k + 1, a => who ls n k (cross (rowAt ls k) n a)
section
variable {m : Nat} {ls : List Str} {n : Int}
theorem who_on (k : Nat) : ∀ {a : Int}, 0 ≤ a → a < n → 0 ≤ who ls n k a ∧ who ls n k a < n := by
  induction k with
  | zero => exact fun h0 h1 => ⟨h0, h1⟩
  | succ k ih => exact fun h0 h1 => ih (cross_on h0 h1).1 (cross_on h0 h1).2
theorem wk_who (W : Rows m ls) (k : Nat) : ∀ {a : Int}, 0 ≤ a → a < n → wk ls n (who ls n k a) k = a := by
  induction k with
  | zero => exact fun _ _ => rfl
  | succ k ih =>
    intro a h0 h1
    show cross (rowAt ls k) n (wk ls n (who ls n k (cross (rowAt ls k) n a)) k) = a
    rw [ih (cross_on h0 h1).1 (cross_on h0 h1).2]
    exact cross_cross (W.row _ (rowAt_mem W.ne k)) h0 h1
theorem who_wk (W : Rows m ls) (k : Nat) {a : Int} (h0 : 0 ≤ a) (h1 : a < n) : who ls n k (wk ls n a k) = a := by
  induction k with
  | zero => rfl
  | succ k ih =>
    show who ls n k (cross (rowAt ls k) n (cross (rowAt ls k) n (wk ls n a k))) = a
    rw [cross_cross (W.row _ (rowAt_mem W.ne k)) (wk_on h0 h1 k).1 (wk_on h0 h1 k).2]
    exact ih
theorem wk_inj (W : Rows m ls) (k : Nat) {a b : Int} (h0 : 0 ≤ a) (h1 : a < n) (h2 : 0 ≤ b) (h3 : b < n) (e : wk ls n a k = wk ls n b k) : a = b := by
  rw [← who_wk W k h0 h1, e, who_wk W k h2 h3]
end
/-- does the walker from s meet the one from j on a row before the d-th? -/
def met1 (ls : List Str) (n s j : Int) (k : Nat) : Bool := decide (V.int (wk ls n j k) = V.int (wk ls n s (k + 1))) && !decide (V.int (wk ls n s (k + 1)) = V.int (wk ls n s k))
def metB (ls : List Str) (n s : Int) (d : Nat) (j : Nat) : Bool := (List.range d).any fun k => met1 ls n s (j : Int) k
theorem metB_add (ls : List Str) (n s : Int) (d j : Nat) : metB ls n s (d + 1) j = (metB ls n s d j || met1 ls n s (j : Int) d) := by
  unfold metB
  rw [List.range_succ, List.any_append]
  simp
def parts (ls : List Str) (N : Nat) (s : Int) (d : Nat) : List Int := ((List.range N).filter (metB ls (N : Int) s d)).map fun j : Nat => (j : Int)
theorem parts_len (ls : List Str) (N : Nat) (s : Int) (d : Nat) : (parts ls N s d).length ≤ N := by
  unfold parts
  rw [List.length_map]
  exact Nat.le_trans (List.length_filter_le _ _) (by rw [List.length_range]; exact Nat.le_refl _)
/-- ascending lists with the same members -/
theorem pw_eq : ∀ {xs ys : List Int}, xs.Pairwise (· < ·) → ys.Pairwise (· < ·) → (∀ k, k ∈ xs ↔ k ∈ ys) → xs = ys
  | [], [], _, _, _ => rfl
  | [], y :: ys, _, _, h => absurd ((h y).mpr List.mem_cons_self) (by simp)
  | x :: xs, [], _, _, h => absurd ((h x).mp List.mem_cons_self) (by simp)
  | x :: xs, y :: ys, hx, hy, h => by
    obtain ⟨x1, x2⟩ := List.pairwise_cons.mp hx
    obtain ⟨y1, y2⟩ := List.pairwise_cons.mp hy
    have e : x = y := by
      rcases List.mem_cons.mp ((h x).mp List.mem_cons_self) with e | e
      · exact e
      · rcases List.mem_cons.mp ((h y).mpr List.mem_cons_self) with e2 | e2
        · exact e2.symm
        · have := y1 x e
          have := x1 y e2
          omega
    subst e
    rw [pw_eq x2 y2 fun k => ⟨fun hk => ?_, fun hk => ?_⟩]
    · rcases List.mem_cons.mp ((h k).mp (List.mem_cons_of_mem _ hk)) with e | e
      · have := x1 k hk
        omega
      · exact e
    · rcases List.mem_cons.mp ((h k).mpr (List.mem_cons_of_mem _ hk)) with e | e
      · have := y1 k hk
        omega
      · exact e
theorem pw_filter (p : Nat → Bool) (N : Nat) : (((List.range N).filter p).map fun j : Nat => (j : Int)).Pairwise (· < ·) := by
  rw [List.pairwise_map]
  exact ((List.pairwise_lt_range (n := N)).filter p).imp fun h => by omega
/-- how many below N -/
def cnt (N : Nat) (p : Nat → Bool) : Nat := ((List.range N).filter p).length
theorem cnt_le (N : Nat) (p : Nat → Bool) : cnt N p ≤ N := Nat.le_trans (List.length_filter_le _ _) (by rw [List.length_range]; exact Nat.le_refl _)
theorem cnt_congr {N : Nat} {p q : Nat → Bool} (h : ∀ j, j < N → p j = q j) : cnt N p = cnt N q := by
  unfold cnt
  rw [List.filter_congr fun j hj => h j (List.mem_range.mp hj)]
theorem cnt_succ (N : Nat) (p : Nat → Bool) : cnt (N + 1) p = cnt N p + (if p N = true then 1 else 0) := by
  unfold cnt
  rw [List.range_succ, List.filter_append, List.length_append]
  by_cases h : p N = true
  · simp [h]
  · simp [h]
theorem cnt_add {p : Nat → Bool} {k : Nat} : ∀ {N : Nat}, k < N → p k = false → cnt N (fun j => p j || decide (j = k)) = cnt N p + 1
  | 0, h, _ => absurd h (Nat.not_lt_zero _)
  | N + 1, h, hp => by
    rw [cnt_succ, cnt_succ]
    by_cases e : k = N
    · subst e
      rw [cnt_congr (p := fun j => p j || decide (j = k)) (q := p) fun j hj => by
        rw [decide_eq_false (by omega), Bool.or_false], hp]
      simp
    · rw [cnt_add (N := N) (by omega) hp, show (p N || decide (N = k)) = p N by rw [decide_eq_false (by omega), Bool.or_false]]
      omega
theorem cnt_same {p : Nat → Bool} {k N : Nat} (hp : p k = true) : cnt N (fun j => p j || decide (j = k)) = cnt N p :=
  cnt_congr fun j _ => by
    by_cases e : j = k
    · subst e
      rw [hp, Bool.true_or]
    · rw [decide_eq_false e, Bool.or_false]
end Rg
/-! own mathematics: meetings of two walkers -/
namespace Rg
open PySem L2 TL
/-- the left post of the rung that is crossed between two posts, none if there is none -/
def rgV (a b : Int) : V := if a = b then .non else .int (if b < a then b else a)
def rungs (ls : List Str) (n a : Int) (d : Nat) : List V := (List.range d).map fun k => rgV (wk ls n a k) (wk ls n a (k + 1))
theorem rungs_len (ls : List Str) (n a : Int) (d : Nat) : (rungs ls n a d).length = d := by unfold rungs; simp
theorem rungs_get {ls : List Str} {n a : Int} {d k : Nat} (h : k < d) : (rungs ls n a d)[k]? = some (rgV (wk ls n a k) (wk ls n a (k + 1))) := by
  unfold rungs
  rw [List.getElem?_map, List.getElem?_range h]
  rfl
/-- do the walkers meet on this row? -/
def mtB (ls : List Str) (n a b : Int) (k : Nat) : Bool := !decide (rgV (wk ls n a k) (wk ls n a (k + 1)) = V.non) && decide (rgV (wk ls n a k) (wk ls n a (k + 1)) = rgV (wk ls n b k) (wk ls n b (k + 1)))
def mtN (ls : List Str) (n a b : Int) (d : Nat) : Nat := ((List.range d).filter (mtB ls n a b)).length
theorem scal_rg (a b c d : Int) : scal (rgV a b) (rgV c d) = true := by
  unfold rgV
  by_cases h1 : a = b
  · by_cases h2 : c = d
    · rw [if_pos h1, if_pos h2]; rfl
    · rw [if_pos h1, if_neg h2]; rfl
  · by_cases h2 : c = d
    · rw [if_neg h1, if_pos h2]; rfl
    · rw [if_neg h1, if_neg h2]; rfl
theorem filt_t {p : Nat → Bool} {i : Nat} (h : p i = true) : (List.range (i + 1)).filter p = (List.range i).filter p ++ [i] := by
  rw [List.range_succ, List.filter_append]
  simp [h]
theorem filt_f {p : Nat → Bool} {i : Nat} (h : p i = false) : (List.range (i + 1)).filter p = (List.range i).filter p := by
  rw [List.range_succ, List.filter_append]
  simp [h]
theorem scal_rn (a b : Int) : scal (rgV a b) .non = true := by
  unfold rgV
  split <;> rfl
/-- the same, as the law counts -/
def meB1 (ls : List Str) (n a b : Int) (k : Nat) : Bool := decide (V.int (wk ls n a k) = V.int (wk ls n b k)) && !decide (V.int (wk ls n a (k + 1)) = V.int (wk ls n a k))
def meB2 (ls : List Str) (n a b : Int) (k : Nat) : Bool := !decide (V.int (wk ls n a k) = V.int (wk ls n b k)) && (decide (V.int (wk ls n a (k + 1)) = V.int (wk ls n b k)) && decide (V.int (wk ls n b (k + 1)) = V.int (wk ls n a k)))
theorem rgV_ne {a b : Int} (h : a ≠ b) : rgV a b = .int (if b < a then b else a) := by
  unfold rgV
  rw [if_neg h]
theorem cross_near (z : Str) (n q : Int) : cross z n q = q ∨ cross z n q = q + 1 ∨ cross z n q = q - 1 := by
  unfold cross
  split
  · exact .inr (.inl rfl)
  · split
    · exact .inr (.inr rfl)
    · exact .inl rfl
theorem me_mt (ls : List Str) (n a b : Int) (k : Nat) : mtB ls n a b k = (meB1 ls n a b k || meB2 ls n a b k) := by
  have h1 : wk ls n a (k + 1) = wk ls n a k ∨ wk ls n a (k + 1) = wk ls n a k + 1 ∨ wk ls n a (k + 1) = wk ls n a k - 1 := cross_near _ _ _
  have h2 : wk ls n b (k + 1) = wk ls n b k ∨ wk ls n b (k + 1) = wk ls n b k + 1 ∨ wk ls n b (k + 1) = wk ls n b k - 1 := cross_near _ _ _
  have h3 : wk ls n a k = wk ls n b k → wk ls n a (k + 1) = wk ls n b (k + 1) := fun e => by
    show cross _ _ (wk ls n a k) = cross _ _ (wk ls n b k)
    rw [e]
  unfold mtB meB1 meB2
  generalize wk ls n a k = p at *
  generalize wk ls n a (k + 1) = p' at *
  generalize wk ls n b k = q at *
  generalize wk ls n b (k + 1) = q' at *
  rw [Bool.eq_iff_iff]
  simp only [Bool.and_eq_true, Bool.or_eq_true, Bool.not_eq_true', decide_eq_true_eq, decide_eq_false_iff_not, V.int.injEq]
  constructor
  · rintro ⟨g1, g2⟩
    by_cases e1 : p = p'
    · unfold rgV at g1
      rw [if_pos e1] at g1
      exact absurd rfl g1
    · rw [rgV_ne e1] at g2
      by_cases e2 : q = q'
      · unfold rgV at g2
        rw [if_pos e2] at g2
        cases g2
      · rw [rgV_ne e2] at g2
        injection g2 with g2
        split at g2 <;> split at g2 <;> omega
  · rintro (⟨g1, g2⟩ | ⟨g1, g2, g3⟩)
    · have e := h3 g1
      subst g1
      subst e
      refine ⟨?_, rfl⟩
      rw [rgV_ne (Ne.symm g2)]
      intro h
      cases h
    · subst g2
      subst g3
      rw [rgV_ne g1, rgV_ne (Ne.symm g1)]
      refine ⟨fun h => (by cases h), ?_⟩
      congr 1
      split <;> split <;> omega
section
variable {m : Nat} {ls : List Str} {N a b : Nat}
theorem met1_mt (W : Rows m ls) (ha : a < N) (hb : b < N) (k : Nat) : met1 ls (N : Int) (a : Int) (b : Int) k = (!decide (b = a) && mtB ls (N : Int) (a : Int) (b : Int) k) := by
  obtain ⟨a0, a1⟩ := wk_on (ls := ls) (show (0 : Int) ≤ (a : Int) by omega) (show (a : Int) < (N : Int) by omega) k
  obtain ⟨b0, b1⟩ := wk_on (ls := ls) (show (0 : Int) ≤ (b : Int) by omega) (show (b : Int) < (N : Int) by omega) k
  have hinj : b ≠ a → wk ls (N : Int) (a : Int) k ≠ wk ls (N : Int) (b : Int) k := fun h e => h (by
    have := wk_inj W k (by omega) (by omega) (by omega) (by omega) e
    omega)
  have ea : wk ls (N : Int) (a : Int) (k + 1) = cross (rowAt ls k) (N : Int) (wk ls (N : Int) (a : Int) k) := rfl
  have eb : wk ls (N : Int) (b : Int) (k + 1) = cross (rowAt ls k) (N : Int) (wk ls (N : Int) (b : Int) k) := rfl
  have hcc := cross_cross (W.row _ (rowAt_mem W.ne k)) a0 a1
  rw [me_mt]
  unfold met1 meB1 meB2
  rw [Bool.eq_iff_iff]
  simp only [Bool.and_eq_true, Bool.or_eq_true, Bool.not_eq_true', decide_eq_true_eq, decide_eq_false_iff_not, V.int.injEq]
  by_cases e : b = a
  · subst e
    constructor
    · rintro ⟨g1, g2⟩
      exact absurd g1.symm g2
    · rintro ⟨g1, _⟩
      exact absurd rfl g1
  · have hne := hinj e
    constructor
    · rintro ⟨g1, g2⟩
      refine ⟨e, .inr ⟨hne, g1.symm, ?_⟩⟩
      rw [eb, g1, ea]
      exact hcc
    · rintro ⟨_, g | ⟨_, g2, g3⟩⟩
      · exact absurd g.1 hne
      · exact ⟨g2.symm, fun h => hne (by rw [← h, g2])⟩
theorem any_len (p : Nat → Bool) (d : Nat) : (List.range d).any p = decide (0 < ((List.range d).filter p).length) := by
  rw [Bool.eq_iff_iff, List.any_eq_true, decide_eq_true_eq, List.length_pos_iff_exists_mem]
  exact ⟨fun ⟨x, h1, h2⟩ => ⟨x, List.mem_filter.mpr ⟨h1, h2⟩⟩, fun ⟨x, h⟩ => ⟨x, (List.mem_filter.mp h).1, (List.mem_filter.mp h).2⟩⟩
theorem metB_mt (W : Rows m ls) (ha : a < N) (hb : b < N) (d : Nat) : metB ls (N : Int) (a : Int) d b = (!decide (b = a) && decide (0 < mtN ls (N : Int) (a : Int) (b : Int) d)) := by
  unfold metB mtN
  rw [← any_len]
  by_cases e : b = a
  · rw [decide_eq_true e, Bool.not_true, Bool.false_and, List.any_eq_false]
    intro k _
    rw [met1_mt W ha hb, decide_eq_true e, Bool.not_true, Bool.false_and]
    exact Bool.false_ne_true
  · rw [decide_eq_false e, Bool.not_false, Bool.true_and]
    congr 1
    funext k
    rw [met1_mt W ha hb, decide_eq_false e, Bool.not_false, Bool.true_and]
/-- the meetings of two unlike walkers -/
theorem mtB_ne (W : Rows m ls) (ha : a < N) (hb : b < N) (e : a ≠ b) (k : Nat) : mtB ls (N : Int) (a : Int) (b : Int) k = (decide (V.int (wk ls (N : Int) (a : Int) (k + 1)) = V.int (wk ls (N : Int) (b : Int) k)) && decide (V.int (wk ls (N : Int) (b : Int) (k + 1)) = V.int (wk ls (N : Int) (a : Int) k))) := by
  have hne : wk ls (N : Int) (a : Int) k ≠ wk ls (N : Int) (b : Int) k := fun h => e (by
    have := wk_inj W k (by omega) (by omega) (by omega) (by omega) h
    omega)
  have hv : ¬ V.int (wk ls (N : Int) (a : Int) k) = V.int (wk ls (N : Int) (b : Int) k) := fun h => hne (by injection h)
  rw [me_mt]
  unfold meB1 meB2
  rw [decide_eq_false hv, Bool.false_and, Bool.false_or, Bool.not_false, Bool.true_and]
theorem mtB_eq (ls : List Str) (n a : Int) (k : Nat) : mtB ls n a a k = !decide (V.int (wk ls n a k) = V.int (wk ls n a (k + 1))) := by
  rw [me_mt]
  unfold meB1 meB2
  rw [decide_eq_true (rfl : V.int (wk ls n a k) = V.int (wk ls n a k)), Bool.true_and, Bool.not_true, Bool.false_and, Bool.or_false]
  congr 1
  exact decide_eq_decide.mpr ⟨Eq.symm, Eq.symm⟩
theorem mtN_symm (W : Rows m ls) (ha : a < N) (hb : b < N) (d : Nat) : mtN ls (N : Int) (a : Int) (b : Int) d = mtN ls (N : Int) (b : Int) (a : Int) d := by
  by_cases e : a = b
  · rw [e]
  · unfold mtN
    congr 2
    funext k
    rw [mtB_ne W ha hb e, mtB_ne W hb ha (Ne.symm e), Bool.and_comm]
end
/-- the names' values, told anew -/
theorem norm_g {i : Nat} {v : V} {σ σ' : St} {H : Hp} {Q : St → Hp → Prop} (e : σ.set i (some v) = σ') (h : Q σ' H) : gName i v σ H Q := by
  subst e
  exact h
end Rg
namespace Rg
open PySem L2 TL
local macro_rules | `(tactic| walk_at "sd") => `(tactic| (first | (with_reducible show (_ : Int) ≤ _; omega) | (with_reducible show (_ : Int) < _; omega) | ((fail_if_success (with_reducible show (_ : Int) ≤ _)); rfl) | assumption | omega | (show (0 : Int) < _; omega) | (refine Or.inl ⟨?_, ?_⟩ <;> omega) | (refine Or.inr ⟨?_, ?_⟩ <;> omega) | (refine And.intro ?_ ?_ <;> omega) | exact cp60 | exact cp18 | exact cm60 | exact ps60 | exact Nat.le_of_ble_eq_true rfl | decide))
local macro_rules | `(tactic| walk_at "r") => `(tactic| (first | refine ⟨_, rfl, ?_⟩ | refine Or.inl ⟨_, rfl, ?_⟩ | refine ⟨_, _, rfl, rfl, ?_⟩ | refine ⟨_, _, _, _, rfl, rfl, SqL.of (by assumption), (by assumption), ?_⟩ | refine And.intro (Or.inl ⟨rfl, _, SqL.of (by assumption)⟩) ?_ | refine And.intro ⟨_, rfl⟩ ?_ | refine ⟨_, _, rfl, .inl (SqL.of (by assumption)), ?_⟩ | (refine And.intro ?_ ?_; focus (walk_at "sd"; done))))
local macro_rules | `(tactic| walk_at "x") => `(tactic| (first | refine ⟨_, rfl, ?_⟩ | refine Or.inl ⟨_, rfl, ?_⟩ | refine ⟨_, _, rfl, rfl, ?_⟩ | refine ⟨_, _, _, _, rfl, rfl, SqL.of (by assumption), (by assumption), ?_⟩ | refine And.intro (Or.inl ⟨rfl, _, SqL.of (by assumption)⟩) ?_ | refine And.intro ⟨_, rfl⟩ ?_ | refine ⟨_, _, rfl, .inl (SqL.of (by assumption)), ?_⟩ | refine ⟨_, _, rfl, .inr (SqT.of (by assumption)), ?_⟩ | refine ⟨_, _, _, _, rfl, rfl, SqT.of (by assumption), (by assumption), ?_⟩ | with_reducible refine iteF ?_ | with_reducible refine iteT ?_ | (refine And.intro ?_ ?_; focus (walk_at "sd"; done))))
local macro_rules | `(tactic| walk_at "rd") => `(tactic| repeat (first | refine ⟨_, rfl, ?_⟩ | refine Or.inl ⟨_, rfl, ?_⟩ | refine ⟨_, _, rfl, rfl, ?_⟩ | refine ⟨_, _, _, _, rfl, rfl, SqL.of (by assumption), (by assumption), ?_⟩ | refine And.intro (Or.inl ⟨rfl, _, SqL.of (by assumption)⟩) ?_ | refine And.intro ⟨_, rfl⟩ ?_ | refine ⟨_, _, rfl, .inl (SqL.of (by assumption)), ?_⟩ | (refine And.intro ?_ ?_; focus (walk_at "sd"; done))))
local macro_rules | `(tactic| walk_at "rx") => `(tactic| repeat (first | refine ⟨_, rfl, ?_⟩ | refine Or.inl ⟨_, rfl, ?_⟩ | refine ⟨_, _, rfl, rfl, ?_⟩ | refine ⟨_, _, _, _, rfl, rfl, SqL.of (by assumption), (by assumption), ?_⟩ | refine And.intro (Or.inl ⟨rfl, _, SqL.of (by assumption)⟩) ?_ | refine And.intro ⟨_, rfl⟩ ?_ | refine ⟨_, _, rfl, .inl (SqL.of (by assumption)), ?_⟩ | refine ⟨_, _, rfl, .inr (SqT.of (by assumption)), ?_⟩ | refine ⟨_, _, _, _, rfl, rfl, SqT.of (by assumption), (by assumption), ?_⟩ | with_reducible refine iteF ?_ | with_reducible refine iteT ?_ | (refine And.intro ?_ ?_; focus (walk_at "sd"; done))))
def top (i : Nat) : Stmt := PySem.Challenge.pw_rungrepeats_k11_rungs_of_made_rules.main.body.getD i (.Pass ⟨0, 0, 0, 0⟩)
abbrev s_check_size : Stmt := top 8
abbrev N_check_size : List Str := ["n"]
theorem sc_check_size : FnScope N_check_size ["n"] (defScope s_check_size) := ⟨rfl, rfl, rfl, by decide +kernel, rfl, by decide +kernel, by decide +kernel⟩
section
variable {P : Program} {w : World} {K : PySem.W.Frag} {mg : Str → Option Value} {base : Heap}
def spCheckSize : Sp := fun vs H Q _ => ∃ n : Int, vs = [.int n] ∧ 1 ≤ n ∧ Q .non H
theorem ok_check_size {f : Addr} {fd : FuncData} (F : Fun K "check_size" "check_size" s_check_size f fd) (B : Bi mg) : FnOk P w K mg base CX0 2 f fd ["n"] spCheckSize := by
  refine F.ok sc_check_size (fun vs H Q E h => ?_) (fun cdv A outer s H vs Q E hr h => ?_)
  · obtain ⟨n, rfl, _⟩ := h
    rfl
  · obtain ⟨n, rfl, hn, k⟩ := h
    refine ⟨_, (pss_one (ps_if (pt_cmpR op_lt (pv 0) pe_int (nomark _))
    (pss_one ps_never)
    pss_nil)), ?_⟩
    walk_at "rd"
    refine ite2 (fun hc => ?_) (fun hc => ?_)
    · exact absurd (of_decide_eq_true hc) (by omega)
    · exact k
end
abbrev s_check_post : Stmt := top 9
abbrev N_check_post : List Str := ["post", "n"]
theorem sc_check_post : FnScope N_check_post ["post", "n"] (defScope s_check_post) := ⟨rfl, rfl, rfl, by decide +kernel, rfl, by decide +kernel, by decide +kernel⟩
section
variable {P : Program} {w : World} {K : PySem.W.Frag} {mg : Str → Option Value} {base : Heap}
def spCheckPost : Sp := fun vs H Q _ => ∃ q n : Int, vs = [.int q, .int n] ∧ 0 ≤ q ∧ q < n ∧ Q .non H
theorem ok_check_post {f : Addr} {fd : FuncData} (F : Fun K "check_post" "check_post" s_check_post f fd) (B : Bi mg) : FnOk P w K mg base CX0 2 f fd ["post", "n"] spCheckPost := by
  refine F.ok sc_check_post (fun vs H Q E h => ?_) (fun cdv A outer s H vs Q E hr h => ?_)
  · obtain ⟨q, n, rfl, _⟩ := h
    rfl
  · obtain ⟨q, n, rfl, h0, h1, k⟩ := h
    refine ⟨_, (pss_one (ps_if (PW.pt (pw_or (pt_cmpR op_lt (pv 0) pe_int (nomark _)) (pw_or1 (pt_cmpR op_ge (pv 0) (pv 1) (nomark _)))))
    (pss_one ps_never)
    pss_nil)), ?_⟩
    walk_at "rd"
    refine ite2 (fun hc => absurd (of_decide_eq_true hc) (by omega)) (fun _ => ?_)
    walk_at "rd"
    refine ite2 (fun hc => absurd (of_decide_eq_true hc) (by omega)) (fun _ => ?_)
    exact k
end
abbrev s_check_half_post : Stmt := top 10
abbrev N_check_half_post : List Str := ["post"]
theorem sc_check_half_post : FnScope N_check_half_post ["post"] (defScope s_check_half_post) := ⟨rfl, rfl, rfl, by decide +kernel, rfl, by decide +kernel, by decide +kernel⟩
section
variable {P : Program} {w : World} {K : PySem.W.Frag} {mg : Str → Option Value} {base : Heap}
def spCheckHalf : Sp := fun vs H Q _ => ∃ n : Int, vs = [.int n] ∧ 0 ≤ n ∧ Q .non H
theorem ok_check_half_post {f : Addr} {fd : FuncData} (F : Fun K "check_half_post" "check_half_post" s_check_half_post f fd) (B : Bi mg) : FnOk P w K mg base CX0 2 f fd ["post"] spCheckHalf := by
  refine F.ok sc_check_half_post (fun vs H Q E h => ?_) (fun cdv A outer s H vs Q E hr h => ?_)
  · obtain ⟨n, rfl, _⟩ := h
    rfl
  · obtain ⟨n, rfl, hn, k⟩ := h
    refine ⟨_, (pss_one (ps_if (pt_cmpR op_lt (pv 0) pe_int (nomark _))
    (pss_one ps_never)
    pss_nil)), ?_⟩
    walk_at "rd"
    refine ite2 (fun hc => ?_) (fun hc => ?_)
    · exact absurd (of_decide_eq_true hc) (by omega)
    · exact k
end
abbrev s_check_number : Stmt := top 11
abbrev N_check_number : List Str := ["number"]
theorem sc_check_number : FnScope N_check_number ["number"] (defScope s_check_number) := ⟨rfl, rfl, rfl, by decide +kernel, rfl, by decide +kernel, by decide +kernel⟩
section
variable {P : Program} {w : World} {K : PySem.W.Frag} {mg : Str → Option Value} {base : Heap}
def spCheckNumber : Sp := fun vs H Q _ => ∃ n : Int, vs = [.int n] ∧ 0 ≤ n ∧ Q .non H
theorem ok_check_number {f : Addr} {fd : FuncData} (F : Fun K "check_number" "check_number" s_check_number f fd) (B : Bi mg) : FnOk P w K mg base CX0 2 f fd ["number"] spCheckNumber := by
  refine F.ok sc_check_number (fun vs H Q E h => ?_) (fun cdv A outer s H vs Q E hr h => ?_)
  · obtain ⟨n, rfl, _⟩ := h
    rfl
  · obtain ⟨n, rfl, hn, k⟩ := h
    refine ⟨_, (pss_one (ps_if (pt_cmpR op_lt (pv 0) pe_int (nomark _))
    (pss_one ps_never)
    pss_nil)), ?_⟩
    walk_at "rd"
    refine ite2 (fun hc => ?_) (fun hc => ?_)
    · exact absurd (of_decide_eq_true hc) (by omega)
    · exact k
end
abbrev s_is_marked : Stmt := top 13
abbrev N_is_marked : List Str := ["text"]
theorem sc_is_marked : FnScope N_is_marked ["text"] (defScope s_is_marked) := ⟨rfl, rfl, rfl, by decide +kernel, rfl, by decide +kernel, by decide +kernel⟩
section
variable {P : Program} {w : World} {K : PySem.W.Frag} {mg : Str → Option Value} {base : Heap}
/-- marks alone, no two rungs side by side: as the program asks it -/
def Mk (z : Str) : Bool := decide ((tl z).count 45 + (tl z).count 46 = (tl z).length) && (!(!(Builtin.Str.occurrences z (Str.ofString "--") 0 z.length 1).isEmpty))
def spIsMarked : Sp := fun vs H Q _ => ∃ z : Str, vs = [.str z] ∧ z.length ≤ sizeLine ∧ Q (.bl (Mk z)) H
theorem ok_is_marked {f : Addr} {fd : FuncData} (F : Fun K "is_marked" "is_marked" s_is_marked f fd) (B : Bi mg) : FnOk P w K mg base CX0 1 f fd ["text"] spIsMarked := by
  refine F.ok sc_is_marked (fun vs H Q E h => ?_) (fun cdv A outer s H vs Q E hr h => ?_)
  · obtain ⟨z, rfl, _⟩ := h
    rfl
  · obtain ⟨z, rfl, hz, k⟩ := h
    refine ⟨_, (pss_one (ps_ret (pe_and (pe_cmpR op_eq (pe_op op_add (pe_m1 PySem.F.slot_str_count PySem.F.type_str_count mt_count (pv 0) pe_str) (pe_m1 PySem.F.slot_str_count PySem.F.type_str_count mt_count (pv 0) pe_str)) (pe_callB call_len_str (by rfl) B.len_ PySem.boot_len (pa_cons (pv 0) pa_nil)) (nomark _)) (pe_one (pe_cmpR op_notin_str pe_str (pv 0) (by rfl)))))), ?_⟩
    walk_at "rx"
    have e1 : Txt.count z (Str.ofString "-") = ((tl z).count 45 : Nat) := count_one z 45
    have e2 : Txt.count z (Str.ofString ".") = ((tl z).count 46 : Nat) := count_one z 46
    rw [e1, e2, len_tl]
    unfold Mk at k
    refine ite2 (fun hc => ?_) (fun hc => ?_)
    · have hs : (tl z).count 45 + (tl z).count 46 = (tl z).length := by
        have := of_decide_eq_true hc
        injection this with this
        omega
      rw [decide_eq_true hs, Bool.true_and] at k
      walk_at "rx"
      exact k
    · have hs : ¬ (tl z).count 45 + (tl z).count 46 = (tl z).length := fun h => hc (decide_eq_true (congrArg V.int (by omega)))
      rw [decide_eq_false hs, Bool.false_and] at k
      walk_at "rx"
      exact k
end
abbrev s_is_row : Stmt := top 14
abbrev N_is_row : List Str := ["text"]
theorem sc_is_row : FnScope N_is_row ["text"] (defScope s_is_row) := ⟨rfl, rfl, rfl, by decide +kernel, rfl, by decide +kernel, by decide +kernel⟩
section
variable {P : Program} {w : World} {K : PySem.W.Frag} {mg : Str → Option Value} {base : Heap}
theorem mk_row {z : Str} {c : Nat} (h0 : 0 < (tl z).length) (hc : (tl z)[0]? = some c) : Mk (z ++ (⟨#[c]⟩ : Str)) = true ↔ Row (tl z) := by
  have e : tl (z ++ (⟨#[c]⟩ : Str)) = tl z ++ [c] := tl_append z _
  unfold Mk
  rw [e, Bool.and_eq_true, decide_eq_true_eq, List.count_append, List.count_append, List.length_append, List.length_singleton]
  have q := (signs_count (tl z)).1
  have q1 := (signs_count [c]).1
  rw [List.length_singleton] at q1
  constructor
  · rintro ⟨h1, h2⟩
    have hs : (tl z).count 45 + (tl z).count 46 = (tl z).length := by omega
    exact (row_asked h0 hs hc).mp h2
  · intro R
    have hs := (signs_count (tl z)).2.mpr R.sgn
    have hs1 : ([c]).count 45 + ([c]).count 46 = ([c] : List Nat).length := (signs_count [c]).2.mpr fun x hx => by
      rw [List.mem_singleton.mp hx]
      exact R.sgn c (List.mem_of_getElem? hc)
    rw [List.length_singleton] at hs1
    exact ⟨by omega, (row_asked h0 hs hc).mpr R⟩
def spIsRow : Sp := fun vs H Q _ => ∃ z : Str, vs = [.str z] ∧ z.length < sizeLine ∧ ∀ b : Bool, (b = true ↔ Row (tl z)) → Q (.bl b) H
theorem ok_is_row {f : Addr} {fd : FuncData} (F : Fun K "is_row" "is_row" s_is_row f fd) (B : Bi mg) (D_is_marked : Df P w K mg base "is_marked" 1 ["text"] spIsMarked) : FnOk P w K mg base CX0 2 f fd ["text"] spIsRow := by
  refine F.ok sc_is_row (fun vs H Q E h => ?_) (fun cdv A outer s H vs Q E hr h => ?_)
  · obtain ⟨z, rfl, _⟩ := h
    rfl
  · obtain ⟨z, rfl, hz, k⟩ := h
    refine ⟨_, (pss_one (ps_ret (pe_and (pe_cmpR op_ne (pv 0) pe_str (nomark _)) (pe_one (pe_df D_is_marked (hr.mono (by first | decide | omega)) (by rfl) (pa_cons (pe_op op_add_str (pv 0) (pe_ix ix_str (pv 0) pe_int (fun _ _ => rfl))) pa_nil)))))), ?_⟩
    walk_at "rx"
    refine ite2 (fun hc => ?_) (fun hc => ?_)
    · have hne : 0 < (tl z).length := by
        rcases Nat.eq_zero_or_pos (tl z).length with q | q
        · rw [decide_eq_true (congrArg V.str (ext_tl (List.length_eq_zero_iff.mp q : tl z = tl (Str.ofString "")) ))] at hc
          exact absurd hc (by decide)
        · exact q
      have hg := sg_first hne
      walk_at "rx"
      refine ⟨_, _, _, rfl, rfl, Nat.le_of_lt hz, atI_k' 0 rfl hg, ?_⟩
      refine ⟨_, _, rfl, rfl, hz, ?_⟩
      walk_at "rx"
      refine ⟨?_, k _ (mk_row hne hg)⟩
      have : (z ++ (⟨#[sg (tl z) 0]⟩ : Str)).length = z.length + 1 := by
        rw [len_tl, tl_append, List.length_append, len_tl]
        rfl
      omega
    · walk_at "rx"
      refine k false ⟨fun h => (nomatch h), fun R => ?_⟩
      rw [Bool.not_eq_true, Bool.not_eq_false', decide_eq_true_eq] at hc
      injection hc with e
      rw [e] at R
      exact absurd R.ne (by decide +kernel)
end
abbrev s__shifted_row : Stmt := top 16
abbrev N__shifted_row : List Str := ["row", "by", "cut"]
theorem sc__shifted_row : FnScope N__shifted_row ["row", "by"] (defScope s__shifted_row) := ⟨rfl, rfl, rfl, by decide +kernel, rfl, by decide +kernel, by decide +kernel⟩
section
variable {P : Program} {w : World} {K : PySem.W.Frag} {mg : Str → Option Value} {base : Heap}
def spShiftedRow : Sp := fun vs H Q _ => ∃ (z : Str) (b : Int), vs = [.str z, .int b] ∧ 0 < (tl z).length ∧ z.length ≤ 5000 ∧ Q (.str (rotS b z)) H
theorem ok__shifted_row {f : Addr} {fd : FuncData} (F : Fun K "_shifted_row" "_shifted_row" s__shifted_row f fd) (B : Bi mg) : FnOk P w K mg base CX0 2 f fd ["row", "by"] spShiftedRow := by
  refine F.ok sc__shifted_row (fun vs H Q E h => ?_) (fun cdv A outer s H vs Q E hr h => ?_)
  · obtain ⟨z, b, rfl, _⟩ := h
    rfl
  · obtain ⟨z, b, rfl, h0, hz, k⟩ := h
    have hzl : z.length ≤ sizeLine := Nat.le_trans hz (by decide)
    have hp : (0 : Int) < (z.length : Nat) := by rw [len_tl]; omega
    refine ⟨_, (pss_cons (ps_set (i := 2) sc__shifted_row.nd rfl (Or.inl rfl) (pe_op op_mod (pe_un un_neg (pv 1)) (pe_callB call_len_str (by rfl) B.len_ PySem.boot_len (pa_cons (pv 0) pa_nil))))
    (pss_one (ps_ret (pe_op op_add_str (pe_slice sl_str (pv 0) (po_some (pv 2)) po_none) (pe_slice sl_str (pv 0) po_none (po_some (pv 2))))))), ?_⟩
    walk_at "rd"
    have e0 := Int.emod_nonneg (-b) (show (z.length : Int) ≠ 0 by omega)
    have e1 := Int.emod_lt_of_pos (-b) hp
    obtain ⟨c, ec⟩ := Int.eq_ofNat_of_zero_le e0
    have hc1 := cutS_length z (some (-b % (z.length : Int))) none
    have hc2 := cutS_length z none (some (-b % (z.length : Int)))
    refine And.intro (Nat.le_trans (show _ ≤ 10000 by omega) (by decide)) ?_
    rw [ec, cut_rot h0 (by rw [← len_tl]; exact ec)]
    exact k
end
abbrev s__mirrored_row : Stmt := top 17
abbrev N__mirrored_row : List Str := ["row", "n", "at"]
theorem sc__mirrored_row : FnScope N__mirrored_row ["row", "n"] (defScope s__mirrored_row) := ⟨rfl, rfl, rfl, by decide +kernel, rfl, by decide +kernel, by decide +kernel⟩
section
variable {P : Program} {w : World} {K : PySem.W.Frag} {mg : Str → Option Value} {base : Heap}
def spMirroredRow : Sp := fun vs H Q _ => ∃ (z : Str) (n : Int), vs = [.str z, .int n] ∧ 0 < (tl z).length ∧ z.length ≤ 5000 ∧ ∀ H' : Hp, Same H H' → Q (.str (mirS (n - 2) z)) H'
theorem ok__mirrored_row {f : Addr} {fd : FuncData} (F : Fun K "_mirrored_row" "_mirrored_row" s__mirrored_row f fd) (B : Bi mg) : FnOk P w K mg base CX0 2 f fd ["row", "n"] spMirroredRow := by
  refine F.ok sc__mirrored_row (fun vs H Q E h => ?_) (fun cdv A outer s H vs Q E hr h => ?_)
  · obtain ⟨z, n, rfl, _⟩ := h
    rfl
  · obtain ⟨z, n, rfl, h0, hz, k⟩ := h
    have hzl : z.length ≤ sizeLine := Nat.le_trans hz (by decide)
    have hp : (0 : Int) < (z.length : Nat) := by rw [len_tl]; omega
    have hlz := len_tl z
    refine ⟨_, (pss_one (ps_ret (pe_join pe_str (pe_lc (own := [("at", 2)]) (g := gName 2) (tt := tYes) rfl sc__mirrored_row.nd (pi_range1 (by rfl) B.range_ (pa_cons (pe_callB call_len_str (by rfl) B.len_ PySem.boot_len (pa_cons (pv 0) pa_nil)) pa_nil)) (blkOk_by (N := N__mirrored_row) (sc := defScope s__mirrored_row) (by decide +kernel)) (fun _ _ _ _ _ => pg_name (i := 2) sc__mirrored_row.nd rfl (Or.inl rfl)) (fun _ _ _ _ _ => pts_nil) (fun _ _ _ _ _ => (pe_ix ix_str (pv 0) (pe_op op_mod (pe_op op_sub (pe_op op_sub (pv 1) pe_int) (pv 2)) (pe_callB call_len_str (by rfl) B.len_ PySem.boot_len (pa_cons (pv 0) pa_nil))) (fun _ _ => rfl))))))), ?_⟩
    walk_at "rd"
    intro D hD
    refine lc_range (lo := 0) (n := z.length) (fun j H2 => Same H H2 ∧ H2 D = some (.lst ((((pick (tl z) fun k => n - 2 - k).take j).map fun c => (⟨#[c]⟩ : Str)).map V.str))) ⟨L2.Same.upd hD, upd_same⟩ ?_ ?_
    · rintro j H2 hj ⟨sm, hD'⟩
      refine ⟨rfl, ?_⟩
      walk_at "rd"
      have hat : atI (z.cps.toList) ((n - 2 - (0 + (j : Int))) % (z.length : Int)) = some (sg (tl z) (n - 2 - (0 + (j : Int)))) := by
        have q := atI_sg h0 (n - 2 - (0 + (j : Int)))
        rw [← len_tl] at q
        exact q
      refine ⟨_, _, _, rfl, rfl, hzl, hat, ?_⟩
      have hjp : j < (pick (tl z) fun k => n - 2 - k).length := by rw [pick_len]; omega
      refine ⟨_, hD', by rw [List.length_map, List.length_map, List.length_take]; exact Nat.lt_of_le_of_lt (show min j _ ≤ 5000 by omega) (by decide), sm.put hD, ?_⟩
      have hg : (pick (tl z) fun k => n - 2 - k)[j] = sg (tl z) (n - 2 - (0 + (j : Int))) := by
        have q := pick_get (l := tl z) (f := fun k => n - 2 - k) (k := j) (by omega)
        rw [List.getElem?_eq_getElem hjp] at q
        rw [Option.some.inj q, Int.zero_add]
      rw [upd_same, List.take_add_one, List.getElem?_eq_getElem hjp, hg, List.map_append, List.map_append]
      rfl
    · rintro H2 ⟨sm, hD'⟩
      rw [List.take_of_length_le (by rw [pick_len]; omega)] at hD'
      refine ⟨_, D, _, rfl, rfl, .inl (SqL.of hD'), ?_, ?_⟩
      · rw [sum_singles, List.length_map, pick_len, show (Str.ofString "").length = 0 by decide +kernel]
        omega
      rw [join_singles]
      exact k H2 sm
end
abbrev s__law_same : Stmt := top 40
abbrev N__law_same : List Str := ["found", "due", "k"]
theorem sc__law_same : FnScope N__law_same ["found", "due"] (defScope s__law_same) := ⟨rfl, rfl, rfl, by decide +kernel, rfl, by decide +kernel, by decide +kernel⟩
section
variable {P : Program} {w : World} {K : PySem.W.Frag} {mg : Str → Option Value} {base : Heap}
/-- two values that are the same data, n deep at most -/
inductive Alike (K : PySem.W.Frag) (H : Hp) : Nat → V → V → Prop where
  | non {n : Nat} : Alike K H (n + 1) .non .non
  | bl {n : Nat} (b : Bool) : Alike K H (n + 1) (.bl b) (.bl b)
  | int {n : Nat} (i : Int) : Alike K H (n + 1) (.int i) (.int i)
  | str {n : Nat} (z : Str) : Alike K H (n + 1) (.str z) (.str z)
  | lst {n : Nat} {a b : Addr} {xs ys : List V} (ha : H a = some (.lst xs)) (hb : H b = some (.lst ys)) (hl : xs.length = ys.length) (hm : ys.length ≤ 5000)
      (h : ∀ (i : Nat) (x y : V), xs[i]? = some x → ys[i]? = some y → Alike K H n x y) : Alike K H (n + 1) (.ref a) (.ref b)
  | tup {n : Nat} {a b : Addr} {xs ys : List V} (ha : H a = some (.tup xs)) (hb : H b = some (.tup ys)) (hl : xs.length = ys.length) (hm : ys.length ≤ 5000)
      (h : ∀ (i : Nat) (x y : V), xs[i]? = some x → ys[i]? = some y → Alike K H n x y) : Alike K H (n + 1) (.ref a) (.ref b)
theorem Alike.same {H H' : Hp} (s : Same H H') {n : Nat} {x y : V} (h : Alike K H n x y) : Alike K H' n x y := by
  induction h with
  | non => exact .non
  | bl b => exact .bl b
  | int i => exact .int i
  | str z => exact .str z
  | lst ha hb hl hm _ ih => exact .lst (s _ _ ha) (s _ _ hb) hl hm ih
  | tup ha hb hl hm _ ih => exact .tup (s _ _ ha) (s _ _ hb) hl hm ih
def spSame (K : PySem.W.Frag) (n : Nat) : Sp := fun vs H Q _ => ∃ x y : V, vs = [x, y] ∧ Alike K H n x y ∧ ∀ H' : Hp, Same H H' → Q (.bl true) H'
theorem all_true (n : Nat) : ((List.replicate n true).all id) = true := by
  induction n with
  | zero => rfl
  | succ n ih => rw [List.replicate_succ, List.all_cons, ih]; rfl
theorem step__law_same {n : Nat} {f : Addr} {fd : FuncData} (F : Fun K "_law_same" "_law_same" s__law_same f fd) (B : Bi mg) (D_law_same : Df P w K mg base "_law_same" n ["found", "due"] (spSame K n)) : FnOk P w K mg base CX0 (n + 1) f fd ["found", "due"] (spSame K (n + 1)) := by
  refine F.ok sc__law_same (fun vs H Q E h => ?_) (fun cdv A outer s H vs Q E hr h => ?_)
  · obtain ⟨x, y, rfl, _⟩ := h
    rfl
  · obtain ⟨x, y, rfl, hA, k⟩ := h
    refine ⟨_, (pss_cons (ps_if (pt_cmpR op_isN (pv 1) pe_non (nomark _))
    (pss_one (ps_ret (pe_cmpR op_isN (pv 0) pe_non (nomark _))))
    pss_nil)
    (pss_cons (ps_if (pt_val (pe_callB call_isi (by rfl) B.isinstance_ (by decide +kernel) (pa_cons (pv 1) (pa_cons (pe_bltn (v := .ty "bool") (u := .type "bool") (by rfl) B.bool_ (by decide +kernel) rfl) pa_nil))))
    (pss_one (ps_ret (pe_and (pe_callB call_isi (by rfl) B.isinstance_ (by decide +kernel) (pa_cons (pv 0) (pa_cons (pe_bltn (v := .ty "bool") (u := .type "bool") (by rfl) B.bool_ (by decide +kernel) rfl) pa_nil))) (pe_one (pe_cmpR op_eq (pv 0) (pv 1) (nomark _))))))
    pss_nil)
    (pss_cons (ps_if (pt_val (pe_callB call_isi (by rfl) B.isinstance_ (by decide +kernel) (pa_cons (pv 1) (pa_cons (pe_bltn (v := .ty "int") (u := .type "int") (by rfl) B.int_ (by decide +kernel) rfl) pa_nil))))
    (pss_one (ps_ret (pe_and (pe_callB call_isi (by rfl) B.isinstance_ (by decide +kernel) (pa_cons (pv 0) (pa_cons (pe_bltn (v := .ty "int") (u := .type "int") (by rfl) B.int_ (by decide +kernel) rfl) pa_nil))) (pe_and (pe_not (pe_callB call_isi (by rfl) B.isinstance_ (by decide +kernel) (pa_cons (pv 0) (pa_cons (pe_bltn (v := .ty "bool") (u := .type "bool") (by rfl) B.bool_ (by decide +kernel) rfl) pa_nil)))) (pe_one (pe_cmpR op_eq (pv 0) (pv 1) (nomark _)))))))
    pss_nil)
    (pss_cons (ps_if (pt_val (pe_callB call_isi (by rfl) B.isinstance_ (by decide +kernel) (pa_cons (pv 1) (pa_cons (pe_bltn (v := .ty "str") (u := .type "str") (by rfl) B.str_ (by decide +kernel) rfl) pa_nil))))
    (pss_one (ps_ret (pe_and (pe_callB call_isi (by rfl) B.isinstance_ (by decide +kernel) (pa_cons (pv 0) (pa_cons (pe_bltn (v := .ty "str") (u := .type "str") (by rfl) B.str_ (by decide +kernel) rfl) pa_nil))) (pe_one (pe_cmpR op_eq (pv 0) (pv 1) (nomark _))))))
    pss_nil)
    (pss_cons (ps_if (pt_val (pe_callB call_isi (by rfl) B.isinstance_ (by decide +kernel) (pa_cons (pv 1) (pa_cons (pe_bltn (v := .ty "list") (u := .type "list") (by rfl) B.list_ (by decide +kernel) rfl) pa_nil))))
    (pss_one (ps_if (pt_not (pt_val (pe_callB call_isi (by rfl) B.isinstance_ (by decide +kernel) (pa_cons (pv 0) (pa_cons (pe_bltn (v := .ty "list") (u := .type "list") (by rfl) B.list_ (by decide +kernel) rfl) pa_nil)))))
    (pss_one (ps_ret pe_bl))
    pss_nil))
    (pss_one (ps_if (pt_not (pt_val (pe_callB call_isi (by rfl) B.isinstance_ (by decide +kernel) (pa_cons (pv 0) (pa_cons (pe_bltn (v := .ty "tuple") (u := .type "tuple") (by rfl) B.tuple_ (by decide +kernel) rfl) pa_nil)))))
    (pss_one (ps_ret pe_bl))
    pss_nil)))
    (pss_cons (ps_if (pt_cmpR op_ne (pe_callB call_len (by rfl) B.len_ PySem.boot_len (pa_cons (pv 0) pa_nil)) (pe_callB call_len (by rfl) B.len_ PySem.boot_len (pa_cons (pv 1) pa_nil)) (nomark _))
    (pss_one (ps_ret pe_bl))
    pss_nil)
    (pss_one (ps_ret (pe_callB (cr_all rfl) (by rfl) B.all_ (by decide +kernel) (pa_cons (pe_lc (own := [("k", 2)]) (g := gName 2) (tt := tYes) rfl sc__law_same.nd (pi_range1 (by rfl) B.range_ (pa_cons (pe_callB call_len (by rfl) B.len_ PySem.boot_len (pa_cons (pv 1) pa_nil)) pa_nil)) (blkOk_by (N := N__law_same) (sc := defScope s__law_same) (by decide +kernel)) (fun _ _ _ _ _ => pg_name (i := 2) sc__law_same.nd rfl (Or.inl rfl)) (fun _ _ _ _ _ => pts_nil) (fun _ _ _ _ _ => (pe_df D_law_same (hr.mono (by first | decide | omega)) (by rfl) (pa_cons (pe_ix (show IxR _ (rIx K) from ix_seq) (pv 0) (pv 2) (fun _ _ => rfl)) (pa_cons (pe_ix (show IxR _ (rIx K) from ix_seq) (pv 1) (pv 2) (fun _ _ => rfl)) pa_nil))))) pa_nil)))))))))), ?_⟩
    cases hA with
    | non =>
      walk_at "rd"
      exact k _ (Same.refl _)
    | bl b =>
      walk_at "rd"
      refine ⟨_, _, _, _, true, rfl, .ty _, .base (.bl _), kit_ty (by decide +kernel), ?_⟩
      walk_at "rd"
      refine ⟨_, _, _, _, true, rfl, .ty _, .base (.bl _), kit_ty (by decide +kernel), ?_⟩
      walk_at "rd"
      rw [decide_eq_true rfl]
      exact k _ (Same.refl _)
    | int i =>
      walk_at "rd"
      refine ⟨_, _, _, _, false, rfl, .ty _, .base (.int _), kit_ty (by decide +kernel), ?_⟩
      walk_at "rd"
      refine ⟨_, _, _, _, true, rfl, .ty _, .base (.int _), kit_ty (by decide +kernel), ?_⟩
      walk_at "rd"
      refine ⟨_, _, _, _, true, rfl, .ty _, .base (.int _), kit_ty (by decide +kernel), ?_⟩
      walk_at "rd"
      refine ⟨_, _, _, _, false, rfl, .ty _, .base (.int _), kit_ty (by decide +kernel), ?_⟩
      walk_at "rd"
      rw [decide_eq_true rfl]
      exact k _ (Same.refl _)
    | str z =>
      walk_at "rd"
      refine ⟨_, _, _, _, false, rfl, .ty _, .base (.str _), kit_ty (by decide +kernel), ?_⟩
      walk_at "rd"
      refine ⟨_, _, _, _, false, rfl, .ty _, .base (.str _), kit_ty (by decide +kernel), ?_⟩
      walk_at "rd"
      refine ⟨_, _, _, _, true, rfl, .ty _, .base (.str _), kit_ty (by decide +kernel), ?_⟩
      walk_at "rd"
      refine ⟨_, _, _, _, true, rfl, .ty _, .base (.str _), kit_ty (by decide +kernel), ?_⟩
      walk_at "rd"
      rw [decide_eq_true rfl]
      exact k _ (Same.refl _)
    | @lst _ a b xs ys ha hb hl hm hi =>
      walk_at "rd"
      refine ⟨_, _, _, _, false, rfl, .ty _, .base (.lst hb), kit_ty (by decide +kernel), ?_⟩
      walk_at "rd"
      refine ⟨_, _, _, _, false, rfl, .ty _, .base (.lst hb), kit_ty (by decide +kernel), ?_⟩
      walk_at "rd"
      refine ⟨_, _, _, _, false, rfl, .ty _, .base (.lst hb), kit_ty (by decide +kernel), ?_⟩
      walk_at "rd"
      refine ⟨_, _, _, _, true, rfl, .ty _, .base (.lst hb), kit_ty (by decide +kernel), ?_⟩
      walk_at "rd"
      refine ⟨_, _, _, _, true, rfl, .ty _, .base (.lst ha), kit_ty (by decide +kernel), ?_⟩
      walk_at "rd"
      refine ⟨_, _, rfl, .inl ⟨_, SqL.of ha, rfl⟩, ?_⟩
      walk_at "rd"
      refine ⟨_, _, rfl, .inl ⟨_, SqL.of hb, rfl⟩, ?_⟩
      rw [hl]
      walk_at "rd"
      refine iteNS rfl ?_
      walk_at "rd"
      refine ⟨_, _, rfl, .inl ⟨_, SqL.of hb, rfl⟩, ?_⟩
      walk_at "rd"
      intro D hD
      refine lc_range (lo := 0) (n := ys.length) (fun i H' => Same H H' ∧ H' D = some (.lst (List.replicate i (V.bl true)))) ⟨Same.upd hD, upd_same⟩ ?_ ?_
      · rintro i H' hil ⟨sm, hD'⟩
        have ex : xs[i]? = some xs[i] := List.getElem?_eq_getElem (by omega)
        have ey : ys[i]? = some ys[i] := List.getElem?_eq_getElem hil
        refine ⟨rfl, ?_⟩
        refine ⟨_, rfl, _, rfl, .inl ⟨_, _, _, _, rfl, rfl, SqL.of (sm _ _ ha), atI_k i (by omega) ex, ?_⟩⟩
        refine ⟨_, rfl, _, rfl, .inl ⟨_, _, _, _, rfl, rfl, SqL.of (sm _ _ hb), atI_k i (by omega) ey, ?_⟩⟩
        refine ⟨_, _, rfl, (hi i _ _ ex ey).same sm, fun H2 s2 => ?_⟩
        refine ⟨_, s2 _ _ hD', by rw [List.length_replicate]; exact Nat.lt_of_lt_of_le hil (Nat.le_trans hm (by decide)), (sm.trans s2).put hD, ?_⟩
        rw [upd_same, List.replicate_succ']
      · rintro H' ⟨sm, hD'⟩
        walk_at "rd"
        refine ⟨D, List.replicate ys.length true, rfl, SqL.of (by rw [List.map_replicate]; exact hD'), ?_⟩
        rw [all_true]
        exact k _ sm
    | @tup _ a b xs ys ha hb hl hm hi =>
      walk_at "rd"
      refine ⟨_, _, _, _, false, rfl, .ty _, .base (.tup hb), kit_ty (by decide +kernel), ?_⟩
      walk_at "rd"
      refine ⟨_, _, _, _, false, rfl, .ty _, .base (.tup hb), kit_ty (by decide +kernel), ?_⟩
      walk_at "rd"
      refine ⟨_, _, _, _, false, rfl, .ty _, .base (.tup hb), kit_ty (by decide +kernel), ?_⟩
      walk_at "rd"
      refine ⟨_, _, _, _, false, rfl, .ty _, .base (.tup hb), kit_ty (by decide +kernel), ?_⟩
      walk_at "rd"
      refine ⟨_, _, _, _, true, rfl, .ty _, .base (.tup ha), kit_ty (by decide +kernel), ?_⟩
      walk_at "rd"
      refine ⟨_, _, rfl, .inr ⟨_, SqT.of ha, rfl⟩, ?_⟩
      walk_at "rd"
      refine ⟨_, _, rfl, .inr ⟨_, SqT.of hb, rfl⟩, ?_⟩
      rw [hl]
      walk_at "rd"
      refine iteNS rfl ?_
      walk_at "rd"
      refine ⟨_, _, rfl, .inr ⟨_, SqT.of hb, rfl⟩, ?_⟩
      walk_at "rd"
      intro D hD
      refine lc_range (lo := 0) (n := ys.length) (fun i H' => Same H H' ∧ H' D = some (.lst (List.replicate i (V.bl true)))) ⟨Same.upd hD, upd_same⟩ ?_ ?_
      · rintro i H' hil ⟨sm, hD'⟩
        have ex : xs[i]? = some xs[i] := List.getElem?_eq_getElem (by omega)
        have ey : ys[i]? = some ys[i] := List.getElem?_eq_getElem hil
        refine ⟨rfl, ?_⟩
        refine ⟨_, rfl, _, rfl, .inr (.inl ⟨_, _, _, _, rfl, rfl, SqT.of (sm _ _ ha), atI_k i (by omega) ex, ?_⟩)⟩
        refine ⟨_, rfl, _, rfl, .inr (.inl ⟨_, _, _, _, rfl, rfl, SqT.of (sm _ _ hb), atI_k i (by omega) ey, ?_⟩)⟩
        refine ⟨_, _, rfl, (hi i _ _ ex ey).same sm, fun H2 s2 => ?_⟩
        refine ⟨_, s2 _ _ hD', by rw [List.length_replicate]; exact Nat.lt_of_lt_of_le hil (Nat.le_trans hm (by decide)), (sm.trans s2).put hD, ?_⟩
        rw [upd_same, List.replicate_succ']
      · rintro H' ⟨sm, hD'⟩
        walk_at "rd"
        refine ⟨D, List.replicate ys.length true, rfl, SqL.of (by rw [List.map_replicate]; exact hD'), ?_⟩
        rw [all_true]
        exact k _ sm
theorem ok__law_same {f : Addr} {fd : FuncData} (F : Fun K "_law_same" "_law_same" s__law_same f fd) (B : Bi mg) (hm : mg "_law_same" = some (.ref f)) (hb : Binds K fd ["found", "due"] []) : ∀ n : Nat, FnOk P w K mg base CX0 n f fd ["found", "due"] (spSame K n)
  | 0 => ⟨fun vs H Q E h => by obtain ⟨x, y, rfl, _⟩ := h; rfl, fun A outer s H args us vs Q E _ _ _ _ h => by obtain ⟨x, y, _, h, _⟩ := h; cases h⟩
  | n + 1 => step__law_same F B (Df.mk' F (ok__law_same F B hm hb n) hm hb)
theorem alike_strs {H : Hp} {n : Nat} {a b : Addr} {ls : List Str} (ha : H a = some (.lst (ls.map V.str))) (hb : H b = some (.lst (ls.map V.str))) (hl : ls.length ≤ 5000) : Alike K H (n + 2) (.ref a) (.ref b) :=
  .lst ha hb rfl (by rw [List.length_map]; exact hl) fun i x y h1 h2 => by
    have hi := (List.getElem?_eq_some_iff.mp h1).1
    rw [List.length_map] at hi
    rw [getS hi] at h1 h2
    obtain rfl := Option.some.inj h1
    obtain rfl := Option.some.inj h2
    exact .str _
def flat1 : V → Bool
  | .non | .bl _ | .int _ | .str _ => true
  | _ => false
theorem alike_one {H : Hp} {n : Nat} : ∀ {x : V}, flat1 x = true → Alike K H (n + 1) x x
  | .non, _ => .non
  | .bl b, _ => .bl b
  | .int i, _ => .int i
  | .str z, _ => .str z
theorem alike_flat {H : Hp} {n : Nat} {a b : Addr} {xs : List V} (ha : H a = some (.lst xs)) (hb : H b = some (.lst xs)) (hl : xs.length ≤ 5000) (hf : xs.all flat1 = true) : Alike K H (n + 2) (.ref a) (.ref b) :=
  .lst ha hb rfl hl fun i x y h1 h2 => by
    rw [h1] at h2
    obtain rfl := Option.some.inj h2
    exact alike_one (List.all_eq_true.mp hf x (List.mem_of_getElem? h1))
theorem alike_flatT {H : Hp} {n : Nat} {a b : Addr} {xs : List V} (ha : H a = some (.tup xs)) (hb : H b = some (.tup xs)) (hl : xs.length ≤ 5000) (hf : xs.all flat1 = true) : Alike K H (n + 2) (.ref a) (.ref b) :=
  .tup ha hb rfl hl fun i x y h1 h2 => by
    rw [h1] at h2
    obtain rfl := Option.some.inj h2
    exact alike_one (List.all_eq_true.mp hf x (List.mem_of_getElem? h1))
theorem pair_get {H : Hp} {n : Nat} : ∀ {xs ys : List V}, PySem.Paired (Alike K H n) xs ys → ∀ (i : Nat) (x y : V), xs[i]? = some x → ys[i]? = some y → Alike K H n x y
  | _, _, .nil, i, x, y, h, _ => by simp at h
  | _, _, .cons r t, 0, x, y, h1, h2 => by
    simp at h1 h2
    subst h1 h2
    exact r
  | _, _, .cons r t, i + 1, x, y, h1, h2 => pair_get t i x y (by simpa using h1) (by simpa using h2)
theorem pair_len {α β : Type} {R : α → β → Prop} : ∀ {xs : List α} {ys : List β}, PySem.Paired R xs ys → xs.length = ys.length
  | _, _, .nil => rfl
  | _, _, .cons _ t => congrArg (· + 1) (pair_len t)
theorem alike_of {H : Hp} {n : Nat} {a b : Addr} {xs ys : List V} (ha : H a = some (.lst xs)) (hb : H b = some (.lst ys)) (hl : ys.length ≤ 5000) (p : PySem.Paired (Alike K H n) xs ys) : Alike K H (n + 1) (.ref a) (.ref b) :=
  .lst ha hb (pair_len p) hl (pair_get p)
theorem alike_ofT {H : Hp} {n : Nat} {a b : Addr} {xs ys : List V} (ha : H a = some (.tup xs)) (hb : H b = some (.tup ys)) (hl : ys.length ≤ 5000) (p : PySem.Paired (Alike K H n) xs ys) : Alike K H (n + 1) (.ref a) (.ref b) :=
  .tup ha hb (pair_len p) hl (pair_get p)
end
abbrev s_Rule_u__init_u_ : Stmt := inClass (top 18) 0
abbrev N_Rule_u__init_u_ : List Str := ["self", "texts", "row"]
theorem sc_Rule_u__init_u_ : FnScope N_Rule_u__init_u_ ["self", "texts"] (defScope s_Rule_u__init_u_) := ⟨rfl, rfl, rfl, by decide +kernel, rfl, by decide +kernel, by decide +kernel⟩
section
variable {P : Program} {w : World} {K : PySem.W.Frag} {mg : Str → Option Value} {base : Heap}
/-- what is known of the class -/
structure Rl (K : PySem.W.Frag) (C : Addr) : Prop where
  cl : Cls K C
  nR : NoAttr K C "_rows"
  c1 : PySem.W.findIn K (.ref C) "__class__" = some (some (.builtin "object.__class__"))
  c2 : PySem.W.specialIn K (.builtin "object.__class__") "__get__" = some (some (.builtin "getset_descriptor.__get__"))
  c3 : PySem.W.takesIn K (.builtin "object.__class__") = some true
  c4 : PySem.W.mroIn K C (.type "object") = some true
  sf : PySem.W.selfFirst K C = true
theorem Rl.c5 {K : PySem.W.Frag} {C : Addr} (_ : Rl K C) : PySem.W.kitOne K (.ref C) (.ref C) = some true := by
  unfold PySem.W.kitOne
  rw [if_pos (beq_self_eq_true _)]
theorem Rl.ty {K : PySem.W.Frag} {C : Addr} (T : Rl K C) {H : Hp} {a dx : Addr} {fs : List (Str × V)} (e : H a = some (.ins C dx fs)) : TyX K H (.ref a) (.ref C) := .base (.ins e T.cl T.c1 T.c2 T.c3 T.c4)
/-- at p an object of the class stands, with these rows -/
def RuleAt (C : Addr) (H : Hp) (p : Addr) (ls : List Str) : Prop := ∃ dx u, H p = some (.ins C dx [("_rows", V.ref u)]) ∧ H u = some (.tup (ls.map V.str))
theorem RuleAt.same {C : Addr} {H H' : Hp} {p : Addr} {ls : List Str} (h : RuleAt C H p ls) (s : Same H H') : RuleAt C H' p ls := by
  obtain ⟨dx, u, h1, h2⟩ := h
  exact ⟨dx, u, s _ _ h1, s _ _ h2⟩
theorem RuleAt.put {C : Addr} {H : Hp} {p l : Addr} {ls : List Str} {xs : List V} {o : HO} (h : RuleAt C H p ls) (hl : H l = some (.lst xs)) : RuleAt C (upd H l o) p ls := by
  obtain ⟨dx, u, h1, h2⟩ := h
  exact ⟨dx, u, by rw [upd_ne (ne_of h1 hl (by intro z; cases z))]; exact h1, by rw [upd_ne (ne_of h2 hl (by intro z; cases z))]; exact h2⟩
def spInit (C : Addr) : Sp := fun vs H Q _ => ∃ (p t dx : Addr) (n : Nat) (ls : List Str), vs = [.ref p, .ref t] ∧ H p = some (.ins C dx []) ∧ H t = some (.lst (ls.map V.str)) ∧ Rows n ls ∧ n ≤ 5000 ∧
  ∀ H' : Hp, RuleAt C H' p ls → (∀ b o, H b = some o → b ≠ p → H' b = some o) → Q .non H'
theorem ok_Rule_init {f C : Addr} {fd : FuncData} (F : Fun K "__init__" "Rule.__init__" s_Rule_u__init_u_ f fd) (B : Bi mg) (T : Rl K C) (D_is_row : Df P w K mg base "is_row" 2 ["text"] spIsRow) : FnOk P w K mg base CX0 3 f fd ["self", "texts"] (spInit C) := by
  refine F.ok sc_Rule_u__init_u_ (fun vs H Q E h => ?_) (fun cdv A outer s H vs Q E hr h => ?_)
  · obtain ⟨p, t, dx, n, ls, rfl, _⟩ := h
    rfl
  · obtain ⟨p, t, dx, n, ls, rfl, hp, ht, R, hn, k⟩ := h
    have npt : p ≠ t := ne_of hp ht (by intro z; cases z)
    have n5 : n < sizeLine := Nat.lt_of_le_of_lt hn (by decide)
    refine ⟨_, (pss_cons (ps_if (pt_cmpR op_eq (pe_callB call_len_seq (by rfl) B.len_ PySem.boot_len (pa_cons (pv 1) pa_nil)) pe_int (nomark _))
    (pss_one ps_never)
    pss_nil)
    (pss_cons (ps_for PassesOwn.never rfl (pi_list (pv 1)) (pg_name (i := 2) sc_Rule_u__init_u_.nd rfl (Or.inl rfl))
    (pss_one (ps_if (PW.pt (pw_or (pt_not (pt_val (pe_df D_is_row (hr.mono (by first | decide | omega)) (by rfl) (pa_cons (pv 2) pa_nil)))) (pw_or1 (pt_cmpR op_ne (pe_callB call_len_str (by rfl) B.len_ PySem.boot_len (pa_cons (pv 2) pa_nil)) (pe_callB call_len_str (by rfl) B.len_ PySem.boot_len (pa_cons (pe_ix ix_list (pv 1) pe_int (fun _ _ => rfl)) pa_nil)) (nomark _)))))
    (pss_one ps_never)
    pss_nil)))
    (pss_one (ps_fld (pv 0) (pe_callTy call_tuple_of (by rfl) B.tuple_ (by decide +kernel) (pa_cons (pv 1) pa_nil)) rfl)))), ?_⟩
    walk_at "rd"
    refine ite2 (fun hc => ?_) (fun hc => ?_)
    · exfalso
      have e := of_decide_eq_true hc
      injection e with e
      rw [List.length_map] at e
      have := R.ne
      omega
    walk_at "rd"
    refine ⟨⟨_, SqL.of ht⟩, ?_⟩
    refine for_list (K := K) (a := t) (xs := ls.map V.str) (fun i σ H' => H' = H ∧ ∃ v, σ = [some (.ref p), some (.ref t), v]) ⟨rfl, none, rfl⟩ (fun i σ H' _ h => by rw [h.1]; exact SqL.of ht) ?_ ?_
    · rintro i x σ H' hi ⟨rfl, v, rfl⟩
      have hil : i < ls.length := by
        have := (List.getElem?_eq_some_iff.mp hi).1
        rw [List.length_map] at this
        exact this
      rw [getS hil] at hi
      obtain rfl := Option.some.inj hi
      have hz := R.lenS (List.getElem_mem hil)
      have hz0 := R.lenS (List.getElem_mem R.ne)
      walk_at "rd"
      intro b hb
      obtain rfl := hb.mpr (R.row _ (List.getElem_mem hil))
      have iz := atI_k' (i := 0) 0 rfl (getS R.ne)
      walk_at "rd"
      rw [hz, hz0]
      walk_at "rd"
      refine iteNS rfl ?_
      walk_at "rd"
      exact ⟨_, rfl⟩
    · rintro σ H' ⟨rfl, v, rfl⟩
      walk_at "rd"
      refine ⟨t, _, rfl, .inl ⟨SqL.of ht, fun u hu => ?_⟩⟩
      have npu : p ≠ u := ne_of_none hp hu
      walk_at "rd"
      refine ⟨p, C, dx, [], rfl, by rw [upd_ne npu]; exact hp, T.cl, T.nR, by decide, ?_⟩
      refine k _ ⟨dx, u, upd_same, by rw [upd_ne npu.symm, upd_same]⟩ fun b o e hb => ?_
      rw [upd_ne hb, upd_ne (ne_of_none e hu)]
      exact e
theorem mk_at {C : Addr} {H : Hp} {t x dx : Addr} {n : Nat} {ls : List Str} {Q : VK} (ht : H t = some (.lst (ls.map V.str))) (W : Rows n ls) (hn : n ≤ 5000) (nx : H x = none) (ndx : H dx = none) (k : ∀ H' : Hp, Same H H' → RuleAt C H' x ls → Q .non H') :
    spInit C [.ref x, .ref t] (upd (upd H dx (.own x)) x (.ins C dx [])) Q E0 :=
  ⟨x, t, dx, n, ls, rfl, upd_same, by rw [upd_ne (ne_of_none ht nx), upd_ne (ne_of_none ht ndx)]; exact ht, W, hn, fun H' RA keep => k H' (L2.Same.made nx ndx keep) RA⟩
theorem lkR {m : Str} (v : V) (h : ¬ m = "_rows") : ([("_rows", v)] : List (Str × V)).lookup m = none := by
  have : (m == ("_rows" : Str)) = false := by simpa using h
  simp [List.lookup, this]
end
abbrev s_Rule_rows : Stmt := inClass (top 18) 1
abbrev N_Rule_rows : List Str := ["self"]
theorem sc_Rule_rows : FnScope N_Rule_rows ["self"] (defScope s_Rule_rows) := ⟨rfl, rfl, rfl, by decide +kernel, rfl, by decide +kernel, by decide +kernel⟩
section
variable {P : Program} {w : World} {K : PySem.W.Frag} {mg : Str → Option Value} {base : Heap}
def spRows (C : Addr) : Sp := fun vs H Q _ => ∃ (p : Addr) (ls : List Str), vs = [.ref p] ∧ RuleAt C H p ls ∧ ∀ (q : Addr) (H' : Hp), Same H H' → H q = none → H' q = some (.lst (ls.map V.str)) → Q (.ref q) H'
theorem ok_Rule_rows {f C : Addr} {fd : FuncData} (F : Fun K "rows" "Rule.rows" s_Rule_rows f fd) (B : Bi mg) (T : Rl K C) : FnOk P w K mg base CX0 2 f fd ["self"] (spRows C) := by
  refine F.ok sc_Rule_rows (fun vs H Q E h => ?_) (fun cdv A outer s H vs Q E hr h => ?_)
  · obtain ⟨p, ls, rfl, _⟩ := h
    rfl
  · obtain ⟨p, ls, rfl, ⟨dx, u, hp, hu⟩, k⟩ := h
    refine ⟨_, (pss_one (ps_ret (pe_callTy call_list_of (by rfl) B.list_ (by decide +kernel) (pa_cons (pe_fld (pv 0) rfl) pa_nil)))), ?_⟩
    walk_at "rd"
    refine ⟨p, C, dx, _, _, rfl, hp, T.cl, T.nR, rfl, ?_⟩
    refine ⟨u, _, rfl, .inr (SqT.of hu), fun l hl => ?_⟩
    exact k l _ (Same.upd hl) hl upd_same
theorem rd_rows {C : Addr} {H : Hp} {p : Addr} {ls : List Str} {Q : VK} (R : RuleAt C H p ls) (k : ∀ (q : Addr) (H' : Hp), Same H H' → H q = none → H' q = some (.lst (ls.map V.str)) → Q (.ref q) H') :
    ∃ a dx fs, V.ref p = .ref a ∧ H a = some (.ins C dx fs) ∧ spRows C [.ref a] H Q E0 := by
  obtain ⟨dx, u, hp, _⟩ := id R
  exact ⟨p, dx, _, rfl, hp, p, ls, rfl, R, k⟩
end
abbrev s_Rule_width : Stmt := inClass (top 18) 2
abbrev N_Rule_width : List Str := ["self"]
theorem sc_Rule_width : FnScope N_Rule_width ["self"] (defScope s_Rule_width) := ⟨rfl, rfl, rfl, by decide +kernel, rfl, by decide +kernel, by decide +kernel⟩
section
variable {P : Program} {w : World} {K : PySem.W.Frag} {mg : Str → Option Value} {base : Heap}
def spWidth (C : Addr) : Sp := fun vs H Q _ => ∃ (p : Addr) (ls : List Str) (n : Nat), vs = [.ref p] ∧ RuleAt C H p ls ∧ Rows n ls ∧ n ≤ 5000 ∧ Q (.int n) H
theorem ok_Rule_width {f C : Addr} {fd : FuncData} (F : Fun K "width" "Rule.width" s_Rule_width f fd) (B : Bi mg) (T : Rl K C) : FnOk P w K mg base CX0 2 f fd ["self"] (spWidth C) := by
  refine F.ok sc_Rule_width (fun vs H Q E h => ?_) (fun cdv A outer s H vs Q E hr h => ?_)
  · obtain ⟨p, ls, n, rfl, _⟩ := h
    rfl
  · obtain ⟨p, ls, n, rfl, ⟨dx, u, hp, hu⟩, R, hn, k⟩ := h
    refine ⟨_, (pss_one (ps_ret (pe_callB call_len_str (by rfl) B.len_ PySem.boot_len (pa_cons (pe_ix ix_tup (pe_fld (pv 0) rfl) pe_int (fun _ _ => rfl)) pa_nil)))), ?_⟩
    walk_at "rd"
    refine ⟨p, C, dx, _, _, rfl, hp, T.cl, T.nR, rfl, ?_⟩
    have hz := R.lenS (List.getElem_mem R.ne)
    refine ⟨u, _, _, _, rfl, rfl, SqT.of hu, atI_k' 0 rfl (getS R.ne), ?_⟩
    refine ⟨_, rfl, Nat.le_trans (Nat.le_of_eq hz) (Nat.le_trans hn (by decide)), ?_⟩
    rw [hz]
    exact k
end
abbrev s_Rule_height : Stmt := inClass (top 18) 3
abbrev N_Rule_height : List Str := ["self"]
theorem sc_Rule_height : FnScope N_Rule_height ["self"] (defScope s_Rule_height) := ⟨rfl, rfl, rfl, by decide +kernel, rfl, by decide +kernel, by decide +kernel⟩
section
variable {P : Program} {w : World} {K : PySem.W.Frag} {mg : Str → Option Value} {base : Heap}
def spHeight (C : Addr) : Sp := fun vs H Q _ => ∃ (p : Addr) (ls : List Str), vs = [.ref p] ∧ RuleAt C H p ls ∧ Q (.int ls.length) H
theorem ok_Rule_height {f C : Addr} {fd : FuncData} (F : Fun K "height" "Rule.height" s_Rule_height f fd) (B : Bi mg) (T : Rl K C) : FnOk P w K mg base CX0 2 f fd ["self"] (spHeight C) := by
  refine F.ok sc_Rule_height (fun vs H Q E h => ?_) (fun cdv A outer s H vs Q E hr h => ?_)
  · obtain ⟨p, ls, rfl, _⟩ := h
    rfl
  · obtain ⟨p, ls, rfl, ⟨dx, u, hp, hu⟩, k⟩ := h
    refine ⟨_, (pss_one (ps_ret (pe_callB call_len_seq (by rfl) B.len_ PySem.boot_len (pa_cons (pe_fld (pv 0) rfl) pa_nil)))), ?_⟩
    walk_at "rd"
    refine ⟨p, C, dx, _, _, rfl, hp, T.cl, T.nR, rfl, ?_⟩
    refine ⟨u, _, rfl, .inr (SqT.of hu), ?_⟩
    rw [List.length_map]
    exact k
end
abbrev s_Rule_inverse : Stmt := inClass (top 18) 4
abbrev N_Rule_inverse : List Str := ["self"]
theorem sc_Rule_inverse : FnScope N_Rule_inverse ["self"] (defScope s_Rule_inverse) := ⟨rfl, rfl, rfl, by decide +kernel, rfl, by decide +kernel, by decide +kernel⟩
section
variable {P : Program} {w : World} {K : PySem.W.Frag} {mg : Str → Option Value} {base : Heap}
def spInverse (C : Addr) : Sp := fun vs H Q _ => ∃ (p : Addr) (n : Nat) (ls : List Str), vs = [.ref p] ∧ RuleAt C H p ls ∧ Rows n ls ∧ n ≤ 5000 ∧ ∀ (q : Addr) (H' : Hp), Same H H' → H q = none → RuleAt C H' q ls.reverse → Q (.ref q) H'
theorem Rows.reverse {n : Nat} {ls : List Str} (R : Rows n ls) : Rows n ls.reverse := ⟨by rw [List.length_reverse]; exact R.ne, fun z hz => R.len z (List.mem_reverse.mp hz), fun z hz => R.row z (List.mem_reverse.mp hz)⟩
theorem ok_Rule_inverse {f C : Addr} {fd : FuncData} (F : Fun K "inverse" "Rule.inverse" s_Rule_inverse f fd) (B : Bi mg) (T : Rl K C) (M_Rule : Mkr P w K mg base "Rule" C 3 ["self", "texts"] (spInit C)) (P_rows : Pr P w K mg base C "rows" 2 (spRows C)) : FnOk P w K mg base CX0 5 f fd ["self"] (spInverse C) := by
  refine F.ok sc_Rule_inverse (fun vs H Q E h => ?_) (fun cdv A outer s H vs Q E hr h => ?_)
  · obtain ⟨p, n, ls, rfl, _⟩ := h
    rfl
  · obtain ⟨p, n, ls, rfl, R, W, hn, k⟩ := h
    refine ⟨_, (pss_one (ps_ret (pe_mk M_Rule (hr.mono (by first | decide | omega)) (by rfl) (pa_cons (pe_revL (pe_pr (pv 0) P_rows (hr.mono (by first | decide | omega)) rfl)) pa_nil)))), ?_⟩
    obtain ⟨dx, u, hp, hu⟩ := id R
    walk_at "rd"
    refine ⟨p, dx, _, rfl, hp, p, ls, rfl, R, fun q H1 s1 hq hq1 => ?_⟩
    refine ⟨q, _, rfl, SqL.of hq1, fun q2 hq2 => ?_⟩
    have s2 : Same H1 (upd H1 q2 (.lst (ls.map V.str).reverse)) := Same.upd hq2
    have h2 : (upd H1 q2 (.lst (ls.map V.str).reverse)) q2 = some (.lst (ls.reverse.map V.str)) := by rw [upd_same, List.map_reverse]
    generalize upd H1 q2 (.lst (ls.map V.str).reverse) = H2 at s2 h2 ⊢
    intro x dx nx ndx nex
    refine ⟨x, q2, dx, n, ls.reverse, rfl, upd_same, by rw [upd_ne (ne_of_none h2 nx), upd_ne (ne_of_none h2 ndx)]; exact h2, W.reverse, hn, fun H3 RA keep => ⟨rfl, ?_⟩⟩
    exact k x H3 ((s1.trans s2).trans (L2.Same.made nx ndx keep)) ((s1.trans s2).free nx) RA
theorem rd_inv {σ : St} {C : Addr} {H : Hp} {p : Addr} {n : Nat} {ls : List Str} {Q : VK} (R : RuleAt C H p ls) (W : Rows n ls) (hn : n ≤ 5000) (k : ∀ (q : Addr) (H' : Hp), Same H H' → H q = none → RuleAt C H' q ls.reverse → Q (.ref q) H') :
    ∃ a dx fs, V.ref p = .ref a ∧ H a = some (.ins C dx fs) ∧ fs.lookup ("inverse" : Str) = none ∧ tNil σ H (fun vs H2 => spInverse C (.ref p :: (vs ++ [])) H2 Q E0) := by
  obtain ⟨dx, u, hp, _⟩ := id R
  exact ⟨p, dx, _, rfl, hp, lkR _ (by decide +kernel), p, n, ls, rfl, R, W, hn, k⟩
end
abbrev s_Rule_shifted : Stmt := inClass (top 18) 5
abbrev N_Rule_shifted : List Str := ["self", "by", "row"]
theorem sc_Rule_shifted : FnScope N_Rule_shifted ["self", "by"] (defScope s_Rule_shifted) := ⟨rfl, rfl, rfl, by decide +kernel, rfl, by decide +kernel, by decide +kernel⟩
section
variable {P : Program} {w : World} {K : PySem.W.Frag} {mg : Str → Option Value} {base : Heap}
def spShifted (C : Addr) : Sp := fun vs H Q _ => ∃ (p : Addr) (b : Int) (n : Nat) (ls : List Str), vs = [.ref p, .int b] ∧ RuleAt C H p ls ∧ Rows n ls ∧ n ≤ 5000 ∧ ls.length ≤ 5000 ∧ ∀ (q : Addr) (H' : Hp), Same H H' → H q = none → RuleAt C H' q (ls.map (rotS b)) → Q (.ref q) H'
theorem ok_Rule_shifted {f C : Addr} {fd : FuncData} (F : Fun K "shifted" "Rule.shifted" s_Rule_shifted f fd) (B : Bi mg) (T : Rl K C) (M_Rule : Mkr P w K mg base "Rule" C 3 ["self", "texts"] (spInit C)) (D_shifted_row : Df P w K mg base "_shifted_row" 2 ["row", "by"] spShiftedRow) : FnOk P w K mg base CX0 5 f fd ["self", "by"] (spShifted C) := by
  refine F.ok sc_Rule_shifted (fun vs H Q E h => ?_) (fun cdv A outer s H vs Q E hr h => ?_)
  · obtain ⟨p, b, n, ls, rfl, _⟩ := h
    rfl
  · obtain ⟨p, b, n, ls, rfl, R, W, hn, hl, k⟩ := h
    refine ⟨_, (pss_one (ps_ret (pe_mk M_Rule (hr.mono (by first | decide | omega)) (by rfl) (pa_cons (pe_lc (own := [("row", 2)]) (g := gName 2) (tt := tYes) rfl sc_Rule_shifted.nd (pi_tup (pe_fld (pv 0) rfl)) (blkOk_by (N := N_Rule_shifted) (sc := defScope s_Rule_shifted) (by decide +kernel)) (fun _ _ _ _ _ => pg_name (i := 2) sc_Rule_shifted.nd rfl (Or.inl rfl)) (fun _ _ _ _ _ => pts_nil) (fun _ _ _ _ _ => (pe_df D_shifted_row (hr.mono (by first | decide | omega)) (by rfl) (pa_cons (pv 2) (pa_cons (pv 1) pa_nil))))) pa_nil)))), ?_⟩
    obtain ⟨dx, u, hp, hu⟩ := id R
    walk_at "rd"
    refine ⟨p, C, dx, _, _, rfl, hp, T.cl, T.nR, rfl, ?_⟩
    refine ⟨u, rfl, ⟨_, SqT.of hu⟩, fun D hD => ?_⟩
    refine lc_tup (K := K) (a := u) (xs := ls.map V.str) (fun i H' => Same H H' ∧ H' D = some (.lst (((ls.take i).map (rotS b)).map V.str))) ⟨L2.Same.upd hD, upd_same⟩ (fun i H' _ h => SqT.of (h.1 _ _ hu)) ?_ ?_
    · rintro i x H' hi ⟨sm, hD'⟩
      have hil : i < ls.length := by
        have := (List.getElem?_eq_some_iff.mp hi).1
        rw [List.length_map] at this
        exact this
      rw [getS hil] at hi
      obtain rfl := Option.some.inj hi
      refine ⟨rfl, ?_⟩
      walk_at "rd"
      refine ⟨_, b, rfl, (W.row _ (List.getElem_mem hil)).ne, by rw [W.lenS (List.getElem_mem hil)]; exact hn, ?_⟩
      refine ⟨_, hD', by rw [List.length_map, List.length_map, List.length_take]; exact Nat.lt_of_le_of_lt (Nat.le_trans (Nat.min_le_right _ _) hl) (by decide), sm.put hD, ?_⟩
      rw [upd_same, take_snoc hil, List.map_append]
      rfl
    · rintro H' ⟨sm, hD'⟩
      rw [List.length_map, List.take_length] at hD'
      intro x dx nx ndx _
      refine mk_at hD' (W.rot b) hn nx ndx fun H3 s3 RA => ⟨rfl, ?_⟩
      exact k x H3 (sm.trans s3) (sm.free nx) RA
theorem rd_sh {σ : St} {te : TE} {C : Addr} {H : Hp} {p : Addr} {b : Int} {n : Nat} {ls : List Str} {Q : VK} (R : RuleAt C H p ls) (W : Rows n ls) (hn : n ≤ 5000) (hl : ls.length ≤ 5000) (ht : ∀ Q' : VK, Q' (.int b) H → te σ H Q')
    (k : ∀ (q : Addr) (H' : Hp), Same H H' → H q = none → RuleAt C H' q (ls.map (rotS b)) → Q (.ref q) H') :
    ∃ a dx fs, V.ref p = .ref a ∧ H a = some (.ins C dx fs) ∧ fs.lookup ("shifted" : Str) = none ∧ tCons te tNil σ H (fun vs H2 => spShifted C (.ref p :: (vs ++ [])) H2 Q E0) := by
  obtain ⟨dx, u, hp, _⟩ := id R
  exact ⟨p, dx, _, rfl, hp, lkR _ (by decide +kernel), ht _ ⟨p, b, n, ls, rfl, R, W, hn, hl, k⟩⟩
end
abbrev s_Rule_then : Stmt := inClass (top 18) 6
abbrev N_Rule_then : List Str := ["self", "other", "width", "row"]
theorem sc_Rule_then : FnScope N_Rule_then ["self", "other"] (defScope s_Rule_then) := ⟨rfl, rfl, rfl, by decide +kernel, rfl, by decide +kernel, by decide +kernel⟩
section
variable {P : Program} {w : World} {K : PySem.W.Frag} {mg : Str → Option Value} {base : Heap}
def spThen (C : Addr) : Sp := fun vs H Q _ => ∃ (p q : Addr) (n m : Nat) (ls ms : List Str), vs = [.ref p, .ref q] ∧ RuleAt C H p ls ∧ RuleAt C H q ms ∧ Rows n ls ∧ Rows m ms ∧ n ≤ 5000 ∧ m ≤ 5000 ∧ Nat.lcm n m ≤ 1000 ∧ ls.length + ms.length ≤ 5000 ∧
  ∀ (r : Addr) (H' : Hp), Same H H' → H r = none → RuleAt C H' r (joinR (Nat.lcm n m) ls ms) → Q (.ref r) H'
theorem ok_Rule_then {f C : Addr} {fd : FuncData} (F : Fun K "then" "Rule.then" s_Rule_then f fd) (B : Bi mg) (T : Rl K C) (G_lcm : mg "lcm" = some (.builtin "math.lcm")) (M_Rule : Mkr P w K mg base "Rule" C 3 ["self", "texts"] (spInit C)) (P_rows : Pr P w K mg base C "rows" 2 (spRows C)) (P_width : Pr P w K mg base C "width" 2 (spWidth C)) : FnOk P w K mg base CX0 5 f fd ["self", "other"] (spThen C) := by
  refine F.ok sc_Rule_then (fun vs H Q E h => ?_) (fun cdv A outer s H vs Q E hr h => ?_)
  · obtain ⟨p, q, n, m, ls, ms, rfl, _⟩ := h
    rfl
  · obtain ⟨p, q, n, m, ls, ms, rfl, R, S, W, W2, hn, hm, hL, hl, k⟩ := h
    refine ⟨_, (pss_cons (ps_set (i := 2) sc_Rule_then.nd rfl (Or.inr rfl) (pe_callBfun cr_lcm (by rfl) G_lcm (pa_cons (pe_pr (pv 0) P_width (hr.mono (by first | decide | omega)) rfl) (pa_cons (pe_pr (pv 1) P_width (hr.mono (by first | decide | omega)) rfl) pa_nil))))
    (pss_one (ps_ret (pe_mk M_Rule (hr.mono (by first | decide | omega)) (by rfl) (pa_cons (pe_lc (own := [("row", 3)]) (g := gName 3) (tt := tYes) rfl sc_Rule_then.nd (pi_list (pe_op op_cat (pe_pr (pv 0) P_rows (hr.mono (by first | decide | omega)) rfl) (pe_pr (pv 1) P_rows (hr.mono (by first | decide | omega)) rfl))) (blkOk_by (N := N_Rule_then) (sc := defScope s_Rule_then) (by decide +kernel)) (fun _ _ _ _ _ => pg_name (i := 3) sc_Rule_then.nd rfl (Or.inl rfl)) (fun _ _ _ _ _ => pts_nil) (fun _ _ _ _ _ => (pe_op op_rep_str (pv 3) (pe_op op_fdiv (pv 2) (pe_callB call_len_str (by rfl) B.len_ PySem.boot_len (pa_cons (pv 3) pa_nil)))))) pa_nil))))), ?_⟩
    obtain ⟨dx, u, hp, hu⟩ := id R
    obtain ⟨dy, v, hq, hv⟩ := id S
    walk_at "rd"
    refine ⟨p, dx, _, rfl, hp, p, ls, n, rfl, R, W, hn, ?_⟩
    refine ⟨_, rfl, q, dy, _, rfl, hq, q, ms, m, rfl, S, W2, hm, ?_⟩
    refine ⟨n, m, rfl, by omega, by omega, ?_⟩
    walk_at "rd"
    refine rd_rows R fun g1 H1 s1 hg1 hg11 => ?_
    obtain ⟨dy1, v1, hq1, hv1⟩ := id (S.same s1)
    refine ⟨_, rfl, q, dy1, _, rfl, hq1, q, ms, rfl, S.same s1, fun g2 H2 s2 hg2 hg22 => ?_⟩
    refine ⟨_, _, _, _, rfl, rfl, s2 _ _ hg11, hg22, by rw [List.length_map, List.length_map]; exact Nat.le_trans hl (by decide), ?_⟩
    intro g3 zg3
    generalize eg3 : upd _ g3 _ = H3
    obtain ⟨s3, hg3⟩ := nw eg3 zg3
    rw [← List.map_append] at hg3
    refine ⟨g3, rfl, ⟨_, SqL.of hg3⟩, fun D hD => ?_⟩
    generalize eL : Nat.lcm n m = L at hL k ⊢
    have hLp : 0 < L := by rw [← eL]; exact Nat.lcm_pos W.pos W2.pos
    have key : ∀ z ∈ ls ++ ms, 0 < (tl z).length ∧ (tl z).length ∣ L ∧ (tl z).length ≤ 5000 := fun z hz => by
      rcases List.mem_append.mp hz with h | h
      · rw [W.len z h, ← eL]
        exact ⟨W.pos, Nat.dvd_lcm_left n m, hn⟩
      · rw [W2.len z h, ← eL]
        exact ⟨W2.pos, Nat.dvd_lcm_right n m, hm⟩
    refine lc_list (K := K) (a := g3) (xs := (ls ++ ms).map V.str) (fun i H' => Same H3 H' ∧ H' D = some (.lst ((((ls ++ ms).take i).map (strS L)).map V.str))) ⟨L2.Same.upd hD, upd_same⟩ (fun i H' _ h => SqL.of (h.1 _ _ hg3)) ?_ ?_
    · rintro i x H' hi ⟨sm, hD'⟩
      have hil : i < (ls ++ ms).length := by
        have := (List.getElem?_eq_some_iff.mp hi).1
        rw [List.length_map] at this
        exact this
      rw [getS hil] at hi
      obtain rfl := Option.some.inj hi
      obtain ⟨k1, k2, k3⟩ := key _ (List.getElem_mem hil)
      have hzl : ((ls ++ ms)[i]).length ≤ sizeLine := by rw [len_tl]; exact Nat.le_trans k3 (by decide)
      have hdv : (0 : Int) < (((ls ++ ms)[i]).length : Int) ∧ (((ls ++ ms)[i]).length : Int) < 1073741824 := by rw [len_tl]; omega
      refine ⟨rfl, ?_⟩
      walk_at "rd"
      have hq : (L : Int) / ((((ls ++ ms)[i]).length : Nat) : Int) = ((L / (tl (ls ++ ms)[i]).length : Nat) : Int) := by rw [len_tl]; rfl
      have hq1 : 1 ≤ L / (tl (ls ++ ms)[i]).length := Nat.div_pos (Nat.le_of_dvd hLp k2) k1
      have hq2 : L / (tl (ls ++ ms)[i]).length ≤ L := Nat.div_le_self _ _
      rw [hq]
      refine ⟨by omega, by omega, ?_, ?_⟩
      · rw [Int.toNat_natCast, len_tl, Nat.mul_div_cancel' k2]
        exact Nat.le_trans hL (by decide)
      refine ⟨_, hD', by rw [List.length_map, List.length_map, List.length_take, List.length_append]; exact Nat.lt_of_le_of_lt (Nat.le_trans (Nat.min_le_right _ _) hl) (by decide), sm.put hD, ?_⟩
      rw [upd_same, List.take_add_one, List.getElem?_eq_getElem hil, List.map_append, List.map_append, Int.toNat_natCast]
      rfl
    · rintro H' ⟨sm, hD'⟩
      rw [List.length_map, List.take_length] at hD'
      have J := joinR_rows W W2
      rw [eL] at J
      intro x dx2 nx ndx _
      refine mk_at hD' J (by omega) nx ndx fun H4 s4 RA => ⟨rfl, ?_⟩
      have s0 := s1.trans (s2.trans (s3.trans sm))
      exact k x H4 (s0.trans s4) (s0.free nx) RA
end
abbrev s_Rule_has_rung : Stmt := inClass (top 18) 7
abbrev N_Rule_has_rung : List Str := ["self", "row", "post"]
theorem sc_Rule_has_rung : FnScope N_Rule_has_rung ["self", "row", "post"] (defScope s_Rule_has_rung) := ⟨rfl, rfl, rfl, by decide +kernel, rfl, by decide +kernel, by decide +kernel⟩
section
variable {P : Program} {w : World} {K : PySem.W.Frag} {mg : Str → Option Value} {base : Heap}
def spHasRung (C : Addr) : Sp := fun vs H Q _ => ∃ (p : Addr) (r q : Int) (n : Nat) (ls : List Str) (z : Str), vs = [.ref p, .int r, .int q] ∧ RuleAt C H p ls ∧ Rows n ls ∧ n ≤ 5000 ∧ 0 ≤ r ∧ 0 ≤ q ∧ ls[(r % (ls.length : Int)).toNat]? = some z ∧ Q (.bl (rungB z q)) H
theorem ok_Rule_has_rung {f C : Addr} {fd : FuncData} (F : Fun K "has_rung" "Rule.has_rung" s_Rule_has_rung f fd) (B : Bi mg) (T : Rl K C) (D_check_number : Df P w K mg base "check_number" 2 ["number"] spCheckNumber) (D_check_half_post : Df P w K mg base "check_half_post" 2 ["post"] spCheckHalf) (P_width : Pr P w K mg base C "width" 2 (spWidth C)) (P_height : Pr P w K mg base C "height" 2 (spHeight C)) : FnOk P w K mg base CX0 4 f fd ["self", "row", "post"] (spHasRung C) := by
  refine F.ok sc_Rule_has_rung (fun vs H Q E h => ?_) (fun cdv A outer s H vs Q E hr h => ?_)
  · obtain ⟨p, r, q, n, ls, z, rfl, _⟩ := h
    rfl
  · obtain ⟨p, r, q, n, ls, z, rfl, R, W, hn, hr0, hq0, hz, k⟩ := h
    refine ⟨_, (pss_cons (ps_expr (pe_df D_check_number (hr.mono (by first | decide | omega)) (by rfl) (pa_cons (pv 1) pa_nil)))
    (pss_cons (ps_expr (pe_df D_check_half_post (hr.mono (by first | decide | omega)) (by rfl) (pa_cons (pv 2) pa_nil)))
    (pss_one (ps_ret (pe_cmpR op_eq (pe_ix ix_str (pe_ix ix_tup (pe_fld (pv 0) rfl) (pe_op op_mod (pv 1) (pe_pr (pv 0) P_height (hr.mono (by first | decide | omega)) rfl)) (fun _ _ => rfl)) (pe_op op_mod (pv 2) (pe_pr (pv 0) P_width (hr.mono (by first | decide | omega)) rfl)) (fun _ _ => rfl)) pe_str (nomark _)))))), ?_⟩
    obtain ⟨dx, u, hp, hu⟩ := id R
    have hzm : z ∈ ls := List.mem_of_getElem? hz
    have hzn : (tl z).length = n := W.len z hzm
    have h0 := W.pos
    have hl0 := W.ne
    have hzl : z.length ≤ sizeLine := by rw [len_tl, hzn]; exact Nat.le_trans hn (by decide)
    have e : (((r % (ls.length : Int)).toNat : Nat) : Int) = r % (ls.length : Int) := Int.toNat_of_nonneg (Int.emod_nonneg r (by omega))
    have iz : atI (ls.map V.str) (r % (ls.length : Int)) = some (V.str z) := by
      rw [← e]
      exact atI_nat (by rw [List.getElem?_map, hz]; rfl)
    have ic : atI z.cps.toList (q % (n : Int)) = some (sg (tl z) q) := by
      have x := atI_sg (l := tl z) (by omega) q
      rw [hzn] at x
      exact x
    have pl : (0 : Int) < (ls.length : Int) := by omega
    have pn : (0 : Int) < (n : Int) := by omega
    walk_at "rd"
    try (refine ⟨r, rfl, hr0, ?_⟩; walk_at "rd")
    try (refine ⟨q, rfl, hq0, ?_⟩; walk_at "rd")
    refine ⟨p, C, dx, _, _, rfl, hp, T.cl, T.nR, rfl, ?_⟩
    walk_at "rd"
    refine ⟨p, dx, _, rfl, hp, p, ls, rfl, R, ?_⟩
    walk_at "rd"
    refine ⟨u, _, _, _, rfl, rfl, SqT.of hu, iz, ?_⟩
    walk_at "rd"
    refine ⟨p, dx, _, rfl, hp, p, ls, n, rfl, R, W, hn, ?_⟩
    walk_at "rd"
    refine ⟨_, _, _, rfl, rfl, hzl, ic, ?_⟩
    walk_at "rd"
    exact k
end
abbrev s_Rule_mirrored : Stmt := inClass (top 18) 8
abbrev N_Rule_mirrored : List Str := ["self", "n", "row"]
theorem sc_Rule_mirrored : FnScope N_Rule_mirrored ["self", "n"] (defScope s_Rule_mirrored) := ⟨rfl, rfl, rfl, by decide +kernel, rfl, by decide +kernel, by decide +kernel⟩
section
variable {P : Program} {w : World} {K : PySem.W.Frag} {mg : Str → Option Value} {base : Heap}
def spMirrored (C : Addr) : Sp := fun vs H Q _ => ∃ (p : Addr) (b : Int) (n : Nat) (ls : List Str), vs = [.ref p, .int b] ∧ RuleAt C H p ls ∧ Rows n ls ∧ n ≤ 5000 ∧ ls.length ≤ 5000 ∧ 1 ≤ b ∧ ∀ (q : Addr) (H' : Hp), Same H H' → H q = none → RuleAt C H' q (ls.map (mirS (b - 2))) → Q (.ref q) H'
theorem ok_Rule_mirrored {f C : Addr} {fd : FuncData} (F : Fun K "mirrored" "Rule.mirrored" s_Rule_mirrored f fd) (B : Bi mg) (T : Rl K C) (M_Rule : Mkr P w K mg base "Rule" C 3 ["self", "texts"] (spInit C)) (D_check_size : Df P w K mg base "check_size" 2 ["n"] spCheckSize) (D_mirrored_row : Df P w K mg base "_mirrored_row" 2 ["row", "n"] spMirroredRow) : FnOk P w K mg base CX0 5 f fd ["self", "n"] (spMirrored C) := by
  refine F.ok sc_Rule_mirrored (fun vs H Q E h => ?_) (fun cdv A outer s H vs Q E hr h => ?_)
  · obtain ⟨p, b, n, ls, rfl, _⟩ := h
    rfl
  · obtain ⟨p, b, n, ls, rfl, R, W, hn, hl, hb, k⟩ := h
    refine ⟨_, (pss_cons (ps_expr (pe_df D_check_size (hr.mono (by first | decide | omega)) (by rfl) (pa_cons (pv 1) pa_nil)))
    (pss_one (ps_ret (pe_mk M_Rule (hr.mono (by first | decide | omega)) (by rfl) (pa_cons (pe_lc (own := [("row", 2)]) (g := gName 2) (tt := tYes) rfl sc_Rule_mirrored.nd (pi_tup (pe_fld (pv 0) rfl)) (blkOk_by (N := N_Rule_mirrored) (sc := defScope s_Rule_mirrored) (by decide +kernel)) (fun _ _ _ _ _ => pg_name (i := 2) sc_Rule_mirrored.nd rfl (Or.inl rfl)) (fun _ _ _ _ _ => pts_nil) (fun _ _ _ _ _ => (pe_df D_mirrored_row (hr.mono (by first | decide | omega)) (by rfl) (pa_cons (pv 2) (pa_cons (pv 1) pa_nil))))) pa_nil))))), ?_⟩
    obtain ⟨dx, u, hp, hu⟩ := id R
    walk_at "rd"
    try (refine ⟨b, rfl, hb, ?_⟩; walk_at "rd")
    refine ⟨p, C, dx, _, _, rfl, hp, T.cl, T.nR, rfl, ?_⟩
    refine ⟨u, rfl, ⟨_, SqT.of hu⟩, fun D hD => ?_⟩
    refine lc_tup (K := K) (a := u) (xs := ls.map V.str) (fun i H' => Same H H' ∧ H' D = some (.lst (((ls.take i).map (mirS (b - 2))).map V.str))) ⟨L2.Same.upd hD, upd_same⟩ (fun i H' _ h => SqT.of (h.1 _ _ hu)) ?_ ?_
    · rintro i x H' hi ⟨sm, hD'⟩
      have hil : i < ls.length := by
        have := (List.getElem?_eq_some_iff.mp hi).1
        rw [List.length_map] at this
        exact this
      rw [getS hil] at hi
      obtain rfl := Option.some.inj hi
      refine ⟨rfl, ?_⟩
      walk_at "rd"
      refine ⟨_, b, rfl, (W.row _ (List.getElem_mem hil)).ne, by rw [W.lenS (List.getElem_mem hil)]; exact hn, fun H2 s2 => ?_⟩
      refine ⟨_, s2 _ _ hD', by rw [List.length_map, List.length_map, List.length_take]; exact Nat.lt_of_le_of_lt (Nat.le_trans (Nat.min_le_right _ _) hl) (by decide), (sm.trans s2).put hD, ?_⟩
      rw [upd_same, take_snoc hil, List.map_append]
      rfl
    · rintro H' ⟨sm, hD'⟩
      rw [List.length_map, List.take_length] at hD'
      intro x dx nx ndx _
      refine mk_at hD' (W.mir (b - 2)) hn nx ndx fun H3 s3 RA => ⟨rfl, ?_⟩
      exact k x H3 (sm.trans s3) (sm.free nx) RA
theorem rd_mi {σ : St} {te : TE} {C : Addr} {H : Hp} {p : Addr} {b : Int} {n : Nat} {ls : List Str} {Q : VK} (R : RuleAt C H p ls) (W : Rows n ls) (hn : n ≤ 5000) (hl : ls.length ≤ 5000) (hb : 1 ≤ b) (ht : ∀ Q' : VK, Q' (.int b) H → te σ H Q')
    (k : ∀ (q : Addr) (H' : Hp), Same H H' → H q = none → RuleAt C H' q (ls.map (mirS (b - 2))) → Q (.ref q) H') :
    ∃ a dx fs, V.ref p = .ref a ∧ H a = some (.ins C dx fs) ∧ fs.lookup ("mirrored" : Str) = none ∧ tCons te tNil σ H (fun vs H2 => spMirrored C (.ref p :: (vs ++ [])) H2 Q E0) := by
  obtain ⟨dx, u, hp, _⟩ := id R
  exact ⟨p, dx, _, rfl, hp, lkR _ (by decide +kernel), ht _ ⟨p, b, n, ls, rfl, R, W, hn, hl, hb, k⟩⟩
end
abbrev s_Rule_u__add_u_ : Stmt := inClass (top 18) 9
abbrev N_Rule_u__add_u_ : List Str := ["self", "other"]
theorem sc_Rule_u__add_u_ : FnScope N_Rule_u__add_u_ ["self", "other"] (defScope s_Rule_u__add_u_) := ⟨rfl, rfl, rfl, by decide +kernel, rfl, by decide +kernel, by decide +kernel⟩
section
variable {P : Program} {w : World} {K : PySem.W.Frag} {mg : Str → Option Value} {base : Heap}
theorem ok_Rule_add {f C : Addr} {fd : FuncData} (F : Fun K "__add__" "Rule.__add__" s_Rule_u__add_u_ f fd) (B : Bi mg) (T : Rl K C) (E_then : Me P w K mg base C "then" 5 ["self", "other"] (spThen C)) : FnOk P w K mg base CX0 6 f fd ["self", "other"] (spThen C) := by
  refine F.ok sc_Rule_u__add_u_ (fun vs H Q E h => ?_) (fun cdv A outer s H vs Q E hr h => ?_)
  · obtain ⟨p, q, n, m, ls, ms, rfl, _⟩ := h
    rfl
  · obtain ⟨p, q, n, m, ls, ms, rfl, R, S, h⟩ := h
    refine ⟨_, (pss_one (ps_ret (pe_me (pv 0) E_then (hr.mono (by first | decide | omega)) (pa_cons (pv 1) pa_nil)))), ?_⟩
    obtain ⟨dx, u, hp, hu⟩ := id R
    refine ⟨_, rfl, p, dx, _, rfl, hp, lkR _ (by decide +kernel), ?_⟩
    exact ⟨_, rfl, p, q, n, m, ls, ms, rfl, R, S, h⟩
theorem rd_add {C : Addr} {H : Hp} {p q : Addr} {n m : Nat} {ls ms : List Str} {Q : VK} (R : RuleAt C H p ls) (S : RuleAt C H q ms) (W : Rows n ls) (W2 : Rows m ms) (hn : n ≤ 5000) (hm : m ≤ 5000) (hL : Nat.lcm n m ≤ 1000) (hl : ls.length + ms.length ≤ 5000)
    (k : ∀ (r : Addr) (H' : Hp), Same H H' → H r = none → RuleAt C H' r (joinR (Nat.lcm n m) ls ms) → Q (.ref r) H') : rAddOwn C (spThen C) (.ref p) (.ref q) H Q := by
  obtain ⟨dx, u, hp, _⟩ := id R
  obtain ⟨dy, v, hq, _⟩ := id S
  exact ⟨p, q, dx, dy, _, _, rfl, rfl, hp, hq, p, q, n, m, ls, ms, rfl, R, S, W, W2, hn, hm, hL, hl, fun r H' s h RA => ⟨⟨r, rfl⟩, k r H' s h RA⟩⟩
end
abbrev s_Rule_u__len_u_ : Stmt := inClass (top 18) 10
abbrev N_Rule_u__len_u_ : List Str := ["self"]
theorem sc_Rule_u__len_u_ : FnScope N_Rule_u__len_u_ ["self"] (defScope s_Rule_u__len_u_) := ⟨rfl, rfl, rfl, by decide +kernel, rfl, by decide +kernel, by decide +kernel⟩
section
variable {P : Program} {w : World} {K : PySem.W.Frag} {mg : Str → Option Value} {base : Heap}
def spLen (C : Addr) : Sp := fun vs H Q _ => ∃ (p : Addr) (ls : List Str), vs = [.ref p] ∧ RuleAt C H p ls ∧ Q (.int ls.length) H
theorem ok_Rule_len {f C : Addr} {fd : FuncData} (F : Fun K "__len__" "Rule.__len__" s_Rule_u__len_u_ f fd) (B : Bi mg) (T : Rl K C) : FnOk P w K mg base CX0 2 f fd ["self"] (spLen C) := by
  refine F.ok sc_Rule_u__len_u_ (fun vs H Q E h => ?_) (fun cdv A outer s H vs Q E hr h => ?_)
  · obtain ⟨p, ls, rfl, _⟩ := h
    rfl
  · obtain ⟨p, ls, rfl, ⟨dx, u, hp, hu⟩, k⟩ := h
    refine ⟨_, (pss_one (ps_ret (pe_callB call_len_seq (by rfl) B.len_ PySem.boot_len (pa_cons (pe_fld (pv 0) rfl) pa_nil)))), ?_⟩
    walk_at "rd"
    refine ⟨p, C, dx, _, _, rfl, hp, T.cl, T.nR, rfl, ?_⟩
    refine ⟨u, _, rfl, .inr (SqT.of hu), ?_⟩
    rw [List.length_map]
    exact k
end
abbrev s__past_row : Stmt := top 20
abbrev N__past_row : List Str := ["rule", "n", "row", "post"]
theorem sc__past_row : FnScope N__past_row ["rule", "n", "row", "post"] (defScope s__past_row) := ⟨rfl, rfl, rfl, by decide +kernel, rfl, by decide +kernel, by decide +kernel⟩
section
variable {P : Program} {w : World} {K : PySem.W.Frag} {mg : Str → Option Value} {base : Heap}
def spPast (C : Addr) : Sp := fun vs H Q _ => ∃ (p : Addr) (sz q : Int) (r n : Nat) (ls : List Str), vs = [.ref p, .int sz, .int r, .int q] ∧ RuleAt C H p ls ∧ Rows n ls ∧ n ≤ 5000 ∧ 0 ≤ q ∧ Q (.int (cross (rowAt ls r) sz q)) H
theorem cross_up {z : Str} {n q : Int} (h1 : decide (q + 1 < n) = true) (h2 : rungB z q = true) : cross z n q = q + 1 := by
  unfold cross
  rw [h1, h2]
  rfl
theorem cross_dn {z : Str} {n q : Int} (h1 : (decide (q + 1 < n) && rungB z q) = false) (h2 : 0 < q) (h3 : rungB z (q - 1) = true) : cross z n q = q - 1 := by
  unfold cross
  rw [h1, h3, decide_eq_true h2]
  rfl
theorem cross_no {z : Str} {n q : Int} (h1 : (decide (q + 1 < n) && rungB z q) = false) (h2 : ¬ (0 < q ∧ rungB z (q - 1) = true)) : cross z n q = q := by
  unfold cross
  rw [h1, if_neg (by decide), if_neg]
  intro h
  rw [Bool.and_eq_true, decide_eq_true_eq] at h
  exact h2 h
theorem ok__past_row {f C : Addr} {fd : FuncData} (F : Fun K "_past_row" "_past_row" s__past_row f fd) (B : Bi mg) (E_has_rung : Me P w K mg base C "has_rung" 4 ["self", "row", "post"] (spHasRung C)) : FnOk P w K mg base CX0 5 f fd ["rule", "n", "row", "post"] (spPast C) := by
  refine F.ok sc__past_row (fun vs H Q E h => ?_) (fun cdv A outer s0 H vs Q E hr h => ?_)
  · obtain ⟨p, sz, q, r, n, ls, rfl, _⟩ := h
    rfl
  · obtain ⟨p, sz, q, r, n, ls, rfl, R, W, hn, hq, k⟩ := h
    refine ⟨_, (pss_cons (ps_if (PW.pt (pw_and (pt_cmpR op_lt (pe_op op_add (pv 3) pe_int) (pv 1) (nomark _)) (pw_and1 (pt_val (pe_me (pv 0) E_has_rung (hr.mono (by first | decide | omega)) (pa_cons (pv 2) (pa_cons (pv 3) pa_nil)))))))
    (pss_one (ps_ret (pe_op op_add (pv 3) pe_int)))
    pss_nil)
    (pss_cons (ps_if (PW.pt (pw_and (pt_cmpR op_gt (pv 3) pe_int (nomark _)) (pw_and1 (pt_val (pe_me (pv 0) E_has_rung (hr.mono (by first | decide | omega)) (pa_cons (pv 2) (pa_cons (pe_op op_sub (pv 3) pe_int) pa_nil)))))))
    (pss_one (ps_ret (pe_op op_sub (pv 3) pe_int)))
    pss_nil)
    (pss_one (ps_ret (pv 3))))), ?_⟩
    obtain ⟨dx, u, hp, _⟩ := id R
    have hr0 : (0 : Int) ≤ (r : Int) := Int.natCast_nonneg _
    have hz := rowAt_get W.ne r
    generalize rowAt ls r = z at hz k
    walk_at "rd"
    refine cutAnd (fun σ H' => H = H' ∧ σ = [some (.ref p), some (.int sz), some (.int r), some (.int q)] ∧ (decide (q + 1 < sz) && rungB z q) = false) ?_ ?_ ?_
    · rintro σ _ ⟨rfl, rfl, h1⟩
      walk_at "rd"
      refine ite2 (fun hc => ?_) (fun hc => ?_)
      · have hq0 := of_decide_eq_true hc
        walk_at "rd"
        refine ⟨p, dx, _, rfl, hp, lkR _ (by decide +kernel), ?_⟩
        walk_at "rd"
        refine ⟨p, r, q - 1, n, ls, z, rfl, R, W, hn, hr0, by omega, hz, ?_⟩
        walk_at "rd"
        refine ite2 (fun hb => ?_) (fun hb => ?_)
        · rw [cross_dn h1 hq0 hb] at k
          walk_at "rd"
          exact k
        · rw [cross_no h1 (fun h => hb h.2)] at k
          walk_at "rd"
          exact k
      · rw [cross_no h1 (fun h => hc (decide_eq_true h.1))] at k
        walk_at "rd"
        exact k
    · intro hT hc
      walk_at "rd"
      refine ⟨p, dx, _, rfl, hp, lkR _ (by decide +kernel), ?_⟩
      walk_at "rd"
      refine ⟨p, r, q, n, ls, z, rfl, R, W, hn, hr0, hq, hz, ?_⟩
      walk_at "rd"
      refine ite2 (fun hb => ?_) (fun hb => ?_)
      · rw [cross_up hc hb] at k
        walk_at "rd"
        exact k
      · exact hT _ _ ⟨rfl, rfl, by rw [Bool.eq_false_iff.mpr hb, Bool.and_false]⟩
    · intro hc
      exact ⟨rfl, rfl, by rw [hc]; rfl⟩
end
abbrev s__way : Stmt := top 21
abbrev N__way : List Str := ["rule", "n", "post", "rows", "way", "row"]
theorem sc__way : FnScope N__way ["rule", "n", "post", "rows"] (defScope s__way) := ⟨rfl, rfl, rfl, by decide +kernel, rfl, by decide +kernel, by decide +kernel⟩
section
variable {P : Program} {w : World} {K : PySem.W.Frag} {mg : Str → Option Value} {base : Heap}
def spWay (C : Addr) : Sp := fun vs H Q _ => ∃ (p : Addr) (sz q : Int) (d n : Nat) (ls : List Str), vs = [.ref p, .int sz, .int q, .int d] ∧ RuleAt C H p ls ∧ Rows n ls ∧ n ≤ 5000 ∧ 0 ≤ q ∧ q < sz ∧ d ≤ 100000 ∧
  ∀ (t : Addr) (H' : Hp), Same H H' → H t = none → H' t = some (.lst ((way ls sz q (d + 1)).map V.int)) → Q (.ref t) H'
theorem ok__way {f C : Addr} {fd : FuncData} (F : Fun K "_way" "_way" s__way f fd) (B : Bi mg) (D_past_row : Df P w K mg base "_past_row" 5 ["rule", "n", "row", "post"] (spPast C)) : FnOk P w K mg base CX0 6 f fd ["rule", "n", "post", "rows"] (spWay C) := by
  refine F.ok sc__way (fun vs H Q E h => ?_) (fun cdv A outer s0 H vs Q E hr h => ?_)
  · obtain ⟨p, sz, q, d, n, ls, rfl, _⟩ := h
    rfl
  · obtain ⟨p, sz, q, d, n, ls, rfl, R, W, hn, h0, h1, hd, k⟩ := h
    refine ⟨_, (pss_cons (ps_set (i := 4) sc__way.nd rfl (Or.inl rfl) (pe_lst (pa_cons (pv 2) pa_nil)))
    (pss_cons (ps_for PassesOwn.never rfl (pi_range1 (by rfl) B.range_ (pa_cons (pv 3) pa_nil)) (pg_name (i := 5) sc__way.nd rfl (Or.inl rfl))
    (pss_one (ps_expr (pe_bm PySem.F.plainAttrs_list PySem.F.slot_list_append PySem.F.type_list_append mt_append (pv 4) (pa_cons (pe_df D_past_row (hr.mono (by first | decide | omega)) (by rfl) (pa_cons (pv 0) (pa_cons (pv 1) (pa_cons (pv 5) (pa_cons (pe_ix ix_list (pv 4) (pv 5) (fun _ _ => rfl)) pa_nil))))) pa_nil)))))
    (pss_one (ps_ret (pv 4))))), ?_⟩
    have hd62 : (d : Int) < 2 ^ 62 := by omega
    walk_at "rd"
    intro D zD
    generalize eD : upd _ D _ = H1
    obtain ⟨s1, hD⟩ := nw eD zD
    walk_at "rd"
    refine for_range (lo := 0) (n := (d : Int).toNat) (fun i σ H' => ∃ o, σ = [some (.ref p), some (.int sz), some (.int q), some (.int d), some (.ref D), o] ∧ Same H H' ∧ H' D = some (.lst ((way ls sz q (i + 1)).map V.int))) ⟨none, rfl, s1, hD⟩ ?_ ?_
    · rintro i σ H' hi ⟨o, rfl, s2, hD'⟩
      have hw : (way ls sz q (i + 1))[i]? = some (wk ls sz q i) := way_get (Nat.lt_succ_self i)
      have ix : atI ((way ls sz q (i + 1)).map V.int) (0 + (i : Int)) = some (V.int (wk ls sz q i)) := atI_k' i (by omega) (by rw [List.getElem?_map, hw]; rfl)
      walk_at "rd"
      rw [Int.zero_add]
      refine ⟨p, sz, _, i, n, ls, rfl, R.same s2, W, hn, (wk_on h0 h1 i).1, ?_⟩
      walk_at "rd"
      refine ⟨D, _, _, rfl, rfl, hD', by rw [List.length_map, way_len]; exact Nat.lt_of_le_of_lt (show i + 1 ≤ 100000 by omega) (by decide), ?_⟩
      refine ⟨_, rfl, s2.put zD, ?_⟩
      rw [upd_same, way_add ls sz q (i + 1), List.map_append]
      rfl
    · rintro σ H' ⟨o, rfl, s2, hD'⟩
      walk_at "rd"
      exact k D H' s2 zD hD'
end
abbrev s__rungs_crossed : Stmt := top 22
abbrev N__rungs_crossed : List Str := ["rule", "n", "post", "rows", "way", "row"]
theorem sc__rungs_crossed : FnScope N__rungs_crossed ["rule", "n", "post", "rows"] (defScope s__rungs_crossed) := ⟨rfl, rfl, rfl, by decide +kernel, rfl, by decide +kernel, by decide +kernel⟩
section
variable {P : Program} {w : World} {K : PySem.W.Frag} {mg : Str → Option Value} {base : Heap}
def spRungs (C : Addr) : Sp := fun vs H Q _ => ∃ (p : Addr) (sz q : Int) (d n : Nat) (ls : List Str), vs = [.ref p, .int sz, .int q, .int d] ∧ RuleAt C H p ls ∧ Rows n ls ∧ n ≤ 5000 ∧ 0 ≤ q ∧ q < sz ∧ d ≤ 100000 ∧
  ∀ (t : Addr) (H' : Hp), Same H H' → H t = none → H' t = some (.lst (rungs ls sz q d)) → Q (.ref t) H'
theorem ok__rungs_crossed {f C : Addr} {fd : FuncData} (F : Fun K "_rungs_crossed" "_rungs_crossed" s__rungs_crossed f fd) (B : Bi mg) (D_way : Df P w K mg base "_way" 6 ["rule", "n", "post", "rows"] (spWay C)) : FnOk P w K mg base CX0 7 f fd ["rule", "n", "post", "rows"] (spRungs C) := by
  refine F.ok sc__rungs_crossed (fun vs H Q E h => ?_) (fun cdv A outer s0 H vs Q E hr h => ?_)
  · obtain ⟨p, sz, q, d, n, ls, rfl, _⟩ := h
    rfl
  · obtain ⟨p, sz, q, d, n, ls, rfl, R, W, hn, h0, h1, hd, k⟩ := h
    refine ⟨_, (pss_cons (ps_set (i := 4) sc__rungs_crossed.nd rfl (Or.inr rfl) (pe_df D_way (hr.mono (by first | decide | omega)) (by rfl) (pa_cons (pv 0) (pa_cons (pv 1) (pa_cons (pv 2) (pa_cons (pv 3) pa_nil))))))
    (pss_one (ps_ret (pe_lc (own := [("row", 5)]) (g := gName 5) (tt := tYes) rfl sc__rungs_crossed.nd (pi_range1 (by rfl) B.range_ (pa_cons (pv 3) pa_nil)) (blkOk_by (N := N__rungs_crossed) (sc := defScope s__rungs_crossed) (by decide +kernel)) (fun _ _ _ _ _ => pg_name (i := 5) sc__rungs_crossed.nd rfl (Or.inl rfl)) (fun _ _ _ _ _ => pts_nil) (fun _ _ _ _ _ => (pe_ifExp (pt_cmpR op_eq (pe_ix (show IxR _ (rIxL K) from ix_list) (pv 4) (pv 5) (fun _ _ => rfl)) (pe_ix (show IxR _ (rIxL K) from ix_list) (pv 4) (pe_op op_add (pv 5) pe_int) (fun _ _ => rfl)) (nomark _)) pe_non (pe_callB (call_min2 rfl) (by rfl) B.min_ (by decide +kernel) (pa_cons (pe_ix (show IxR _ (rIxL K) from ix_list) (pv 4) (pv 5) (fun _ _ => rfl)) (pa_cons (pe_ix (show IxR _ (rIxL K) from ix_list) (pv 4) (pe_op op_add (pv 5) pe_int) (fun _ _ => rfl)) pa_nil))))))))), ?_⟩
    have hd62 : (d : Int) < 2 ^ 62 := by omega
    walk_at "rd"
    refine ⟨p, sz, q, d, n, ls, rfl, R, W, hn, h0, h1, hd, fun t H1 s1 zt ht => ?_⟩
    walk_at "rd"
    intro D hD
    refine lc_range (lo := 0) (n := (d : Int).toNat) (fun i H' => Same H1 H' ∧ H' D = some (.lst (rungs ls sz q i))) ⟨L2.Same.upd hD, upd_same⟩ ?_ ?_
    · rintro i H' hi ⟨sm, hD'⟩
      have hi' : i < d := hi
      refine ⟨rfl, ?_⟩
      have ht' := sm _ _ ht
      have ia : atI ((way ls sz q (d + 1)).map V.int) (0 + (i : Int)) = some (V.int (wk ls sz q i)) := atI_k' i (by omega) (by rw [List.getElem?_map, way_get (by omega)]; rfl)
      have ib : atI ((way ls sz q (d + 1)).map V.int) (0 + (i : Int) + 1) = some (V.int (wk ls sz q (i + 1))) := atI_k' (i + 1) (by omega) (by rw [List.getElem?_map, way_get (by omega)]; rfl)
      have fin : ∀ v : V, v = rgV (wk ls sz q i) (wk ls sz q (i + 1)) → ∃ acc : List V, H' D = some (.lst acc) ∧ acc.length < sizeLine ∧ (Same H1 (upd H' D (.lst (acc ++ [v]))) ∧ upd H' D (.lst (acc ++ [v])) D = some (.lst (rungs ls sz q (i + 1)))) := fun v e =>
        ⟨_, hD', by rw [rungs_len]; exact Nat.lt_of_le_of_lt (show i ≤ 100000 by omega) (by decide), sm.put hD, by rw [upd_same, e]; unfold rungs; rw [List.range_succ, List.map_append]; rfl⟩
      walk_at "rd"
      refine ite2 (fun hc => ?_) (fun hc => ?_)
      · have e := of_decide_eq_true hc
        injection e with e
        exact fin _ (by unfold rgV; rw [if_pos e])
      · have e : wk ls sz q i ≠ wk ls sz q (i + 1) := fun e => hc (decide_eq_true (congrArg V.int e))
        walk_at "rd"
        refine ⟨_, _, rfl, ?_⟩
        exact fin _ (by unfold rgV; rw [if_neg e])
    · rintro H' ⟨sm, hD'⟩
      exact k D H' (s1.trans sm) (s1.free hD) hD'
end
abbrev s_walk_of : Stmt := top 23
abbrev N_walk_of : List Str := ["rule", "n", "post", "rows"]
theorem sc_walk_of : FnScope N_walk_of ["rule", "n", "post", "rows"] (defScope s_walk_of) := ⟨rfl, rfl, rfl, by decide +kernel, rfl, by decide +kernel, by decide +kernel⟩
section
variable {P : Program} {w : World} {K : PySem.W.Frag} {mg : Str → Option Value} {base : Heap}
def spWalkOf (C : Addr) : Sp := fun vs H Q _ => ∃ (p : Addr) (sz q : Int) (d n : Nat) (ls : List Str), vs = [.ref p, .int sz, .int q, .int d] ∧ RuleAt C H p ls ∧ Rows n ls ∧ n ≤ 5000 ∧ 0 ≤ q ∧ q < sz ∧ d ≤ 100000 ∧
  ∀ (t : Addr) (H' : Hp), Same H H' → H t = none → H' t = some (.lst ((way ls sz q (d + 1)).map V.int)) → Q (.ref t) H'
theorem ok_walk_of {f C : Addr} {fd : FuncData} (F : Fun K "walk_of" "walk_of" s_walk_of f fd) (B : Bi mg) (D_check_size : Df P w K mg base "check_size" 2 ["n"] spCheckSize) (D_check_post : Df P w K mg base "check_post" 2 ["post", "n"] spCheckPost) (D_check_number : Df P w K mg base "check_number" 2 ["number"] spCheckNumber) (D_way : Df P w K mg base "_way" 6 ["rule", "n", "post", "rows"] (spWay C)) : FnOk P w K mg base CX0 7 f fd ["rule", "n", "post", "rows"] (spWalkOf C) := by
  refine F.ok sc_walk_of (fun vs H Q E h => ?_) (fun cdv A outer s0 H vs Q E hr h => ?_)
  · obtain ⟨p, sz, q, d, n, ls, rfl, _⟩ := h
    rfl
  · obtain ⟨p, sz, q, d, n, ls, rfl, R, W, hn, h0, h1, hd, k⟩ := h
    refine ⟨_, (pss_cons (ps_expr (pe_df D_check_size (hr.mono (by first | decide | omega)) (by rfl) (pa_cons (pv 1) pa_nil)))
    (pss_cons (ps_expr (pe_df D_check_post (hr.mono (by first | decide | omega)) (by rfl) (pa_cons (pv 2) (pa_cons (pv 1) pa_nil))))
    (pss_cons (ps_expr (pe_df D_check_number (hr.mono (by first | decide | omega)) (by rfl) (pa_cons (pv 3) pa_nil)))
    (pss_one (ps_ret (pe_df D_way (hr.mono (by first | decide | omega)) (by rfl) (pa_cons (pv 0) (pa_cons (pv 1) (pa_cons (pv 2) (pa_cons (pv 3) pa_nil)))))))))), ?_⟩
    walk_at "rd"
    try (refine ⟨sz, rfl, by omega, ?_⟩; walk_at "rd")
    try (refine ⟨q, sz, rfl, h0, h1, ?_⟩; walk_at "rd")
    try (refine ⟨d, rfl, by omega, ?_⟩; walk_at "rd")
    exact ⟨p, sz, q, d, n, ls, rfl, R, W, hn, h0, h1, hd, k⟩
end
abbrev s_round_of : Stmt := top 24
abbrev N_round_of : List Str := ["rule", "n", "post"]
theorem sc_round_of : FnScope N_round_of ["rule", "n"] (defScope s_round_of) := ⟨rfl, rfl, rfl, by decide +kernel, rfl, by decide +kernel, by decide +kernel⟩
section
variable {P : Program} {w : World} {K : PySem.W.Frag} {mg : Str → Option Value} {base : Heap}
/-- where the walkers from all posts come out -/
def ends (ls : List Str) (N : Nat) : List Int := (List.range N).map fun j : Nat => wk ls (N : Int) (j : Int) ls.length
theorem ends_len (ls : List Str) (N : Nat) : (ends ls N).length = N := by unfold ends; simp
theorem ends_get {ls : List Str} {N j : Nat} (h : j < N) : (ends ls N)[j]? = some (wk ls (N : Int) (j : Int) ls.length) := by
  unfold ends
  rw [List.getElem?_map, List.getElem?_range h]
  rfl
def spRound (C : Addr) : Sp := fun vs H Q _ => ∃ (p : Addr) (N n : Nat) (ls : List Str), vs = [.ref p, .int N] ∧ RuleAt C H p ls ∧ Rows n ls ∧ n ≤ 5000 ∧ ls.length ≤ 5000 ∧ 1 ≤ N ∧ N ≤ 5000 ∧
  ∀ (t : Addr) (H' : Hp), Same H H' → H t = none → H' t = some (.lst ((ends ls N).map V.int)) → Q (.ref t) H'
theorem ok_round_of {f C : Addr} {fd : FuncData} (F : Fun K "round_of" "round_of" s_round_of f fd) (B : Bi mg) (D_check_size : Df P w K mg base "check_size" 2 ["n"] spCheckSize) (D_way : Df P w K mg base "_way" 6 ["rule", "n", "post", "rows"] (spWay C)) (P_height : Pr P w K mg base C "height" 2 (spHeight C)) : FnOk P w K mg base CX0 7 f fd ["rule", "n"] (spRound C) := by
  refine F.ok sc_round_of (fun vs H Q E h => ?_) (fun cdv A outer s0 H vs Q E hr h => ?_)
  · obtain ⟨p, N, n, ls, rfl, _⟩ := h
    rfl
  · obtain ⟨p, N, n, ls, rfl, R, W, hn, hl, hN, hN2, k⟩ := h
    refine ⟨_, (pss_cons (ps_expr (pe_df D_check_size (hr.mono (by first | decide | omega)) (by rfl) (pa_cons (pv 1) pa_nil)))
    (pss_one (ps_ret (pe_lc (own := [("post", 2)]) (g := gName 2) (tt := tYes) rfl sc_round_of.nd (pi_range1 (by rfl) B.range_ (pa_cons (pv 1) pa_nil)) (blkOk_by (N := N_round_of) (sc := defScope s_round_of) (by decide +kernel)) (fun _ _ _ _ _ => pg_name (i := 2) sc_round_of.nd rfl (Or.inl rfl)) (fun _ _ _ _ _ => pts_nil) (fun _ _ _ _ _ => (pe_ix (show IxR _ (rIxL K) from ix_list) (pe_df D_way (hr.mono (by first | decide | omega)) (by rfl) (pa_cons (pv 0) (pa_cons (pv 1) (pa_cons (pv 2) (pa_cons (pe_pr (pv 0) P_height (hr.mono (by first | decide | omega)) rfl) pa_nil))))) (pe_un un_neg pe_int) (fun _ _ => rfl))))))), ?_⟩
    have hN62 : (N : Int) < 2 ^ 62 := by omega
    walk_at "rd"
    try (refine ⟨(N : Int), rfl, by omega, ?_⟩; walk_at "rd")
    intro D hD
    refine lc_range (lo := 0) (n := N) (fun i H' => Same H H' ∧ H' D = some (.lst (((List.range i).map fun j : Nat => wk ls (N : Int) (j : Int) ls.length).map V.int))) ⟨L2.Same.upd hD, upd_same⟩ ?_ ?_
    · rintro i H' hi ⟨sm, hD'⟩
      refine ⟨rfl, ?_⟩
      have R' := R.same sm
      obtain ⟨dx, u, hp, _⟩ := id R'
      walk_at "rd"
      refine ⟨p, dx, _, rfl, hp, p, ls, rfl, R', ?_⟩
      walk_at "rd"
      refine ⟨p, N, 0 + (i : Int), ls.length, n, ls, rfl, R', W, hn, by omega, by omega, by omega, fun t H2 s2 zt ht => ?_⟩
      have it : atI ((way ls (N : Int) (0 + (i : Int)) (ls.length + 1)).map V.int) (-1) = some (V.int (wk ls (N : Int) (i : Int) ls.length)) := atI_back (by
        rw [List.length_map, way_len, Nat.add_sub_cancel, List.getElem?_map, way_get (Nat.lt_succ_self _), Int.zero_add]
        rfl)
      walk_at "rd"
      refine ⟨_, s2 _ _ hD', by rw [List.length_map, List.length_map, List.length_range]; exact Nat.lt_of_lt_of_le hi (Nat.le_trans hN2 (by decide)), (sm.trans s2).put hD, ?_⟩
      rw [upd_same, List.range_succ, List.map_append, List.map_append]
      rfl
    · rintro H' ⟨sm, hD'⟩
      exact k D H' sm hD hD'
end
abbrev s_partners : Stmt := top 25
abbrev N_partners : List Str := ["rule", "n", "post", "rows", "found", "starts", "here", "row", "there", "at"]
theorem sc_partners : FnScope N_partners ["rule", "n", "post", "rows"] (defScope s_partners) := ⟨rfl, rfl, rfl, by decide +kernel, rfl, by decide +kernel, by decide +kernel⟩
section
variable {P : Program} {w : World} {K : PySem.W.Frag} {mg : Str → Option Value} {base : Heap}
def spPartners (C : Addr) : Sp := fun vs H Q _ => ∃ (p : Addr) (N d n : Nat) (q : Int) (ls : List Str), vs = [.ref p, .int N, .int q, .int d] ∧ RuleAt C H p ls ∧ Rows n ls ∧ n ≤ 5000 ∧ 0 ≤ q ∧ q < (N : Int) ∧ N ≤ 63 ∧ d ≤ 100000 ∧
  ∀ (t : Addr) (H' : Hp), Same H H' → H t = none → H' t = some (.lst ((parts ls N q d).map V.int)) → Q (.ref t) H'
/-- what is known behind so many rows: of the set, e rows, of the list of who stands where, i rows -/
structure PtAt (w : World) (H : Hp) (F L : Addr) (N : Nat) (q : Int) (ls : List Str) (i e : Nat) (S : Int → Bool) (H' : Hp) : Prop where
  same : Same H H'
  s1 : ∀ j : Nat, j < N → S (j : Int) = metB ls (N : Int) q e j
  s2 : ∀ x : Int, S x = true → 0 ≤ x ∧ x < (N : Int)
  f : H' F = some (SetO w F S (cnt N fun j => S (j : Int)))
  l : H' L = some (.lst (((List.range N).map fun at_ : Nat => who ls (N : Int) i (at_ : Int)).map V.int))
theorem met1_iff {n : Nat} {ls : List Str} (W : Rows n ls) {N j i : Nat} {q : Int} (h0 : 0 ≤ q) (h1 : q < (N : Int)) (hj : j < N) (hne : wk ls (N : Int) q (i + 1) ≠ wk ls (N : Int) q i) : met1 ls (N : Int) q (j : Int) i = decide ((j : Int) = who ls (N : Int) i (wk ls (N : Int) q (i + 1))) := by
  obtain ⟨a0, a1⟩ := wk_on (ls := ls) h0 h1 (i + 1)
  unfold met1
  rw [decide_eq_false (fun e : V.int (wk ls (N : Int) q (i + 1)) = V.int (wk ls (N : Int) q i) => hne (by injection e)), Bool.not_false, Bool.and_true]
  refine decide_eq_decide.mpr ⟨fun e => ?_, fun e => ?_⟩
  · injection e with e
    rw [← e]
    exact (who_wk W i (by omega) (by omega)).symm
  · rw [e, wk_who W i a0 a1]
theorem met1_no {ls : List Str} {n q j : Int} {i : Nat} (h : wk ls n q (i + 1) = wk ls n q i) : met1 ls n q j i = false := by
  unfold met1
  rw [h, decide_eq_true (rfl : V.int (wk ls n q i) = V.int (wk ls n q i)), Bool.not_true, Bool.and_false]
theorem ok_partners {f C : Addr} {fd : FuncData} (F : Fun K "partners" "partners" s_partners f fd) (B : Bi mg) (D_check_size : Df P w K mg base "check_size" 2 ["n"] spCheckSize) (D_check_post : Df P w K mg base "check_post" 2 ["post", "n"] spCheckPost) (D_check_number : Df P w K mg base "check_number" 2 ["number"] spCheckNumber) (D_past_row : Df P w K mg base "_past_row" 5 ["rule", "n", "row", "post"] (spPast C)) : FnOk P w K mg base CX0 6 f fd ["rule", "n", "post", "rows"] (spPartners C) := by
  refine F.ok sc_partners (fun vs H Q E h => ?_) (fun cdv A outer s0 H vs Q E hr h => ?_)
  · obtain ⟨p, N, d, n, q, ls, rfl, _⟩ := h
    rfl
  · obtain ⟨p, N, d, n, q, ls, rfl, R, W, hn, h0, h1, hN, hd, k⟩ := h
    refine ⟨_, (pss_cons (ps_expr (pe_df D_check_size (hr.mono (by first | decide | omega)) (by rfl) (pa_cons (pv 1) pa_nil)))
    (pss_cons (ps_expr (pe_df D_check_post (hr.mono (by first | decide | omega)) (by rfl) (pa_cons (pv 2) (pa_cons (pv 1) pa_nil))))
    (pss_cons (ps_expr (pe_df D_check_number (hr.mono (by first | decide | omega)) (by rfl) (pa_cons (pv 3) pa_nil)))
    (pss_cons (ps_set (i := 4) sc_partners.nd rfl (Or.inl rfl) (pe_callTy0 cr_set0 (by rfl) B.set_ (by decide +kernel)))
    (pss_cons (ps_set (i := 5) sc_partners.nd rfl (Or.inr rfl) (pe_listRg rfl (by rfl) B.list_ (prg_1 (by rfl) B.range_ (pv 1))))
    (pss_cons (ps_set (i := 6) sc_partners.nd rfl (Or.inl rfl) (pv 2))
    (pss_cons (ps_for PassesOwn.never rfl (pi_range1 (by rfl) B.range_ (pa_cons (pv 3) pa_nil)) (pg_name (i := 7) sc_partners.nd rfl (Or.inr rfl))
    (pss_cons (ps_set (i := 8) sc_partners.nd rfl (Or.inl rfl) (pe_df D_past_row (hr.mono (by first | decide | omega)) (by rfl) (pa_cons (pv 0) (pa_cons (pv 1) (pa_cons (pv 7) (pa_cons (pv 6) pa_nil))))))
    (pss_cons (ps_if (pt_cmpR op_ne (pv 8) (pv 6) (nomark _))
    (pss_one (ps_expr (pe_sadd (pv 4) (pa_cons (pe_ix ix_list (pv 5) (pv 8) (fun _ _ => rfl)) pa_nil))))
    pss_nil)
    (pss_cons (ps_set (i := 5) sc_partners.nd rfl (Or.inr rfl) (pe_lc (own := [("at", 9)]) (g := gName 9) (tt := tYes) rfl sc_partners.nd (pi_range1 (by rfl) B.range_ (pa_cons (pv 1) pa_nil)) (blkOk_by (N := N_partners) (sc := defScope s_partners) (by decide +kernel)) (fun _ _ _ _ _ => pg_name (i := 9) sc_partners.nd rfl (Or.inl rfl)) (fun _ _ _ _ _ => pts_nil) (fun _ _ _ _ _ => (pe_ix (show IxR _ (rIxL K) from ix_list) (pv 5) (pe_df D_past_row (hr.mono (by first | decide | omega)) (by rfl) (pa_cons (pv 0) (pa_cons (pv 1) (pa_cons (pv 7) (pa_cons (pv 9) pa_nil))))) (fun _ _ => rfl)))))
    (pss_one (ps_set (i := 6) sc_partners.nd rfl (Or.inl rfl) (pv 8)))))))
    (pss_one (ps_ret (pe_callB (cr_sortedSet rfl) (by rfl) B.sorted_ (by decide +kernel) (pa_cons (pv 4) pa_nil))))))))))), ?_⟩
    have hd62 : (d : Int) < 2 ^ 62 := by omega
    have hN62 : (N : Int) < 2 ^ 62 := by omega
    walk_at "rd"
    try (refine ⟨(N : Int), rfl, by omega, ?_⟩; walk_at "rd")
    try (refine ⟨q, (N : Int), rfl, h0, h1, ?_⟩; walk_at "rd")
    try (refine ⟨(d : Int), rfl, by omega, ?_⟩; walk_at "rd")
    intro F1 zF
    generalize eF : upd _ F1 _ = H1
    obtain ⟨s1, hF⟩ := nw eF zF
    walk_at "rd"
    intro L1 zL
    generalize eL : upd _ L1 _ = H2
    obtain ⟨s2, hL⟩ := nw eL zL
    have hL' : H2 L1 = some (.lst (((List.range N).map fun at_ : Nat => who ls (N : Int) 0 (at_ : Int)).map V.int)) := by
      rw [hL]
      unfold L2.rgV
      rw [Int.sub_zero, Int.toNat_natCast, List.map_map]
      congr 2
      refine List.map_congr_left fun i _ => ?_
      show V.int (0 + (i : Int)) = V.int (i : Int)
      rw [Int.zero_add]
    have P0 : PtAt w H F1 L1 N q ls 0 0 (fun _ => false) H2 := by
      refine ⟨s1.trans s2, fun j _ => rfl, (fun x h => by cases h), ?_, hL'⟩
      rw [s2 _ _ hF]
      have e0 : cnt N (fun _ => false) = 0 := by
        unfold cnt
        rw [List.filter_eq_nil_iff.mpr (fun _ _ h => by cases h)]
        rfl
      show _ = some (SetO w F1 (fun _ => false) (cnt N (fun _ => false)))
      rw [e0]
      rfl
    clear hL hL' hF eF eL s1 s2
    walk_at "rd"
    refine for_range (lo := 0) (n := (d : Int).toNat) (fun i σ H' => ∃ (L : Addr) (S : Int → Bool) (o7 o8 : Option V), σ = [some (.ref p), some (.int N), some (.int q), some (.int d), some (.ref F1), some (.ref L), some (.int (wk ls (N : Int) q i)), o7, o8, none] ∧ PtAt w H F1 L N q ls i i S H') ⟨L1, _, none, none, rfl, P0⟩ ?_ ?_
    · rintro i σ H' hi ⟨L, S, o7, o8, rfl, PT⟩
      have hi' : i < d := hi
      obtain ⟨a0, a1⟩ := wk_on (ls := ls) h0 h1 (i + 1)
      walk_at "rd"
      rw [Int.zero_add]
      refine ⟨p, (N : Int), _, i, n, ls, rfl, R.same PT.same, W, hn, (wk_on h0 h1 i).1, ?_⟩
      have e : cross (rowAt ls i) (N : Int) (wk ls (N : Int) q i) = wk ls (N : Int) q (i + 1) := rfl
      rw [e]
      walk_at "rd"
      refine cutIf (fun σ H2 => ∃ S2 : Int → Bool, σ = [some (.ref p), some (.int N), some (.int q), some (.int d), some (.ref F1), some (.ref L), some (.int (wk ls (N : Int) q i)), some (.int i), some (.int (wk ls (N : Int) q (i + 1))), none] ∧ PtAt w H F1 L N q ls i (i + 1) S2 H2) ?_ ?_ ?_
      rotate_left
      · intro hT hc
        have hne : wk ls (N : Int) q (i + 1) ≠ wk ls (N : Int) q i := fun e => by
          rw [e, decide_eq_true rfl] at hc
          cases hc
        obtain ⟨b0, b1⟩ := who_on (ls := ls) i a0 a1
        obtain ⟨kn, ekn⟩ := Int.eq_ofNat_of_zero_le b0
        have hkn : kn < N := by omega
        have hL := PT.l
        have hF := PT.f
        have ix : atI (((List.range N).map fun at_ : Nat => who ls (N : Int) i (at_ : Int)).map V.int) (wk ls (N : Int) q (i + 1)) = some (V.int (who ls (N : Int) i (wk ls (N : Int) q (i + 1)))) := by
          refine atI_k' (wk ls (N : Int) q (i + 1)).toNat (Int.toNat_of_nonneg a0).symm ?_
          rw [List.getElem?_map, List.getElem?_map, List.getElem?_range (by omega), Option.map_some, Option.map_some, Int.toNat_of_nonneg a0]
        refine ⟨_, rfl, ?_⟩
        refine ⟨⟨F1, S, _, rfl, hF⟩, ?_⟩
        walk_at "rd"
        refine ⟨F1, who ls (N : Int) i (wk ls (N : Int) q (i + 1)), S, _, rfl, rfl, hF, Nat.lt_of_le_of_lt (Nat.succ_le_succ (Nat.le_trans (cnt_le N _) hN)) (by decide), ?_⟩
        have step : (if S (who ls (N : Int) i (wk ls (N : Int) q (i + 1))) = true then cnt N (fun j => S (j : Int)) else cnt N (fun j => S (j : Int)) + 1) = cnt N (fun j => S (j : Int) || decide ((j : Int) = who ls (N : Int) i (wk ls (N : Int) q (i + 1)))) := by
          have ed : (fun j : Nat => S (j : Int) || decide ((j : Int) = who ls (N : Int) i (wk ls (N : Int) q (i + 1)))) = fun j : Nat => S (j : Int) || decide (j = kn) := by
            funext j
            rw [ekn]
            congr 1
            exact decide_eq_decide.mpr ⟨fun e => by omega, fun e => by omega⟩
          rw [ed, ekn]
          by_cases hS : S (kn : Int) = true
          · rw [if_pos hS]
            exact (cnt_same (p := fun j : Nat => S (j : Int)) hS).symm
          · rw [if_neg hS]
            exact (cnt_add (p := fun j : Nat => S (j : Int)) hkn (Bool.eq_false_iff.mpr hS)).symm
        rw [step]
        have nLF : L ≠ F1 := ne_of hL hF (by intro z; unfold SetO at z; cases z)
        refine hT _ _ ⟨_, rfl, PT.same.put zF, fun j hj => ?_, fun x hx => ?_, upd_same, by rw [upd_ne nLF]; exact hL⟩
        · show (S (j : Int) || decide ((j : Int) = who ls (N : Int) i (wk ls (N : Int) q (i + 1)))) = _
          rw [PT.s1 j hj, metB_add, met1_iff W h0 h1 hj hne]
        · rw [Bool.or_eq_true, decide_eq_true_eq] at hx
          rcases hx with hx | hx
          · exact PT.s2 x hx
          · omega
      · intro hc
        have he : wk ls (N : Int) q (i + 1) = wk ls (N : Int) q i := by
          rw [Bool.not_eq_false', decide_eq_true_eq] at hc
          injection hc
        refine ⟨S, rfl, PT.same, fun j hj => ?_, PT.s2, PT.f, PT.l⟩
        rw [metB_add, met1_no he, Bool.or_false]
        exact PT.s1 j hj
      rintro σ H2 ⟨S2, rfl, P2⟩
      walk_at "rd"
      intro D hD
      refine lc_range (lo := 0) (n := N) (fun j H3 => Same H2 H3 ∧ H3 D = some (.lst (((List.range j).map fun at_ : Nat => who ls (N : Int) (i + 1) (at_ : Int)).map V.int))) ⟨L2.Same.upd hD, upd_same⟩ ?_ ?_
      · rintro j H3 hj ⟨sm, hD'⟩
        refine ⟨rfl, ?_⟩
        have hL3 := sm _ _ P2.l
        obtain ⟨c0, c1⟩ := cross_on (z := rowAt ls i) (n := (N : Int)) (q := (j : Int)) (by omega) (by omega)
        have ix : atI (((List.range N).map fun at_ : Nat => who ls (N : Int) i (at_ : Int)).map V.int) (cross (rowAt ls i) (N : Int) (j : Int)) = some (V.int (who ls (N : Int) (i + 1) (j : Int))) := by
          refine atI_k' (cross (rowAt ls i) (N : Int) (j : Int)).toNat (Int.toNat_of_nonneg c0).symm ?_
          rw [List.getElem?_map, List.getElem?_map, List.getElem?_range (by omega), Option.map_some, Option.map_some, Int.toNat_of_nonneg c0]
          rfl
        walk_at "rd"
        rw [Int.zero_add]
        refine ⟨p, (N : Int), _, i, n, ls, rfl, R.same (P2.same.trans sm), W, hn, by omega, ?_⟩
        walk_at "rd"
        refine ⟨_, hD', by rw [List.length_map, List.length_map, List.length_range]; exact Nat.lt_of_lt_of_le hj (Nat.le_trans hN (by decide)), sm.put hD, ?_⟩
        rw [upd_same, List.range_succ, List.map_append, List.map_append]
        rfl
      · rintro H3 ⟨sm, hD'⟩
        walk_at "rd"
        exact ⟨D, S2, _, _, rfl, P2.same.trans sm, P2.s1, P2.s2, sm _ _ P2.f, hD'⟩
    · rintro σ H' ⟨L, S, o7, o8, rfl, PT⟩
      have hF := PT.f
      have hs1 : ∀ j : Nat, j < N → S (j : Int) = metB ls (N : Int) q d j := PT.s1
      walk_at "rd"
      refine ⟨F1, S, _, rfl, hF, Nat.lt_of_le_of_lt (Nat.le_trans (cnt_le N _) hN) (by decide), fun ns t hp hm hl zt => ?_⟩
      have e : ns = parts ls N q d := by
        refine pw_eq hp (pw_filter _ _) fun x => ?_
        rw [hm x]
        constructor
        · intro hx
          obtain ⟨x0, x1⟩ := PT.s2 x hx
          obtain ⟨j, rfl⟩ := Int.eq_ofNat_of_zero_le x0
          refine List.mem_map.mpr ⟨j, List.mem_filter.mpr ⟨List.mem_range.mpr (by omega), ?_⟩, rfl⟩
          rw [← hs1 j (by omega)]
          exact hx
        · intro hx
          obtain ⟨j, hj, rfl⟩ := List.mem_map.mp hx
          obtain ⟨h2, h3⟩ := List.mem_filter.mp hj
          rw [hs1 j (List.mem_range.mp h2)]
          exact h3
      rw [e]
      generalize et : upd _ t _ = H3
      obtain ⟨s3, ht⟩ := nw et zt
      exact k t H3 (PT.same.trans s3) (PT.same.free zt) ht
end
abbrev s_meets : Stmt := top 26
abbrev N_meets : List Str := ["rule", "n", "one", "other", "rows", "mine", "theirs", "row"]
theorem sc_meets : FnScope N_meets ["rule", "n", "one", "other", "rows"] (defScope s_meets) := ⟨rfl, rfl, rfl, by decide +kernel, rfl, by decide +kernel, by decide +kernel⟩
section
variable {P : Program} {w : World} {K : PySem.W.Frag} {mg : Str → Option Value} {base : Heap}
def spMeets (C : Addr) : Sp := fun vs H Q _ => ∃ (p : Addr) (sz a b : Int) (d n : Nat) (ls : List Str), vs = [.ref p, .int sz, .int a, .int b, .int d] ∧ RuleAt C H p ls ∧ Rows n ls ∧ n ≤ 5000 ∧ 0 ≤ a ∧ a < sz ∧ 0 ≤ b ∧ b < sz ∧ d ≤ 100000 ∧
  ∀ (H' : Hp), Same H H' → Q (.int (mtN ls sz a b d)) H'
theorem ok_meets {f C : Addr} {fd : FuncData} (F : Fun K "meets" "meets" s_meets f fd) (B : Bi mg) (D_check_size : Df P w K mg base "check_size" 2 ["n"] spCheckSize) (D_check_post : Df P w K mg base "check_post" 2 ["post", "n"] spCheckPost) (D_check_number : Df P w K mg base "check_number" 2 ["number"] spCheckNumber) (D_rungs_crossed : Df P w K mg base "_rungs_crossed" 7 ["rule", "n", "post", "rows"] (spRungs C)) : FnOk P w K mg base CX0 8 f fd ["rule", "n", "one", "other", "rows"] (spMeets C) := by
  refine F.ok sc_meets (fun vs H Q E h => ?_) (fun cdv A outer s0 H vs Q E hr h => ?_)
  · obtain ⟨p, sz, a, b, d, n, ls, rfl, _⟩ := h
    rfl
  · obtain ⟨p, sz, a, b, d, n, ls, rfl, R, W, hn, h0, h1, h2, h3, hd, k⟩ := h
    refine ⟨_, (pss_cons (ps_expr (pe_df D_check_size (hr.mono (by first | decide | omega)) (by rfl) (pa_cons (pv 1) pa_nil)))
    (pss_cons (ps_expr (pe_df D_check_post (hr.mono (by first | decide | omega)) (by rfl) (pa_cons (pv 2) (pa_cons (pv 1) pa_nil))))
    (pss_cons (ps_expr (pe_df D_check_post (hr.mono (by first | decide | omega)) (by rfl) (pa_cons (pv 3) (pa_cons (pv 1) pa_nil))))
    (pss_cons (ps_expr (pe_df D_check_number (hr.mono (by first | decide | omega)) (by rfl) (pa_cons (pv 4) pa_nil)))
    (pss_cons (ps_set (i := 5) sc_meets.nd rfl (Or.inr rfl) (pe_df D_rungs_crossed (hr.mono (by first | decide | omega)) (by rfl) (pa_cons (pv 0) (pa_cons (pv 1) (pa_cons (pv 2) (pa_cons (pv 4) pa_nil))))))
    (pss_cons (ps_set (i := 6) sc_meets.nd rfl (Or.inr rfl) (pe_df D_rungs_crossed (hr.mono (by first | decide | omega)) (by rfl) (pa_cons (pv 0) (pa_cons (pv 1) (pa_cons (pv 3) (pa_cons (pv 4) pa_nil))))))
    (pss_one (ps_ret (pe_callB call_len_seq (by rfl) B.len_ PySem.boot_len (pa_cons (pe_lc (own := [("row", 7)]) (g := gName 7) (tt := _) rfl sc_meets.nd (pi_range1 (by rfl) B.range_ (pa_cons (pv 4) pa_nil)) (blkOk_by (N := N_meets) (sc := defScope s_meets) (by decide +kernel)) (fun _ _ _ _ _ => pg_name (i := 7) sc_meets.nd rfl (Or.inl rfl)) (fun _ _ _ _ _ => pts_one (PW.pt (pw_and (pt_cmpR op_notN (pe_ix (show IxR _ (rIxL K) from ix_list) (pv 5) (pv 7) (fun _ _ => rfl)) pe_non (nomark _)) (pw_and1 (pt_cmpR op_eq (pe_ix (show IxR _ (rIxL K) from ix_list) (pv 5) (pv 7) (fun _ _ => rfl)) (pe_ix (show IxR _ (rIxL K) from ix_list) (pv 6) (pv 7) (fun _ _ => rfl)) (nomark _)))))) (fun _ _ _ _ _ => (pv 7))) pa_nil)))))))))), ?_⟩
    have hd62 : (d : Int) < 2 ^ 62 := by omega
    walk_at "rd"
    try (refine ⟨sz, rfl, by omega, ?_⟩; walk_at "rd")
    try (refine ⟨a, sz, rfl, h0, h1, ?_⟩; walk_at "rd")
    try (refine ⟨b, sz, rfl, h2, h3, ?_⟩; walk_at "rd")
    try (refine ⟨d, rfl, by omega, ?_⟩; walk_at "rd")
    refine ⟨p, sz, a, d, n, ls, rfl, R, W, hn, h0, h1, hd, fun t H1 s1 zt ht => ?_⟩
    walk_at "rd"
    refine ⟨p, sz, b, d, n, ls, rfl, R.same s1, W, hn, h2, h3, hd, fun u H2 s2 zu hu => ?_⟩
    have ht2 := s2 _ _ ht
    walk_at "rd"
    intro D hD
    refine lc_range (lo := 0) (n := (d : Int).toNat) (fun i H' => Same H2 H' ∧ H' D = some (.lst (((List.range i).filter (mtB ls sz a b)).map fun k : Nat => V.int (k : Int)))) ⟨L2.Same.upd hD, upd_same⟩ ?_ ?_
    · rintro i H' hi ⟨sm, hD'⟩
      have hi' : i < d := hi
      refine ⟨rfl, ?_⟩
      have ht' := sm _ _ ht2
      have hu' := sm _ _ hu
      have ia : atI (rungs ls sz a d) (0 + (i : Int)) = some (rgV (wk ls sz a i) (wk ls sz a (i + 1))) := atI_k' i (by omega) (rungs_get hi')
      have ib : atI (rungs ls sz b d) (0 + (i : Int)) = some (rgV (wk ls sz b i) (wk ls sz b (i + 1))) := atI_k' i (by omega) (rungs_get hi')
      have hlen : ((List.range i).filter (mtB ls sz a b)).length ≤ i := Nat.le_trans (List.length_filter_le _ _) (by rw [List.length_range]; exact Nat.le_refl _)
      have sc := scal_rg (wk ls sz a i) (wk ls sz a (i + 1)) (wk ls sz b i) (wk ls sz b (i + 1))
      walk_at "rd"
      refine ite2 (fun hc => ?_) (fun hc => ?_)
      · walk_at "rd"
        refine ite2 (fun hb => ?_) (fun hb => ?_)
        · refine ⟨_, rfl, ?_⟩
          refine ⟨_, hD', by rw [List.length_map]; exact Nat.lt_of_le_of_lt (show _ ≤ 100000 by omega) (by decide), sm.put hD, ?_⟩
          rw [upd_same, filt_t (by unfold mtB; rw [hc, hb]; rfl), List.map_append, Int.zero_add]
          rfl
        · refine ⟨sm, ?_⟩
          rw [filt_f (by unfold mtB; rw [Bool.eq_false_iff.mpr hb, Bool.and_false])]
          exact hD'
      · refine ⟨sm, ?_⟩
        rw [filt_f (by unfold mtB; rw [Bool.eq_false_iff.mpr hc]; rfl)]
        exact hD'
    · rintro H' ⟨sm, hD'⟩
      walk_at "rd"
      rw [List.length_map]
      exact k H' (s1.trans (s2.trans (sm)))
end
abbrev s__law_cell : Stmt := top 28
abbrev N__law_cell : List Str := ["script", "at", "cell"]
theorem sc__law_cell : FnScope N__law_cell ["script", "at"] (defScope s__law_cell) := ⟨rfl, rfl, rfl, by decide +kernel, rfl, by decide +kernel, by decide +kernel⟩
section
variable {P : Program} {w : World} {K : PySem.W.Frag} {mg : Str → Option Value} {base : Heap}
def spCell (K : PySem.W.Frag) : Sp := fun vs H Q _ => ∃ (a : Addr) (ns : List Int) (j : Nat), vs = [.ref a, .int j] ∧ SqL K H a (ns.map V.int) ∧ ∀ c : Int, 0 ≤ c → c < 10 ^ 120 → Q (.int c) H
theorem ok__law_cell {f : Addr} {fd : FuncData} (F : Fun K "_law_cell" "_law_cell" s__law_cell f fd) (B : Bi mg) : FnOk P w K mg base CX0 2 f fd ["script", "at"] (spCell K) := by
  refine F.ok sc__law_cell (fun vs H Q E h => ?_) (fun cdv A outer s H vs Q E hr h => ?_)
  · obtain ⟨a, ns, j, rfl, _⟩ := h
    rfl
  · obtain ⟨a, ns, j, rfl, hS, k⟩ := h
    refine ⟨_, (pss_cons (ps_set (i := 2) sc__law_cell.nd rfl (Or.inl rfl) pe_int)
    (pss_cons (ps_if (pt_cmpR op_lt (pv 1) (pe_callB call_len_seq (by rfl) B.len_ PySem.boot_len (pa_cons (pv 0) pa_nil)) (nomark _))
    (pss_one (ps_set (i := 2) sc__law_cell.nd rfl (Or.inl rfl) (pe_ix ix_list (pv 0) (pv 1) (fun _ _ => rfl))))
    pss_nil)
    (pss_cons (ps_if (pt_cmpR op_lt (pv 2) pe_int (nomark _))
    (pss_one (ps_set (i := 2) sc__law_cell.nd rfl (Or.inl rfl) (pe_op op_sub pe_int (pe_op op_mul pe_int (pv 2)))))
    pss_nil)
    (pss_one (ps_ret (pe_op op_mod (pv 2) (pe_op op_mulW (pe_op op_pow pe_int pe_int) (pe_op op_pow pe_int pe_int)))))))), ?_⟩
    walk_at "rd"
    refine ⟨a, _, rfl, .inl hS, ?_⟩
    walk_at "rd"
    have fin : ∀ c : Int, Q (.int (c % ((10 : Int) ^ (60 : Int).toNat * (10 : Int) ^ (60 : Int).toNat))) H := fun c =>
      k _ (Int.emod_nonneg _ (by decide +kernel)) (Int.emod_lt_of_pos _ (by decide +kernel))
    refine ite2 (fun hc => ?_) (fun hc => ?_)
    · have hj : j < ns.length := by
        have := of_decide_eq_true hc
        rw [List.length_map] at this
        omega
      walk_at "rd"
      refine ⟨a, _, _, _, rfl, rfl, hS, atI_nat (getV hj), ?_⟩
      walk_at "rd"
      refine ite2 (fun hc => ?_) (fun hc => ?_)
      all_goals
        walk_at "rd"
        exact fin _
    · walk_at "rd"
      exact fin _
end
abbrev s__law_draws : Stmt := top 29
abbrev N__law_draws : List Str := ["script", "at", "limits", "cell", "rest", "drawn", "k", "stir"]
theorem sc__law_draws : FnScope N__law_draws ["script", "at", "limits"] (defScope s__law_draws) := ⟨rfl, rfl, rfl, by decide +kernel, rfl, by decide +kernel, by decide +kernel⟩
section
variable {P : Program} {w : World} {K : PySem.W.Frag} {mg : Str → Option Value} {base : Heap}
def spDraws (K : PySem.W.Frag) : Sp := fun vs H Q _ => ∃ (a p : Addr) (ns ls : List Int) (j : Nat), vs = [.ref a, .int j, .ref p] ∧ SqL K H a (ns.map V.int) ∧ H p = some (.lst (ls.map V.int)) ∧ ls.length ≤ 5000 ∧ (∀ l ∈ ls, 0 < l ∧ l < 1073741824) ∧
  ∀ (ds : List Int) (q : Addr) (H' : Hp), Drawn ds ls → Same H H' → H q = none → H' q = some (.lst (ds.map V.int)) → Q (.ref q) H'
theorem ok__law_draws {f : Addr} {fd : FuncData} (F : Fun K "_law_draws" "_law_draws" s__law_draws f fd) (B : Bi mg) (D_law_cell : Df P w K mg base "_law_cell" 2 ["script", "at"] (spCell K)) : FnOk P w K mg base CX0 3 f fd ["script", "at", "limits"] (spDraws K) := by
  refine F.ok sc__law_draws (fun vs H Q E h => ?_) (fun cdv A outer s H vs Q E hr h => ?_)
  · obtain ⟨a, p, ns, ls, j, rfl, _⟩ := h
    rfl
  · obtain ⟨a, p, ns, ls, j, rfl, hS, hL, hl, hp, k⟩ := h
    refine ⟨_, (pss_cons (ps_set (i := 3) sc__law_draws.nd rfl (Or.inl rfl) (pe_df D_law_cell (hr.mono (by first | decide | omega)) (by rfl) (pa_cons (pv 0) (pa_cons (pv 1) pa_nil))))
    (pss_cons (ps_set (i := 4) sc__law_draws.nd rfl (Or.inl rfl) (pe_op op_sub (pv 3) (pe_op op_pow pe_int pe_int)))
    (pss_cons (ps_set (i := 5) sc__law_draws.nd rfl (Or.inl rfl) (pe_lst pa_nil))
    (pss_cons (ps_for PassesOwn.never rfl (pi_range1 (by rfl) B.range_ (pa_cons (pe_callB call_len_seq (by rfl) B.len_ PySem.boot_len (pa_cons (pv 2) pa_nil)) pa_nil)) (pg_name (i := 6) sc__law_draws.nd rfl (Or.inl rfl))
    (pss_cons (ps_set (i := 7) sc__law_draws.nd rfl (Or.inl rfl) (pe_op op_mod (pe_callTy call_int1 (by rfl) B.int_ (by decide +kernel) (pa_cons (pe_op op_add (pe_op op_add (pe_op op_mul (pv 3) pe_int) (pe_op op_mul (pe_op op_mul (pe_op op_add (pv 6) pe_int) (pe_op op_add (pv 6) pe_int)) pe_int)) (pe_op op_mul (pv 1) pe_int)) pa_nil)) pe_int))
    (pss_cons (ps_set (i := 7) sc__law_draws.nd rfl (Or.inl rfl) (pe_op op_fdiv (pe_op op_mod (pe_callTy call_int1 (by rfl) B.int_ (by decide +kernel) (pa_cons (pe_op op_add (pe_op op_add (pe_op op_mul (pv 7) (pv 7)) (pe_op op_mul (pv 6) pe_int)) pe_int) pa_nil)) pe_int) pe_int))
    (pss_cons (ps_if (pt_cmpR op_ge (pv 3) (pe_op op_pow pe_int pe_int) (nomark _))
    (pss_cons (ps_set (i := 7) sc__law_draws.nd rfl (Or.inl rfl) (pv 4))
    (pss_one (ps_set (i := 4) sc__law_draws.nd rfl (Or.inl rfl) (pe_op op_fdiv (pv 4) (pe_ix ix_list (pv 2) (pv 6) (fun _ _ => rfl))))))
    pss_nil)
    (pss_one (ps_expr (pe_bm PySem.F.plainAttrs_list PySem.F.slot_list_append PySem.F.type_list_append mt_append (pv 5) (pa_cons (pe_op op_mod (pe_callTy call_int1 (by rfl) B.int_ (by decide +kernel) (pa_cons (pv 7) pa_nil)) (pe_ix ix_list (pv 2) (pv 6) (fun _ _ => rfl))) pa_nil))))))))
    (pss_one (ps_ret (pv 5))))))), ?_⟩
    walk_at "rd"
    refine ⟨a, ns, j, rfl, hS, fun c c0 c1 => ?_⟩
    walk_at "rd"
    intro q hq
    walk_at "rd"
    have s0 : Same H (upd H q (.lst [])) := Same.upd hq
    refine ⟨p, _, rfl, .inl (SqL.of (s0 _ _ hL)), ?_⟩
    refine ⟨_, rfl, by omega, by rw [List.length_map]; omega, ?_⟩
    rw [List.length_map]
    refine for_range (lo := 0) (n := ls.length) (fun i σ H' => ∃ (ds : List Int) (rest : Int) (v1 v2 : Option V), σ = [some (.ref a), some (.int j), some (.ref p), some (.int c), some (.int rest), some (.ref q), v1, v2] ∧ Same H H' ∧
      H' q = some (.lst (ds.map V.int)) ∧ Drawn ds (ls.take i)) ⟨[], _, none, none, rfl, s0, upd_same, ⟨rfl, fun i d l h => by simp at h⟩⟩ ?_ ?_
    · rintro i σ H' hi ⟨ds0, rest, v1, v2, rfl, sm, hd, dr⟩
      have hL' := sm _ _ hL
      have hdl : ds0.length = i := by
        have := dr.1
        rw [List.length_take] at this
        omega
      have hlim : 0 < ls[i] ∧ ls[i] < 1073741824 := hp _ (List.getElem_mem hi)
      have hat : atI (ls.map V.int) (0 + (i : Int)) = some (V.int ls[i]) := atI_k i (by omega) (getV hi)
      walk_at "rd"
      have fin : ∀ (z r : Int) (o1 o2 : Option V) (σ2 : St), σ2 = [some (.ref a), some (.int j), some (.ref p), some (.int c), some (.int r), some (.ref q), o1, o2] →
          ∃ (ds : List Int) (rest : Int) (v1 v2 : Option V), σ2 = [some (.ref a), some (.int j), some (.ref p), some (.int c), some (.int rest), some (.ref q), v1, v2] ∧ Same H (upd H' q (.lst ((ds0.map V.int) ++ [V.int (z % ls[i])]))) ∧
            (upd H' q (.lst ((ds0.map V.int) ++ [V.int (z % ls[i])]))) q = some (.lst (ds.map V.int)) ∧ Drawn ds (ls.take (i + 1)) := by
        intro z r o1 o2 σ2 e
        refine ⟨ds0 ++ [z % ls[i]], r, o1, o2, e, sm.put hq, by rw [upd_same, List.map_append]; rfl, ?_, ?_⟩
        · rw [List.length_append, List.length_take]
          simp
          omega
        · intro n d l h1 h2
          by_cases hn : n < i
          · rw [List.getElem?_append_left (by omega)] at h1
            rw [List.getElem?_take_of_lt (by omega)] at h2
            exact dr.2 n d l h1 (by rw [List.getElem?_take_of_lt hn]; exact h2)
          · have hn2 := (List.getElem?_eq_some_iff.mp h1).1
            rw [List.length_append, List.length_singleton] at hn2
            have e : n = i := by omega
            subst e
            rw [List.getElem?_append_right (by omega), hdl, Nat.sub_self] at h1
            rw [List.getElem?_take_of_lt (by omega), List.getElem?_eq_getElem hi] at h2
            have e1 : z % ls[n] = d := Option.some.inj h1
            have e2 : ls[n] = l := Option.some.inj h2
            rw [← e1, ← e2]
            exact ⟨Int.emod_nonneg _ (by omega), Int.emod_lt_of_pos _ hlim.1⟩
      refine ite2 (fun hc => ?_) (fun hc => ?_)
      all_goals
        walk_at "rd"
        refine ⟨_, _, _, rfl, rfl, hd, by rw [List.length_map, hdl]; exact Nat.lt_of_lt_of_le hi (Nat.le_trans hl (by decide)), ?_⟩
        exact fin _ _ _ _ _ rfl
    · rintro σ H' ⟨ds, rest, v1, v2, rfl, sm, hd, dr⟩
      walk_at "rd"
      rw [List.take_length] at dr
      exact k ds q H' dr sm hq hd
end
abbrev s__law_great : Stmt := top 30
abbrev N__law_great : List Str := ["script", "at", "bound", "cell"]
theorem sc__law_great : FnScope N__law_great ["script", "at", "bound"] (defScope s__law_great) := ⟨rfl, rfl, rfl, by decide +kernel, rfl, by decide +kernel, by decide +kernel⟩
section
variable {P : Program} {w : World} {K : PySem.W.Frag} {mg : Str → Option Value} {base : Heap}
def spGreat (K : PySem.W.Frag) : Sp := fun vs H Q _ => ∃ (a : Addr) (ns : List Int) (j : Nat) (bnd : Int), vs = [.ref a, .int j, .int bnd] ∧ SqL K H a (ns.map V.int) ∧ j ≤ 1000 ∧ 0 < bnd ∧ ∀ c : Int, 0 ≤ c → c < bnd → Q (.int c) H
theorem ok__law_great {f : Addr} {fd : FuncData} (F : Fun K "_law_great" "_law_great" s__law_great f fd) (B : Bi mg) (D_law_cell : Df P w K mg base "_law_cell" 2 ["script", "at"] (spCell K)) : FnOk P w K mg base CX0 3 f fd ["script", "at", "bound"] (spGreat K) := by
  refine F.ok sc__law_great (fun vs H Q E h => ?_) (fun cdv A outer s H vs Q E hr h => ?_)
  · obtain ⟨a, ns, j, bnd, rfl, _⟩ := h
    rfl
  · obtain ⟨a, ns, j, bnd, rfl, hS, hj, hb, k⟩ := h
    refine ⟨_, (pss_cons (ps_set (i := 3) sc__law_great.nd rfl (Or.inl rfl) (pe_df D_law_cell (hr.mono (by first | decide | omega)) (by rfl) (pa_cons (pv 0) (pa_cons (pv 1) pa_nil))))
    (pss_cons (ps_if (pt_cmpR op_ge (pv 3) (pe_op op_pow pe_int pe_int) (nomark _))
    (pss_one (ps_ret (pe_op op_mod (pe_callTy call_int1 (by rfl) B.int_ (by decide +kernel) (pa_cons (pe_op op_sub (pv 3) (pe_op op_pow pe_int pe_int)) pa_nil)) (pv 2))))
    pss_nil)
    (pss_one (ps_ret (pe_op op_mod (pe_callTy call_int1 (by rfl) B.int_ (by decide +kernel) (pa_cons (pe_op op_fdiv (pe_op op_powW (pe_op op_add (pe_op op_add (pe_op op_mul (pv 3) pe_int) (pe_op op_mul (pv 1) pe_int)) pe_int) pe_int) pe_int) pa_nil)) (pv 2)))))), ?_⟩
    walk_at "rd"
    refine ⟨a, ns, j, rfl, hS, fun c c0 c1 => ?_⟩
    walk_at "rd"
    refine ite2 (fun hc => ?_) (fun hc => ?_)
    · walk_at "rd"
      exact k _ (Int.emod_nonneg _ (by omega)) (Int.emod_lt_of_pos _ hb)
    · have h18 : c < 10 ^ 18 := by
        rw [decide_eq_true_eq] at hc
        exact Int.not_le.mp hc
      have hpw : CPowW (c * 48271 + (j : Int) * 69621 + 1021) 8 := ⟨by decide, 80, by omega, by decide⟩
      walk_at "rd"
      exact k _ (Int.emod_nonneg _ (by omega)) (Int.emod_lt_of_pos _ hb)
end
abbrev s__law_lines : Stmt := top 31
abbrev N__law_lines : List Str := ["script", "at", "wide", "high", "drawn", "size", "lines", "k", "line", "i", "mark"]
theorem sc__law_lines : FnScope N__law_lines ["script", "at", "wide", "high"] (defScope s__law_lines) := ⟨rfl, rfl, rfl, by decide +kernel, rfl, by decide +kernel, by decide +kernel⟩
section
variable {P : Program} {w : World} {K : PySem.W.Frag} {mg : Str → Option Value} {base : Heap}
def spLines (K : PySem.W.Frag) : Sp := fun vs H Q _ => ∃ (a : Addr) (ns : List Int) (j wd hg : Nat), vs = [.ref a, .int j, .int wd, .int hg] ∧ SqL K H a (ns.map V.int) ∧ 0 < wd ∧ wd ≤ 60 ∧ 0 < hg ∧ hg ≤ 60 ∧
  ∀ (n : Nat) (ls : List Str) (q : Addr) (H' : Hp), Rows n ls → n ≤ wd → ls.length ≤ hg → Same H H' → H q = none → H' q = some (.lst (ls.map V.str)) → Q (.ref q) H'
theorem lims {wd hg : Nat} : ([V.int wd, V.int hg] ++ (List.replicate ((wd : Int) * (hg : Int)).toNat [V.int 2]).flatten) = (([(wd : Int), (hg : Int)] ++ List.replicate (wd * hg) 2).map V.int) := by
  have e : ((wd : Int) * (hg : Int)).toNat = wd * hg := by
    rw [← Int.natCast_mul]
    rfl
  rw [e, List.map_append, List.map_replicate]
  congr 1
  generalize wd * hg = m
  induction m with
  | zero => rfl
  | succ m ih =>
    rw [List.replicate_succ, List.flatten_cons, ih]
    rfl
theorem ok__law_lines {f : Addr} {fd : FuncData} (F : Fun K "_law_lines" "_law_lines" s__law_lines f fd) (B : Bi mg) (D_law_draws : Df P w K mg base "_law_draws" 3 ["script", "at", "limits"] (spDraws K)) : FnOk P w K mg base CX0 4 f fd ["script", "at", "wide", "high"] (spLines K) := by
  refine F.ok sc__law_lines (fun vs H Q E h => ?_) (fun cdv A outer s H vs Q E hr h => ?_)
  · obtain ⟨a, ns, j, wd, hg, rfl, _⟩ := h
    rfl
  · obtain ⟨a, ns, j, wd, hg, rfl, hS, w0, w1, g0, g1, k⟩ := h
    have hmul : (wd : Int) * (hg : Int) = ((wd * hg : Nat) : Int) := by rw [Int.natCast_mul]
    have hm2 : wd * hg ≤ 3600 := Nat.mul_le_mul w1 g1
    refine ⟨_, (pss_cons (ps_set (i := 4) sc__law_lines.nd rfl (Or.inl rfl) (pe_df D_law_draws (hr.mono (by first | decide | omega)) (by rfl) (pa_cons (pv 0) (pa_cons (pv 1) (pa_cons (pe_op op_cat (pe_lst (pa_cons (pv 2) (pa_cons (pv 3) pa_nil))) (pe_op op_rep (pe_lst (pa_cons pe_int pa_nil)) (pe_op op_mul (pv 2) (pv 3)))) pa_nil)))))
    (pss_cons (ps_set (i := 5) sc__law_lines.nd rfl (Or.inl rfl) (pe_op op_add pe_int (pe_ix ix_list (pv 4) pe_int (fun _ _ => rfl))))
    (pss_cons (ps_set (i := 6) sc__law_lines.nd rfl (Or.inl rfl) (pe_lst pa_nil))
    (pss_cons (ps_for PassesOwn.never rfl (pi_range1 (by rfl) B.range_ (pa_cons (pe_op op_add pe_int (pe_ix ix_list (pv 4) pe_int (fun _ _ => rfl))) pa_nil)) (pg_name (i := 7) sc__law_lines.nd rfl (Or.inl rfl))
    (pss_cons (ps_set (i := 8) sc__law_lines.nd rfl (Or.inl rfl) pe_str)
    (pss_cons (ps_for PassesOwn.never rfl (pi_range1 (by rfl) B.range_ (pa_cons (pv 5) pa_nil)) (pg_name (i := 9) sc__law_lines.nd rfl (Or.inl rfl))
    (pss_cons (ps_set (i := 10) sc__law_lines.nd rfl (Or.inl rfl) (pe_and (pe_cmpR op_eq (pe_ix ix_list (pv 4) (pe_op op_add (pe_op op_add pe_int (pe_op op_mul (pv 7) (pv 2))) (pv 9)) (fun _ _ => rfl)) pe_int (nomark _)) (pe_one (pe_cmpR op_ne (pe_slice sl_str (pv 8) (po_some (pe_un un_neg pe_int)) po_none) pe_str (nomark _)))))
    (pss_cons (ps_if (PW.pt (pw_and (pt_cmpR op_eq (pv 9) (pe_op op_sub (pv 5) pe_int) (nomark _)) (pw_and1 (PW.pt (pw_or (pt_cmpR op_eq (pv 5) pe_int (nomark _)) (pw_or1 (pt_cmpR op_eq (pe_ix ix_str (pv 8) pe_int (fun _ _ => rfl)) pe_str (nomark _))))))))
    (pss_one (ps_set (i := 10) sc__law_lines.nd rfl (Or.inl rfl) pe_bl))
    pss_nil)
    (pss_one (ps_set (i := 8) sc__law_lines.nd rfl (Or.inl rfl) (pe_op op_add_str (pv 8) (pe_ifExp (pt_val (pv 10)) pe_str pe_str)))))))
    (pss_one (ps_expr (pe_bm PySem.F.plainAttrs_list PySem.F.slot_list_append PySem.F.type_list_append mt_append (pv 6) (pa_cons (pv 8) pa_nil)))))))
    (pss_one (ps_ret (pv 6))))))), ?_⟩
    walk_at "rd"
    intro p1 hp1
    walk_at "rd"
    intro p2 hp2
    walk_at "rd"
    refine ⟨_, _, _, rfl, rfl, upd_same, by omega, by omega, by rw [hmul]; exact Nat.le_trans (Nat.le_of_eq (Nat.one_mul _)) (Nat.le_trans hm2 (by show 3600 ≤ 2 ^ 24; decide)), fun p3 hp3 => ?_⟩
    have n12 : p1 ≠ p2 := fun e => by rw [e, upd_same] at hp2; cases hp2
    have eL : upd (upd (upd H p1 (.lst [V.int wd, V.int hg])) p2 (.lst [V.int 2])) p3 (.lst (List.replicate ((wd : Int) * (hg : Int)).toNat [V.int 2]).flatten) p1 = some (.lst [V.int wd, V.int hg]) := by
      rw [upd_ne (fun e => by rw [← e, upd_ne n12, upd_same] at hp3; cases hp3), upd_ne n12, upd_same]
    refine ⟨_, _, _, _, rfl, rfl, eL, upd_same, ?_, fun p4 hp4 => ?_⟩
    · rw [hmul]
      simp
      exact Nat.le_trans (show 2 + wd * hg ≤ 3602 by omega) (by decide)
    have s1 : Same H (upd H p1 (.lst [V.int wd, V.int hg])) := Same.upd hp1
    have s2 := s1.up (o := .lst [V.int 2]) hp2
    have s3 := s2.up (o := .lst (List.replicate ((wd : Int) * (hg : Int)).toNat [V.int 2]).flatten) hp3
    have s4 := s3.up (o := .lst ([V.int wd, V.int hg] ++ (List.replicate ((wd : Int) * (hg : Int)).toNat [V.int 2]).flatten)) hp4
    generalize hH4 : upd (upd (upd (upd H p1 _) p2 _) p3 _) p4 _ = H4 at s4 ⊢
    have e4 : H4 p4 = some (.lst (([(wd : Int), (hg : Int)] ++ List.replicate (wd * hg) 2).map V.int)) := by rw [← hH4, upd_same, lims]
    clear hH4 eL s1 s2 s3 hp2 hp3 hp4 n12
    refine ⟨a, p4, ns, _, j, rfl, s4.seq hS, e4, ?_, ?_, ?_⟩
    · simp
      omega
    · intro l hl
      simp at hl
      omega
    intro ds q H5 dr sm hq hd
    obtain ⟨d0, a0, b0, c0, c1⟩ := dr.at (i := 0) (l := wd) rfl
    obtain ⟨d1, a1, b1, c2, c3⟩ := dr.at (i := 1) (l := hg) rfl
    have i0 := atI_k' (i := 0) 0 rfl a0
    have i1 := atI_k' (i := 1) 1 rfl a1
    walk_at "rd"
    intro l hl
    have s5 : Same H5 (upd H5 l (.lst [])) := Same.upd hl
    have hd' := s5 _ _ hd
    walk_at "rd"
    have hq5 : H5 q = some (.lst (ds.map V.int)) := hd
    refine for_range (lo := 0) (n := (1 + d1).toNat) (fun i σ H' => ∃ (ls : List Str) (vk vl vi vm : Option V), σ = [some (.ref a), some (.int j), some (.int wd), some (.int hg), some (.ref q), some (.int (1 + d0)), some (.ref l), vk, vl, vi, vm] ∧ Same H5 H' ∧
      H' l = some (.lst (ls.map V.str)) ∧ ls.length = i ∧ ∀ z ∈ ls, (tl z).length = (1 + d0).toNat ∧ Row (tl z)) ⟨[], none, none, none, none, rfl, s5, upd_same, rfl, by simp⟩ ?_ ?_
    · rintro i σ H' hi ⟨ls, vk, vl, vi, vm, rfl, s6, hls, hlen, hrow⟩
      have hdk := s6 _ _ hq5
      walk_at "rd"
      refine for_range (lo := 0) (n := (1 + d0).toNat) (fun i2 σ H2 => H2 = H' ∧ ∃ (z : Str) (vi vm : Option V), σ = [some (.ref a), some (.int j), some (.int wd), some (.int hg), some (.ref q), some (.int (1 + d0)), some (.ref l), some (.int (0 + (i : Int))), some (.str z), vi, vm] ∧
        (tl z).length = i2 ∧ Part (1 + d0).toNat (tl z)) ⟨rfl, Str.ofString "", vi, vm, rfl, by decide +kernel, ?_⟩ ?_ ?_
      · rw [show tl (Str.ofString "") = [] by decide +kernel]
        exact Part.nil (by omega)
      · rintro i2 σ H2 hi2 ⟨rfl, z, vi, vm, rfl, hz, hp⟩
        have hz60 : z.length ≤ 60 := by rw [len_tl]; omega
        have hzl : z.length ≤ sizeLine := Nat.le_trans hz60 (by decide)
        have hs46 : z.length + (Str.ofString ".").length ≤ sizeLine := by
          rw [show (Str.ofString ".").length = 1 by decide +kernel]
          exact Nat.le_trans (Nat.succ_le_succ hz60) (by decide)
        have hs45 : z.length + (Str.ofString "-").length ≤ sizeLine := by
          rw [show (Str.ofString "-").length = 1 by decide +kernel]
          exact Nat.le_trans (Nat.succ_le_succ hz60) (by decide)
        have hmu : i * wd + wd ≤ hg * wd := by
          have := Nat.mul_le_mul_right wd (show i + 1 ≤ hg by omega)
          rw [Nat.succ_mul] at this
          exact this
        have hpl : ([(wd : Int), (hg : Int)] ++ List.replicate (wd * hg) 2)[2 + (i * wd + i2)]? = some 2 := by
          rw [List.getElem?_append_right (by simp), List.getElem?_replicate, if_pos]
          simp
          rw [Nat.mul_comm wd hg]
          omega
        obtain ⟨dk, ak, bk, _, _⟩ := dr.at hpl
        have ik : atI (ds.map V.int) (2 + (0 + (i : Int)) * (wd : Int) + (0 + (i2 : Int))) = some (V.int dk) := atI_k' _ (by
          rw [Int.zero_add, Int.zero_add, Int.natCast_add, Int.natCast_add, Int.natCast_mul]
          omega) ak
        have dot : ∀ (o1 o2 : Option V), ∃ (z2 : Str) (vi vm : Option V), ([some (.ref a), some (.int j), some (.int wd), some (.int hg), some (.ref q), some (.int (1 + d0)), some (.ref l), some (.int (0 + (i : Int))), some (.str (z ++ Str.ofString ".")), o1, o2] : St) =
            [some (.ref a), some (.int j), some (.int wd), some (.int hg), some (.ref q), some (.int (1 + d0)), some (.ref l), some (.int (0 + (i : Int))), some (.str z2), vi, vm] ∧ (tl z2).length = i2 + 1 ∧ Part (1 + d0).toNat (tl z2) := fun o1 o2 => by
          have e : tl (z ++ Str.ofString ".") = tl z ++ [46] := by rw [tl_append, show tl (Str.ofString ".") = [46] by decide +kernel]
          refine ⟨_, o1, o2, rfl, by rw [e, List.length_append, hz]; rfl, ?_⟩
          rw [e]
          exact hp.add (.inr rfl) (fun h => by cases h) (fun h => by cases h)
        have stroke : (tl z).getLast? ≠ some 45 → ((tl z).length + 1 = (1 + d0).toNat → (1 + d0).toNat ≠ 1 ∧ (tl z)[0]? ≠ some 45) → ∀ (o1 o2 : Option V), ∃ (z2 : Str) (vi vm : Option V), ([some (.ref a), some (.int j), some (.int wd), some (.int hg), some (.ref q), some (.int (1 + d0)), some (.ref l), some (.int (0 + (i : Int))), some (.str (z ++ Str.ofString "-")), o1, o2] : St) =
            [some (.ref a), some (.int j), some (.int wd), some (.int hg), some (.ref q), some (.int (1 + d0)), some (.ref l), some (.int (0 + (i : Int))), some (.str z2), vi, vm] ∧ (tl z2).length = i2 + 1 ∧ Part (1 + d0).toNat (tl z2) := fun g1 g2 o1 o2 => by
          have e : tl (z ++ Str.ofString "-") = tl z ++ [45] := by rw [tl_append, show tl (Str.ofString "-") = [45] by decide +kernel]
          refine ⟨_, o1, o2, rfl, by rw [e, List.length_append, hz]; rfl, ?_⟩
          rw [e]
          exact hp.add (.inl rfl) (fun _ => g1) (fun _ => g2)
        have first : decide (V.int (0 + (i2 : Int)) = V.int (1 + d0 - 1)) = true → ¬ decide (V.int (1 + d0) = V.int 1) = true → ∃ c, (tl z)[0]? = some c := fun h1 h2 => by
          have e1 := of_decide_eq_true h1
          injection e1 with e1
          rw [decide_eq_true_eq] at h2
          have h0 : 0 < (tl z).length := by
            rcases Nat.eq_zero_or_pos (tl z).length with q | q
            · exact absurd (congrArg V.int (show 1 + d0 = 1 by omega)) h2
            · exact q
          exact ⟨_, List.getElem?_eq_getElem h0⟩
        walk_at "rd"
        refine ite2 (fun hc => ?_) (fun hc => ?_)
        · walk_at "rd"
          have hm : (!decide (V.str (cutS z (some (-1)) none) = V.str (Str.ofString "-"))) = true → (tl z).getLast? ≠ some 45 := fun h h2 => by
            rw [cut_last h2] at h
            exact absurd h (by decide +kernel)
          refine ite2 (fun h1 => ?_) (fun h1 => ?_)
          · walk_at "rd"
            refine ite2 (fun h2 => ?_) (fun h2 => ?_)
            · walk_at "rd"
              exact dot _ _
            · obtain ⟨c0, hc0⟩ := first h1 h2
              walk_at "rd"
              refine ⟨_, _, _, rfl, rfl, hzl, atI_k' 0 rfl hc0, ?_⟩
              walk_at "rd"
              refine ite2 (fun h3 => ?_) (fun h3 => ?_)
              · walk_at "rd"
                exact dot _ _
              · walk_at "rd"
                refine ite2 (fun h4 => ?_) (fun h4 => ?_)
                · walk_at "rd"
                  refine stroke (hm h4) (fun _ => ⟨fun e => h2 (decide_eq_true (congrArg V.int (by omega))), fun e => ?_⟩) _ _
                  rw [hc0] at e
                  rw [Option.some.inj e] at h3
                  exact absurd (show decide (V.str (⟨#[45]⟩ : Str) = V.str (Str.ofString "-")) = true by decide +kernel) h3
                · walk_at "rd"
                  exact dot _ _
          · walk_at "rd"
            refine ite2 (fun h4 => ?_) (fun h4 => ?_)
            · walk_at "rd"
              exact stroke (hm h4) (fun e => absurd (decide_eq_true (congrArg V.int (by omega))) h1) _ _
            · walk_at "rd"
              exact dot _ _
        · walk_at "rd"
          refine ite2 (fun h1 => ?_) (fun h1 => ?_)
          · walk_at "rd"
            refine ite2 (fun h2 => ?_) (fun h2 => ?_)
            · walk_at "rd"
              exact dot _ _
            · obtain ⟨c0, hc0⟩ := first h1 h2
              walk_at "rd"
              refine ⟨_, _, _, rfl, rfl, hzl, atI_k' 0 rfl hc0, ?_⟩
              walk_at "rd"
              refine ite2 (fun h3 => ?_) (fun h3 => ?_)
              · walk_at "rd"
                exact dot _ _
              · walk_at "rd"
                exact dot _ _
          · walk_at "rd"
            exact dot _ _
      · rintro σ H2 ⟨rfl, z, vi, vm, rfl, hz, hp⟩
        walk_at "rd"
        refine ⟨_, _, _, rfl, rfl, hls, by rw [List.length_map, hlen]; exact Nat.lt_of_lt_of_le (show i < 61 by omega) (by decide), ?_⟩
        refine ⟨ls ++ [z], _, _, _, _, rfl, s6.put hl, by rw [upd_same, List.map_append]; rfl, by rw [List.length_append, hlen]; rfl, fun y hy => ?_⟩
        rcases List.mem_append.mp hy with h | h
        · exact hrow y h
        · rw [List.mem_singleton.mp h]
          exact ⟨hz, hp.row hz (by omega)⟩
    · rintro σ H' ⟨ls, vk, vl, vi, vm, rfl, s6, hls, hlen, hrow⟩
      walk_at "rd"
      refine k (1 + d0).toNat ls l H' ⟨by omega, fun z hz => (hrow z hz).1, fun z hz => (hrow z hz).2⟩ (by omega) (by omega) ((s4.trans sm).trans s6) ?_ hls
      exact (s4.trans sm).free hl
end
abbrev s__law_multiple : Stmt := top 32
abbrev N__law_multiple : List Str := ["one_size", "other_size", "size", "k"]
theorem sc__law_multiple : FnScope N__law_multiple ["one_size", "other_size"] (defScope s__law_multiple) := ⟨rfl, rfl, rfl, by decide +kernel, rfl, by decide +kernel, by decide +kernel⟩
section
variable {P : Program} {w : World} {K : PySem.W.Frag} {mg : Str → Option Value} {base : Heap}
def spMultiple : Sp := fun vs H Q _ => ∃ n m : Nat, vs = [.int n, .int m] ∧ 0 < n ∧ 0 < m ∧ n ≤ 5000 ∧ m ≤ 5000 ∧ Q (.int ((Nat.lcm n m : Nat) : Int)) H
theorem ok__law_multiple {f : Addr} {fd : FuncData} (F : Fun K "_law_multiple" "_law_multiple" s__law_multiple f fd) (B : Bi mg) : FnOk P w K mg base CX0 2 f fd ["one_size", "other_size"] spMultiple := by
  refine F.ok sc__law_multiple (fun vs H Q E h => ?_) (fun cdv A outer s H vs Q E hr h => ?_)
  · obtain ⟨n, m, rfl, _⟩ := h
    rfl
  · obtain ⟨n, m, rfl, n0, m0, hn, hm, k⟩ := h
    refine ⟨_, (pss_cons (ps_set (i := 2) sc__law_multiple.nd rfl (Or.inl rfl) (pv 0))
    (pss_cons (ps_for PassesOwn.never rfl (pi_range1 (by rfl) B.range_ (pa_cons (pv 1) pa_nil)) (pg_name (i := 3) sc__law_multiple.nd rfl (Or.inl rfl))
    (pss_cons (ps_if (pt_cmpR op_eq (pe_op op_mod (pv 2) (pv 1)) pe_int (nomark _))
    (pss_one ps_break)
    pss_nil)
    (pss_one (ps_set (i := 2) sc__law_multiple.nd rfl (Or.inl rfl) (pe_op op_add (pv 2) (pv 0))))))
    (pss_one (ps_ret (pv 2))))), ?_⟩
    have mp : (0 : Int) < (m : Int) := by omega
    refine ⟨_, rfl, _, rfl, m, rfl, by omega, by omega, ?_⟩
    refine for_range (lo := 0) (n := m) (fun i σ H' => H = H' ∧ ∃ (v : Option V) (sz : Nat), σ = [some (.int n), some (.int m), some (.int sz), v] ∧ sz = n * (i + 1) ∧ ∀ j, 1 ≤ j → j ≤ i → ¬ m ∣ n * j) ⟨rfl, none, n, rfl, by omega, fun j h1 h2 => by omega⟩ ?_ ?_
    · rintro i σ _ hi ⟨rfl, v, sz, rfl, esz, hj⟩
      walk_at "rd"
      refine ite2 (fun hc => ?_) (fun hc => ?_)
      · have e := of_decide_eq_true hc
        injection e with e
        have hd : m ∣ n * (i + 1) := by
          rw [← esz]
          exact Int.natCast_dvd_natCast.mp (Int.dvd_of_emod_eq_zero e)
        walk_at "rd"
        rw [esz, lcm_found n0 m0 hd hj]
        exact k
      · walk_at "rd"
        refine ⟨_, sz + n, rfl, by rw [esz, Nat.mul_succ n (i + 1)], fun j h1 h2 => ?_⟩
        by_cases q : j ≤ i
        · exact hj j h1 q
        · have e : j = i + 1 := by omega
          subst e
          intro hd
          refine hc (decide_eq_true (congrArg V.int ?_))
          rw [← esz] at hd
          exact Int.emod_eq_zero_of_dvd (Int.natCast_dvd_natCast.mpr hd)
    · rintro σ _ ⟨rfl, v, sz, _, _, hj⟩
      exact (lcm_ends m0 hj).elim
end
abbrev s__law_joined : Stmt := top 33
abbrev N__law_joined : List Str := ["lines", "others", "size", "joined", "line"]
theorem sc__law_joined : FnScope N__law_joined ["lines", "others"] (defScope s__law_joined) := ⟨rfl, rfl, rfl, by decide +kernel, rfl, by decide +kernel, by decide +kernel⟩
section
variable {P : Program} {w : World} {K : PySem.W.Frag} {mg : Str → Option Value} {base : Heap}
def spJoined : Sp := fun vs H Q _ => ∃ (p q : Addr) (n m : Nat) (ls ms : List Str), vs = [.ref p, .ref q] ∧ H p = some (.lst (ls.map V.str)) ∧ H q = some (.lst (ms.map V.str)) ∧ Rows n ls ∧ Rows m ms ∧ n ≤ 5000 ∧ m ≤ 5000 ∧ Nat.lcm n m ≤ 1000 ∧ ls.length + ms.length ≤ 5000 ∧
  ∀ (r : Addr) (H' : Hp), Same H H' → H r = none → H' r = some (.lst ((joinR (Nat.lcm n m) ls ms).map V.str)) → Q (.ref r) H'
theorem ok__law_joined {f : Addr} {fd : FuncData} (F : Fun K "_law_joined" "_law_joined" s__law_joined f fd) (B : Bi mg) (D_law_multiple : Df P w K mg base "_law_multiple" 2 ["one_size", "other_size"] spMultiple) : FnOk P w K mg base CX0 3 f fd ["lines", "others"] spJoined := by
  refine F.ok sc__law_joined (fun vs H Q E h => ?_) (fun cdv A outer s H vs Q E hr h => ?_)
  · obtain ⟨p, q, n, m, ls, ms, rfl, _⟩ := h
    rfl
  · obtain ⟨p, q, n, m, ls, ms, rfl, hp, hq, W, W2, hn, hm, hL, hl, k⟩ := h
    refine ⟨_, (pss_cons (ps_set (i := 2) sc__law_joined.nd rfl (Or.inr rfl) (pe_df D_law_multiple (hr.mono (by first | decide | omega)) (by rfl) (pa_cons (pe_callB call_len_str (by rfl) B.len_ PySem.boot_len (pa_cons (pe_ix ix_list (pv 0) pe_int (fun _ _ => rfl)) pa_nil)) (pa_cons (pe_callB call_len_str (by rfl) B.len_ PySem.boot_len (pa_cons (pe_ix ix_list (pv 1) pe_int (fun _ _ => rfl)) pa_nil)) pa_nil))))
    (pss_cons (ps_setLc (i := 3) (own := [("line", 4)]) (g := gName 4) (tt := tYes) rfl sc__law_joined.nd rfl rfl (sw_true rfl rfl rfl (by decide +kernel)) (pi_list (pv 0)) (blkOk_by (N := N__law_joined) (sc := defScope s__law_joined) (by decide +kernel)) (fun _ _ _ _ _ => pg_name (i := 4) sc__law_joined.nd rfl (Or.inl rfl)) (fun _ _ _ _ _ => pts_nil) (fun _ _ _ _ _ => (pe_op op_rep_str (pv 4) (pe_op op_fdiv (pv 2) (pe_callB call_len_str (by rfl) B.len_ PySem.boot_len (pa_cons (pv 4) pa_nil))))))
    (pss_one (ps_ret (pe_op op_cat (pv 3) (pe_lc (own := [("line", 4)]) (g := gName 4) (tt := tYes) rfl sc__law_joined.nd (pi_list (pv 1)) (blkOk_by (N := N__law_joined) (sc := defScope s__law_joined) (by decide +kernel)) (fun _ _ _ _ _ => pg_name (i := 4) sc__law_joined.nd rfl (Or.inl rfl)) (fun _ _ _ _ _ => pts_nil) (fun _ _ _ _ _ => (pe_op op_rep_str (pv 4) (pe_op op_fdiv (pv 2) (pe_callB call_len_str (by rfl) B.len_ PySem.boot_len (pa_cons (pv 4) pa_nil))))))))))), ?_⟩
    have i1 := atI_k' (i := 0) 0 rfl (getS W.ne)
    have i2 := atI_k' (i := 0) 0 rfl (getS W2.ne)
    have z1 : (ls[0]'W.ne).length = n := W.lenS (List.getElem_mem W.ne)
    have z2 : (ms[0]'W2.ne).length = m := W2.lenS (List.getElem_mem W2.ne)
    have z3 : (ls[0]'W.ne).length ≤ sizeLine := by rw [z1]; exact Nat.le_trans hn (by decide)
    have z4 : (ms[0]'W2.ne).length ≤ sizeLine := by rw [z2]; exact Nat.le_trans hm (by decide)
    walk_at "rd"
    rw [z1, z2]
    refine ⟨n, m, rfl, W.pos, W2.pos, hn, hm, ?_⟩
    generalize eL : Nat.lcm n m = L at hL k ⊢
    have hLp : 0 < L := by rw [← eL]; exact Nat.lcm_pos W.pos W2.pos
    have key : ∀ z : Str, 0 < (tl z).length → (tl z).length ∣ L → (L : Int) / ((z.length : Nat) : Int) = ((L / (tl z).length : Nat) : Int) ∧ 1 ≤ L / (tl z).length ∧ L / (tl z).length ≤ L ∧ z.length * (((L / (tl z).length : Nat) : Int)).toNat ≤ sizeLine := fun z k1 k2 => by
      refine ⟨by rw [len_tl]; rfl, Nat.div_pos (Nat.le_of_dvd hLp k2) k1, Nat.div_le_self _ _, ?_⟩
      rw [Int.toNat_natCast, len_tl, Nat.mul_div_cancel' k2]
      exact Nat.le_trans hL (by decide)
    walk_at "rd"
    refine ⟨⟨_, SqL.of hp⟩, fun D hD => ?_⟩
    refine lc_list (K := K) (a := p) (xs := ls.map V.str) (fun i H' => Same H H' ∧ H' D = some (.lst (((ls.take i).map (strS L)).map V.str))) ⟨L2.Same.upd hD, upd_same⟩ (fun i H' _ h => SqL.of (h.1 _ _ hp)) ?_ ?_
    · rintro i x H' hi ⟨sm, hD'⟩
      have hil : i < ls.length := by
        have := (List.getElem?_eq_some_iff.mp hi).1
        rw [List.length_map] at this
        exact this
      rw [getS hil] at hi
      obtain rfl := Option.some.inj hi
      have hz := W.len _ (List.getElem_mem hil)
      obtain ⟨q0, q1, q2, q3⟩ := key ls[i] (by rw [hz]; exact W.pos) (by rw [hz, ← eL]; exact Nat.dvd_lcm_left n m)
      have hzl : (ls[i]).length ≤ sizeLine := by rw [len_tl, hz]; exact Nat.le_trans hn (by decide)
      have hdv : (0 : Int) < ((ls[i]).length : Int) ∧ ((ls[i]).length : Int) < 1073741824 := by rw [len_tl, hz]; have := W.pos; omega
      refine ⟨rfl, ?_⟩
      walk_at "rd"
      rw [q0]
      try (refine ⟨by omega, by omega, q3, ?_⟩)
      refine ⟨_, hD', by rw [List.length_map, List.length_map, List.length_take]; exact Nat.lt_of_le_of_lt (show min i ls.length ≤ 5000 by omega) (by decide), sm.put hD, ?_⟩
      rw [upd_same, List.take_add_one, List.getElem?_eq_getElem hil, List.map_append, List.map_append, Int.toNat_natCast]
      rfl
    · rintro H1 ⟨s1, hD1⟩
      rw [List.length_map, List.take_length] at hD1
      have hq1 := s1 _ _ hq
      walk_at "rd"
      refine ⟨⟨_, SqL.of hq1⟩, fun D2 hD2 => ?_⟩
      refine lc_list (K := K) (a := q) (xs := ms.map V.str) (fun i H' => Same H1 H' ∧ H' D2 = some (.lst (((ms.take i).map (strS L)).map V.str))) ⟨L2.Same.upd hD2, upd_same⟩ (fun i H' _ h => SqL.of (h.1 _ _ hq1)) ?_ ?_
      · rintro i x H' hi ⟨sm, hD'⟩
        have hil : i < ms.length := by
          have := (List.getElem?_eq_some_iff.mp hi).1
          rw [List.length_map] at this
          exact this
        rw [getS hil] at hi
        obtain rfl := Option.some.inj hi
        have hz := W2.len _ (List.getElem_mem hil)
        obtain ⟨q0, q1, q2, q3⟩ := key ms[i] (by rw [hz]; exact W2.pos) (by rw [hz, ← eL]; exact Nat.dvd_lcm_right n m)
        have hzl : (ms[i]).length ≤ sizeLine := by rw [len_tl, hz]; exact Nat.le_trans hm (by decide)
        have hdv : (0 : Int) < ((ms[i]).length : Int) ∧ ((ms[i]).length : Int) < 1073741824 := by rw [len_tl, hz]; have := W2.pos; omega
        refine ⟨rfl, ?_⟩
        walk_at "rd"
        rw [q0]
        try (refine ⟨by omega, by omega, q3, ?_⟩)
        refine ⟨_, hD', by rw [List.length_map, List.length_map, List.length_take]; exact Nat.lt_of_le_of_lt (show min i ms.length ≤ 5000 by omega) (by decide), sm.put hD2, ?_⟩
        rw [upd_same, List.take_add_one, List.getElem?_eq_getElem hil, List.map_append, List.map_append, Int.toNat_natCast]
        rfl
      · rintro H2 ⟨s2, hD2'⟩
        rw [List.length_map, List.take_length] at hD2'
        refine ⟨_, _, _, _, rfl, rfl, s2 _ _ hD1, hD2', by rw [List.length_map, List.length_map, List.length_map, List.length_map]; exact Nat.le_trans hl (by decide), ?_⟩
        intro r zr
        generalize er : upd _ r _ = H3
        obtain ⟨s3, hr3⟩ := nw er zr
        rw [← List.map_append, ← List.map_append] at hr3
        exact k r H3 (s1.trans (s2.trans s3)) ((s1.trans s2).free zr) hr3
end
abbrev s__law_shifted : Stmt := top 34
abbrev N__law_shifted : List Str := ["lines", "by_posts", "size", "line", "i"]
theorem sc__law_shifted : FnScope N__law_shifted ["lines", "by_posts"] (defScope s__law_shifted) := ⟨rfl, rfl, rfl, by decide +kernel, rfl, by decide +kernel, by decide +kernel⟩
section
variable {P : Program} {w : World} {K : PySem.W.Frag} {mg : Str → Option Value} {base : Heap}
def spLawShifted : Sp := fun vs H Q _ => ∃ (l : Addr) (b : Int) (n : Nat) (ls : List Str), vs = [.ref l, .int b] ∧ H l = some (.lst (ls.map V.str)) ∧ Rows n ls ∧ n ≤ 5000 ∧ ls.length ≤ 5000 ∧ ∀ (q : Addr) (H' : Hp), Same H H' → H q = none → H' q = some (.lst ((ls.map (rotS b)).map V.str)) → Q (.ref q) H'
theorem ok__law_shifted {f : Addr} {fd : FuncData} (F : Fun K "_law_shifted" "_law_shifted" s__law_shifted f fd) (B : Bi mg) : FnOk P w K mg base CX0 2 f fd ["lines", "by_posts"] spLawShifted := by
  refine F.ok sc__law_shifted (fun vs H Q E h => ?_) (fun cdv A outer s H vs Q E hr h => ?_)
  · obtain ⟨l, b, n, ls, rfl, _⟩ := h
    rfl
  · obtain ⟨l, b, n, ls, rfl, hL, W, hn, hl, k⟩ := h
    refine ⟨_, (pss_cons (ps_set (i := 2) sc__law_shifted.nd rfl (Or.inr rfl) (pe_callB call_len_str (by rfl) B.len_ PySem.boot_len (pa_cons (pe_ix ix_list (pv 0) pe_int (fun _ _ => rfl)) pa_nil)))
    (pss_one (ps_ret (pe_lc (own := [("line", 3)]) (g := gName 3) (tt := tYes) rfl sc__law_shifted.nd (pi_list (pv 0)) (blkOk_by (N := N__law_shifted) (sc := defScope s__law_shifted) (by decide +kernel)) (fun _ _ _ _ _ => pg_name (i := 3) sc__law_shifted.nd rfl (Or.inr rfl)) (fun _ _ _ _ _ => pts_nil) (fun _ _ _ _ _ => (pe_m1 PySem.F.slot_str_join PySem.F.type_str_join (show MtR _ _ (rJoin K) from mt_join) pe_str (pe_lc (own := [("i", 4)]) (g := gName 4) (tt := tYes) rfl sc__law_shifted.nd (pi_range1 (by rfl) B.range_ (pa_cons (pv 2) pa_nil)) (blkOk_by (N := N__law_shifted) (sc := relS { kind := PySem.ScopeKind.function, names := [ (PySem.Str.ofString ".0", PySem.NameKind.local), (PySem.Str.ofString "line", PySem.NameKind.cell), (PySem.Str.ofString "range", PySem.NameKind.globalImplicit), (PySem.Str.ofString "by_posts", PySem.NameKind.free), (PySem.Str.ofString "size", PySem.NameKind.free)], isGenerator := false, isCoroutine := false, more := [] : PySem.Scope } (defScope s__law_shifted)) (by decide +kernel)) (fun _ _ _ _ _ => pg_name (i := 4) sc__law_shifted.nd rfl (Or.inl rfl)) (fun _ _ _ _ _ => pts_nil) (fun _ _ _ _ _ => (pe_ix ix_str (pv 3) (pe_op op_mod (pe_callTy call_int1 (by rfl) B.int_ (by decide +kernel) (pa_cons (pe_op op_sub (pv 4) (pv 1)) pa_nil)) (pv 2)) (fun _ _ => rfl)))))))))), ?_⟩
    have iz := atI_k' (i := 0) 0 rfl (getS W.ne)
    have hz0 : (ls[0]'W.ne).length = n := W.lenS (List.getElem_mem W.ne)
    have hzl : (ls[0]'W.ne).length ≤ sizeLine := by rw [hz0]; exact Nat.le_trans hn (by decide)
    have hn0 := W.pos
    walk_at "rd"
    rw [hz0]
    refine ⟨⟨_, SqL.of hL⟩, fun D hD => ?_⟩
    refine lc_list (K := K) (a := l) (xs := ls.map V.str) (fun i H' => Same H H' ∧ H' D = some (.lst (((ls.take i).map (rotS b)).map V.str))) ⟨L2.Same.upd hD, upd_same⟩ (fun i H' _ h => SqL.of (h.1 _ _ hL)) ?_ ?_
    · rintro i x H' hi ⟨sm, hD'⟩
      have hil : i < ls.length := by
        have := (List.getElem?_eq_some_iff.mp hi).1
        rw [List.length_map] at this
        exact this
      rw [getS hil] at hi
      obtain rfl := Option.some.inj hi
      have hzi : (tl ls[i]).length = n := W.len _ (List.getElem_mem hil)
      refine ⟨rfl, ?_⟩
      walk_at "rd"
      intro D2 hD2
      refine lc_range (lo := 0) (n := n) (fun j H2 => Same H' H2 ∧ H2 D2 = some (.lst ((((pick (tl ls[i]) fun k => k - b).take j).map fun c => (⟨#[c]⟩ : Str)).map V.str))) ⟨L2.Same.upd hD2, upd_same⟩ ?_ ?_
      · rintro j H2 hj ⟨sm2, hD2'⟩
        refine ⟨rfl, ?_⟩
        have hpz : (0 : Int) < (n : Int) := by omega
        walk_at "rd"
        have hzs : ls[i].length ≤ sizeLine := by rw [len_tl, hzi]; exact Nat.le_trans hn (by decide)
        have hat : atI (ls[i].cps.toList) ((0 + (j : Int) - b) % (n : Int)) = some (sg (tl ls[i]) (0 + (j : Int) - b)) := by
          have q := atI_sg (W.row _ (List.getElem_mem hil)).ne (0 + (j : Int) - b)
          rw [hzi] at q
          exact q
        refine ⟨_, _, _, rfl, rfl, hzs, hat, ?_⟩
        have hjp : j < (pick (tl ls[i]) fun k => k - b).length := by rw [pick_len, hzi]; exact hj
        refine ⟨_, hD2', by rw [List.length_map, List.length_map, List.length_take]; exact Nat.lt_of_le_of_lt (Nat.le_trans (Nat.min_le_left _ _) (Nat.le_of_lt (Nat.lt_of_lt_of_le hj hn))) (by decide), sm2.put hD2, ?_⟩
        have hg : (pick (tl ls[i]) fun k => k - b)[j] = sg (tl ls[i]) (0 + (j : Int) - b) := by
          have q := pick_get (l := tl ls[i]) (f := fun k => k - b) (k := j) (by omega)
          rw [List.getElem?_eq_getElem hjp] at q
          rw [Option.some.inj q, Int.zero_add]
        rw [upd_same, List.take_add_one, List.getElem?_eq_getElem hjp, hg, List.map_append, List.map_append]
        rfl
      · rintro H2 ⟨sm2, hD2'⟩
        have hlp : (pick (tl ls[i]) fun k => k - b).length = n := by rw [pick_len, hzi]
        rw [List.take_of_length_le (by omega)] at hD2'
        refine ⟨_, D2, _, rfl, rfl, .inl (SqL.of hD2'), ?_, ?_⟩
        · rw [sum_singles, List.length_map, hlp, show (Str.ofString "").length = 0 by decide +kernel]
          omega
        rw [join_singles]
        refine ⟨_, sm2 _ _ hD', by rw [List.length_map, List.length_map, List.length_take]; exact Nat.lt_of_le_of_lt (Nat.le_trans (Nat.min_le_right _ _) hl) (by decide), (sm.trans sm2).put hD, ?_⟩
        rw [upd_same, take_snoc hil, List.map_append]
        rfl
    · rintro H' ⟨sm, hD'⟩
      rw [List.length_map, List.take_length] at hD'
      exact k D H' sm hD hD'
end
abbrev s__law_mirrored : Stmt := top 35
abbrev N__law_mirrored : List Str := ["lines", "size", "wide", "line", "i"]
theorem sc__law_mirrored : FnScope N__law_mirrored ["lines", "size"] (defScope s__law_mirrored) := ⟨rfl, rfl, rfl, by decide +kernel, rfl, by decide +kernel, by decide +kernel⟩
section
variable {P : Program} {w : World} {K : PySem.W.Frag} {mg : Str → Option Value} {base : Heap}
def spLawMirrored : Sp := fun vs H Q _ => ∃ (l : Addr) (b : Int) (n : Nat) (ls : List Str), vs = [.ref l, .int b] ∧ H l = some (.lst (ls.map V.str)) ∧ Rows n ls ∧ n ≤ 5000 ∧ ls.length ≤ 5000 ∧ ∀ (q : Addr) (H' : Hp), Same H H' → H q = none → H' q = some (.lst ((ls.map (mirS (b - 2))).map V.str)) → Q (.ref q) H'
theorem ok__law_mirrored {f : Addr} {fd : FuncData} (F : Fun K "_law_mirrored" "_law_mirrored" s__law_mirrored f fd) (B : Bi mg) : FnOk P w K mg base CX0 2 f fd ["lines", "size"] spLawMirrored := by
  refine F.ok sc__law_mirrored (fun vs H Q E h => ?_) (fun cdv A outer s H vs Q E hr h => ?_)
  · obtain ⟨l, b, n, ls, rfl, _⟩ := h
    rfl
  · obtain ⟨l, b, n, ls, rfl, hL, W, hn, hl, k⟩ := h
    refine ⟨_, (pss_cons (ps_set (i := 2) sc__law_mirrored.nd rfl (Or.inr rfl) (pe_callB call_len_str (by rfl) B.len_ PySem.boot_len (pa_cons (pe_ix ix_list (pv 0) pe_int (fun _ _ => rfl)) pa_nil)))
    (pss_one (ps_ret (pe_lc (own := [("line", 3)]) (g := gName 3) (tt := tYes) rfl sc__law_mirrored.nd (pi_list (pv 0)) (blkOk_by (N := N__law_mirrored) (sc := defScope s__law_mirrored) (by decide +kernel)) (fun _ _ _ _ _ => pg_name (i := 3) sc__law_mirrored.nd rfl (Or.inr rfl)) (fun _ _ _ _ _ => pts_nil) (fun _ _ _ _ _ => (pe_m1 PySem.F.slot_str_join PySem.F.type_str_join (show MtR _ _ (rJoin K) from mt_join) pe_str (pe_lc (own := [("i", 4)]) (g := gName 4) (tt := tYes) rfl sc__law_mirrored.nd (pi_range1 (by rfl) B.range_ (pa_cons (pv 2) pa_nil)) (blkOk_by (N := N__law_mirrored) (sc := relS { kind := PySem.ScopeKind.function, names := [ (PySem.Str.ofString ".0", PySem.NameKind.local), (PySem.Str.ofString "line", PySem.NameKind.cell), (PySem.Str.ofString "range", PySem.NameKind.globalImplicit), (PySem.Str.ofString "size", PySem.NameKind.free), (PySem.Str.ofString "wide", PySem.NameKind.free)], isGenerator := false, isCoroutine := false, more := [] : PySem.Scope } (defScope s__law_mirrored)) (by decide +kernel)) (fun _ _ _ _ _ => pg_name (i := 4) sc__law_mirrored.nd rfl (Or.inl rfl)) (fun _ _ _ _ _ => pts_nil) (fun _ _ _ _ _ => (pe_ix ix_str (pv 3) (pe_op op_mod (pe_callTy call_int1 (by rfl) B.int_ (by decide +kernel) (pa_cons (pe_op op_sub (pe_op op_sub (pv 1) pe_int) (pv 4)) pa_nil)) (pv 2)) (fun _ _ => rfl)))))))))), ?_⟩
    have iz := atI_k' (i := 0) 0 rfl (getS W.ne)
    have hz0 : (ls[0]'W.ne).length = n := W.lenS (List.getElem_mem W.ne)
    have hzl : (ls[0]'W.ne).length ≤ sizeLine := by rw [hz0]; exact Nat.le_trans hn (by decide)
    have hn0 := W.pos
    walk_at "rd"
    rw [hz0]
    refine ⟨⟨_, SqL.of hL⟩, fun D hD => ?_⟩
    refine lc_list (K := K) (a := l) (xs := ls.map V.str) (fun i H' => Same H H' ∧ H' D = some (.lst (((ls.take i).map (mirS (b - 2))).map V.str))) ⟨L2.Same.upd hD, upd_same⟩ (fun i H' _ h => SqL.of (h.1 _ _ hL)) ?_ ?_
    · rintro i x H' hi ⟨sm, hD'⟩
      have hil : i < ls.length := by
        have := (List.getElem?_eq_some_iff.mp hi).1
        rw [List.length_map] at this
        exact this
      rw [getS hil] at hi
      obtain rfl := Option.some.inj hi
      have hzi : (tl ls[i]).length = n := W.len _ (List.getElem_mem hil)
      refine ⟨rfl, ?_⟩
      walk_at "rd"
      intro D2 hD2
      refine lc_range (lo := 0) (n := n) (fun j H2 => Same H' H2 ∧ H2 D2 = some (.lst ((((pick (tl ls[i]) fun k => b - 2 - k).take j).map fun c => (⟨#[c]⟩ : Str)).map V.str))) ⟨L2.Same.upd hD2, upd_same⟩ ?_ ?_
      · rintro j H2 hj ⟨sm2, hD2'⟩
        refine ⟨rfl, ?_⟩
        have hpz : (0 : Int) < (n : Int) := by omega
        walk_at "rd"
        have hzs : ls[i].length ≤ sizeLine := by rw [len_tl, hzi]; exact Nat.le_trans hn (by decide)
        have hat : atI (ls[i].cps.toList) ((b - 2 - (0 + (j : Int))) % (n : Int)) = some (sg (tl ls[i]) (b - 2 - (0 + (j : Int)))) := by
          have q := atI_sg (W.row _ (List.getElem_mem hil)).ne (b - 2 - (0 + (j : Int)))
          rw [hzi] at q
          exact q
        refine ⟨_, _, _, rfl, rfl, hzs, hat, ?_⟩
        have hjp : j < (pick (tl ls[i]) fun k => b - 2 - k).length := by rw [pick_len, hzi]; exact hj
        refine ⟨_, hD2', by rw [List.length_map, List.length_map, List.length_take]; exact Nat.lt_of_le_of_lt (Nat.le_trans (Nat.min_le_left _ _) (Nat.le_of_lt (Nat.lt_of_lt_of_le hj hn))) (by decide), sm2.put hD2, ?_⟩
        have hg : (pick (tl ls[i]) fun k => b - 2 - k)[j] = sg (tl ls[i]) (b - 2 - (0 + (j : Int))) := by
          have q := pick_get (l := tl ls[i]) (f := fun k => b - 2 - k) (k := j) (by omega)
          rw [List.getElem?_eq_getElem hjp] at q
          rw [Option.some.inj q, Int.zero_add]
        rw [upd_same, List.take_add_one, List.getElem?_eq_getElem hjp, hg, List.map_append, List.map_append]
        rfl
      · rintro H2 ⟨sm2, hD2'⟩
        have hlp : (pick (tl ls[i]) fun k => b - 2 - k).length = n := by rw [pick_len, hzi]
        rw [List.take_of_length_le (by omega)] at hD2'
        refine ⟨_, D2, _, rfl, rfl, .inl (SqL.of hD2'), ?_, ?_⟩
        · rw [sum_singles, List.length_map, hlp, show (Str.ofString "").length = 0 by decide +kernel]
          omega
        rw [join_singles]
        refine ⟨_, sm2 _ _ hD', by rw [List.length_map, List.length_map, List.length_take]; exact Nat.lt_of_le_of_lt (Nat.le_trans (Nat.min_le_right _ _) hl) (by decide), (sm.trans sm2).put hD, ?_⟩
        rw [upd_same, take_snoc hil, List.map_append]
        rfl
    · rintro H' ⟨sm, hD'⟩
      rw [List.length_map, List.take_length] at hD'
      exact k D H' sm hD hD'
end
abbrev s__law_step : Stmt := top 36
abbrev N__law_step : List Str := ["lines", "size", "deep", "spot", "line"]
theorem sc__law_step : FnScope N__law_step ["lines", "size", "deep", "spot"] (defScope s__law_step) := ⟨rfl, rfl, rfl, by decide +kernel, rfl, by decide +kernel, by decide +kernel⟩
section
variable {P : Program} {w : World} {K : PySem.W.Frag} {mg : Str → Option Value} {base : Heap}
def spStep : Sp := fun vs H Q _ => ∃ (t : Addr) (sz q : Int) (r n : Nat) (ls : List Str), vs = [.ref t, .int sz, .int r, .int q] ∧ H t = some (.lst (ls.map V.str)) ∧ Rows n ls ∧ n ≤ 5000 ∧ 0 ≤ q ∧ Q (.int (cross (rowAt ls r) sz q)) H
theorem ok__law_step {f : Addr} {fd : FuncData} (F : Fun K "_law_step" "_law_step" s__law_step f fd) (B : Bi mg) : FnOk P w K mg base CX0 2 f fd ["lines", "size", "deep", "spot"] spStep := by
  refine F.ok sc__law_step (fun vs H Q E h => ?_) (fun cdv A outer s0 H vs Q E hr h => ?_)
  · obtain ⟨t, sz, q, r, n, ls, rfl, _⟩ := h
    rfl
  · obtain ⟨t, sz, q, r, n, ls, rfl, ht, W, hn, hq, k⟩ := h
    refine ⟨_, (pss_cons (ps_set (i := 4) sc__law_step.nd rfl (Or.inl rfl) (pe_ix ix_list (pv 0) (pe_op op_mod (pe_callTy call_int1 (by rfl) B.int_ (by decide +kernel) (pa_cons (pv 2) pa_nil)) (pe_callB call_len_seq (by rfl) B.len_ PySem.boot_len (pa_cons (pv 0) pa_nil))) (fun _ _ => rfl)))
    (pss_cons (ps_if (PW.pt (pw_and (pt_cmpR op_lt (pe_op op_add (pv 3) pe_int) (pv 1) (nomark _)) (pw_and1 (pt_cmpR op_eq (pe_ix ix_str (pv 4) (pe_op op_mod (pe_callTy call_int1 (by rfl) B.int_ (by decide +kernel) (pa_cons (pv 3) pa_nil)) (pe_callB call_len_str (by rfl) B.len_ PySem.boot_len (pa_cons (pv 4) pa_nil))) (fun _ _ => rfl)) pe_str (nomark _)))))
    (pss_one (ps_ret (pe_op op_add (pv 3) pe_int)))
    pss_nil)
    (pss_cons (ps_if (PW.pt (pw_and (pt_cmpR op_gt (pv 3) pe_int (nomark _)) (pw_and1 (pt_cmpR op_eq (pe_ix ix_str (pv 4) (pe_op op_mod (pe_callTy call_int1 (by rfl) B.int_ (by decide +kernel) (pa_cons (pe_op op_sub (pv 3) pe_int) pa_nil)) (pe_callB call_len_str (by rfl) B.len_ PySem.boot_len (pa_cons (pv 4) pa_nil))) (fun _ _ => rfl)) pe_str (nomark _)))))
    (pss_one (ps_ret (pe_op op_sub (pv 3) pe_int)))
    pss_nil)
    (pss_one (ps_ret (pv 3)))))), ?_⟩
    have pl : (0 : Int) < ((ls.map V.str).length : Nat) := by rw [List.length_map]; exact Int.natCast_pos.mpr W.ne
    have ix : atI (ls.map V.str) ((r : Int) % ((ls.map V.str).length : Nat)) = some (V.str (rowAt ls r)) := by
      rw [List.length_map]
      exact atI_k' _ (Int.toNat_of_nonneg (Int.emod_nonneg _ (by have := W.ne; omega))).symm (by rw [List.getElem?_map, rowAt_get W.ne r]; rfl)
    have hmem := rowAt_mem W.ne r
    have hz0 := (W.row _ hmem).ne
    have hz1 : (tl (rowAt ls r)).length ≤ 5000 := by rw [W.len _ hmem]; exact hn
    generalize rowAt ls r = z at ix hz0 hz1 k
    clear hmem
    have hzl : z.length ≤ sizeLine := by rw [len_tl]; exact Nat.le_trans hz1 (by decide)
    have ic : ∀ q : Int, atI z.cps.toList (q % (z.length : Int)) = some (sg (tl z) q) := fun q => by
      rw [len_tl]
      exact atI_sg hz0 q
    have pn : (0 : Int) < (z.length : Int) := by rw [len_tl]; omega
    walk_at "rd"
    refine cutAnd (fun σ H' => H = H' ∧ σ = [some (.ref t), some (.int sz), some (.int r), some (.int q), some (.str z)] ∧ (decide (q + 1 < sz) && rungB z q) = false) ?_ ?_ ?_
    · rintro σ _ ⟨rfl, rfl, h1⟩
      walk_at "rd"
      refine ite2 (fun hc => ?_) (fun hc => ?_)
      · walk_at "rd"
        refine ⟨_, _, _, rfl, rfl, hzl, ic _, ?_⟩
        walk_at "rd"
        refine ite2 (fun hb => ?_) (fun hb => ?_)
        · rw [cross_dn h1 (of_decide_eq_true hc) hb] at k
          walk_at "rd"
          exact k
        · rw [cross_no h1 (fun h => hb h.2)] at k
          walk_at "rd"
          exact k
      · rw [cross_no h1 (fun h => hc (decide_eq_true h.1))] at k
        walk_at "rd"
        exact k
    · intro hT hc
      walk_at "rd"
      refine ⟨_, _, _, rfl, rfl, hzl, ic _, ?_⟩
      walk_at "rd"
      refine ite2 (fun hb => ?_) (fun hb => ?_)
      · rw [cross_up hc hb] at k
        walk_at "rd"
        exact k
      · exact hT _ _ ⟨rfl, rfl, by rw [show rungB z q = false from Bool.eq_false_iff.mpr hb, Bool.and_false]⟩
    · intro hc
      exact ⟨rfl, rfl, by rw [hc]; rfl⟩
end
abbrev s__law_round : Stmt := top 37
abbrev N__law_round : List Str := ["lines", "size", "ends", "spot", "place", "deep"]
theorem sc__law_round : FnScope N__law_round ["lines", "size"] (defScope s__law_round) := ⟨rfl, rfl, rfl, by decide +kernel, rfl, by decide +kernel, by decide +kernel⟩
section
variable {P : Program} {w : World} {K : PySem.W.Frag} {mg : Str → Option Value} {base : Heap}
def spEnds : Sp := fun vs H Q _ => ∃ (p : Addr) (N n : Nat) (ls : List Str), vs = [.ref p, .int N] ∧ H p = some (.lst (ls.map V.str)) ∧ Rows n ls ∧ n ≤ 5000 ∧ ls.length ≤ 5000 ∧ 1 ≤ N ∧ N ≤ 5000 ∧
  ∀ (t : Addr) (H' : Hp), Same H H' → H t = none → H' t = some (.lst ((ends ls N).map V.int)) → Q (.ref t) H'
theorem ok__law_round {f : Addr} {fd : FuncData} (F : Fun K "_law_round" "_law_round" s__law_round f fd) (B : Bi mg) (D_law_step : Df P w K mg base "_law_step" 2 ["lines", "size", "deep", "spot"] spStep) : FnOk P w K mg base CX0 3 f fd ["lines", "size"] spEnds := by
  refine F.ok sc__law_round (fun vs H Q E h => ?_) (fun cdv A outer s0 H vs Q E hr h => ?_)
  · obtain ⟨p, N, n, ls, rfl, _⟩ := h
    rfl
  · obtain ⟨p, N, n, ls, rfl, hp, W, hn, hl, hN, hN2, k⟩ := h
    refine ⟨_, (pss_cons (ps_set (i := 2) sc__law_round.nd rfl (Or.inl rfl) (pe_lst pa_nil))
    (pss_cons (ps_for PassesOwn.never rfl (pi_range1 (by rfl) B.range_ (pa_cons (pv 1) pa_nil)) (pg_name (i := 3) sc__law_round.nd rfl (Or.inl rfl))
    (pss_cons (ps_set (i := 4) sc__law_round.nd rfl (Or.inl rfl) (pv 3))
    (pss_cons (ps_for PassesOwn.never rfl (pi_range1 (by rfl) B.range_ (pa_cons (pe_callB call_len_seq (by rfl) B.len_ PySem.boot_len (pa_cons (pv 0) pa_nil)) pa_nil)) (pg_name (i := 5) sc__law_round.nd rfl (Or.inl rfl))
    (pss_one (ps_set (i := 4) sc__law_round.nd rfl (Or.inl rfl) (pe_df D_law_step (hr.mono (by first | decide | omega)) (by rfl) (pa_cons (pv 0) (pa_cons (pv 1) (pa_cons (pv 5) (pa_cons (pv 4) pa_nil))))))))
    (pss_one (ps_expr (pe_bm PySem.F.plainAttrs_list PySem.F.slot_list_append PySem.F.type_list_append mt_append (pv 2) (pa_cons (pv 4) pa_nil)))))))
    (pss_one (ps_ret (pv 2))))), ?_⟩
    have hN62 : (N : Int) < 2 ^ 62 := by omega
    have hl62 : ((ls.map V.str).length : Int) < 2 ^ 62 := by rw [List.length_map]; omega
    walk_at "rd"
    intro D zD
    generalize eD : upd _ D _ = H1
    obtain ⟨s1, hD⟩ := nw eD zD
    walk_at "rd"
    refine for_range (lo := 0) (n := N) (fun i σ H' => ∃ (o3 o4 o5 : Option V), σ = [some (.ref p), some (.int N), some (.ref D), o3, o4, o5] ∧ Same H H' ∧ H' D = some (.lst (((List.range i).map fun j : Nat => wk ls (N : Int) (j : Int) ls.length).map V.int))) ⟨none, none, none, rfl, s1, hD⟩ ?_ ?_
    · rintro i σ H' hi ⟨o3, o4, o5, rfl, s2, hD'⟩
      have hp' := s2 _ _ hp
      walk_at "rd"
      refine for_range (lo := 0) (n := ((ls.map V.str).length : Int).toNat) (fun r σ H2 => H' = H2 ∧ ∃ (o5 : Option V), σ = [some (.ref p), some (.int N), some (.ref D), some (.int (0 + (i : Int))), some (.int (wk ls (N : Int) (i : Int) r)), o5]) ⟨rfl, _, by rw [Int.zero_add]; rfl⟩ ?_ ?_
      · rintro r σ _ hr ⟨rfl, o5, rfl⟩
        walk_at "rd"
        refine ⟨p, (N : Int), _, r, n, ls, by rw [Int.zero_add]; rfl, hp', W, hn, (wk_on (show (0 : Int) ≤ (i : Int) by omega) (by omega) r).1, ?_⟩
        exact ⟨rfl, _, rfl⟩
      · rintro σ _ ⟨rfl, o5, rfl⟩
        walk_at "rd"
        refine ⟨D, _, _, rfl, rfl, hD', by rw [List.length_map, List.length_map, List.length_range]; exact Nat.lt_of_lt_of_le hi (Nat.le_trans hN2 (by decide)), ?_⟩
        refine ⟨_, _, _, rfl, s2.put zD, ?_⟩
        rw [upd_same, List.range_succ, List.map_append, List.map_append, show (((ls.map V.str).length : Nat) : Int).toNat = ls.length by rw [List.length_map]; rfl]
        rfl
    · rintro σ H' ⟨o3, o4, o5, rfl, s2, hD'⟩
      walk_at "rd"
      exact k D H' s2 zD hD'
end
abbrev s__law_walk : Stmt := top 38
abbrev N__law_walk : List Str := ["lines", "size", "spot", "many", "places", "deep"]
theorem sc__law_walk : FnScope N__law_walk ["lines", "size", "spot", "many"] (defScope s__law_walk) := ⟨rfl, rfl, rfl, by decide +kernel, rfl, by decide +kernel, by decide +kernel⟩
section
variable {P : Program} {w : World} {K : PySem.W.Frag} {mg : Str → Option Value} {base : Heap}
def spWalk : Sp := fun vs H Q _ => ∃ (t : Addr) (sz q : Int) (d n : Nat) (ls : List Str), vs = [.ref t, .int sz, .int q, .int d] ∧ H t = some (.lst (ls.map V.str)) ∧ Rows n ls ∧ n ≤ 5000 ∧ ls.length ≤ 5000 ∧ 0 ≤ q ∧ q < sz ∧ d ≤ 100000 ∧
  ∀ (D : Addr) (H' : Hp), Same H H' → H D = none → H' D = some (.lst ((way ls sz q (d + 1)).map V.int)) → Q (.ref D) H'
theorem ok__law_walk {f : Addr} {fd : FuncData} (F : Fun K "_law_walk" "_law_walk" s__law_walk f fd) (B : Bi mg) (D_law_step : Df P w K mg base "_law_step" 2 ["lines", "size", "deep", "spot"] spStep) : FnOk P w K mg base CX0 3 f fd ["lines", "size", "spot", "many"] spWalk := by
  refine F.ok sc__law_walk (fun vs H Q E h => ?_) (fun cdv A outer s0 H vs Q E hr h => ?_)
  · obtain ⟨t, sz, q, d, n, ls, rfl, _⟩ := h
    rfl
  · obtain ⟨t, sz, q, d, n, ls, rfl, ht, W, hn, hl, h0, h1, hd, k⟩ := h
    refine ⟨_, (pss_cons (ps_set (i := 4) sc__law_walk.nd rfl (Or.inl rfl) (pe_lst (pa_cons (pv 2) pa_nil)))
    (pss_cons (ps_for PassesOwn.never rfl (pi_range1 (by rfl) B.range_ (pa_cons (pv 3) pa_nil)) (pg_name (i := 5) sc__law_walk.nd rfl (Or.inl rfl))
    (pss_one (ps_expr (pe_bm PySem.F.plainAttrs_list PySem.F.slot_list_append PySem.F.type_list_append mt_append (pv 4) (pa_cons (pe_df D_law_step (hr.mono (by first | decide | omega)) (by rfl) (pa_cons (pv 0) (pa_cons (pv 1) (pa_cons (pv 5) (pa_cons (pe_ix ix_list (pv 4) (pe_un un_neg pe_int) (fun _ _ => rfl)) pa_nil))))) pa_nil)))))
    (pss_one (ps_ret (pv 4))))), ?_⟩
    have hd62 : (d : Int) < 2 ^ 62 := by omega
    walk_at "rd"
    intro D zD
    generalize eD : upd _ D _ = H1
    obtain ⟨s1, hD⟩ := nw eD zD
    walk_at "rd"
    refine for_range (lo := 0) (n := (d : Int).toNat) (fun i σ H' => ∃ o, σ = [some (.ref t), some (.int sz), some (.int q), some (.int d), some (.ref D), o] ∧ Same H H' ∧ H' D = some (.lst ((way ls sz q (i + 1)).map V.int))) ⟨none, rfl, s1, hD⟩ ?_ ?_
    · rintro i σ H' hi ⟨o, rfl, s2, hD'⟩
      have ht' := s2 _ _ ht
      have ix : atI ((way ls sz q (i + 1)).map V.int) (-1) = some (V.int (wk ls sz q i)) := atI_back (by rw [List.length_map, way_len, Nat.add_sub_cancel, List.getElem?_map, way_get (Nat.lt_succ_self i)]; rfl)
      walk_at "rd"
      refine ⟨t, sz, _, i, n, ls, by rw [Int.zero_add]; rfl, ht', W, hn, (wk_on h0 h1 i).1, ?_⟩
      walk_at "rd"
      refine ⟨D, _, _, rfl, rfl, hD', by rw [List.length_map, way_len]; exact Nat.lt_of_le_of_lt (show i + 1 ≤ 100000 by omega) (by decide), ?_⟩
      refine ⟨_, rfl, s2.put zD, ?_⟩
      rw [upd_same, way_add ls sz q (i + 1), List.map_append]
      rfl
    · rintro σ H' ⟨o, rfl, s2, hD'⟩
      walk_at "rd"
      exact k D H' s2 zD hD'
end
abbrev s__law_meets : Stmt := top 39
abbrev N__law_meets : List Str := ["lines", "size", "left", "right", "many", "first", "second", "k"]
theorem sc__law_meets : FnScope N__law_meets ["lines", "size", "left", "right", "many"] (defScope s__law_meets) := ⟨rfl, rfl, rfl, by decide +kernel, rfl, by decide +kernel, by decide +kernel⟩
section
variable {P : Program} {w : World} {K : PySem.W.Frag} {mg : Str → Option Value} {base : Heap}
def spLawMeets : Sp := fun vs H Q _ => ∃ (t : Addr) (N a b d n : Nat) (ls : List Str), vs = [.ref t, .int N, .int a, .int b, .int d] ∧ H t = some (.lst (ls.map V.str)) ∧ Rows n ls ∧ n ≤ 5000 ∧ ls.length ≤ 5000 ∧ a < N ∧ b < N ∧ d ≤ 100000 ∧ ∀ H', Same H H' → Q (.int (mtN ls (N : Int) (a : Int) (b : Int) d)) H'
theorem ok__law_meets {f : Addr} {fd : FuncData} (F : Fun K "_law_meets" "_law_meets" s__law_meets f fd) (B : Bi mg) (D_law_walk : Df P w K mg base "_law_walk" 3 ["lines", "size", "spot", "many"] spWalk) : FnOk P w K mg base CX0 4 f fd ["lines", "size", "left", "right", "many"] spLawMeets := by
  refine F.ok sc__law_meets (fun vs H Q E h => ?_) (fun cdv A outer s0 H vs Q E hr h => ?_)
  · obtain ⟨t, N, a, b, d, n, ls, rfl, _⟩ := h
    rfl
  · obtain ⟨t, N, a, b, d, n, ls, rfl, ht, W, hn, hl, ha, hb, hd, k⟩ := h
    refine ⟨_, (pss_cons (ps_set (i := 5) sc__law_meets.nd rfl (Or.inr rfl) (pe_df D_law_walk (hr.mono (by first | decide | omega)) (by rfl) (pa_cons (pv 0) (pa_cons (pv 1) (pa_cons (pv 2) (pa_cons (pv 4) pa_nil))))))
    (pss_cons (ps_set (i := 6) sc__law_meets.nd rfl (Or.inr rfl) (pe_df D_law_walk (hr.mono (by first | decide | omega)) (by rfl) (pa_cons (pv 0) (pa_cons (pv 1) (pa_cons (pv 3) (pa_cons (pv 4) pa_nil))))))
    (pss_cons (ps_if (pt_cmpR op_eq (pv 2) (pv 3) (nomark _))
    (pss_one (ps_ret (pe_callB call_len_seq (by rfl) B.len_ PySem.boot_len (pa_cons (pe_lc (own := [("k", 7)]) (g := gName 7) (tt := _) rfl sc__law_meets.nd (pi_range1 (by rfl) B.range_ (pa_cons (pv 4) pa_nil)) (blkOk_by (N := N__law_meets) (sc := defScope s__law_meets) (by decide +kernel)) (fun _ _ _ _ _ => pg_name (i := 7) sc__law_meets.nd rfl (Or.inl rfl)) (fun _ _ _ _ _ => pts_one (pt_cmpR op_ne (pe_ix (show IxR _ (rIxL K) from ix_list) (pv 5) (pv 7) (fun _ _ => rfl)) (pe_ix (show IxR _ (rIxL K) from ix_list) (pv 5) (pe_op op_add (pv 7) pe_int) (fun _ _ => rfl)) (nomark _))) (fun _ _ _ _ _ => (pv 7))) pa_nil))))
    pss_nil)
    (pss_one (ps_ret (pe_callB call_len_seq (by rfl) B.len_ PySem.boot_len (pa_cons (pe_lc (own := [("k", 7)]) (g := gName 7) (tt := _) rfl sc__law_meets.nd (pi_range1 (by rfl) B.range_ (pa_cons (pv 4) pa_nil)) (blkOk_by (N := N__law_meets) (sc := defScope s__law_meets) (by decide +kernel)) (fun _ _ _ _ _ => pg_name (i := 7) sc__law_meets.nd rfl (Or.inl rfl)) (fun _ _ _ _ _ => pts_one (PW.pt (pw_and (pt_cmpR op_eq (pe_ix (show IxR _ (rIxL K) from ix_list) (pv 5) (pe_op op_add (pv 7) pe_int) (fun _ _ => rfl)) (pe_ix (show IxR _ (rIxL K) from ix_list) (pv 6) (pv 7) (fun _ _ => rfl)) (nomark _)) (pw_and1 (pt_cmpR op_eq (pe_ix (show IxR _ (rIxL K) from ix_list) (pv 6) (pe_op op_add (pv 7) pe_int) (fun _ _ => rfl)) (pe_ix (show IxR _ (rIxL K) from ix_list) (pv 5) (pv 7) (fun _ _ => rfl)) (nomark _)))))) (fun _ _ _ _ _ => (pv 7))) pa_nil))))))), ?_⟩
    have hd62 : (d : Int) < 2 ^ 62 := by omega
    have ha0 : (0 : Int) ≤ (a : Int) := by omega
    have hb0 : (0 : Int) ≤ (b : Int) := by omega
    have ha1 : (a : Int) < (N : Int) := by omega
    have hb1 : (b : Int) < (N : Int) := by omega
    walk_at "rd"
    refine ⟨t, (N : Int), (a : Int), d, n, ls, rfl, ht, W, hn, hl, ha0, ha1, hd, fun F1 H1 s1 z1 h1 => ?_⟩
    walk_at "rd"
    refine ⟨t, (N : Int), (b : Int), d, n, ls, rfl, s1 _ _ ht, W, hn, hl, hb0, hb1, hd, fun F2 H2 s2 z2 h2 => ?_⟩
    have h12 := s2 _ _ h1
    have s12 := s1.trans s2
    have hlen : ∀ i, ((List.range i).filter (mtB ls (N : Int) (a : Int) (b : Int))).length ≤ i := fun i => Nat.le_trans (List.length_filter_le _ _) (by rw [List.length_range]; exact Nat.le_refl _)
    walk_at "rd"
    refine ite2 (fun hc => ?_) (fun hc => ?_)
    · have e : a = b := by
        have e := of_decide_eq_true hc
        injection e with e
        omega
      subst e
      walk_at "rd"
      intro D hD
      refine lc_range (lo := 0) (n := d) (fun i H' => Same H2 H' ∧ H' D = some (.lst (((List.range i).filter (mtB ls (N : Int) (a : Int) (a : Int))).map fun k : Nat => V.int (k : Int)))) ⟨L2.Same.upd hD, upd_same⟩ ?_ ?_
      · rintro i H' hi ⟨sm, hD'⟩
        refine ⟨rfl, ?_⟩
        have h1' := sm _ _ h12
        have ia : atI ((way ls (N : Int) (a : Int) (d + 1)).map V.int) (0 + (i : Int)) = some (V.int (wk ls (N : Int) (a : Int) i)) := atI_k' i (by omega) (by rw [List.getElem?_map, way_get (by omega)]; rfl)
        have ib : atI ((way ls (N : Int) (a : Int) (d + 1)).map V.int) (0 + (i : Int) + 1) = some (V.int (wk ls (N : Int) (a : Int) (i + 1))) := atI_k' (i + 1) (by omega) (by rw [List.getElem?_map, way_get (by omega)]; rfl)
        have hli := hlen i
        walk_at "rd"
        refine ite2 (fun hb => ?_) (fun hb => ?_)
        · refine ⟨_, rfl, ?_⟩
          refine ⟨_, hD', by rw [List.length_map]; exact Nat.lt_of_le_of_lt (show _ ≤ 100000 by omega) (by decide), sm.put hD, ?_⟩
          rw [upd_same, filt_t (by rw [mtB_eq]; exact hb), List.map_append, Int.zero_add]
          rfl
        · refine ⟨sm, ?_⟩
          rw [filt_f (by rw [mtB_eq]; exact Bool.eq_false_iff.mpr hb)]
          exact hD'
      · rintro H' ⟨sm, hD'⟩
        walk_at "rd"
        rw [List.length_map]
        exact k H' (s12.trans sm)
    · have e : a ≠ b := fun e => hc (decide_eq_true (by rw [e]))
      walk_at "rd"
      intro D hD
      refine lc_range (lo := 0) (n := d) (fun i H' => Same H2 H' ∧ H' D = some (.lst (((List.range i).filter (mtB ls (N : Int) (a : Int) (b : Int))).map fun k : Nat => V.int (k : Int)))) ⟨L2.Same.upd hD, upd_same⟩ ?_ ?_
      · rintro i H' hi ⟨sm, hD'⟩
        refine ⟨rfl, ?_⟩
        have h1' := sm _ _ h12
        have h2' := sm _ _ h2
        have ia : atI ((way ls (N : Int) (a : Int) (d + 1)).map V.int) (0 + (i : Int)) = some (V.int (wk ls (N : Int) (a : Int) i)) := atI_k' i (by omega) (by rw [List.getElem?_map, way_get (by omega)]; rfl)
        have ib : atI ((way ls (N : Int) (a : Int) (d + 1)).map V.int) (0 + (i : Int) + 1) = some (V.int (wk ls (N : Int) (a : Int) (i + 1))) := atI_k' (i + 1) (by omega) (by rw [List.getElem?_map, way_get (by omega)]; rfl)
        have ic : atI ((way ls (N : Int) (b : Int) (d + 1)).map V.int) (0 + (i : Int)) = some (V.int (wk ls (N : Int) (b : Int) i)) := atI_k' i (by omega) (by rw [List.getElem?_map, way_get (by omega)]; rfl)
        have id' : atI ((way ls (N : Int) (b : Int) (d + 1)).map V.int) (0 + (i : Int) + 1) = some (V.int (wk ls (N : Int) (b : Int) (i + 1))) := atI_k' (i + 1) (by omega) (by rw [List.getElem?_map, way_get (by omega)]; rfl)
        have hli := hlen i
        have em := mtB_ne W ha hb e i
        walk_at "rd"
        refine ite2 (fun hx => ?_) (fun hx => ?_)
        · walk_at "rd"
          refine ite2 (fun hy => ?_) (fun hy => ?_)
          · refine ⟨_, rfl, ?_⟩
            refine ⟨_, hD', by rw [List.length_map]; exact Nat.lt_of_le_of_lt (show _ ≤ 100000 by omega) (by decide), sm.put hD, ?_⟩
            rw [upd_same, filt_t (by rw [em, hx, hy]; rfl), List.map_append, Int.zero_add]
            rfl
          · refine ⟨sm, ?_⟩
            rw [filt_f (by rw [em, Bool.eq_false_iff.mpr hy, Bool.and_false])]
            exact hD'
        · refine ⟨sm, ?_⟩
          rw [filt_f (by rw [em, Bool.eq_false_iff.mpr hx, Bool.false_and])]
          exact hD'
      · rintro H' ⟨sm, hD'⟩
        walk_at "rd"
        rw [List.length_map]
        exact k H' (s12.trans sm)
end
abbrev s__law_asked : Stmt := top 41
abbrev N__law_asked : List Str := ["thing", "lines", "ladder", "deep", "far", "size", "left", "right", "many", "line", "shape", "found", "due", "others", "k"]
theorem sc__law_asked : FnScope N__law_asked ["thing", "lines", "ladder", "deep", "far"] (defScope s__law_asked) := ⟨rfl, rfl, rfl, by decide +kernel, rfl, by decide +kernel, by decide +kernel⟩
section
variable {P : Program} {w : World} {K : PySem.W.Frag} {mg : Str → Option Value} {base : Heap}
def spAsked (C : Addr) : Sp := fun vs H Q _ => ∃ (x t ld : Addr) (N a b d n dp : Nat) (fr : Int) (ls : List Str), vs = [.ref x, .ref t, .ref ld, .int dp, .int fr] ∧ RuleAt C H x ls ∧ H t = some (.lst (ls.map V.str)) ∧ Rows n ls ∧ n ≤ 60 ∧ ls.length ≤ 60 ∧ H ld = some (.tup [.int N, .int a, .int b, .int d]) ∧ a < N ∧ b < N ∧ N ≤ 63 ∧ d ≤ 300 ∧ 0 ≤ fr ∧ ∀ H', Same H H' → Q (.bl true) H'
theorem flat_ints (xs : List Int) : (xs.map V.int).all flat1 = true := by
  rw [List.all_map, List.all_eq_true]
  exact fun _ _ => rfl
theorem alike_ints {H : Hp} {n : Nat} {a b : Addr} {xs : List Int} (ha : H a = some (.lst (xs.map V.int))) (hb : H b = some (.lst (xs.map V.int))) (hl : xs.length ≤ 5000) : Alike K H (n + 2) (.ref a) (.ref b) :=
  alike_flat ha hb (by rw [List.length_map]; exact hl) (flat_ints xs)
theorem ok__law_asked {f C : Addr} {fd : FuncData} (F : Fun K "_law_asked" "_law_asked" s__law_asked f fd) (B : Bi mg) (T : Rl K C) (D_law_same : Df P w K mg base "_law_same" 4 ["found", "due"] (spSame K 4)) (D_law_round : Df P w K mg base "_law_round" 3 ["lines", "size"] spEnds) (D_law_walk : Df P w K mg base "_law_walk" 3 ["lines", "size", "spot", "many"] spWalk) (D_law_meets : Df P w K mg base "_law_meets" 4 ["lines", "size", "left", "right", "many"] spLawMeets)
    (D_round_of : Df P w K mg base "round_of" 7 ["rule", "n"] (spRound C)) (D_walk_of : Df P w K mg base "walk_of" 7 ["rule", "n", "post", "rows"] (spWalkOf C)) (D_meets : Df P w K mg base "meets" 8 ["rule", "n", "one", "other", "rows"] (spMeets C)) (D_partners : Df P w K mg base "partners" 6 ["rule", "n", "post", "rows"] (spPartners C))
    (P_rows : Pr P w K mg base C "rows" 2 (spRows C)) (P_width : Pr P w K mg base C "width" 2 (spWidth C)) (P_height : Pr P w K mg base C "height" 2 (spHeight C)) (O_len : Me P w K mg base C "__len__" 2 ["self"] (spLen C)) (E_has_rung : Me P w K mg base C "has_rung" 4 ["self", "row", "post"] (spHasRung C)) : FnOk P w K mg base CX0 9 f fd ["thing", "lines", "ladder", "deep", "far"] (spAsked C) := by
  refine F.ok sc__law_asked (fun vs H Q E h => ?_) (fun cdv A outer s0 H vs Q E hr h => ?_)
  · obtain ⟨x, t, ld, N, a, b, d, n, dp, fr, ls, rfl, _⟩ := h
    rfl
  · obtain ⟨x, t, ld, N, a, b, d, n, dp, fr, ls, rfl, R, ht, W, hn, hl, hld, ha, hb, hN, hd, hf, k⟩ := h
    refine ⟨_, (pss_cons (ps_asg (pv 2) (pg_tup rfl (pgs_cons (pg_name (i := 5) sc__law_asked.nd rfl (Or.inr rfl)) (pgs_cons (pg_name (i := 6) sc__law_asked.nd rfl (Or.inr rfl)) (pgs_cons (pg_name (i := 7) sc__law_asked.nd rfl (Or.inl rfl)) (pgs_cons (pg_name (i := 8) sc__law_asked.nd rfl (Or.inr rfl)) pgs_nil))))))
    (pss_cons (ps_set (i := 9) sc__law_asked.nd rfl (Or.inl rfl) (pe_ix ix_list (pv 1) (pe_op op_mod (pe_callTy call_int1 (by rfl) B.int_ (by decide +kernel) (pa_cons (pv 3) pa_nil)) (pe_callB call_len_seq (by rfl) B.len_ PySem.boot_len (pa_cons (pv 1) pa_nil))) (fun _ _ => rfl)))
    (pss_cons (ps_set (i := 10) sc__law_asked.nd rfl (Or.inl rfl) (pe_lst (pa_cons (pe_pr (pv 0) P_rows (hr.mono (by first | decide | omega)) rfl) (pa_cons (pe_pr (pv 0) P_width (hr.mono (by first | decide | omega)) rfl) (pa_cons (pe_pr (pv 0) P_height (hr.mono (by first | decide | omega)) rfl) (pa_cons (pe_callB (call_lenR O_len (hr.mono (by first | decide | omega))) (by rfl) B.len_ PySem.boot_len (pa_cons (pv 0) pa_nil)) pa_nil))))))
    (pss_cons (ps_if (pt_not (pt_val (pe_df D_law_same (hr.mono (by first | decide | omega)) (by rfl) (pa_cons (pv 10) (pa_cons (pe_lst (pa_cons (pv 1) (pa_cons (pe_callB call_len_str (by rfl) B.len_ PySem.boot_len (pa_cons (pe_ix ix_list (pv 1) pe_int (fun _ _ => rfl)) pa_nil)) (pa_cons (pe_callB call_len_seq (by rfl) B.len_ PySem.boot_len (pa_cons (pv 1) pa_nil)) (pa_cons (pe_callB call_len_seq (by rfl) B.len_ PySem.boot_len (pa_cons (pv 1) pa_nil)) pa_nil))))) pa_nil)))))
    (pss_one (ps_ret pe_bl))
    pss_nil)
    (pss_cons (ps_if (pt_not (pt_val (pe_df D_law_same (hr.mono (by first | decide | omega)) (by rfl) (pa_cons (pe_me (pv 0) E_has_rung (hr.mono (by first | decide | omega)) (pa_cons (pv 3) (pa_cons (pv 4) pa_nil))) (pa_cons (pe_cmpR op_eq (pe_ix ix_str (pv 9) (pe_op op_mod (pe_callTy call_int1 (by rfl) B.int_ (by decide +kernel) (pa_cons (pv 4) pa_nil)) (pe_callB call_len_str (by rfl) B.len_ PySem.boot_len (pa_cons (pv 9) pa_nil))) (fun _ _ => rfl)) pe_str (nomark _)) pa_nil)))))
    (pss_one (ps_ret pe_bl))
    pss_nil)
    (pss_cons (ps_set (i := 11) sc__law_asked.nd rfl (Or.inl rfl) (pe_lst (pa_cons (pe_df D_round_of (hr.mono (by first | decide | omega)) (by rfl) (pa_cons (pv 0) (pa_cons (pv 5) pa_nil))) (pa_cons (pe_df D_walk_of (hr.mono (by first | decide | omega)) (by rfl) (pa_cons (pv 0) (pa_cons (pv 5) (pa_cons (pv 6) (pa_cons (pv 8) pa_nil))))) (pa_cons (pe_df D_meets (hr.mono (by first | decide | omega)) (by rfl) (pa_cons (pv 0) (pa_cons (pv 5) (pa_cons (pv 6) (pa_cons (pv 7) (pa_cons (pv 8) pa_nil)))))) pa_nil)))))
    (pss_cons (ps_set (i := 12) sc__law_asked.nd rfl (Or.inl rfl) (pe_lst (pa_cons (pe_df D_law_round (hr.mono (by first | decide | omega)) (by rfl) (pa_cons (pv 1) (pa_cons (pv 5) pa_nil))) (pa_cons (pe_df D_law_walk (hr.mono (by first | decide | omega)) (by rfl) (pa_cons (pv 1) (pa_cons (pv 5) (pa_cons (pv 6) (pa_cons (pv 8) pa_nil))))) (pa_cons (pe_df D_law_meets (hr.mono (by first | decide | omega)) (by rfl) (pa_cons (pv 1) (pa_cons (pv 5) (pa_cons (pv 6) (pa_cons (pv 7) (pa_cons (pv 8) pa_nil)))))) pa_nil)))))
    (pss_cons (ps_setLc (i := 13) (own := [("k", 14)]) (g := gName 14) (tt := _) rfl sc__law_asked.nd rfl rfl (sw_true rfl rfl rfl (by decide +kernel)) (pi_range1 (by rfl) B.range_ (pa_cons (pv 5) pa_nil)) (blkOk_by (N := N__law_asked) (sc := defScope s__law_asked) (by decide +kernel)) (fun _ _ _ _ _ => pg_name (i := 14) sc__law_asked.nd rfl (Or.inl rfl)) (fun _ _ _ _ _ => pts_one (PW.pt (pw_and (pt_cmpR op_ne (pv 14) (pv 6) (nomark _)) (pw_and1 (pt_cmpR op_gt (pe_df D_law_meets (hr.mono (by first | decide | omega)) (by rfl) (pa_cons (pv 1) (pa_cons (pv 5) (pa_cons (pv 6) (pa_cons (pv 14) (pa_cons (pv 8) pa_nil)))))) pe_int (nomark _)))))) (fun _ _ _ _ _ => (pv 14)))
    (pss_one (ps_ret (pe_and (pe_df D_law_same (hr.mono (by first | decide | omega)) (by rfl) (pa_cons (pv 11) (pa_cons (pv 12) pa_nil))) (pe_one (pe_df D_law_same (hr.mono (by first | decide | omega)) (by rfl) (pa_cons (pe_df D_partners (hr.mono (by first | decide | omega)) (by rfl) (pa_cons (pv 0) (pa_cons (pv 5) (pa_cons (pv 6) (pa_cons (pv 8) pa_nil))))) (pa_cons (pv 13) pa_nil))))))))))))))), ?_⟩
    have ha0 : (0 : Int) ≤ (a : Int) := by omega
    have hb0 : (0 : Int) ≤ (b : Int) := by omega
    have ha1 : (a : Int) < (N : Int) := by omega
    have hb1 : (b : Int) < (N : Int) := by omega
    walk_at "rd"
    refine ⟨ld, _, rfl, SqT.of hld, rfl, _, _, rfl, _, _, rfl, _, _, rfl, _, _, rfl, rfl, ?_⟩
    have pl : (0 : Int) < ((ls.map V.str).length : Nat) := by rw [List.length_map]; exact Int.natCast_pos.mpr W.ne
    have ix : atI (ls.map V.str) ((dp : Int) % ((ls.map V.str).length : Nat)) = some (V.str (rowAt ls dp)) := by
      rw [List.length_map]
      exact atI_k' _ (Int.toNat_of_nonneg (Int.emod_nonneg _ (by have := W.ne; omega))).symm (by rw [List.getElem?_map, rowAt_get W.ne dp]; rfl)
    have hmem := rowAt_mem W.ne dp
    have hz0 := (W.row _ hmem).ne
    have hz1 : (rowAt ls dp).length ≤ sizeLine := by rw [len_tl, W.len _ hmem]; exact Nat.le_trans hn (by decide)
    have iy0 := atI_k' (i := 0) 0 rfl (getS W.ne)
    have hy0 : (ls[0]'W.ne).length = n := W.lenS (List.getElem_mem W.ne)
    have hyl : (ls[0]'W.ne).length ≤ sizeLine := by rw [hy0]; exact Nat.le_trans hn (by decide)
    obtain ⟨dx, u, hx, _⟩ := id R
    walk_at "rd"
    refine ⟨x, dx, _, rfl, hx, x, ls, rfl, R, fun q H1 s1 hq hq1 => ?_⟩
    have R1 := R.same s1
    walk_at "rd"
    refine ⟨x, dx, _, rfl, s1 _ _ hx, x, ls, n, rfl, R1, W, by omega, ?_⟩
    walk_at "rd"
    refine ⟨x, dx, _, rfl, s1 _ _ hx, x, ls, rfl, R1, ?_⟩
    walk_at "rd"
    refine ⟨x, dx, _, rfl, s1 _ _ hx, x, ls, rfl, R1, _, rfl, ⟨by omega, by omega⟩, ?_⟩
    walk_at "rd"
    intro gs zgs
    generalize egs : upd _ gs _ = H2
    obtain ⟨s2, hgs⟩ := nw egs zgs
    refine norm_g (σ' := [some (.ref x), some (.ref t), some (.ref ld), some (.int dp), some (.int fr), some (.int N), some (.int a), some (.int b), some (.int d), some (.str (rowAt ls dp)), some (.ref gs), none, none, none, none]) rfl ?_
    have s02 := s1.trans s2
    have ht2 := s02 _ _ ht
    walk_at "rd"
    rw [hy0, List.length_map]
    intro g3 zg3
    generalize eg3 : upd _ g3 _ = H3
    obtain ⟨s3, hg3⟩ := nw eg3 zg3
    have s03 := s02.trans s3
    refine ⟨_, _, rfl, alike_of (n := 3) (s3 _ _ hgs) hg3 (Nat.le_of_ble_eq_true rfl) (.cons (alike_strs (s3 _ _ (s2 _ _ hq1)) (s3 _ _ ht2) (by omega)) (.cons (.int _) (.cons (.int _) (.cons (.int _) .nil)))), fun H4 s4 => ?_⟩
    have s04 := s03.trans s4
    have R4 := R.same s04
    have ht4 := s04 _ _ ht
    have hx4 := s04 _ _ hx
    clear hq1 hgs hg3 s1 s2 s3 s4 s02 s03 egs eg3 zgs zg3 hq R1 ht2
    walk_at "rd"
    refine ⟨x, dx, _, rfl, hx4, lkR _ (by decide +kernel), ?_⟩
    walk_at "rd"
    refine ⟨x, dp, fr, n, ls, rowAt ls dp, rfl, R4, W, by omega, by omega, hf, rowAt_get W.ne dp, ?_⟩
    have ic : atI (rowAt ls dp).cps.toList (fr % ((rowAt ls dp).length : Int)) = some (sg (tl (rowAt ls dp)) fr) := by
      rw [len_tl]
      exact atI_sg hz0 fr
    have pn : (0 : Int) < ((rowAt ls dp).length : Int) := by rw [len_tl]; omega
    walk_at "rd"
    refine ⟨_, _, _, rfl, rfl, hz1, ic, ?_⟩
    walk_at "rd"
    refine ⟨_, _, rfl, .bl _, fun H5 s5 => ?_⟩
    have s05 := s04.trans s5
    have R5 := R.same s05
    have ht5 := s05 _ _ ht
    clear R4 ht4 hx4 s5 s04 hx R
    walk_at "rd"
    refine ⟨x, N, n, ls, rfl, R5, W, by omega, by omega, by omega, by omega, fun r1 H6 s6 zr1 hr1 => ?_⟩
    walk_at "rd"
    refine ⟨x, (N : Int), (a : Int), d, n, ls, rfl, R5.same s6, W, by omega, ha0, ha1, by omega, fun r2 H7 s7 zr2 hr2 => ?_⟩
    have s67 := s6.trans s7
    walk_at "rd"
    refine ⟨x, (N : Int), (a : Int), (b : Int), d, n, ls, rfl, R5.same s67, W, by omega, ha0, ha1, hb0, hb1, by omega, fun H8 s8 => ?_⟩
    walk_at "rd"
    intro g1 zg1
    generalize eg1 : upd _ g1 _ = H9
    obtain ⟨s9, hg1⟩ := nw eg1 zg1
    refine norm_g (σ' := [some (.ref x), some (.ref t), some (.ref ld), some (.int dp), some (.int fr), some (.int N), some (.int a), some (.int b), some (.int d), some (.str (rowAt ls dp)), some (.ref gs), some (.ref g1), none, none, none]) rfl ?_
    have s79 := s8.trans s9
    have s69 := s7.trans s79
    have s59 := s6.trans s69
    have ht9 := s59 _ _ ht5
    have hr19 := s69 _ _ hr1
    have hr29 := s79 _ _ hr2
    have R9 := R5.same s59
    have s09 := s05.trans s59
    clear R5 ht5 s8 s9 s67 hr1 hr2 s05 s59 s69 s79 s6 s7 eg1 zg1
    walk_at "rd"
    refine ⟨t, N, n, ls, rfl, ht9, W, by omega, by omega, by omega, by omega, fun d1 HA sA zd1 hd1 => ?_⟩
    walk_at "rd"
    refine ⟨t, (N : Int), (a : Int), d, n, ls, rfl, sA _ _ ht9, W, by omega, by omega, ha0, ha1, by omega, fun d2 HB sB zd2 hd2 => ?_⟩
    have sAB := sA.trans sB
    walk_at "rd"
    refine ⟨t, N, a, b, d, n, ls, rfl, sAB _ _ ht9, W, by omega, by omega, ha, hb, by omega, fun HC sC => ?_⟩
    walk_at "rd"
    intro g2 zg2
    generalize eg2 : upd _ g2 _ = HD
    obtain ⟨sD, hg2⟩ := nw eg2 zg2
    refine norm_g (σ' := [some (.ref x), some (.ref t), some (.ref ld), some (.int dp), some (.int fr), some (.int N), some (.int a), some (.int b), some (.int d), some (.str (rowAt ls dp)), some (.ref gs), some (.ref g1), some (.ref g2), none, none]) rfl ?_
    have sCD := sC.trans sD
    have sBD := sB.trans sCD
    have sAD := sA.trans sBD
    have htD := sAD _ _ ht9
    have RD := R9.same sAD
    have s0D := s09.trans sAD
    have hg1D := sAD _ _ hg1
    have hr1D := sAD _ _ hr19
    have hr2D := sAD _ _ hr29
    have hd1D := sBD _ _ hd1
    have hd2D := sCD _ _ hd2
    clear ht9 R9 hg1 hr19 hr29 hd1 hd2 sAD sBD sCD sC sD sA sB sAB s09 eg2 zg2
    have hNN : (N : Int) < 2 ^ 62 := by omega
    walk_at "rd"
    intro A zA
    refine lc_range (lo := 0) (n := N) (fun j H2 => Same HD H2 ∧ H2 A = some (.lst ((((List.range j).filter (metB ls (N : Int) (a : Int) d)).map fun k : Nat => (k : Int)).map V.int))) ⟨L2.Same.upd zA, upd_same⟩ ?_ ?_
    · rintro j H2 hj ⟨s, hA⟩
      refine ⟨rfl, ?_⟩
      have hlen : ((List.range j).filter (metB ls (N : Int) (a : Int) d)).length ≤ j := Nat.le_trans (List.length_filter_le _ _) (by rw [List.length_range]; exact Nat.le_refl _)
      have em := metB_mt W ha hj d
      have stp : ∀ c : Bool, metB ls (N : Int) (a : Int) d j = c → (List.range (j + 1)).filter (metB ls (N : Int) (a : Int) d) = (List.range j).filter (metB ls (N : Int) (a : Int) d) ++ (if c = true then [j] else []) := fun c hc => by
        rw [List.range_succ, List.filter_append]
        cases c with
        | true => simp [hc]
        | false => simp [hc]
      have skip : metB ls (N : Int) (a : Int) d j = false → ∀ H3, Same H2 H3 → Same HD H3 ∧ H3 A = some (.lst ((((List.range (j + 1)).filter (metB ls (N : Int) (a : Int) d)).map fun k : Nat => (k : Int)).map V.int)) := fun hc H3 s3 => by
        refine ⟨s.trans s3, ?_⟩
        rw [stp false hc, if_neg (by decide), List.append_nil]
        exact s3 _ _ hA
      walk_at "rd"
      refine ite2 (fun hx => ?_) (fun hx => ?_)
      · have e1 : decide (j = a) = false := by
          rw [Bool.not_eq_true', decide_eq_false_iff_not] at hx
          refine decide_eq_false fun e => hx ?_
          rw [e, Int.zero_add]
        rw [e1, Bool.not_false, Bool.true_and] at em
        walk_at "rd"
        refine ⟨t, N, a, j, d, n, ls, by rw [Int.zero_add]; rfl, s _ _ htD, W, by omega, by omega, ha, hj, by omega, fun H3 s3 => ?_⟩
        walk_at "rd"
        refine ite2 (fun hy => ?_) (fun hy => ?_)
        · refine ⟨_, rfl, ?_⟩
          have hm : metB ls (N : Int) (a : Int) d j = true := by
            rw [em]
            have := of_decide_eq_true hy
            exact decide_eq_true (by omega)
          refine ⟨_, s3 _ _ hA, by rw [List.length_map, List.length_map]; exact Nat.lt_of_le_of_lt (show _ ≤ 100000 by omega) (by decide), (s.trans s3).put zA, ?_⟩
          rw [upd_same, stp true hm, if_pos rfl, List.map_append, List.map_append, Int.zero_add]
          rfl
        · exact skip (by rw [em]; exact decide_eq_false fun h => hy (decide_eq_true (by omega))) H3 s3
      · exact skip (by
          rw [em, show decide (j = a) = true from decide_eq_true (by
            have e : V.int (0 + (j : Int)) = V.int (a : Int) := by
              by_cases q : V.int (0 + (j : Int)) = V.int (a : Int)
              · exact q
              · exact absurd (by rw [decide_eq_false q]; rfl) hx
            injection e with e
            omega)]
          rfl) H2 (Same.refl _)
    · rintro HE ⟨sE, hA⟩
      have hA' : HE A = some (.lst ((parts ls N (a : Int) d).map V.int)) := hA
      walk_at "rd"
      refine ⟨_, _, rfl, alike_of (n := 3) (sE _ _ hg1D) (sE _ _ hg2) (Nat.le_of_ble_eq_true rfl) (.cons (alike_ints (sE _ _ hr1D) (sE _ _ hd1D) (by rw [ends_len]; omega)) (.cons (alike_ints (sE _ _ hr2D) (sE _ _ hd2D) (by rw [way_len]; omega)) (.cons (.int _) .nil))), fun HF sF => ?_⟩
      have sEF := sE.trans sF
      walk_at "rd"
      refine ⟨x, N, d, n, (a : Int), ls, rfl, RD.same sEF, W, by omega, ha0, ha1, hN, by omega, fun r3 HG sG zr3 hr3 => ?_⟩
      walk_at "rd"
      refine ⟨_, _, rfl, alike_ints hr3 (sG _ _ (sF _ _ hA')) (by have := parts_len ls N (a : Int) d; omega), fun HI sI => ?_⟩
      exact k HI (s0D.trans (sEF.trans (sG.trans sI)))
end
abbrev s__law_made : Stmt := top 42
abbrev N__law_made : List Str := ["thing", "lines", "mate", "others", "ladder", "script", "at", "drawn", "number"]
theorem sc__law_made : FnScope N__law_made ["thing", "lines", "mate", "others", "ladder", "script", "at"] (defScope s__law_made) := ⟨rfl, rfl, rfl, by decide +kernel, rfl, by decide +kernel, by decide +kernel⟩
section
variable {P : Program} {w : World} {K : PySem.W.Frag} {mg : Str → Option Value} {base : Heap}
/-- a rule and its rows, told as a tuple -/
structure Twin (C : Addr) (H : Hp) (r x t : Addr) (ls : List Str) : Prop where
  h : H r = some (.tup [.ref x, .ref t])
  r : RuleAt C H x ls
  l : H t = some (.lst (ls.map V.str))
/-- the width stays a first one, or the one with the mate's -/
def spMadeT (K : PySem.W.Frag) (C : Addr) : Sp := fun vs H Q _ => ∃ (x t y u ld a : Addr) (N b c d n m at_ : Nat) (ls ms : List Str) (ns : List Int), vs = [.ref x, .ref t, .ref y, .ref u, .ref ld, .ref a, .int at_] ∧ RuleAt C H x ls ∧ H t = some (.lst (ls.map V.str)) ∧ Rows n ls ∧ RuleAt C H y ms ∧ H u = some (.lst (ms.map V.str)) ∧ Rows m ms ∧ n ≤ 60 ∧ m ≤ 60 ∧ Nat.lcm n m ≤ 60 ∧ ls.length + ms.length ≤ 60 ∧
  H ld = some (.tup [.int N, .int b, .int c, .int d]) ∧ 1 ≤ N ∧ SqL K H a (ns.map V.int) ∧ ns.length ≤ 63 ∧ at_ ≤ 100 ∧
  ∀ (r x2 t2 : Addr) (n2 : Nat) (ls2 : List Str) (H' : Hp), Same H H' → Twin C H' r x2 t2 ls2 → Rows n2 ls2 → (n2 = n ∨ n2 = Nat.lcm n m) → ls2.length ≤ ls.length + ms.length → Q (.ref r) H'
theorem ok__law_made {f C : Addr} {fd : FuncData} (F : Fun K "_law_made" "_law_made" s__law_made f fd) (B : Bi mg) (T : Rl K C) (D_law_draws : Df P w K mg base "_law_draws" 3 ["script", "at", "limits"] (spDraws K)) (D_law_great : Df P w K mg base "_law_great" 3 ["script", "at", "bound"] (spGreat K)) (D_law_shifted : Df P w K mg base "_law_shifted" 2 ["lines", "by_posts"] spLawShifted) (D_law_mirrored : Df P w K mg base "_law_mirrored" 2 ["lines", "size"] spLawMirrored) (D_law_joined : Df P w K mg base "_law_joined" 3 ["lines", "others"] spJoined)
    (E_inverse : Me P w K mg base C "inverse" 5 ["self"] (spInverse C)) (E_shifted : Me P w K mg base C "shifted" 5 ["self", "by"] (spShifted C)) (E_mirrored : Me P w K mg base C "mirrored" 5 ["self", "n"] (spMirrored C)) (E_then : Me P w K mg base C "then" 5 ["self", "other"] (spThen C)) (O_add : Me P w K mg base C "__add__" 6 ["self", "other"] (spThen C)) : FnOk P w K mg base CX0 7 f fd ["thing", "lines", "mate", "others", "ladder", "script", "at"] (spMadeT K C) := by
  refine F.ok sc__law_made (fun vs H Q E h => ?_) (fun cdv A outer s0 H vs Q E hr h => ?_)
  · obtain ⟨x, t, y, u, ld, a, N, b, c, d, n, m, at_, ls, ms, ns, rfl, _⟩ := h
    rfl
  · obtain ⟨x, t, y, u, ld, a, N, b, c, d, n, m, at_, ls, ms, ns, rfl, R, ht, W, R2, hu, W2, hn, hm, hL, hl, hld, hN, hS, hlen, hat, k⟩ := h
    refine ⟨_, (pss_cons (ps_set (i := 7) sc__law_made.nd rfl (Or.inl rfl) (pe_df D_law_draws (hr.mono (by first | decide | omega)) (by rfl) (pa_cons (pv 5) (pa_cons (pv 6) (pa_cons (pe_lst (pa_cons pe_int (pa_cons pe_int pa_nil))) pa_nil)))))
    (pss_cons (ps_set (i := 8) sc__law_made.nd rfl (Or.inl rfl) (pe_op op_mul (pe_df D_law_great (hr.mono (by first | decide | omega)) (by rfl) (pa_cons (pv 5) (pa_cons (pv 6) (pa_cons (pe_op op_pow pe_int pe_int) pa_nil)))) (pe_op op_sub pe_int (pe_op op_mul pe_int (pe_ix ix_list (pv 7) pe_int (fun _ _ => rfl))))))
    (pss_cons (ps_if (pt_cmpR op_eq (pe_ix ix_list (pv 7) pe_int (fun _ _ => rfl)) pe_int (nomark _))
    (pss_one (ps_ret (pe_tup (pa_cons (pe_me (pv 0) E_shifted (hr.mono (by first | decide | omega)) (pa_cons (pv 8) pa_nil)) (pa_cons (pe_df D_law_shifted (hr.mono (by first | decide | omega)) (by rfl) (pa_cons (pv 1) (pa_cons (pv 8) pa_nil))) pa_nil)))))
    pss_nil)
    (pss_cons (ps_if (pt_cmpR op_eq (pe_ix ix_list (pv 7) pe_int (fun _ _ => rfl)) pe_int (nomark _))
    (pss_one (ps_ret (pe_tup (pa_cons (pe_me (pv 0) E_mirrored (hr.mono (by first | decide | omega)) (pa_cons (pe_ix ix_tup (pv 4) pe_int (fun _ _ => rfl)) pa_nil)) (pa_cons (pe_df D_law_mirrored (hr.mono (by first | decide | omega)) (by rfl) (pa_cons (pv 1) (pa_cons (pe_ix ix_tup (pv 4) pe_int (fun _ _ => rfl)) pa_nil))) pa_nil)))))
    pss_nil)
    (pss_cons (ps_if (pt_cmpR op_eq (pe_ix ix_list (pv 7) pe_int (fun _ _ => rfl)) pe_int (nomark _))
    (pss_one (ps_ret (pe_tup (pa_cons (pe_me (pv 0) E_then (hr.mono (by first | decide | omega)) (pa_cons (pv 2) pa_nil)) (pa_cons (pe_df D_law_joined (hr.mono (by first | decide | omega)) (by rfl) (pa_cons (pv 1) (pa_cons (pv 3) pa_nil))) pa_nil)))))
    pss_nil)
    (pss_cons (ps_if (pt_cmpR op_eq (pe_ix ix_list (pv 7) pe_int (fun _ _ => rfl)) pe_int (nomark _))
    (pss_one (ps_ret (pe_tup (pa_cons (pe_op (op_addOwn O_add T.sf (hr.mono (by first | decide | omega))) (pv 0) (pv 2)) (pa_cons (pe_df D_law_joined (hr.mono (by first | decide | omega)) (by rfl) (pa_cons (pv 1) (pa_cons (pv 3) pa_nil))) pa_nil)))))
    pss_nil)
    (pss_one (ps_ret (pe_tup (pa_cons (pe_me0 (pv 0) E_inverse (hr.mono (by first | decide | omega))) (pa_cons (pe_revL (pv 1)) pa_nil))))))))))), ?_⟩
    walk_at "rd"
    intro p1 zp1
    generalize ep1 : upd _ p1 _ = A1
    obtain ⟨t1, hl1⟩ := nw ep1 zp1
    refine ⟨a, p1, ns, [5, 2], at_, rfl, t1.seq hS, hl1, by decide, by decide, ?_⟩
    intro ds dq A2 dr t2 _ hd
    obtain ⟨d0, a0, _, b0, b1⟩ := dr.at (i := 0) (l := 5) rfl
    obtain ⟨d1, a1, _, b2, b3⟩ := dr.at (i := 1) (l := 2) rfl
    have i0 := atI_k' (i := 0) 0 rfl a0
    have i1 := atI_k' (i := 1) 1 rfl a1
    have u2 := t1.trans t2
    have p60 : (0 : Int) < (10 : Int) ^ (60 : Int).toNat := by decide +kernel
    have hne1 := W.ne
    have hne2 := W2.ne
    walk_at "rd"
    refine ⟨a, ns, at_, _, rfl, u2.seq hS, by omega, p60, fun c3 c30 c31 => ?_⟩
    generalize enum : c3 * (1 - 2 * d1) = num
    walk_at "rd"
    have R' := R.same u2
    have R2' := R2.same u2
    have ht' := u2 _ _ ht
    have hu' := u2 _ _ hu
    have hld' := u2 _ _ hld
    have il : atI [V.int (N : Int), V.int (b : Int), V.int (c : Int), V.int (d : Int)] 0 = some (V.int (N : Int)) := rfl
    have fin : ∀ (r x2 t2 : Addr) (n2 : Nat) (ls2 : List Str) (H3 H4 H5 : Hp), Same A2 H3 → RuleAt C H3 x2 ls2 → Same H3 H4 → H4 t2 = some (.lst (ls2.map V.str)) → Rows n2 ls2 → (n2 = n ∨ n2 = Nat.lcm n m) → ls2.length ≤ ls.length + ms.length → upd H4 r (.tup [.ref x2, .ref t2]) = H5 → H4 r = none → Q (.ref r) H5 := fun r x2 t2 n2 ls2 H3 H4 H5 s3 RX s4 hl W2 hn2 hl2 e zr => by
      obtain ⟨s5, hr⟩ := nw e zr
      exact k r x2 t2 n2 ls2 H5 (u2.trans (s3.trans (s4.trans s5))) ⟨hr, RX.same (s4.trans s5), s5 _ _ hl⟩ W2 hn2 hl2
    refine ite2 (fun hc => ?_) (fun hc => ?_)
    · walk_at "rd"
      refine rd_sh R' W (by omega) (by omega) (fun Q' q => ⟨_, rfl, q⟩) fun r H3 s3 zr RR => ?_
      walk_at "rd"
      refine ⟨t, _, n, ls, rfl, s3 _ _ ht', W, by omega, by omega, fun q H4 s4 zq hq => ?_⟩
      walk_at "rd"
      intro rr zrr
      exact fin rr r q n _ H3 H4 _ s3 RR s4 hq (W.rot _) (.inl rfl) (by rw [List.length_map]; omega) rfl zrr
    walk_at "rd"
    refine ite2 (fun hc2 => ?_) (fun hc2 => ?_)
    · walk_at "rd"
      refine rd_mi (b := (N : Int)) R' W (by omega) (by omega) (by omega) (fun Q' q => by
        refine ⟨_, rfl, ?_⟩
        exact ⟨_, _, _, _, rfl, rfl, SqT.of hld', il, q⟩) fun r H3 s3 zr RR => ?_
      have hld3 := s3 _ _ hld'
      walk_at "rd"
      refine ⟨_, _, _, _, rfl, rfl, SqT.of hld3, il, ?_⟩
      walk_at "rd"
      refine ⟨t, _, n, ls, rfl, s3 _ _ ht', W, by omega, by omega, fun q H4 s4 zq hq => ?_⟩
      walk_at "rd"
      intro rr zrr
      exact fin rr r q n _ H3 H4 _ s3 RR s4 hq (W.mir _) (.inl rfl) (by rw [List.length_map]; omega) rfl zrr
    walk_at "rd"
    obtain ⟨dx, ux, hx, _⟩ := id R'
    refine ite2 (fun hc3 => ?_) (fun hc3 => ?_)
    · walk_at "rd"
      refine ⟨x, dx, _, rfl, hx, lkR _ (by decide +kernel), ?_⟩
      walk_at "rd"
      refine ⟨x, y, n, m, ls, ms, rfl, R', R2', W, W2, by omega, by omega, by omega, by omega, fun r H3 s3 zr RR => ?_⟩
      walk_at "rd"
      refine ⟨t, u, n, m, ls, ms, rfl, s3 _ _ ht', s3 _ _ hu', W, W2, by omega, by omega, by omega, by omega, fun q H4 s4 zq hq => ?_⟩
      walk_at "rd"
      intro rr zrr
      exact fin rr r q _ _ H3 H4 _ s3 RR s4 hq (joinR_rows W W2) (.inr rfl) (by rw [join_len]; omega) rfl zrr
    walk_at "rd"
    refine ite2 (fun hc4 => ?_) (fun hc4 => ?_)
    · walk_at "rd"
      refine rd_add R' R2' W W2 (by omega) (by omega) (by omega) (by omega) fun r H3 s3 zr RR => ?_
      walk_at "rd"
      refine ⟨t, u, n, m, ls, ms, rfl, s3 _ _ ht', s3 _ _ hu', W, W2, by omega, by omega, by omega, by omega, fun q H4 s4 zq hq => ?_⟩
      walk_at "rd"
      intro rr zrr
      exact fin rr r q _ _ H3 H4 _ s3 RR s4 hq (joinR_rows W W2) (.inr rfl) (by rw [join_len]; omega) rfl zrr
    walk_at "rd"
    refine rd_inv R' W (by omega) fun r H3 s3 zr RR => ?_
    walk_at "rd"
    refine ⟨t, _, rfl, SqL.of (s3 _ _ ht'), fun q zq => ?_⟩
    generalize eq : upd _ q _ = H4
    obtain ⟨s4, hq⟩ := nw eq zq
    rw [← List.map_reverse] at hq
    walk_at "rd"
    intro rr zrr
    exact fin rr r q n _ H3 H4 _ s3 RR s4 hq W.reverse (.inl rfl) (by rw [List.length_reverse]; omega) rfl zrr
end
abbrev s_law : Stmt := top 43
abbrev N_law : List Str := ["script", "lines", "others", "drawn", "size", "ladder", "deep", "far", "handed", "beside", "made", "mate", "third", "model", "k"]
theorem sc_law : FnScope N_law ["script"] (defScope s_law) := ⟨rfl, rfl, rfl, by decide +kernel, rfl, by decide +kernel, by decide +kernel⟩
section
variable {P : Program} {w : World} {K : PySem.W.Frag} {mg : Str → Option Value} {base : Heap}
def spLaw (K : PySem.W.Frag) : Sp := fun vs H Q _ => ∃ (a : Addr) (ns : List Int), vs = [.ref a] ∧ SqL K H a (ns.map V.int) ∧ ns.length ≤ 63 ∧ ∀ H', Q (.bl true) H'
theorem ixN_back {n : Nat} (h : 0 < n) : ixN n (-1) = some (n - 1) := by
  unfold ixN
  rw [if_neg (by decide), if_pos (by omega)]
  congr 1
  omega
theorem lcm_again (n m : Nat) : Nat.lcm (Nat.lcm n m) m = Nat.lcm n m := by rw [Nat.lcm_assoc, Nat.lcm_self]
theorem ok_law {f C : Addr} {fd : FuncData} (F : Fun K "law" "law" s_law f fd) (B : Bi mg) (T : Rl K C) (G_Rule : mg "Rule" = some (.ref C)) (D_law_draws : Df P w K mg base "_law_draws" 3 ["script", "at", "limits"] (spDraws K)) (D_law_lines : Df P w K mg base "_law_lines" 4 ["script", "at", "wide", "high"] (spLines K)) (D_law_great : Df P w K mg base "_law_great" 3 ["script", "at", "bound"] (spGreat K))
    (D_law_asked : Df P w K mg base "_law_asked" 9 ["thing", "lines", "ladder", "deep", "far"] (spAsked C)) (D_law_made : Df P w K mg base "_law_made" 7 ["thing", "lines", "mate", "others", "ladder", "script", "at"] (spMadeT K C)) (M_Rule : Mkr P w K mg base "Rule" C 3 ["self", "texts"] (spInit C)) (E_inverse : Me P w K mg base C "inverse" 5 ["self"] (spInverse C)) : FnOk P w K mg base CX0 10 f fd ["script"] (spLaw K) := by
  refine F.ok sc_law (fun vs H Q E h => ?_) (fun cdv A outer s0 H vs Q E hr h => ?_)
  · obtain ⟨a, ns, rfl, _⟩ := h
    rfl
  · obtain ⟨a, ns, rfl, hS, hlen, k⟩ := h
    refine ⟨_, (pss_cons (ps_set (i := 1) sc_law.nd rfl (Or.inl rfl) (pe_df D_law_lines (hr.mono (by first | decide | omega)) (by rfl) (pa_cons (pv 0) (pa_cons pe_int (pa_cons pe_int (pa_cons pe_int pa_nil))))))
    (pss_cons (ps_set (i := 2) sc_law.nd rfl (Or.inl rfl) (pe_df D_law_lines (hr.mono (by first | decide | omega)) (by rfl) (pa_cons (pv 0) (pa_cons pe_int (pa_cons pe_int (pa_cons pe_int pa_nil))))))
    (pss_cons (ps_set (i := 3) sc_law.nd rfl (Or.inl rfl) (pe_df D_law_draws (hr.mono (by first | decide | omega)) (by rfl) (pa_cons (pv 0) (pa_cons pe_int (pa_cons (pe_lst (pa_cons pe_int (pa_cons pe_int (pa_cons pe_int (pa_cons pe_int (pa_cons pe_int (pa_cons pe_int (pa_cons pe_int pa_nil)))))))) pa_nil)))))
    (pss_cons (ps_set (i := 4) sc_law.nd rfl (Or.inl rfl) (pe_op op_add pe_int (pe_ix ix_list (pv 3) pe_int (fun _ _ => rfl))))
    (pss_cons (ps_set (i := 5) sc_law.nd rfl (Or.inl rfl) (pe_tup (pa_cons (pv 4) (pa_cons (pe_op op_mod (pe_ix ix_list (pv 3) pe_int (fun _ _ => rfl)) (pv 4)) (pa_cons (pe_op op_mod (pe_ix ix_list (pv 3) pe_int (fun _ _ => rfl)) (pv 4)) (pa_cons (pe_ix ix_list (pv 3) pe_int (fun _ _ => rfl)) pa_nil))))))
    (pss_cons (ps_set (i := 6) sc_law.nd rfl (Or.inl rfl) (pe_df D_law_great (hr.mono (by first | decide | omega)) (by rfl) (pa_cons (pv 0) (pa_cons pe_int (pa_cons (pe_op op_pow pe_int pe_int) pa_nil)))))
    (pss_cons (ps_set (i := 7) sc_law.nd rfl (Or.inl rfl) (pe_df D_law_great (hr.mono (by first | decide | omega)) (by rfl) (pa_cons (pv 0) (pa_cons pe_int (pa_cons (pe_op op_pow pe_int pe_int) pa_nil)))))
    (pss_cons (ps_set (i := 8) sc_law.nd rfl (Or.inl rfl) (pe_callTy call_list_of (by rfl) B.list_ (by decide +kernel) (pa_cons (pv 1) pa_nil)))
    (pss_cons (ps_set (i := 9) sc_law.nd rfl (Or.inl rfl) (pe_callTy call_list_of (by rfl) B.list_ (by decide +kernel) (pa_cons (pv 2) pa_nil)))
    (pss_cons (ps_set (i := 10) sc_law.nd rfl (Or.inl rfl) (pe_mk M_Rule (hr.mono (by first | decide | omega)) (by rfl) (pa_cons (pv 8) pa_nil)))
    (pss_cons (ps_set (i := 11) sc_law.nd rfl (Or.inl rfl) (pe_mk M_Rule (hr.mono (by first | decide | omega)) (by rfl) (pa_cons (pv 9) pa_nil)))
    (pss_cons (ps_if (PW.pt (pw_and (pt_cmpR op_eq (pe_ix ix_list (pv 3) pe_int (fun _ _ => rfl)) pe_int (nomark _)) (pw_and1 (pt_not (pt_val (pe_df D_law_asked (hr.mono (by first | decide | omega)) (by rfl) (pa_cons (pv 10) (pa_cons (pv 1) (pa_cons (pv 5) (pa_cons (pv 6) (pa_cons (pv 7) pa_nil)))))))))))
    (pss_one (ps_ret pe_bl))
    pss_nil)
    (pss_cons (ps_if (PW.pt (pw_and (pt_cmpR op_eq (pe_ix ix_list (pv 3) pe_int (fun _ _ => rfl)) pe_int (nomark _)) (pw_and1 (pt_not (pt_val (pe_df D_law_asked (hr.mono (by first | decide | omega)) (by rfl) (pa_cons (pv 11) (pa_cons (pv 2) (pa_cons (pv 5) (pa_cons (pv 6) (pa_cons (pv 7) pa_nil)))))))))))
    (pss_one (ps_ret pe_bl))
    pss_nil)
    (pss_cons (ps_if (pt_cmpR op_eq (pe_ix ix_list (pv 3) pe_int (fun _ _ => rfl)) pe_int (nomark _))
    (pss_cons (ps_expr (pe_bm0 PySem.F.plainAttrs_list PySem.F.slot_list_reverse PySem.F.type_list_reverse mt_reverse (pv 8)))
    (pss_cons (ps_asg (pe_ix ix_list (pv 2) pe_int (fun _ _ => rfl)) (pg_sub (pv 8) pe_int set_list))
    (pss_cons (ps_expr (pe_bm PySem.F.plainAttrs_list PySem.F.slot_list_append PySem.F.type_list_append mt_append (pv 8) (pa_cons (pe_op op_rep_str pe_str (pe_callB call_len_str (by rfl) B.len_ PySem.boot_len (pa_cons (pe_ix ix_list (pv 1) pe_int (fun _ _ => rfl)) pa_nil))) pa_nil)))
    (pss_cons (ps_expr (pe_bm0 PySem.F.plainAttrs_list PySem.F.slot_list_reverse PySem.F.type_list_reverse mt_reverse (pv 9)))
    (pss_one (ps_asg (pe_ix ix_list (pv 1) (pe_un un_neg pe_int) (fun _ _ => rfl)) (pg_sub (pv 9) (pe_un un_neg pe_int) set_list)))))))
    pss_nil)
    (pss_cons (ps_set (i := 12) sc_law.nd rfl (Or.inl rfl) (pv 10))
    (pss_cons (ps_set (i := 13) sc_law.nd rfl (Or.inl rfl) (pv 1))
    (pss_cons (ps_for PassesOwn.never rfl (pi_range1 (by rfl) B.range_ (pa_cons (pe_op op_add pe_int (pe_ix ix_list (pv 3) pe_int (fun _ _ => rfl))) pa_nil)) (pg_name (i := 14) sc_law.nd rfl (Or.inl rfl))
    (pss_one (ps_asg (pe_df D_law_made (hr.mono (by first | decide | omega)) (by rfl) (pa_cons (pv 12) (pa_cons (pv 13) (pa_cons (pv 11) (pa_cons (pv 2) (pa_cons (pv 5) (pa_cons (pv 0) (pa_cons (pe_op op_add pe_int (pv 14)) pa_nil)))))))) (pg_tup rfl (pgs_cons (pg_name (i := 12) sc_law.nd rfl (Or.inl rfl)) (pgs_cons (pg_name (i := 13) sc_law.nd rfl (Or.inl rfl)) pgs_nil))))))
    (pss_cons (ps_if (pt_not (pt_val (pe_df D_law_asked (hr.mono (by first | decide | omega)) (by rfl) (pa_cons (pv 12) (pa_cons (pv 13) (pa_cons (pv 5) (pa_cons (pv 6) (pa_cons (pv 7) pa_nil))))))))
    (pss_one (ps_ret pe_bl))
    pss_nil)
    (pss_cons (ps_if (pt_not (pt_val (pe_df D_law_asked (hr.mono (by first | decide | omega)) (by rfl) (pa_cons (pe_me0 (pe_me0 (pv 12) E_inverse (hr.mono (by first | decide | omega))) E_inverse (hr.mono (by first | decide | omega))) (pa_cons (pv 13) (pa_cons (pv 5) (pa_cons (pv 7) (pa_cons (pv 6) pa_nil))))))))
    (pss_one (ps_ret pe_bl))
    pss_nil)
    (pss_one (ps_ret (pe_and (pe_df D_law_asked (hr.mono (by first | decide | omega)) (by rfl) (pa_cons (pv 10) (pa_cons (pv 1) (pa_cons (pv 5) (pa_cons (pv 7) (pa_cons (pv 6) pa_nil)))))) (pe_one (pe_df D_law_asked (hr.mono (by first | decide | omega)) (by rfl) (pa_cons (pv 11) (pa_cons (pv 2) (pa_cons (pv 5) (pa_cons (pv 7) (pa_cons (pv 6) pa_nil))))))))))))))))))))))))))))), ?_⟩
    walk_at "rd"
    refine ⟨a, ns, 0, 6, 4, rfl, hS, by decide, by decide, by decide, by decide, ?_⟩
    intro n ls q1 H1 W hn hl s1 _ hls1
    walk_at "rd"
    refine ⟨a, ns, 1, 3, 3, rfl, s1.seq hS, by decide, by decide, by decide, by decide, ?_⟩
    intro m ms q2 H2 W2 hm hm5 s2 _ hms2
    have s02 := s1.trans s2
    have hls2 := s2 _ _ hls1
    walk_at "rd"
    intro p1 zp1
    generalize ep1 : upd _ p1 _ = H3
    obtain ⟨s3, hl3⟩ := nw ep1 zp1
    refine ⟨a, p1, ns, [12, 12, 12, 21, 2, 5, 2], 2, rfl, (s02.trans s3).seq hS, hl3, by decide, by decide, ?_⟩
    intro ds dq H4 dr s4 _ hd
    obtain ⟨d0, a0, _, b0, b1⟩ := dr.at (i := 0) (l := 12) rfl
    obtain ⟨d1, a1, _, b2, b3⟩ := dr.at (i := 1) (l := 12) rfl
    obtain ⟨d2, a2, _, b4, b5⟩ := dr.at (i := 2) (l := 12) rfl
    obtain ⟨d3, a3, _, b6, b7⟩ := dr.at (i := 3) (l := 21) rfl
    obtain ⟨d4, a4, _, b8, b9⟩ := dr.at (i := 4) (l := 2) rfl
    obtain ⟨d5, a5, _, b10, b11⟩ := dr.at (i := 5) (l := 5) rfl
    obtain ⟨d6, a6, _, b12, b13⟩ := dr.at (i := 6) (l := 2) rfl
    have i0 := atI_k' (i := 0) 0 rfl a0
    have i1 := atI_k' (i := 1) 1 rfl a1
    have i2 := atI_k' (i := 2) 2 rfl a2
    have i3 := atI_k' (i := 3) 3 rfl a3
    have i4 := atI_k' (i := 4) 4 rfl a4
    have i5 := atI_k' (i := 5) 5 rfl a5
    have i6 := atI_k' (i := 6) 6 rfl a6
    have s24 := s3.trans s4
    have s04 := s02.trans s24
    have hls4 := s24 _ _ hls2
    have hms4 := s24 _ _ hms2
    have pN : (0 : Int) < 1 + d0 := by omega
    clear a0 a1 a2 a3 a4 a5 a6 dr hl3 ep1 zp1 hls1 hls2 hms2 s1 s2 s3 s4 s24 s02
    walk_at "rd"
    intro ld zld
    generalize eld : upd _ ld _ = H5
    obtain ⟨s5, hld⟩ := nw eld zld
    obtain ⟨N, eN⟩ : ∃ j : Nat, 1 + d0 = (j : Int) := ⟨(1 + d0).toNat, by omega⟩
    have e1 := Int.emod_nonneg d1 (show (1 + d0) ≠ 0 by omega)
    have e2 := Int.emod_lt_of_pos d1 pN
    have e3 := Int.emod_nonneg d2 (show (1 + d0) ≠ 0 by omega)
    have e4 := Int.emod_lt_of_pos d2 pN
    obtain ⟨b, eb⟩ := Int.eq_ofNat_of_zero_le e1
    obtain ⟨c, ec⟩ := Int.eq_ofNat_of_zero_le e3
    obtain ⟨d, rfl⟩ := Int.eq_ofNat_of_zero_le b6
    have hld' : H5 ld = some (.tup [.int (N : Int), .int (b : Int), .int (c : Int), .int (d : Int)]) := by
      rw [hld]
      show some (HO.tup [V.int (1 + d0), V.int (d1 % (1 + d0)), V.int (d2 % (1 + d0)), V.int (d : Int)]) = _
      rw [eb, ec, eN]
    have hbN : b < N := by omega
    have hcN : c < N := by omega
    have hN12 : N ≤ 12 := by omega
    have hd20 : d ≤ 20 := by omega
    refine norm_g (σ' := [some (.ref a), some (.ref q1), some (.ref q2), some (.ref dq), some (.int (1 + d0)), some (.ref ld), none, none, none, none, none, none, none, none, none]) rfl ?_
    have hls5 := s5 _ _ hls4
    have hms5 := s5 _ _ hms4
    have hd5 := s5 _ _ hd
    have hS5 := (s04.trans s5).seq hS
    clear hld hls4 hms4 hd eld zld hS s04 s5 eb ec e1 e2 e3 e4
    have p60 : (0 : Int) < (10 : Int) ^ (60 : Int).toNat := by decide +kernel
    walk_at "rd"
    refine ⟨a, ns, 3, _, rfl, hS5, by decide, p60, fun dp dp0 _ => ?_⟩
    walk_at "rd"
    refine ⟨a, ns, 4, _, rfl, hS5, by decide, p60, fun fr fr0 _ => ?_⟩
    obtain ⟨dn, rfl⟩ := Int.eq_ofNat_of_zero_le dp0
    obtain ⟨fn, rfl⟩ := Int.eq_ofNat_of_zero_le fr0
    walk_at "rd"
    intro h1 zh1
    generalize eh1 : upd _ h1 _ = H6
    obtain ⟨s6, hh1⟩ := nw eh1 zh1
    have hms6 := s6 _ _ hms5
    walk_at "rd"
    intro h2 zh2
    generalize eh2 : upd _ h2 _ = H7
    obtain ⟨s7, hh2⟩ := nw eh2 zh2
    have s67 := s6.trans s7
    have hh17 := s7 _ _ hh1
    have n21 : h1 ≠ h2 := ne_of_none hh1 zh2
    have zh25 : H5 h2 = none := s6.free zh2
    walk_at "rd"
    intro x dx nx ndx _
    refine mk_at hh17 W (by omega) nx ndx fun H8 s8 RX => ⟨rfl, ?_⟩
    have hh28 := s8 _ _ hh2
    walk_at "rd"
    intro y dy ny ndy _
    refine mk_at hh28 W2 (by omega) ny ndy fun H9 s9 RY => ⟨rfl, ?_⟩
    have s79 := s8.trans s9
    have s59 := s67.trans s79
    have RX9 := RX.same s9
    have hh19 := s79 _ _ hh17
    have hh29 := s9 _ _ hh28
    refine norm_g (σ' := [some (.ref a), some (.ref q1), some (.ref q2), some (.ref dq), some (.int (1 + d0)), some (.ref ld), some (.int (dn : Int)), some (.int (fn : Int)), some (.ref h1), some (.ref h2), some (.ref x), some (.ref y), none, none, none]) rfl ?_
    clear hh1 hh2 hh17 hh28 hms6 s6 s7 s8 s9 s67 eh1 eh2 RX zh2 nx ndx ny ndy
    have hls9 := s59 _ _ hls5
    have hms9 := s59 _ _ hms5
    have hld9 := s59 _ _ hld'
    have hd9 := s59 _ _ hd5
    walk_at "rd"
    refine cutAnd (fun σ HA => Same H9 HA ∧ σ = [some (.ref a), some (.ref q1), some (.ref q2), some (.ref dq), some (.int (1 + d0)), some (.ref ld), some (.int (dn : Int)), some (.int (fn : Int)), some (.ref h1), some (.ref h2), some (.ref x), some (.ref y), none, none, none]) ?_ ?_ (fun _ => ⟨Same.refl _, rfl⟩)
    rotate_left
    · intro hT hc
      walk_at "rd"
      refine ⟨x, q1, ld, N, b, c, d, n, dn, (fn : Int), ls, rfl, RX9, hls9, W, by omega, by omega, hld9, hbN, hcN, by omega, by omega, by omega, fun HA sA => ?_⟩
      repeat (first | exact hT _ _ ⟨sA, rfl⟩ | walk_at "r")
    rintro σ HA ⟨sA, rfl⟩
    have hdA := sA _ _ hd9
    walk_at "rd"
    refine cutAnd (fun σ HB => Same H9 HB ∧ σ = [some (.ref a), some (.ref q1), some (.ref q2), some (.ref dq), some (.int (1 + d0)), some (.ref ld), some (.int (dn : Int)), some (.int (fn : Int)), some (.ref h1), some (.ref h2), some (.ref x), some (.ref y), none, none, none]) ?_ ?_ (fun _ => ⟨sA, rfl⟩)
    rotate_left
    · intro hT hc
      walk_at "rd"
      refine ⟨y, q2, ld, N, b, c, d, m, dn, (fn : Int), ms, rfl, RY.same sA, sA _ _ hms9, W2, by omega, by omega, sA _ _ hld9, hbN, hcN, by omega, by omega, by omega, fun HB sB => ?_⟩
      repeat (first | exact hT _ _ ⟨sA.trans sB, rfl⟩ | walk_at "r")
    rintro σ HB ⟨sB, rfl⟩
    have hdB := sB _ _ hd9
    have hh1B := sB _ _ hh19
    have hh2B := sB _ _ hh29
    have hlsB := sB _ _ hls9
    have hmsB := sB _ _ hms9
    have RXB := RX9.same sB
    have RYB := RY.same sB
    have s5B := s59.trans sB
    clear hdA sA hd9 hh19 hh29 hls9 hms9 hld9 RX9 RY s59 sB s79
    walk_at "rd"
    refine cutIf (fun σ HC => Same H5 HC ∧ RuleAt C HC x ls ∧ RuleAt C HC y ms ∧ σ = [some (.ref a), some (.ref q1), some (.ref q2), some (.ref dq), some (.int (1 + d0)), some (.ref ld), some (.int (dn : Int)), some (.int (fn : Int)), some (.ref h1), some (.ref h2), some (.ref x), some (.ref y), none, none, none]) ?_ ?_ (fun _ => ⟨s5B, RXB, RYB, rfl⟩)
    rotate_left
    · intro hT hc
      have zH1 : H5 h1 = none := zh1
      have jls := atI_k' (i := 0) 0 rfl (getS W.ne)
      have jms := atI_k' (i := 0) 0 rfl (getS W2.ne)
      have jl0 : (ls[0]'W.ne).length = n := W.lenS (List.getElem_mem W.ne)
      have jll : (ls[0]'W.ne).length ≤ sizeLine := by rw [jl0]; exact Nat.le_trans hn (by decide)
      have hll : ls[ls.length - 1]? = some (ls[ls.length - 1]'(by have := W.ne; omega)) := List.getElem?_eq_getElem (by have := W.ne; omega)
      have jlast : atI (ls.map V.str) (-1) = some (V.str (ls[ls.length - 1]'(by have := W.ne; omega))) := atI_back (by rw [List.length_map, List.getElem?_map, hll]; rfl)
      have hlr : (ls.map V.str).reverse.length = ls.length := by rw [List.length_reverse, List.length_map]
      have hmr : (ms.map V.str).reverse.length = ms.length := by rw [List.length_reverse, List.length_map]
      have hn0 := W.pos
      walk_at "rd"
      refine ⟨_, _, rfl, rfl, hh1B, ?_⟩
      generalize eC1 : upd _ h1 _ = C1
      have c1h1 : C1 h1 = some (.lst (ls.map V.str).reverse) := by rw [← eC1]; exact upd_same
      have c1s : Same H5 C1 := by rw [← eC1]; exact s5B.put zH1
      have c1x : RuleAt C C1 x ls := by rw [← eC1]; exact RXB.put hh1B
      have c1y : RuleAt C C1 y ms := by rw [← eC1]; exact RYB.put hh1B
      have c1h2 : C1 h2 = some (.lst (ms.map V.str)) := by rw [← eC1, upd_ne n21.symm]; exact hh2B
      have c1q1 := c1s _ _ hls5
      have c1q2 := c1s _ _ hms5
      walk_at "rd"
      refine ⟨h1, _, 0, 0, rfl, rfl, c1h1, ixN_nat (p := 0) (by rw [hlr]; exact W.ne), ?_⟩
      generalize eC2 : upd _ h1 _ = C2
      have c2h1 : C2 h1 = some (.lst ((ls.map V.str).reverse.set 0 (V.str (ms[0]'W2.ne)))) := by rw [← eC2]; exact upd_same
      have c2s : Same H5 C2 := by rw [← eC2]; exact c1s.put zH1
      have c2x : RuleAt C C2 x ls := by rw [← eC2]; exact c1x.put c1h1
      have c2y : RuleAt C C2 y ms := by rw [← eC2]; exact c1y.put c1h1
      have c2h2 : C2 h2 = some (.lst (ms.map V.str)) := by rw [← eC2, upd_ne n21.symm]; exact c1h2
      have c2q1 := c2s _ _ hls5
      clear c1h1 c1s c1x c1y c1h2 c1q1 c1q2 eC1 eC2
      have hdot : (Str.ofString ".").length * ((ls[0]'W.ne).length : Int).toNat ≤ sizeLine := by
        rw [show (Str.ofString ".").length = 1 by decide +kernel, Nat.one_mul]
        exact jll
      walk_at "rd"
      refine ⟨h1, _, _, rfl, rfl, c2h1, by rw [List.length_set, hlr]; exact Nat.lt_of_le_of_lt hl (by decide), ?_⟩
      generalize eC3 : upd _ h1 _ = C3
      have c3s : Same H5 C3 := by rw [← eC3]; exact c2s.put zH1
      have c3x : RuleAt C C3 x ls := by rw [← eC3]; exact c2x.put c2h1
      have c3y : RuleAt C C3 y ms := by rw [← eC3]; exact c2y.put c2h1
      have c3h2 : C3 h2 = some (.lst (ms.map V.str)) := by rw [← eC3, upd_ne n21.symm]; exact c2h2
      clear c2h1 c2s c2x c2y c2h2 c2q1 eC3
      walk_at "rd"
      refine ⟨_, _, rfl, rfl, c3h2, ?_⟩
      generalize eC4 : upd _ h2 _ = C4
      have c4h2 : C4 h2 = some (.lst (ms.map V.str).reverse) := by rw [← eC4]; exact upd_same
      have c4s : Same H5 C4 := by rw [← eC4]; exact c3s.put zh25
      have c4x : RuleAt C C4 x ls := by rw [← eC4]; exact c3x.put c3h2
      have c4y : RuleAt C C4 y ms := by rw [← eC4]; exact c3y.put c3h2
      have c4q1 := c4s _ _ hls5
      walk_at "rd"
      refine ⟨h2, _, -1, _, rfl, rfl, c4h2, ixN_back (by rw [hmr]; exact W2.ne), ?_⟩
      exact hT _ _ ⟨c4s.put zh25, c4x.put c4h2, c4y.put c4h2, rfl⟩
    rintro σ HC ⟨sC, RXC, RYC, rfl⟩
    have hlsC := sC _ _ hls5
    have hmsC := sC _ _ hms5
    have hldC := sC _ _ hld'
    have hSC := sC.seq hS5
    have hdC := sC _ _ hd5
    clear RXB RYB s5B hh1B hh2B hlsB hmsB hdB
    walk_at "rd"
    refine for_range (lo := 0) (n := (1 + d5).toNat) (fun i σ H' => ∃ (x2 t2 : Addr) (n2 : Nat) (ls2 : List Str) (o14 : Option V), σ = [some (.ref a), some (.ref q1), some (.ref q2), some (.ref dq), some (.int (1 + d0)), some (.ref ld), some (.int (dn : Int)), some (.int (fn : Int)), some (.ref h1), some (.ref h2), some (.ref x), some (.ref y), some (.ref x2), some (.ref t2), o14] ∧ Same HC H' ∧ RuleAt C H' x2 ls2 ∧ H' t2 = some (.lst (ls2.map V.str)) ∧ Rows n2 ls2 ∧ (n2 = n ∨ n2 = Nat.lcm n m) ∧ ls2.length ≤ 4 + 3 * i)
      ⟨x, q1, n, ls, none, rfl, Same.refl _, RXC, hlsC, W, .inl rfl, by omega⟩ ?_ ?_
    · rintro i σ H' hi ⟨x2, t2, n2, ls2, o14, rfl, s', R2, ht2, W3, hn2, hl2⟩
      have hi5 : i < 5 := by omega
      have hcm : Nat.lcm n m ≤ 60 := Nat.le_trans (PySem.W.mc_lcm_le n m) (Nat.le_trans (Nat.mul_le_mul hn hm) (by decide))
      have hn60 : n2 ≤ 60 := by
        rcases hn2 with e | e
        · rw [e]; omega
        · rw [e]; exact hcm
      have hL : Nat.lcm n2 m = Nat.lcm n m := by
        rcases hn2 with e | e
        · rw [e]
        · rw [e]; exact lcm_again n m
      walk_at "rd"
      refine ⟨x2, t2, y, q2, ld, a, N, b, c, d, n2, m, 5 + i, ls2, ms, ns, ?_, R2, ht2, W3, RYC.same s', s' _ _ hmsC, W2, hn60, by omega, by rw [hL]; exact hcm, by omega, s' _ _ hldC, by omega, s'.seq hSC, hlen, by omega, fun r x3 t3 n3 ls3 H3 s3 tw W4 hn3 hl3 => ?_⟩
      · rw [Int.zero_add]
        rfl
      walk_at "rd"
      refine ⟨r, _, rfl, SqT.of tw.h, rfl, _, _, rfl, _, _, rfl, rfl, ?_⟩
      refine ⟨x3, t3, n3, ls3, _, rfl, s'.trans s3, tw.r, tw.l, W4, ?_, by omega⟩
      rcases hn3 with e | e
      · rw [e]; exact hn2
      · rw [e, hL]; exact .inr rfl
    rintro σ HD ⟨x2, t2, n2, ls2, o14, rfl, sD, R2, ht2, W3, hn2, hl2⟩
    have hcm : Nat.lcm n m ≤ 60 := Nat.le_trans (PySem.W.mc_lcm_le n m) (Nat.le_trans (Nat.mul_le_mul hn hm) (by decide))
    have hn60 : n2 ≤ 60 := by
      rcases hn2 with e | e
      · rw [e]; omega
      · rw [e]; exact hcm
    have hl60 : ls2.length ≤ 60 := by omega
    walk_at "rd"
    refine ⟨x2, t2, ld, N, b, c, d, n2, dn, (fn : Int), ls2, rfl, R2, ht2, W3, hn60, hl60, sD _ _ hldC, hbN, hcN, by omega, by omega, by omega, fun HE sE => ?_⟩
    walk_at "rd"
    refine rd_inv (R2.same sE) W3 (by omega) fun z1 HF sF zz1 RZ1 => ?_
    walk_at "rd"
    refine rd_inv RZ1 W3.reverse (by omega) fun z2 HG sG zz2 RZ2 => ?_
    rw [List.reverse_reverse] at RZ2
    have sDG := sE.trans (sF.trans sG)
    have sCG := sD.trans sDG
    walk_at "rd"
    refine ⟨z2, t2, ld, N, b, c, d, n2, fn, (dn : Int), ls2, rfl, RZ2, sDG _ _ ht2, W3, hn60, hl60, sCG _ _ hldC, hbN, hcN, by omega, by omega, by omega, fun HH sH => ?_⟩
    have sCH := sCG.trans sH
    walk_at "rd"
    refine ⟨x, q1, ld, N, b, c, d, n, fn, (dn : Int), ls, rfl, RXC.same sCH, sCH _ _ hlsC, W, by omega, by omega, sCH _ _ hldC, hbN, hcN, by omega, by omega, by omega, fun HI sI => ?_⟩
    have sCI := sCH.trans sI
    walk_at "rd"
    refine ⟨y, q2, ld, N, b, c, d, m, fn, (dn : Int), ms, rfl, RYC.same sCI, sCI _ _ hmsC, W2, by omega, by omega, sCI _ _ hldC, hbN, hcN, by omega, by omega, by omega, fun HJ sJ => ?_⟩
    exact k _
end
theorem all_mk {l : PySem.W.OpenLaw} {w : World} {K : PySem.W.Frag} {h : Heap} {mg : Str → Option Value} {fa : Addr} (X : K.In h) (G : h.Ns mainGlobals mg) (hfa : mg "law" = some (.ref fa))
    {C : Addr}
    {f1 : Addr} {od1 an1 : Option Addr} {sl1 : Array (Option Value)} {oc1 kV1 dc1 pm1 cd1 ct1 : Value}
    {f2 : Addr} {od2 an2 : Option Addr} {sl2 : Array (Option Value)} {oc2 kV2 dc2 pm2 cd2 ct2 : Value}
    {f3 : Addr} {od3 an3 : Option Addr} {sl3 : Array (Option Value)} {oc3 kV3 dc3 pm3 cd3 ct3 : Value}
    {f4 : Addr} {od4 an4 : Option Addr} {sl4 : Array (Option Value)} {oc4 kV4 dc4 pm4 cd4 ct4 : Value}
    {f5 : Addr} {od5 an5 : Option Addr} {sl5 : Array (Option Value)} {oc5 kV5 dc5 pm5 cd5 ct5 : Value}
    {f6 : Addr} {od6 an6 : Option Addr} {sl6 : Array (Option Value)} {oc6 kV6 dc6 pm6 cd6 ct6 : Value}
    {f7 : Addr} {od7 an7 : Option Addr} {sl7 : Array (Option Value)} {oc7 kV7 dc7 pm7 cd7 ct7 : Value}
    {f8 : Addr} {od8 an8 : Option Addr} {sl8 : Array (Option Value)} {oc8 kV8 dc8 pm8 cd8 ct8 : Value}
    {f9 : Addr} {od9 an9 : Option Addr} {sl9 : Array (Option Value)} {oc9 kV9 dc9 pm9 cd9 ct9 : Value}
    {f10 : Addr} {od10 an10 : Option Addr} {sl10 : Array (Option Value)} {oc10 kV10 dc10 pm10 cd10 ct10 : Value}
    {f11 : Addr} {od11 an11 : Option Addr} {sl11 : Array (Option Value)} {oc11 kV11 dc11 pm11 cd11 ct11 : Value}
    {p11 : Addr} {re11 : List Value}
    {f12 : Addr} {od12 an12 : Option Addr} {sl12 : Array (Option Value)} {oc12 kV12 dc12 pm12 cd12 ct12 : Value}
    {p12 : Addr} {re12 : List Value}
    {f13 : Addr} {od13 an13 : Option Addr} {sl13 : Array (Option Value)} {oc13 kV13 dc13 pm13 cd13 ct13 : Value}
    {p13 : Addr} {re13 : List Value}
    {f14 : Addr} {od14 an14 : Option Addr} {sl14 : Array (Option Value)} {oc14 kV14 dc14 pm14 cd14 ct14 : Value}
    {f15 : Addr} {od15 an15 : Option Addr} {sl15 : Array (Option Value)} {oc15 kV15 dc15 pm15 cd15 ct15 : Value}
    {f16 : Addr} {od16 an16 : Option Addr} {sl16 : Array (Option Value)} {oc16 kV16 dc16 pm16 cd16 ct16 : Value}
    {f17 : Addr} {od17 an17 : Option Addr} {sl17 : Array (Option Value)} {oc17 kV17 dc17 pm17 cd17 ct17 : Value}
    {f18 : Addr} {od18 an18 : Option Addr} {sl18 : Array (Option Value)} {oc18 kV18 dc18 pm18 cd18 ct18 : Value}
    {f19 : Addr} {od19 an19 : Option Addr} {sl19 : Array (Option Value)} {oc19 kV19 dc19 pm19 cd19 ct19 : Value}
    {f20 : Addr} {od20 an20 : Option Addr} {sl20 : Array (Option Value)} {oc20 kV20 dc20 pm20 cd20 ct20 : Value}
    {f21 : Addr} {od21 an21 : Option Addr} {sl21 : Array (Option Value)} {oc21 kV21 dc21 pm21 cd21 ct21 : Value}
    {f22 : Addr} {od22 an22 : Option Addr} {sl22 : Array (Option Value)} {oc22 kV22 dc22 pm22 cd22 ct22 : Value}
    {f23 : Addr} {od23 an23 : Option Addr} {sl23 : Array (Option Value)} {oc23 kV23 dc23 pm23 cd23 ct23 : Value}
    {f24 : Addr} {od24 an24 : Option Addr} {sl24 : Array (Option Value)} {oc24 kV24 dc24 pm24 cd24 ct24 : Value}
    {f25 : Addr} {od25 an25 : Option Addr} {sl25 : Array (Option Value)} {oc25 kV25 dc25 pm25 cd25 ct25 : Value}
    {f26 : Addr} {od26 an26 : Option Addr} {sl26 : Array (Option Value)} {oc26 kV26 dc26 pm26 cd26 ct26 : Value}
    {f27 : Addr} {od27 an27 : Option Addr} {sl27 : Array (Option Value)} {oc27 kV27 dc27 pm27 cd27 ct27 : Value}
    {f28 : Addr} {od28 an28 : Option Addr} {sl28 : Array (Option Value)} {oc28 kV28 dc28 pm28 cd28 ct28 : Value}
    {f29 : Addr} {od29 an29 : Option Addr} {sl29 : Array (Option Value)} {oc29 kV29 dc29 pm29 cd29 ct29 : Value}
    {f30 : Addr} {od30 an30 : Option Addr} {sl30 : Array (Option Value)} {oc30 kV30 dc30 pm30 cd30 ct30 : Value}
    {f31 : Addr} {od31 an31 : Option Addr} {sl31 : Array (Option Value)} {oc31 kV31 dc31 pm31 cd31 ct31 : Value}
    {f32 : Addr} {od32 an32 : Option Addr} {sl32 : Array (Option Value)} {oc32 kV32 dc32 pm32 cd32 ct32 : Value}
    {f33 : Addr} {od33 an33 : Option Addr} {sl33 : Array (Option Value)} {oc33 kV33 dc33 pm33 cd33 ct33 : Value}
    {f34 : Addr} {od34 an34 : Option Addr} {sl34 : Array (Option Value)} {oc34 kV34 dc34 pm34 cd34 ct34 : Value}
    {f35 : Addr} {od35 an35 : Option Addr} {sl35 : Array (Option Value)} {oc35 kV35 dc35 pm35 cd35 ct35 : Value}
    {f36 : Addr} {od36 an36 : Option Addr} {sl36 : Array (Option Value)} {oc36 kV36 dc36 pm36 cd36 ct36 : Value}
    {f37 : Addr} {od37 an37 : Option Addr} {sl37 : Array (Option Value)} {oc37 kV37 dc37 pm37 cd37 ct37 : Value}
    {f38 : Addr} {od38 an38 : Option Addr} {sl38 : Array (Option Value)} {oc38 kV38 dc38 pm38 cd38 ct38 : Value}
    {f39 : Addr} {od39 an39 : Option Addr} {sl39 : Array (Option Value)} {oc39 kV39 dc39 pm39 cd39 ct39 : Value}
    {f40 : Addr} {od40 an40 : Option Addr} {sl40 : Array (Option Value)} {oc40 kV40 dc40 pm40 cd40 ct40 : Value}
    {f41 : Addr} {od41 an41 : Option Addr} {sl41 : Array (Option Value)} {oc41 kV41 dc41 pm41 cd41 ct41 : Value}
    {f42 : Addr} {od42 an42 : Option Addr} {sl42 : Array (Option Value)} {oc42 kV42 dc42 pm42 cd42 ct42 : Value}
    (aCRule : PySem.W.nsIn K mainGlobals "Rule" = some (some (.ref C)))
    (a1 : PySem.W.nsIn K mainGlobals "check_size" = some (some (.ref f1)))
    (l1 : K.lookup f1 = some ⟨oc1, od1, .func (PySem.W.fnOf "check_size" "check_size" (defArgs s_check_size) (defBody s_check_size) (defScope s_check_size) .none kV1 dc1 pm1 an1 cd1 ct1), sl1⟩)
    (c1 : PySem.W.codeIn K cd1 "check_size" = true)
    (k1 : PySem.W.keepIn K (.ref f1) = true)
    (a2 : PySem.W.nsIn K mainGlobals "check_post" = some (some (.ref f2)))
    (l2 : K.lookup f2 = some ⟨oc2, od2, .func (PySem.W.fnOf "check_post" "check_post" (defArgs s_check_post) (defBody s_check_post) (defScope s_check_post) .none kV2 dc2 pm2 an2 cd2 ct2), sl2⟩)
    (c2 : PySem.W.codeIn K cd2 "check_post" = true)
    (k2 : PySem.W.keepIn K (.ref f2) = true)
    (a3 : PySem.W.nsIn K mainGlobals "check_half_post" = some (some (.ref f3)))
    (l3 : K.lookup f3 = some ⟨oc3, od3, .func (PySem.W.fnOf "check_half_post" "check_half_post" (defArgs s_check_half_post) (defBody s_check_half_post) (defScope s_check_half_post) .none kV3 dc3 pm3 an3 cd3 ct3), sl3⟩)
    (c3 : PySem.W.codeIn K cd3 "check_half_post" = true)
    (k3 : PySem.W.keepIn K (.ref f3) = true)
    (a4 : PySem.W.nsIn K mainGlobals "check_number" = some (some (.ref f4)))
    (l4 : K.lookup f4 = some ⟨oc4, od4, .func (PySem.W.fnOf "check_number" "check_number" (defArgs s_check_number) (defBody s_check_number) (defScope s_check_number) .none kV4 dc4 pm4 an4 cd4 ct4), sl4⟩)
    (c4 : PySem.W.codeIn K cd4 "check_number" = true)
    (k4 : PySem.W.keepIn K (.ref f4) = true)
    (a5 : PySem.W.nsIn K mainGlobals "is_marked" = some (some (.ref f5)))
    (l5 : K.lookup f5 = some ⟨oc5, od5, .func (PySem.W.fnOf "is_marked" "is_marked" (defArgs s_is_marked) (defBody s_is_marked) (defScope s_is_marked) .none kV5 dc5 pm5 an5 cd5 ct5), sl5⟩)
    (c5 : PySem.W.codeIn K cd5 "is_marked" = true)
    (k5 : PySem.W.keepIn K (.ref f5) = true)
    (a6 : PySem.W.nsIn K mainGlobals "is_row" = some (some (.ref f6)))
    (l6 : K.lookup f6 = some ⟨oc6, od6, .func (PySem.W.fnOf "is_row" "is_row" (defArgs s_is_row) (defBody s_is_row) (defScope s_is_row) .none kV6 dc6 pm6 an6 cd6 ct6), sl6⟩)
    (c6 : PySem.W.codeIn K cd6 "is_row" = true)
    (k6 : PySem.W.keepIn K (.ref f6) = true)
    (a7 : PySem.W.nsIn K mainGlobals "_shifted_row" = some (some (.ref f7)))
    (l7 : K.lookup f7 = some ⟨oc7, od7, .func (PySem.W.fnOf "_shifted_row" "_shifted_row" (defArgs s__shifted_row) (defBody s__shifted_row) (defScope s__shifted_row) .none kV7 dc7 pm7 an7 cd7 ct7), sl7⟩)
    (c7 : PySem.W.codeIn K cd7 "_shifted_row" = true)
    (k7 : PySem.W.keepIn K (.ref f7) = true)
    (a8 : PySem.W.nsIn K mainGlobals "_mirrored_row" = some (some (.ref f8)))
    (l8 : K.lookup f8 = some ⟨oc8, od8, .func (PySem.W.fnOf "_mirrored_row" "_mirrored_row" (defArgs s__mirrored_row) (defBody s__mirrored_row) (defScope s__mirrored_row) .none kV8 dc8 pm8 an8 cd8 ct8), sl8⟩)
    (c8 : PySem.W.codeIn K cd8 "_mirrored_row" = true)
    (k8 : PySem.W.keepIn K (.ref f8) = true)
    (a9 : PySem.W.nsIn K mainGlobals "_law_same" = some (some (.ref f9)))
    (l9 : K.lookup f9 = some ⟨oc9, od9, .func (PySem.W.fnOf "_law_same" "_law_same" (defArgs s__law_same) (defBody s__law_same) (defScope s__law_same) .none kV9 dc9 pm9 an9 cd9 ct9), sl9⟩)
    (c9 : PySem.W.codeIn K cd9 "_law_same" = true)
    (k9 : PySem.W.keepIn K (.ref f9) = true)
    (a10 : PySem.W.findIn K (.ref C) "__init__" = some (some (.ref f10)))
    (i10 : PySem.W.isFn K (.ref f10) = true)
    (l10 : K.lookup f10 = some ⟨oc10, od10, .func (PySem.W.fnOf "__init__" "Rule.__init__" (defArgs s_Rule_u__init_u_) (defBody s_Rule_u__init_u_) (defScope s_Rule_u__init_u_) .none kV10 dc10 pm10 an10 cd10 ct10), sl10⟩)
    (c10 : PySem.W.codeIn K cd10 "Rule.__init__" = true)
    (k10 : PySem.W.keepIn K (.ref f10) = true)
    (a11 : PySem.W.findIn K (.ref C) "rows" = some (some (.ref p11)))
    (g11 : PySem.W.specialIn K (.ref p11) "__get__" = some (some (.builtin "property.__get__")))
    (t11 : PySem.W.takesIn K (.ref p11) = some true)
    (r11 : PySem.W.recIn K p11 "property" = some (.ref f11 :: re11))
    (l11 : K.lookup f11 = some ⟨oc11, od11, .func (PySem.W.fnOf "rows" "Rule.rows" (defArgs s_Rule_rows) (defBody s_Rule_rows) (defScope s_Rule_rows) .none kV11 dc11 pm11 an11 cd11 ct11), sl11⟩)
    (c11 : PySem.W.codeIn K cd11 "Rule.rows" = true)
    (k11 : PySem.W.keepIn K (.ref f11) = true)
    (a12 : PySem.W.findIn K (.ref C) "width" = some (some (.ref p12)))
    (g12 : PySem.W.specialIn K (.ref p12) "__get__" = some (some (.builtin "property.__get__")))
    (t12 : PySem.W.takesIn K (.ref p12) = some true)
    (r12 : PySem.W.recIn K p12 "property" = some (.ref f12 :: re12))
    (l12 : K.lookup f12 = some ⟨oc12, od12, .func (PySem.W.fnOf "width" "Rule.width" (defArgs s_Rule_width) (defBody s_Rule_width) (defScope s_Rule_width) .none kV12 dc12 pm12 an12 cd12 ct12), sl12⟩)
    (c12 : PySem.W.codeIn K cd12 "Rule.width" = true)
    (k12 : PySem.W.keepIn K (.ref f12) = true)
    (a13 : PySem.W.findIn K (.ref C) "height" = some (some (.ref p13)))
    (g13 : PySem.W.specialIn K (.ref p13) "__get__" = some (some (.builtin "property.__get__")))
    (t13 : PySem.W.takesIn K (.ref p13) = some true)
    (r13 : PySem.W.recIn K p13 "property" = some (.ref f13 :: re13))
    (l13 : K.lookup f13 = some ⟨oc13, od13, .func (PySem.W.fnOf "height" "Rule.height" (defArgs s_Rule_height) (defBody s_Rule_height) (defScope s_Rule_height) .none kV13 dc13 pm13 an13 cd13 ct13), sl13⟩)
    (c13 : PySem.W.codeIn K cd13 "Rule.height" = true)
    (k13 : PySem.W.keepIn K (.ref f13) = true)
    (a14 : PySem.W.findIn K (.ref C) "inverse" = some (some (.ref f14)))
    (i14 : PySem.W.isFn K (.ref f14) = true)
    (l14 : K.lookup f14 = some ⟨oc14, od14, .func (PySem.W.fnOf "inverse" "Rule.inverse" (defArgs s_Rule_inverse) (defBody s_Rule_inverse) (defScope s_Rule_inverse) .none kV14 dc14 pm14 an14 cd14 ct14), sl14⟩)
    (c14 : PySem.W.codeIn K cd14 "Rule.inverse" = true)
    (k14 : PySem.W.keepIn K (.ref f14) = true)
    (a15 : PySem.W.findIn K (.ref C) "shifted" = some (some (.ref f15)))
    (i15 : PySem.W.isFn K (.ref f15) = true)
    (l15 : K.lookup f15 = some ⟨oc15, od15, .func (PySem.W.fnOf "shifted" "Rule.shifted" (defArgs s_Rule_shifted) (defBody s_Rule_shifted) (defScope s_Rule_shifted) .none kV15 dc15 pm15 an15 cd15 ct15), sl15⟩)
    (c15 : PySem.W.codeIn K cd15 "Rule.shifted" = true)
    (k15 : PySem.W.keepIn K (.ref f15) = true)
    (a16 : PySem.W.findIn K (.ref C) "then" = some (some (.ref f16)))
    (i16 : PySem.W.isFn K (.ref f16) = true)
    (l16 : K.lookup f16 = some ⟨oc16, od16, .func (PySem.W.fnOf "then" "Rule.then" (defArgs s_Rule_then) (defBody s_Rule_then) (defScope s_Rule_then) .none kV16 dc16 pm16 an16 cd16 ct16), sl16⟩)
    (c16 : PySem.W.codeIn K cd16 "Rule.then" = true)
    (k16 : PySem.W.keepIn K (.ref f16) = true)
    (a17 : PySem.W.findIn K (.ref C) "has_rung" = some (some (.ref f17)))
    (i17 : PySem.W.isFn K (.ref f17) = true)
    (l17 : K.lookup f17 = some ⟨oc17, od17, .func (PySem.W.fnOf "has_rung" "Rule.has_rung" (defArgs s_Rule_has_rung) (defBody s_Rule_has_rung) (defScope s_Rule_has_rung) .none kV17 dc17 pm17 an17 cd17 ct17), sl17⟩)
    (c17 : PySem.W.codeIn K cd17 "Rule.has_rung" = true)
    (k17 : PySem.W.keepIn K (.ref f17) = true)
    (a18 : PySem.W.findIn K (.ref C) "mirrored" = some (some (.ref f18)))
    (i18 : PySem.W.isFn K (.ref f18) = true)
    (l18 : K.lookup f18 = some ⟨oc18, od18, .func (PySem.W.fnOf "mirrored" "Rule.mirrored" (defArgs s_Rule_mirrored) (defBody s_Rule_mirrored) (defScope s_Rule_mirrored) .none kV18 dc18 pm18 an18 cd18 ct18), sl18⟩)
    (c18 : PySem.W.codeIn K cd18 "Rule.mirrored" = true)
    (k18 : PySem.W.keepIn K (.ref f18) = true)
    (a19 : PySem.W.findIn K (.ref C) "__add__" = some (some (.ref f19)))
    (i19 : PySem.W.isFn K (.ref f19) = true)
    (l19 : K.lookup f19 = some ⟨oc19, od19, .func (PySem.W.fnOf "__add__" "Rule.__add__" (defArgs s_Rule_u__add_u_) (defBody s_Rule_u__add_u_) (defScope s_Rule_u__add_u_) .none kV19 dc19 pm19 an19 cd19 ct19), sl19⟩)
    (c19 : PySem.W.codeIn K cd19 "Rule.__add__" = true)
    (k19 : PySem.W.keepIn K (.ref f19) = true)
    (a20 : PySem.W.findIn K (.ref C) "__len__" = some (some (.ref f20)))
    (i20 : PySem.W.isFn K (.ref f20) = true)
    (l20 : K.lookup f20 = some ⟨oc20, od20, .func (PySem.W.fnOf "__len__" "Rule.__len__" (defArgs s_Rule_u__len_u_) (defBody s_Rule_u__len_u_) (defScope s_Rule_u__len_u_) .none kV20 dc20 pm20 an20 cd20 ct20), sl20⟩)
    (c20 : PySem.W.codeIn K cd20 "Rule.__len__" = true)
    (k20 : PySem.W.keepIn K (.ref f20) = true)
    (a21 : PySem.W.nsIn K mainGlobals "_past_row" = some (some (.ref f21)))
    (l21 : K.lookup f21 = some ⟨oc21, od21, .func (PySem.W.fnOf "_past_row" "_past_row" (defArgs s__past_row) (defBody s__past_row) (defScope s__past_row) .none kV21 dc21 pm21 an21 cd21 ct21), sl21⟩)
    (c21 : PySem.W.codeIn K cd21 "_past_row" = true)
    (k21 : PySem.W.keepIn K (.ref f21) = true)
    (a22 : PySem.W.nsIn K mainGlobals "_way" = some (some (.ref f22)))
    (l22 : K.lookup f22 = some ⟨oc22, od22, .func (PySem.W.fnOf "_way" "_way" (defArgs s__way) (defBody s__way) (defScope s__way) .none kV22 dc22 pm22 an22 cd22 ct22), sl22⟩)
    (c22 : PySem.W.codeIn K cd22 "_way" = true)
    (k22 : PySem.W.keepIn K (.ref f22) = true)
    (a23 : PySem.W.nsIn K mainGlobals "_rungs_crossed" = some (some (.ref f23)))
    (l23 : K.lookup f23 = some ⟨oc23, od23, .func (PySem.W.fnOf "_rungs_crossed" "_rungs_crossed" (defArgs s__rungs_crossed) (defBody s__rungs_crossed) (defScope s__rungs_crossed) .none kV23 dc23 pm23 an23 cd23 ct23), sl23⟩)
    (c23 : PySem.W.codeIn K cd23 "_rungs_crossed" = true)
    (k23 : PySem.W.keepIn K (.ref f23) = true)
    (a24 : PySem.W.nsIn K mainGlobals "walk_of" = some (some (.ref f24)))
    (l24 : K.lookup f24 = some ⟨oc24, od24, .func (PySem.W.fnOf "walk_of" "walk_of" (defArgs s_walk_of) (defBody s_walk_of) (defScope s_walk_of) .none kV24 dc24 pm24 an24 cd24 ct24), sl24⟩)
    (c24 : PySem.W.codeIn K cd24 "walk_of" = true)
    (k24 : PySem.W.keepIn K (.ref f24) = true)
    (a25 : PySem.W.nsIn K mainGlobals "round_of" = some (some (.ref f25)))
    (l25 : K.lookup f25 = some ⟨oc25, od25, .func (PySem.W.fnOf "round_of" "round_of" (defArgs s_round_of) (defBody s_round_of) (defScope s_round_of) .none kV25 dc25 pm25 an25 cd25 ct25), sl25⟩)
    (c25 : PySem.W.codeIn K cd25 "round_of" = true)
    (k25 : PySem.W.keepIn K (.ref f25) = true)
    (a26 : PySem.W.nsIn K mainGlobals "partners" = some (some (.ref f26)))
    (l26 : K.lookup f26 = some ⟨oc26, od26, .func (PySem.W.fnOf "partners" "partners" (defArgs s_partners) (defBody s_partners) (defScope s_partners) .none kV26 dc26 pm26 an26 cd26 ct26), sl26⟩)
    (c26 : PySem.W.codeIn K cd26 "partners" = true)
    (k26 : PySem.W.keepIn K (.ref f26) = true)
    (a27 : PySem.W.nsIn K mainGlobals "meets" = some (some (.ref f27)))
    (l27 : K.lookup f27 = some ⟨oc27, od27, .func (PySem.W.fnOf "meets" "meets" (defArgs s_meets) (defBody s_meets) (defScope s_meets) .none kV27 dc27 pm27 an27 cd27 ct27), sl27⟩)
    (c27 : PySem.W.codeIn K cd27 "meets" = true)
    (k27 : PySem.W.keepIn K (.ref f27) = true)
    (a28 : PySem.W.nsIn K mainGlobals "_law_cell" = some (some (.ref f28)))
    (l28 : K.lookup f28 = some ⟨oc28, od28, .func (PySem.W.fnOf "_law_cell" "_law_cell" (defArgs s__law_cell) (defBody s__law_cell) (defScope s__law_cell) .none kV28 dc28 pm28 an28 cd28 ct28), sl28⟩)
    (c28 : PySem.W.codeIn K cd28 "_law_cell" = true)
    (k28 : PySem.W.keepIn K (.ref f28) = true)
    (a29 : PySem.W.nsIn K mainGlobals "_law_draws" = some (some (.ref f29)))
    (l29 : K.lookup f29 = some ⟨oc29, od29, .func (PySem.W.fnOf "_law_draws" "_law_draws" (defArgs s__law_draws) (defBody s__law_draws) (defScope s__law_draws) .none kV29 dc29 pm29 an29 cd29 ct29), sl29⟩)
    (c29 : PySem.W.codeIn K cd29 "_law_draws" = true)
    (k29 : PySem.W.keepIn K (.ref f29) = true)
    (a30 : PySem.W.nsIn K mainGlobals "_law_great" = some (some (.ref f30)))
    (l30 : K.lookup f30 = some ⟨oc30, od30, .func (PySem.W.fnOf "_law_great" "_law_great" (defArgs s__law_great) (defBody s__law_great) (defScope s__law_great) .none kV30 dc30 pm30 an30 cd30 ct30), sl30⟩)
    (c30 : PySem.W.codeIn K cd30 "_law_great" = true)
    (k30 : PySem.W.keepIn K (.ref f30) = true)
    (a31 : PySem.W.nsIn K mainGlobals "_law_lines" = some (some (.ref f31)))
    (l31 : K.lookup f31 = some ⟨oc31, od31, .func (PySem.W.fnOf "_law_lines" "_law_lines" (defArgs s__law_lines) (defBody s__law_lines) (defScope s__law_lines) .none kV31 dc31 pm31 an31 cd31 ct31), sl31⟩)
    (c31 : PySem.W.codeIn K cd31 "_law_lines" = true)
    (k31 : PySem.W.keepIn K (.ref f31) = true)
    (a32 : PySem.W.nsIn K mainGlobals "_law_multiple" = some (some (.ref f32)))
    (l32 : K.lookup f32 = some ⟨oc32, od32, .func (PySem.W.fnOf "_law_multiple" "_law_multiple" (defArgs s__law_multiple) (defBody s__law_multiple) (defScope s__law_multiple) .none kV32 dc32 pm32 an32 cd32 ct32), sl32⟩)
    (c32 : PySem.W.codeIn K cd32 "_law_multiple" = true)
    (k32 : PySem.W.keepIn K (.ref f32) = true)
    (a33 : PySem.W.nsIn K mainGlobals "_law_joined" = some (some (.ref f33)))
    (l33 : K.lookup f33 = some ⟨oc33, od33, .func (PySem.W.fnOf "_law_joined" "_law_joined" (defArgs s__law_joined) (defBody s__law_joined) (defScope s__law_joined) .none kV33 dc33 pm33 an33 cd33 ct33), sl33⟩)
    (c33 : PySem.W.codeIn K cd33 "_law_joined" = true)
    (k33 : PySem.W.keepIn K (.ref f33) = true)
    (a34 : PySem.W.nsIn K mainGlobals "_law_shifted" = some (some (.ref f34)))
    (l34 : K.lookup f34 = some ⟨oc34, od34, .func (PySem.W.fnOf "_law_shifted" "_law_shifted" (defArgs s__law_shifted) (defBody s__law_shifted) (defScope s__law_shifted) .none kV34 dc34 pm34 an34 cd34 ct34), sl34⟩)
    (c34 : PySem.W.codeIn K cd34 "_law_shifted" = true)
    (k34 : PySem.W.keepIn K (.ref f34) = true)
    (a35 : PySem.W.nsIn K mainGlobals "_law_mirrored" = some (some (.ref f35)))
    (l35 : K.lookup f35 = some ⟨oc35, od35, .func (PySem.W.fnOf "_law_mirrored" "_law_mirrored" (defArgs s__law_mirrored) (defBody s__law_mirrored) (defScope s__law_mirrored) .none kV35 dc35 pm35 an35 cd35 ct35), sl35⟩)
    (c35 : PySem.W.codeIn K cd35 "_law_mirrored" = true)
    (k35 : PySem.W.keepIn K (.ref f35) = true)
    (a36 : PySem.W.nsIn K mainGlobals "_law_step" = some (some (.ref f36)))
    (l36 : K.lookup f36 = some ⟨oc36, od36, .func (PySem.W.fnOf "_law_step" "_law_step" (defArgs s__law_step) (defBody s__law_step) (defScope s__law_step) .none kV36 dc36 pm36 an36 cd36 ct36), sl36⟩)
    (c36 : PySem.W.codeIn K cd36 "_law_step" = true)
    (k36 : PySem.W.keepIn K (.ref f36) = true)
    (a37 : PySem.W.nsIn K mainGlobals "_law_round" = some (some (.ref f37)))
    (l37 : K.lookup f37 = some ⟨oc37, od37, .func (PySem.W.fnOf "_law_round" "_law_round" (defArgs s__law_round) (defBody s__law_round) (defScope s__law_round) .none kV37 dc37 pm37 an37 cd37 ct37), sl37⟩)
    (c37 : PySem.W.codeIn K cd37 "_law_round" = true)
    (k37 : PySem.W.keepIn K (.ref f37) = true)
    (a38 : PySem.W.nsIn K mainGlobals "_law_walk" = some (some (.ref f38)))
    (l38 : K.lookup f38 = some ⟨oc38, od38, .func (PySem.W.fnOf "_law_walk" "_law_walk" (defArgs s__law_walk) (defBody s__law_walk) (defScope s__law_walk) .none kV38 dc38 pm38 an38 cd38 ct38), sl38⟩)
    (c38 : PySem.W.codeIn K cd38 "_law_walk" = true)
    (k38 : PySem.W.keepIn K (.ref f38) = true)
    (a39 : PySem.W.nsIn K mainGlobals "_law_meets" = some (some (.ref f39)))
    (l39 : K.lookup f39 = some ⟨oc39, od39, .func (PySem.W.fnOf "_law_meets" "_law_meets" (defArgs s__law_meets) (defBody s__law_meets) (defScope s__law_meets) .none kV39 dc39 pm39 an39 cd39 ct39), sl39⟩)
    (c39 : PySem.W.codeIn K cd39 "_law_meets" = true)
    (k39 : PySem.W.keepIn K (.ref f39) = true)
    (a40 : PySem.W.nsIn K mainGlobals "_law_asked" = some (some (.ref f40)))
    (l40 : K.lookup f40 = some ⟨oc40, od40, .func (PySem.W.fnOf "_law_asked" "_law_asked" (defArgs s__law_asked) (defBody s__law_asked) (defScope s__law_asked) .none kV40 dc40 pm40 an40 cd40 ct40), sl40⟩)
    (c40 : PySem.W.codeIn K cd40 "_law_asked" = true)
    (k40 : PySem.W.keepIn K (.ref f40) = true)
    (a41 : PySem.W.nsIn K mainGlobals "_law_made" = some (some (.ref f41)))
    (l41 : K.lookup f41 = some ⟨oc41, od41, .func (PySem.W.fnOf "_law_made" "_law_made" (defArgs s__law_made) (defBody s__law_made) (defScope s__law_made) .none kV41 dc41 pm41 an41 cd41 ct41), sl41⟩)
    (c41 : PySem.W.codeIn K cd41 "_law_made" = true)
    (k41 : PySem.W.keepIn K (.ref f41) = true)
    (a42 : PySem.W.nsIn K mainGlobals "law" = some (some (.ref f42)))
    (l42 : K.lookup f42 = some ⟨oc42, od42, .func (PySem.W.fnOf "law" "law" (defArgs s_law) (defBody s_law) (defScope s_law) .none kV42 dc42 pm42 an42 cd42 ct42), sl42⟩)
    (c42 : PySem.W.codeIn K cd42 "law" = true)
    (k42 : PySem.W.keepIn K (.ref f42) = true)
    (pg : PySem.W.plainGet K C Str.empty = true)
    (hd : PySem.W.hasDictIn K C = true)
    (po : PySem.W.plainOver K C = true)
    (sa : PySem.W.findIn K (.ref C) "__setattr__" = some (some (.builtin "object.__setattr__")))
    (mk : PySem.W.makesIn K C = true)
    (kc : PySem.W.keepIn K (.ref C) = true)
    (nR : PySem.W.findIn K (.ref C) "_rows" = some none)
    (cl1 : PySem.W.findIn K (.ref C) "__class__" = some (some (.builtin "object.__class__")))
    (cl2 : PySem.W.specialIn K (.builtin "object.__class__") "__get__" = some (some (.builtin "getset_descriptor.__get__")))
    (cl3 : PySem.W.takesIn K (.builtin "object.__class__") = some true)
    (cl4 : PySem.W.mroIn K C (.type "object") = some true)
    (sf : PySem.W.selfFirst K C = true)
    (zlen : PySem.W.nsIn K mainGlobals "len" = some none)
    (zint : PySem.W.nsIn K mainGlobals "int" = some none)
    (zrange : PySem.W.nsIn K mainGlobals "range" = some none)
    (zlist : PySem.W.nsIn K mainGlobals "list" = some none)
    (ztuple : PySem.W.nsIn K mainGlobals "tuple" = some none)
    (zisinstance : PySem.W.nsIn K mainGlobals "isinstance" = some none)
    (zall : PySem.W.nsIn K mainGlobals "all" = some none)
    (zany : PySem.W.nsIn K mainGlobals "any" = some none)
    (zbool : PySem.W.nsIn K mainGlobals "bool" = some none)
    (zstr : PySem.W.nsIn K mainGlobals "str" = some none)
    (zmin : PySem.W.nsIn K mainGlobals "min" = some none)
    (zmax : PySem.W.nsIn K mainGlobals "max" = some none)
    (zabs : PySem.W.nsIn K mainGlobals "abs" = some none)
    (zsum : PySem.W.nsIn K mainGlobals "sum" = some none)
    (zsorted : PySem.W.nsIn K mainGlobals "sorted" = some none)
    (zset : PySem.W.nsIn K mainGlobals "set" = some none)
    (zValueError : PySem.W.nsIn K mainGlobals "ValueError" = some none)
    (zlcm : PySem.W.nsIn K mainGlobals "lcm" = some (some (.builtin "math.lcm"))) :
    ∃ fd : FuncData, (∀ (s : Shared) (v : Value), BindsTo s fd ⟨[v], []⟩ [("script", v)]) ∧ ∀ base : Heap, K.In base → base.Ns mainGlobals mg → FnOk l.prog w K mg base CX0 10 fa fd ["script"] (spLaw K) := by
  have e := hfa.symm.trans (PySem.W.mg_of X G a42)
  cases e
  have B : Bi mg := ⟨PySem.W.mg_none_of X G zlen, PySem.W.mg_none_of X G zint, PySem.W.mg_none_of X G zrange, PySem.W.mg_none_of X G zlist, PySem.W.mg_none_of X G ztuple, PySem.W.mg_none_of X G zisinstance, PySem.W.mg_none_of X G zall, PySem.W.mg_none_of X G zany, PySem.W.mg_none_of X G zbool, PySem.W.mg_none_of X G zstr, PySem.W.mg_none_of X G zmin, PySem.W.mg_none_of X G zmax, PySem.W.mg_none_of X G zabs, PySem.W.mg_none_of X G zsum, PySem.W.mg_none_of X G zsorted, PySem.W.mg_none_of X G zset, PySem.W.mg_none_of X G zValueError⟩
  have G_Rule := PySem.W.mg_of X G aCRule
  have T : Rl K C := ⟨⟨pg, hd, po, sa⟩, nR, cl1, cl2, cl3, cl4, sf⟩
  have F1 := fun_mk (st := s_check_size) l1 c1 k1
  have b1 := F1.binds (ps := ["n"]) fun _ _ _ _ _ _ us hl => match us, hl with | [_], _ => rfl
  have F2 := fun_mk (st := s_check_post) l2 c2 k2
  have b2 := F2.binds (ps := ["post", "n"]) fun _ _ _ _ _ _ us hl => match us, hl with | [_, _], _ => rfl
  have F3 := fun_mk (st := s_check_half_post) l3 c3 k3
  have b3 := F3.binds (ps := ["post"]) fun _ _ _ _ _ _ us hl => match us, hl with | [_], _ => rfl
  have F4 := fun_mk (st := s_check_number) l4 c4 k4
  have b4 := F4.binds (ps := ["number"]) fun _ _ _ _ _ _ us hl => match us, hl with | [_], _ => rfl
  have F5 := fun_mk (st := s_is_marked) l5 c5 k5
  have b5 := F5.binds (ps := ["text"]) fun _ _ _ _ _ _ us hl => match us, hl with | [_], _ => rfl
  have F6 := fun_mk (st := s_is_row) l6 c6 k6
  have b6 := F6.binds (ps := ["text"]) fun _ _ _ _ _ _ us hl => match us, hl with | [_], _ => rfl
  have F7 := fun_mk (st := s__shifted_row) l7 c7 k7
  have b7 := F7.binds (ps := ["row", "by"]) fun _ _ _ _ _ _ us hl => match us, hl with | [_, _], _ => rfl
  have F8 := fun_mk (st := s__mirrored_row) l8 c8 k8
  have b8 := F8.binds (ps := ["row", "n"]) fun _ _ _ _ _ _ us hl => match us, hl with | [_, _], _ => rfl
  have F9 := fun_mk (st := s__law_same) l9 c9 k9
  have b9 := F9.binds (ps := ["found", "due"]) fun _ _ _ _ _ _ us hl => match us, hl with | [_, _], _ => rfl
  have F10 := fun_mk (st := s_Rule_u__init_u_) l10 c10 k10
  have b10 := F10.binds (ps := ["self", "texts"]) fun _ _ _ _ _ _ us hl => match us, hl with | [_, _], _ => rfl
  have F11 := fun_mk (st := s_Rule_rows) l11 c11 k11
  have b11 := F11.binds (ps := ["self"]) fun _ _ _ _ _ _ us hl => match us, hl with | [_], _ => rfl
  have F12 := fun_mk (st := s_Rule_width) l12 c12 k12
  have b12 := F12.binds (ps := ["self"]) fun _ _ _ _ _ _ us hl => match us, hl with | [_], _ => rfl
  have F13 := fun_mk (st := s_Rule_height) l13 c13 k13
  have b13 := F13.binds (ps := ["self"]) fun _ _ _ _ _ _ us hl => match us, hl with | [_], _ => rfl
  have F14 := fun_mk (st := s_Rule_inverse) l14 c14 k14
  have b14 := F14.binds (ps := ["self"]) fun _ _ _ _ _ _ us hl => match us, hl with | [_], _ => rfl
  have F15 := fun_mk (st := s_Rule_shifted) l15 c15 k15
  have b15 := F15.binds (ps := ["self", "by"]) fun _ _ _ _ _ _ us hl => match us, hl with | [_, _], _ => rfl
  have F16 := fun_mk (st := s_Rule_then) l16 c16 k16
  have b16 := F16.binds (ps := ["self", "other"]) fun _ _ _ _ _ _ us hl => match us, hl with | [_, _], _ => rfl
  have F17 := fun_mk (st := s_Rule_has_rung) l17 c17 k17
  have b17 := F17.binds (ps := ["self", "row", "post"]) fun _ _ _ _ _ _ us hl => match us, hl with | [_, _, _], _ => rfl
  have F18 := fun_mk (st := s_Rule_mirrored) l18 c18 k18
  have b18 := F18.binds (ps := ["self", "n"]) fun _ _ _ _ _ _ us hl => match us, hl with | [_, _], _ => rfl
  have F19 := fun_mk (st := s_Rule_u__add_u_) l19 c19 k19
  have b19 := F19.binds (ps := ["self", "other"]) fun _ _ _ _ _ _ us hl => match us, hl with | [_, _], _ => rfl
  have F20 := fun_mk (st := s_Rule_u__len_u_) l20 c20 k20
  have b20 := F20.binds (ps := ["self"]) fun _ _ _ _ _ _ us hl => match us, hl with | [_], _ => rfl
  have F21 := fun_mk (st := s__past_row) l21 c21 k21
  have b21 := F21.binds (ps := ["rule", "n", "row", "post"]) fun _ _ _ _ _ _ us hl => match us, hl with | [_, _, _, _], _ => rfl
  have F22 := fun_mk (st := s__way) l22 c22 k22
  have b22 := F22.binds (ps := ["rule", "n", "post", "rows"]) fun _ _ _ _ _ _ us hl => match us, hl with | [_, _, _, _], _ => rfl
  have F23 := fun_mk (st := s__rungs_crossed) l23 c23 k23
  have b23 := F23.binds (ps := ["rule", "n", "post", "rows"]) fun _ _ _ _ _ _ us hl => match us, hl with | [_, _, _, _], _ => rfl
  have F24 := fun_mk (st := s_walk_of) l24 c24 k24
  have b24 := F24.binds (ps := ["rule", "n", "post", "rows"]) fun _ _ _ _ _ _ us hl => match us, hl with | [_, _, _, _], _ => rfl
  have F25 := fun_mk (st := s_round_of) l25 c25 k25
  have b25 := F25.binds (ps := ["rule", "n"]) fun _ _ _ _ _ _ us hl => match us, hl with | [_, _], _ => rfl
  have F26 := fun_mk (st := s_partners) l26 c26 k26
  have b26 := F26.binds (ps := ["rule", "n", "post", "rows"]) fun _ _ _ _ _ _ us hl => match us, hl with | [_, _, _, _], _ => rfl
  have F27 := fun_mk (st := s_meets) l27 c27 k27
  have b27 := F27.binds (ps := ["rule", "n", "one", "other", "rows"]) fun _ _ _ _ _ _ us hl => match us, hl with | [_, _, _, _, _], _ => rfl
  have F28 := fun_mk (st := s__law_cell) l28 c28 k28
  have b28 := F28.binds (ps := ["script", "at"]) fun _ _ _ _ _ _ us hl => match us, hl with | [_, _], _ => rfl
  have F29 := fun_mk (st := s__law_draws) l29 c29 k29
  have b29 := F29.binds (ps := ["script", "at", "limits"]) fun _ _ _ _ _ _ us hl => match us, hl with | [_, _, _], _ => rfl
  have F30 := fun_mk (st := s__law_great) l30 c30 k30
  have b30 := F30.binds (ps := ["script", "at", "bound"]) fun _ _ _ _ _ _ us hl => match us, hl with | [_, _, _], _ => rfl
  have F31 := fun_mk (st := s__law_lines) l31 c31 k31
  have b31 := F31.binds (ps := ["script", "at", "wide", "high"]) fun _ _ _ _ _ _ us hl => match us, hl with | [_, _, _, _], _ => rfl
  have F32 := fun_mk (st := s__law_multiple) l32 c32 k32
  have b32 := F32.binds (ps := ["one_size", "other_size"]) fun _ _ _ _ _ _ us hl => match us, hl with | [_, _], _ => rfl
  have F33 := fun_mk (st := s__law_joined) l33 c33 k33
  have b33 := F33.binds (ps := ["lines", "others"]) fun _ _ _ _ _ _ us hl => match us, hl with | [_, _], _ => rfl
  have F34 := fun_mk (st := s__law_shifted) l34 c34 k34
  have b34 := F34.binds (ps := ["lines", "by_posts"]) fun _ _ _ _ _ _ us hl => match us, hl with | [_, _], _ => rfl
  have F35 := fun_mk (st := s__law_mirrored) l35 c35 k35
  have b35 := F35.binds (ps := ["lines", "size"]) fun _ _ _ _ _ _ us hl => match us, hl with | [_, _], _ => rfl
  have F36 := fun_mk (st := s__law_step) l36 c36 k36
  have b36 := F36.binds (ps := ["lines", "size", "deep", "spot"]) fun _ _ _ _ _ _ us hl => match us, hl with | [_, _, _, _], _ => rfl
  have F37 := fun_mk (st := s__law_round) l37 c37 k37
  have b37 := F37.binds (ps := ["lines", "size"]) fun _ _ _ _ _ _ us hl => match us, hl with | [_, _], _ => rfl
  have F38 := fun_mk (st := s__law_walk) l38 c38 k38
  have b38 := F38.binds (ps := ["lines", "size", "spot", "many"]) fun _ _ _ _ _ _ us hl => match us, hl with | [_, _, _, _], _ => rfl
  have F39 := fun_mk (st := s__law_meets) l39 c39 k39
  have b39 := F39.binds (ps := ["lines", "size", "left", "right", "many"]) fun _ _ _ _ _ _ us hl => match us, hl with | [_, _, _, _, _], _ => rfl
  have F40 := fun_mk (st := s__law_asked) l40 c40 k40
  have b40 := F40.binds (ps := ["thing", "lines", "ladder", "deep", "far"]) fun _ _ _ _ _ _ us hl => match us, hl with | [_, _, _, _, _], _ => rfl
  have F41 := fun_mk (st := s__law_made) l41 c41 k41
  have b41 := F41.binds (ps := ["thing", "lines", "mate", "others", "ladder", "script", "at"]) fun _ _ _ _ _ _ us hl => match us, hl with | [_, _, _, _, _, _, _], _ => rfl
  have F42 := fun_mk (st := s_law) l42 c42 k42
  have b42 := F42.binds (ps := ["script"]) fun _ _ _ _ _ _ us hl => match us, hl with | [_], _ => rfl
  have G_lcm := PySem.W.mg_of X G zlcm
  refine ⟨PySem.W.fnOf "law" "law" (defArgs s_law) (defBody s_law) (defScope s_law) .none kV42 dc42 pm42 an42 cd42 ct42, fun s v => .of_eq rfl, fun base _ _ => ?_⟩
  have G1 : FnOk l.prog w K mg base CX0 2 f1 _ ["n"] spCheckSize := ok_check_size F1 B
  have D_check_size := Df.mk' F1 G1 (PySem.W.mg_of X G a1) b1
  have G2 : FnOk l.prog w K mg base CX0 2 f2 _ ["post", "n"] spCheckPost := ok_check_post F2 B
  have D_check_post := Df.mk' F2 G2 (PySem.W.mg_of X G a2) b2
  have G3 : FnOk l.prog w K mg base CX0 2 f3 _ ["post"] spCheckHalf := ok_check_half_post F3 B
  have D_check_half_post := Df.mk' F3 G3 (PySem.W.mg_of X G a3) b3
  have G4 : FnOk l.prog w K mg base CX0 2 f4 _ ["number"] spCheckNumber := ok_check_number F4 B
  have D_check_number := Df.mk' F4 G4 (PySem.W.mg_of X G a4) b4
  have G5 : FnOk l.prog w K mg base CX0 1 f5 _ ["text"] spIsMarked := ok_is_marked F5 B
  have D_is_marked := Df.mk' F5 G5 (PySem.W.mg_of X G a5) b5
  have G6 : FnOk l.prog w K mg base CX0 2 f6 _ ["text"] spIsRow := ok_is_row F6 B D_is_marked
  have D_is_row := Df.mk' F6 G6 (PySem.W.mg_of X G a6) b6
  have G7 : FnOk l.prog w K mg base CX0 2 f7 _ ["row", "by"] spShiftedRow := ok__shifted_row F7 B
  have D_shifted_row := Df.mk' F7 G7 (PySem.W.mg_of X G a7) b7
  have G8 : FnOk l.prog w K mg base CX0 2 f8 _ ["row", "n"] spMirroredRow := ok__mirrored_row F8 B
  have D_mirrored_row := Df.mk' F8 G8 (PySem.W.mg_of X G a8) b8
  have D_law_same : Df l.prog w K mg base "_law_same" 4 ["found", "due"] (spSame K 4) := Df.mk' F9 (ok__law_same F9 B (PySem.W.mg_of X G a9) b9 4) (PySem.W.mg_of X G a9) b9
  have G10 : FnOk l.prog w K mg base CX0 3 f10 _ ["self", "texts"] (spInit C) := ok_Rule_init F10 B T D_is_row
  have M_Rule : Mkr l.prog w K mg base "Rule" C 3 ["self", "texts"] (spInit C) := ⟨_, _, PySem.W.mg_of X G aCRule, ⟨mk, a10, i10, kc⟩, G10, b10⟩
  have G11 : FnOk l.prog w K mg base CX0 2 f11 _ ["self"] (spRows C) := ok_Rule_rows F11 B T
  have P_rows : Pr l.prog w K mg base C "rows" 2 (spRows C) := ⟨_, _, _, T.cl, ⟨a11, g11, t11, _, r11⟩, G11, b11⟩
  have G12 : FnOk l.prog w K mg base CX0 2 f12 _ ["self"] (spWidth C) := ok_Rule_width F12 B T
  have P_width : Pr l.prog w K mg base C "width" 2 (spWidth C) := ⟨_, _, _, T.cl, ⟨a12, g12, t12, _, r12⟩, G12, b12⟩
  have G13 : FnOk l.prog w K mg base CX0 2 f13 _ ["self"] (spHeight C) := ok_Rule_height F13 B T
  have P_height : Pr l.prog w K mg base C "height" 2 (spHeight C) := ⟨_, _, _, T.cl, ⟨a13, g13, t13, _, r13⟩, G13, b13⟩
  have G14 : FnOk l.prog w K mg base CX0 5 f14 _ ["self"] (spInverse C) := ok_Rule_inverse F14 B T M_Rule P_rows
  have E_inverse : Me l.prog w K mg base C "inverse" 5 ["self"] (spInverse C) := ⟨_, _, T.cl, ⟨a14, i14, k14⟩, G14, b14⟩
  have G15 : FnOk l.prog w K mg base CX0 5 f15 _ ["self", "by"] (spShifted C) := ok_Rule_shifted F15 B T M_Rule D_shifted_row
  have E_shifted : Me l.prog w K mg base C "shifted" 5 ["self", "by"] (spShifted C) := ⟨_, _, T.cl, ⟨a15, i15, k15⟩, G15, b15⟩
  have G16 : FnOk l.prog w K mg base CX0 5 f16 _ ["self", "other"] (spThen C) := ok_Rule_then F16 B T G_lcm M_Rule P_rows P_width
  have E_then : Me l.prog w K mg base C "then" 5 ["self", "other"] (spThen C) := ⟨_, _, T.cl, ⟨a16, i16, k16⟩, G16, b16⟩
  have G17 : FnOk l.prog w K mg base CX0 4 f17 _ ["self", "row", "post"] (spHasRung C) := ok_Rule_has_rung F17 B T D_check_number D_check_half_post P_width P_height
  have E_has_rung : Me l.prog w K mg base C "has_rung" 4 ["self", "row", "post"] (spHasRung C) := ⟨_, _, T.cl, ⟨a17, i17, k17⟩, G17, b17⟩
  have G18 : FnOk l.prog w K mg base CX0 5 f18 _ ["self", "n"] (spMirrored C) := ok_Rule_mirrored F18 B T M_Rule D_check_size D_mirrored_row
  have E_mirrored : Me l.prog w K mg base C "mirrored" 5 ["self", "n"] (spMirrored C) := ⟨_, _, T.cl, ⟨a18, i18, k18⟩, G18, b18⟩
  have G19 : FnOk l.prog w K mg base CX0 6 f19 _ ["self", "other"] (spThen C) := ok_Rule_add F19 B T E_then
  have O_add : Me l.prog w K mg base C "__add__" 6 ["self", "other"] (spThen C) := ⟨_, _, T.cl, ⟨a19, i19, k19⟩, G19, b19⟩
  have G20 : FnOk l.prog w K mg base CX0 2 f20 _ ["self"] (spLen C) := ok_Rule_len F20 B T
  have O_len : Me l.prog w K mg base C "__len__" 2 ["self"] (spLen C) := ⟨_, _, T.cl, ⟨a20, i20, k20⟩, G20, b20⟩
  have G21 : FnOk l.prog w K mg base CX0 5 f21 _ ["rule", "n", "row", "post"] (spPast C) := ok__past_row F21 B E_has_rung
  have D_past_row := Df.mk' F21 G21 (PySem.W.mg_of X G a21) b21
  have G22 : FnOk l.prog w K mg base CX0 6 f22 _ ["rule", "n", "post", "rows"] (spWay C) := ok__way F22 B D_past_row
  have D_way := Df.mk' F22 G22 (PySem.W.mg_of X G a22) b22
  have G23 : FnOk l.prog w K mg base CX0 7 f23 _ ["rule", "n", "post", "rows"] (spRungs C) := ok__rungs_crossed F23 B D_way
  have D_rungs_crossed := Df.mk' F23 G23 (PySem.W.mg_of X G a23) b23
  have G24 : FnOk l.prog w K mg base CX0 7 f24 _ ["rule", "n", "post", "rows"] (spWalkOf C) := ok_walk_of F24 B D_check_size D_check_post D_check_number D_way
  have D_walk_of := Df.mk' F24 G24 (PySem.W.mg_of X G a24) b24
  have G25 : FnOk l.prog w K mg base CX0 7 f25 _ ["rule", "n"] (spRound C) := ok_round_of F25 B D_check_size D_way P_height
  have D_round_of := Df.mk' F25 G25 (PySem.W.mg_of X G a25) b25
  have G26 : FnOk l.prog w K mg base CX0 6 f26 _ ["rule", "n", "post", "rows"] (spPartners C) := ok_partners F26 B D_check_size D_check_post D_check_number D_past_row
  have D_partners := Df.mk' F26 G26 (PySem.W.mg_of X G a26) b26
  have G27 : FnOk l.prog w K mg base CX0 8 f27 _ ["rule", "n", "one", "other", "rows"] (spMeets C) := ok_meets F27 B D_check_size D_check_post D_check_number D_rungs_crossed
  have D_meets := Df.mk' F27 G27 (PySem.W.mg_of X G a27) b27
  have G28 : FnOk l.prog w K mg base CX0 2 f28 _ ["script", "at"] (spCell K) := ok__law_cell F28 B
  have D_law_cell := Df.mk' F28 G28 (PySem.W.mg_of X G a28) b28
  have G29 : FnOk l.prog w K mg base CX0 3 f29 _ ["script", "at", "limits"] (spDraws K) := ok__law_draws F29 B D_law_cell
  have D_law_draws := Df.mk' F29 G29 (PySem.W.mg_of X G a29) b29
  have G30 : FnOk l.prog w K mg base CX0 3 f30 _ ["script", "at", "bound"] (spGreat K) := ok__law_great F30 B D_law_cell
  have D_law_great := Df.mk' F30 G30 (PySem.W.mg_of X G a30) b30
  have G31 : FnOk l.prog w K mg base CX0 4 f31 _ ["script", "at", "wide", "high"] (spLines K) := ok__law_lines F31 B D_law_draws
  have D_law_lines := Df.mk' F31 G31 (PySem.W.mg_of X G a31) b31
  have G32 : FnOk l.prog w K mg base CX0 2 f32 _ ["one_size", "other_size"] spMultiple := ok__law_multiple F32 B
  have D_law_multiple := Df.mk' F32 G32 (PySem.W.mg_of X G a32) b32
  have G33 : FnOk l.prog w K mg base CX0 3 f33 _ ["lines", "others"] spJoined := ok__law_joined F33 B D_law_multiple
  have D_law_joined := Df.mk' F33 G33 (PySem.W.mg_of X G a33) b33
  have G34 : FnOk l.prog w K mg base CX0 2 f34 _ ["lines", "by_posts"] spLawShifted := ok__law_shifted F34 B
  have D_law_shifted := Df.mk' F34 G34 (PySem.W.mg_of X G a34) b34
  have G35 : FnOk l.prog w K mg base CX0 2 f35 _ ["lines", "size"] spLawMirrored := ok__law_mirrored F35 B
  have D_law_mirrored := Df.mk' F35 G35 (PySem.W.mg_of X G a35) b35
  have G36 : FnOk l.prog w K mg base CX0 2 f36 _ ["lines", "size", "deep", "spot"] spStep := ok__law_step F36 B
  have D_law_step := Df.mk' F36 G36 (PySem.W.mg_of X G a36) b36
  have G37 : FnOk l.prog w K mg base CX0 3 f37 _ ["lines", "size"] spEnds := ok__law_round F37 B D_law_step
  have D_law_round := Df.mk' F37 G37 (PySem.W.mg_of X G a37) b37
  have G38 : FnOk l.prog w K mg base CX0 3 f38 _ ["lines", "size", "spot", "many"] spWalk := ok__law_walk F38 B D_law_step
  have D_law_walk := Df.mk' F38 G38 (PySem.W.mg_of X G a38) b38
  have G39 : FnOk l.prog w K mg base CX0 4 f39 _ ["lines", "size", "left", "right", "many"] spLawMeets := ok__law_meets F39 B D_law_walk
  have D_law_meets := Df.mk' F39 G39 (PySem.W.mg_of X G a39) b39
  have G40 : FnOk l.prog w K mg base CX0 9 f40 _ ["thing", "lines", "ladder", "deep", "far"] (spAsked C) := ok__law_asked F40 B T D_law_same D_law_round D_law_walk D_law_meets D_round_of D_walk_of D_meets D_partners P_rows P_width P_height O_len E_has_rung
  have D_law_asked := Df.mk' F40 G40 (PySem.W.mg_of X G a40) b40
  have G41 : FnOk l.prog w K mg base CX0 7 f41 _ ["thing", "lines", "mate", "others", "ladder", "script", "at"] (spMadeT K C) := ok__law_made F41 B T D_law_draws D_law_great D_law_shifted D_law_mirrored D_law_joined E_inverse E_shifted E_mirrored E_then O_add
  have D_law_made := Df.mk' F41 G41 (PySem.W.mg_of X G a41) b41
  exact ok_law F42 B T G_Rule D_law_draws D_law_lines D_law_great D_law_asked D_law_made M_Rule E_inverse
theorem walk {l : PySem.W.OpenLaw} {q : Program} {loose : List Str} {XP : (Str → Option Value) → Heap → Prop} {YP : World → Heap → Prop} {d : DefRec} {K : Params → PySem.W.Frag} (hn : l.most = some 63) (hdf : d.params.defaults = [])
    (hY : ∀ (w : World) (h : Heap), YP w h → (K w.params).In h)
    (F : ∀ (w : World) (mg : Str → Option Value) (fa : Addr) (h : Heap), (K w.params).In h → h.Ns mainGlobals mg → mg d.name = some (.ref fa) →
      ∃ fd : FuncData, (∀ (s : Shared) (u : Value), BindsTo s fd ⟨[u], []⟩ [("script", u)]) ∧ ∀ base : Heap, (K w.params).In base → base.Ns mainGlobals mg → FnOk l.prog w (K w.params) mg base CX0 10 fa fd ["script"] (spLaw (K w.params))) :
    PySem.W.WalkO q loose XP YP l.row.toRowW d [] (fun f vs => PySem.call f vs) :=
  L2.walk_of (n := 63) (k := 10) (x := "script") (CX := fun _ => CX0) (sp := fun w => spLaw (K w.params)) hn (by decide) hdf ⟨rfl, by decide, by decide⟩ hY F (fun _ _ a ns hl _ hS => ⟨a, ns, rfl, hS, hl, fun _ => rfl⟩) fun _ _ _ _ _ z => z
end Rg
open PySem PySem.W PyProof.Rows
set_option maxRecDepth 100000 in
set_option maxHeartbeats 0 in
theorem PySem.Challenge.cw_rungrepeats_k11_rungs_of_made_rules_holds : PySem.Challenge.rw_rungrepeats_k11_rungs_of_made_rules.Holds := by
  w_on; o_law; k_head; (case hw => w_witness2)
  k_fill
  refine Rg.walk (l := PySem.Challenge.rw_rungrepeats_k11_rungs_of_made_rules) rfl rfl (fun w h Y => PySem.W.kIn_of Y) ?F
  case F =>
    intro w mg fa h KX G hmg
    refine' Rg.all_mk KX G hmg ?aCRule ?a1 ?l1 ?c1 ?k1 ?a2 ?l2 ?c2 ?k2 ?a3 ?l3 ?c3 ?k3 ?a4 ?l4 ?c4 ?k4 ?a5 ?l5 ?c5 ?k5 ?a6 ?l6 ?c6 ?k6 ?a7 ?l7 ?c7 ?k7 ?a8 ?l8 ?c8 ?k8 ?a9 ?l9 ?c9 ?k9 ?a10 ?i10 ?l10 ?c10 ?k10 ?a11 ?g11 ?t11 ?r11 ?l11 ?c11 ?k11 ?a12 ?g12 ?t12 ?r12 ?l12 ?c12 ?k12 ?a13 ?g13 ?t13 ?r13 ?l13 ?c13 ?k13 ?a14 ?i14 ?l14 ?c14 ?k14 ?a15 ?i15 ?l15 ?c15 ?k15 ?a16 ?i16 ?l16 ?c16 ?k16 ?a17 ?i17 ?l17 ?c17 ?k17 ?a18 ?i18 ?l18 ?c18 ?k18 ?a19 ?i19 ?l19 ?c19 ?k19 ?a20 ?i20 ?l20 ?c20 ?k20 ?a21 ?l21 ?c21 ?k21 ?a22 ?l22 ?c22 ?k22 ?a23 ?l23 ?c23 ?k23 ?a24 ?l24 ?c24 ?k24 ?a25 ?l25 ?c25 ?k25 ?a26 ?l26 ?c26 ?k26 ?a27 ?l27 ?c27 ?k27 ?a28 ?l28 ?c28 ?k28 ?a29 ?l29 ?c29 ?k29 ?a30 ?l30 ?c30 ?k30 ?a31 ?l31 ?c31 ?k31 ?a32 ?l32 ?c32 ?k32 ?a33 ?l33 ?c33 ?k33 ?a34 ?l34 ?c34 ?k34 ?a35 ?l35 ?c35 ?k35 ?a36 ?l36 ?c36 ?k36 ?a37 ?l37 ?c37 ?k37 ?a38 ?l38 ?c38 ?k38 ?a39 ?l39 ?c39 ?k39 ?a40 ?l40 ?c40 ?k40 ?a41 ?l41 ?c41 ?k41 ?a42 ?l42 ?c42 ?k42 ?pg ?hd ?po ?sa ?mk ?kc ?nR ?cl1 ?cl2 ?cl3 ?cl4 ?sf ?zlen ?zint ?zrange ?zlist ?ztuple ?zisinstance ?zall ?zany ?zbool ?zstr ?zmin ?zmax ?zabs ?zsum ?zsorted ?zset ?zValueError ?zlcm
    (case aCRule => k_is)
    (case a1 => k_is)
    (case l1 => k_is)
    (case c1 => k_is)
    (case k1 => k_is)
    (case a2 => k_is)
    (case l2 => k_is)
    (case c2 => k_is)
    (case k2 => k_is)
    (case a3 => k_is)
    (case l3 => k_is)
    (case c3 => k_is)
    (case k3 => k_is)
    (case a4 => k_is)
    (case l4 => k_is)
    (case c4 => k_is)
    (case k4 => k_is)
    (case a5 => k_is)
    (case l5 => k_is)
    (case c5 => k_is)
    (case k5 => k_is)
    (case a6 => k_is)
    (case l6 => k_is)
    (case c6 => k_is)
    (case k6 => k_is)
    (case a7 => k_is)
    (case l7 => k_is)
    (case c7 => k_is)
    (case k7 => k_is)
    (case a8 => k_is)
    (case l8 => k_is)
    (case c8 => k_is)
    (case k8 => k_is)
    (case a9 => k_is)
    (case l9 => k_is)
    (case c9 => k_is)
    (case k9 => k_is)
    (case a10 => k_is)
    (case i10 => k_is)
    (case l10 => k_is)
    (case c10 => k_is)
    (case k10 => k_is)
    (case a11 => k_is)
    (case g11 => k_is)
    (case t11 => k_is)
    (case r11 => k_is)
    (case l11 => k_is)
    (case c11 => k_is)
    (case k11 => k_is)
    (case a12 => k_is)
    (case g12 => k_is)
    (case t12 => k_is)
    (case r12 => k_is)
    (case l12 => k_is)
    (case c12 => k_is)
    (case k12 => k_is)
    (case a13 => k_is)
    (case g13 => k_is)
    (case t13 => k_is)
    (case r13 => k_is)
    (case l13 => k_is)
    (case c13 => k_is)
    (case k13 => k_is)
    (case a14 => k_is)
    (case i14 => k_is)
    (case l14 => k_is)
    (case c14 => k_is)
    (case k14 => k_is)
    (case a15 => k_is)
    (case i15 => k_is)
    (case l15 => k_is)
    (case c15 => k_is)
    (case k15 => k_is)
    (case a16 => k_is)
    (case i16 => k_is)
    (case l16 => k_is)
    (case c16 => k_is)
    (case k16 => k_is)
    (case a17 => k_is)
    (case i17 => k_is)
    (case l17 => k_is)
    (case c17 => k_is)
    (case k17 => k_is)
    (case a18 => k_is)
    (case i18 => k_is)
    (case l18 => k_is)
    (case c18 => k_is)
    (case k18 => k_is)
    (case a19 => k_is)
    (case i19 => k_is)
    (case l19 => k_is)
    (case c19 => k_is)
    (case k19 => k_is)
    (case a20 => k_is)
    (case i20 => k_is)
    (case l20 => k_is)
    (case c20 => k_is)
    (case k20 => k_is)
    (case a21 => k_is)
    (case l21 => k_is)
    (case c21 => k_is)
    (case k21 => k_is)
    (case a22 => k_is)
    (case l22 => k_is)
    (case c22 => k_is)
    (case k22 => k_is)
    (case a23 => k_is)
    (case l23 => k_is)
    (case c23 => k_is)
    (case k23 => k_is)
    (case a24 => k_is)
    (case l24 => k_is)
    (case c24 => k_is)
    (case k24 => k_is)
    (case a25 => k_is)
    (case l25 => k_is)
    (case c25 => k_is)
    (case k25 => k_is)
    (case a26 => k_is)
    (case l26 => k_is)
    (case c26 => k_is)
    (case k26 => k_is)
    (case a27 => k_is)
    (case l27 => k_is)
    (case c27 => k_is)
    (case k27 => k_is)
    (case a28 => k_is)
    (case l28 => k_is)
    (case c28 => k_is)
    (case k28 => k_is)
    (case a29 => k_is)
    (case l29 => k_is)
    (case c29 => k_is)
    (case k29 => k_is)
    (case a30 => k_is)
    (case l30 => k_is)
    (case c30 => k_is)
    (case k30 => k_is)
    (case a31 => k_is)
    (case l31 => k_is)
    (case c31 => k_is)
    (case k31 => k_is)
    (case a32 => k_is)
    (case l32 => k_is)
    (case c32 => k_is)
    (case k32 => k_is)
    (case a33 => k_is)
    (case l33 => k_is)
    (case c33 => k_is)
    (case k33 => k_is)
    (case a34 => k_is)
    (case l34 => k_is)
    (case c34 => k_is)
    (case k34 => k_is)
    (case a35 => k_is)
    (case l35 => k_is)
    (case c35 => k_is)
    (case k35 => k_is)
    (case a36 => k_is)
    (case l36 => k_is)
    (case c36 => k_is)
    (case k36 => k_is)
    (case a37 => k_is)
    (case l37 => k_is)
    (case c37 => k_is)
    (case k37 => k_is)
    (case a38 => k_is)
    (case l38 => k_is)
    (case c38 => k_is)
    (case k38 => k_is)
    (case a39 => k_is)
    (case l39 => k_is)
    (case c39 => k_is)
    (case k39 => k_is)
    (case a40 => k_is)
    (case l40 => k_is)
    (case c40 => k_is)
    (case k40 => k_is)
    (case a41 => k_is)
    (case l41 => k_is)
    (case c41 => k_is)
    (case k41 => k_is)
    (case a42 => k_is)
    (case l42 => k_is)
    (case c42 => k_is)
    (case k42 => k_is)
    (case pg => k_is)
    (case hd => k_is)
    (case po => k_is)
    (case sa => k_is)
    (case mk => k_is)
    (case kc => k_is)
    (case nR => k_is)
    (case cl1 => k_is)
    (case cl2 => k_is)
    (case cl3 => k_is)
    (case cl4 => k_is)
    (case sf => k_is)
    (case zlen => k_is)
    (case zint => k_is)
    (case zrange => k_is)
    (case zlist => k_is)
    (case ztuple => k_is)
    (case zisinstance => k_is)
    (case zall => k_is)
    (case zany => k_is)
    (case zbool => k_is)
    (case zstr => k_is)
    (case zmin => k_is)
    (case zmax => k_is)
    (case zabs => k_is)
    (case zsum => k_is)
    (case zsorted => k_is)
    (case zset => k_is)
    (case zValueError => k_is)
    (case zlcm => k_is)
