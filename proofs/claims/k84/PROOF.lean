import PyProof.Rows.All
import Wide.All
import OpenK.AllK
import Wide.FinOn
import HandS.ForMost
import HandS.IsInst
import HandS.Property
import HandS.Wide
import HandS.Gcd
import HandS.More
import HandS.OwnEq
import HandS.Style
import HandS.ReplaceDef
import HandS.ReplaceLit
import HandS.ForExc
import HandS.ExcInit
import HandS.ExcField
import HandS.ExcIs
import KE.KExcIs
import HandS.RaiseFrom
import HandS.ExcInitHot
import PySem.Challenge.RW_rungrepeats_k84_whole_every_text_of_rule
set_option Elab.async false
set_option maxRecDepth 100000
set_option maxHeartbeats 4000000
set_option linter.unusedVariables false
/-! own words, shared by the proofs of this program's laws -/
namespace Rg
open PySem L2 TL

/-- the built-ins that are read are not shadowed -/
structure Bi (mg : Str → Option Value) : Prop where
  len_ : mg "len" = none
  int_ : mg "int" = none
  range_ : mg "range" = none
  list_ : mg "list" = none
  tuple_ : mg "tuple" = none
  isinstance_ : mg "isinstance" = none
  all_ : mg "all" = none
  any_ : mg "any" = none
  bool_ : mg "bool" = none
  str_ : mg "str" = none
  min_ : mg "min" = none
  max_ : mg "max" = none
  abs_ : mg "abs" = none
  sum_ : mg "sum" = none
  sorted_ : mg "sorted" = none
  set_ : mg "set" = none
  ValueError_ : mg "ValueError" = none

/-- a def of the module that keeps a promise -/
structure Df (P : Program) (w : World) (K : PySem.W.Frag) (mg : Str → Option Value) (base : Heap) (x : Str) (k : Nat) (ps : List Str) (sp : Sp) : Prop where
  ex : ∃ f fd, mg x = some (.ref f) ∧ FnOk P w K mg base CX0 k f fd ps sp ∧ PySem.W.keepIn K (.ref f) = true ∧ Binds K fd ps []
section
variable {X : Cx} {x : Str} {k : Nat} {ps : List Str} {sp : Sp} {e : Expr} {es : List Expr} {t : TA} {p pos : Pos}
theorem pe_df (D : Df X.prog X.w X.K X.mg X.base x k ps sp) (hr : Room k X.A) (hg : Gl X x) (ha : PA X (e :: es) t) (hdb : (x == ("__debug__" : Str)) = false := by decide)
    (he : starEach (e :: es) X.env = (false, eval e X.env) :: starEach es X.env := by rfl) (hpl : (backTo pos (starEach es X.env)).any (·.1) = false := by rfl) :
    PE X (.Call (.Name x p) (e :: es) [] pos) (tCall sp [] E0 t) := by
  obtain ⟨f, fd, hm, F, hk, hb⟩ := D.ex
  exact pe_call F hr hg hm hk hb .nil pass0 ha hdb he hpl
end
theorem Df.mk' {P : Program} {w : World} {K : PySem.W.Frag} {mg : Str → Option Value} {base : Heap} {x q : Str} {st : Stmt} {k : Nat} {ps : List Str} {sp : Sp} {f : Addr} {fd : FuncData} (F : Fun K x q st f fd) (G : FnOk P w K mg base CX0 k f fd ps sp)
    (hm : mg x = some (.ref f)) (hb : Binds K fd ps []) : Df P w K mg base x k ps sp := ⟨f, fd, hm, G, F.kp, hb⟩

/-- an own class: made by an __init__ that keeps sp -/
structure Mkr (P : Program) (w : World) (K : PySem.W.Frag) (mg : Str → Option Value) (base : Heap) (x : Str) (C : Addr) (k : Nat) (ps : List Str) (sp : Sp) : Prop where
  ex : ∃ f fd, mg x = some (.ref C) ∧ Mk K C f ∧ FnOk P w K mg base CX0 k f fd ps sp ∧ Binds K fd ps []
/-- a property of the class at C -/
structure Pr (P : Program) (w : World) (K : PySem.W.Frag) (mg : Str → Option Value) (base : Heap) (C : Addr) (x : Str) (k : Nat) (sp : Sp) : Prop where
  ex : ∃ p g fd, Cls K C ∧ PropOf K C x p g ∧ FnOk P w K mg base CX0 k g fd ["self"] sp ∧ Binds K fd ["self"] []
/-- a method of the class at C -/
structure Me (P : Program) (w : World) (K : PySem.W.Frag) (mg : Str → Option Value) (base : Heap) (C : Addr) (x : Str) (k : Nat) (ps : List Str) (sp : Sp) : Prop where
  ex : ∃ f fd, Cls K C ∧ Meth K C x f ∧ FnOk P w K mg base CX0 k f fd ps sp ∧ Binds K fd ps []
section
variable {X : Cx} {x m : Str} {k : Nat} {C : Addr} {ps : List Str} {sp : Sp} {o e : Expr} {es : List Expr} {ta : TE} {t : TA} {p pos apos : Pos}
theorem pe_mk (M : Mkr X.prog X.w X.K X.mg X.base x C k ps sp) (hr : Room (k + 1) X.A) (hg : Gl X x) (ha : PA X (e :: es) t) (hdb : (x == ("__debug__" : Str)) = false := by decide)
    (he : starEach (e :: es) X.env = (false, eval e X.env) :: starEach es X.env := by rfl) (hpl : (backTo pos (starEach es X.env)).any (·.1) = false := by rfl) :
    PE X (.Call (.Name x p) (e :: es) [] pos) (tMake C sp [] E0 t) := by
  obtain ⟨f, fd, hm, M, F, hb⟩ := M.ex
  exact pe_make M F hr hg hm hb .nil pass0 ha hdb he hpl
theorem pe_pr (he : PE X o ta) (D : Pr X.prog X.w X.K X.mg X.base C x k sp) (hr : Room (k + 1) X.A) (hab : attributeBase o x X.env (eval o X.env) = eval o X.env) : PE X (.Attribute o x pos) (tProp C sp [] E0 ta) := by
  obtain ⟨p, g, fd, c, hp, F, hb⟩ := D.ex
  exact pe_prop he c hp F hr hb .nil pass0 hab
theorem pe_me {pl : Sem Bool} (he : PE X o ta) (D : Me X.prog X.w X.K X.mg X.base C m k ps sp) (hr : Room k X.A) (ha : PA X (e :: es) t)
    (hst : starEach (e :: es) X.env = (false, eval e X.env) :: starEach es X.env := by rfl) (hpl : (backTo pos (starEach es X.env)).any (·.1) = false := by rfl)
    (ht : eval (.Call (.Attribute o m apos) (e :: es) [] pos) X.env = (do
      let ov ← eval o X.env
      standAt apos.atName
      let (f, first) ← holding [ov] (getMethod ov m pl)
      callWith pos f first (backTo pos (starEach (e :: es) X.env)) (backToKw pos (keywordEach [] X.env))) := by rfl) :
    PE X (.Call (.Attribute o m apos) (e :: es) [] pos) (tMeth C m sp [] E0 ta t) := by
  obtain ⟨f, fd, c, hm, F, hb⟩ := D.ex
  exact pe_meth he c hm F hr hb .nil pass0 ha hst hpl ht
theorem pe_me0 {pl : Sem Bool} (he : PE X o ta) (D : Me X.prog X.w X.K X.mg X.base C m k ps sp) (hr : Room k X.A)
    (ht : eval (.Call (.Attribute o m apos) [] [] pos) X.env = (do
      let ov ← eval o X.env
      standAt apos.atName
      let (f, first) ← holding [ov] (getMethod ov m pl)
      callWith pos f first (backTo pos (starEach [] X.env)) (backToKw pos (keywordEach [] X.env))) := by rfl) :
    PE X (.Call (.Attribute o m apos) [] [] pos) (tMeth C m sp [] E0 ta tNil) := by
  obtain ⟨f, fd, c, hm, F, hb⟩ := D.ex
  exact pe_meth0 he c hm F hr hb .nil pass0 ht
end

/-! ### a text many times -/
theorem foldl_nat (items : Array Nat) : ∀ (k : Nat) (acc : Array Nat), List.foldl (fun x1 x2 => x1 ++ x2) acc (List.replicate k items) = (acc.toList ++ (List.replicate k items.toList).flatten).toArray
  | 0, acc => by simp
  | k + 1, acc => by simp [List.replicate_succ, foldl_nat items k, List.append_assoc]
theorem mul_tl (z : Str) (n : Int) (h : 1 ≤ n) : Txt.mul z n = ⟨((List.replicate n.toNat (tl z)).flatten).toArray⟩ := by
  unfold Txt.mul
  rw [if_neg (by omega)]
  by_cases h1 : (n == 1 || z.length == 0) = true
  · rw [if_pos h1]
    refine ext_tl ?_
    show tl z = (List.replicate n.toNat (tl z)).flatten
    rw [Bool.or_eq_true, beq_iff_eq, beq_iff_eq] at h1
    rcases h1 with e | e
    · subst e
      simp
    · have e2 : tl z = [] := by
        rw [len_tl] at e
        exact List.length_eq_zero_iff.mp e
      rw [e2]
      simp
  · rw [if_neg h1]
    congr 1
    show List.foldl (fun x1 x2 => x1 ++ x2) #[] (List.replicate n.toNat z.cps) = _
    rw [foldl_nat]
    simp [tl]
def rRepS : R2 := fun x y H Q => ∃ z n, x = .str z ∧ y = .int n ∧ 1 ≤ n ∧ n < 2 ^ 63 ∧ z.length * n.toNat ≤ sizeLine ∧ Q (.str ⟨((List.replicate n.toNat (tl z)).flatten).toArray⟩) H
theorem op_rep_str {X : Cx} : OpR X (binaryOp .Mult) rRepS := by
  intro pins s σ H x y v u Q I rx ry h
  obtain ⟨z, n, rfl, rfl, h1, h63, hz, q⟩ := h
  obtain ⟨t, rfl⟩ := rx
  obtain ⟨t', rfl⟩ := ry
  have hp : ((z.length : Int)) * n ≤ 2 ^ 24 := by
    have e : ((z.length * n.toNat : Nat) : Int) ≤ ((2 ^ 24 : Nat) : Int) := Int.ofNat_le.mpr hz
    rw [Int.natCast_mul, Int.toNat_of_nonneg (by omega)] at e
    exact e
  refine SB.mul ⟨?_, fun _ _ => ?_, fun _ _ => ?_⟩ fun t2 k => ?_
  · rw [decide_eq_false (by omega), decide_eq_false (by omega)]
    rfl
  · have := (Int.le_ediv_iff_mul_le (a := (z.length : Int)) (b := 2 ^ 63 - 1) (c := n) (by omega)).mpr (by omega)
    omega
  · exact decide_eq_false (by omega)
  · rw [mul_tl z n h1]
    exact ⟨.str _, H, I.tok _, ⟨_, rfl⟩, q⟩

abbrev rLenSeq (K : PySem.W.Frag) : List V → Hp → VK → Prop := fun xs H Q => ∃ p ys, xs = [.ref p] ∧ (SqL K H p ys ∨ SqT K H p ys) ∧ Q (.int ys.length) H
abbrev rJoin (K : PySem.W.Frag) : V → List V → Hp → VK → Prop := fun x xs H Q => ∃ a p, ∃ ys : List Str, x = .str a ∧ xs = [.ref p] ∧ (SqL K H p (ys.map V.str) ∨ SqT K H p (ys.map V.str)) ∧
    (ys.map (·.length)).sum + ys.length * a.length ≤ 16777216 ∧ Q (.str (Txt.join a ys)) H
/-! ### sides -/
theorem cp60 : CPow 10 60 := ⟨by decide, by decide, by decide⟩
theorem cp18 : CPow 10 18 := ⟨by decide, by decide, by decide⟩
theorem cp61 : CPow 10 61 := ⟨by decide, by decide, by decide⟩
theorem cp20 : CPow 10 20 := ⟨by decide, by decide, by decide⟩
theorem cp30 : CPow 10 30 := ⟨by decide, by decide, by decide⟩
theorem cm60 : CMulW ((10 : Int) ^ (60 : Int).toNat) ((10 : Int) ^ (60 : Int).toNat) := by
  show _ < _
  decide +kernel
theorem ps60 : (0 : Int) < (10 : Int) ^ (60 : Int).toNat * (10 : Int) ^ (60 : Int).toNat := by decide +kernel
/-- what is drawn: as many as the limits, each from 0 on below its limit -/
def Drawn (ds ls : List Int) : Prop := ds.length = ls.length ∧ ∀ (i : Nat) (d l : Int), ds[i]? = some d → ls[i]? = some l → 0 ≤ d ∧ d < l
theorem Drawn.at {ds ls : List Int} (h : Drawn ds ls) {i : Nat} {l : Int} (e : ls[i]? = some l) : ∃ d, (ds.map V.int)[i]? = some (V.int d) ∧ ds[i]? = some d ∧ 0 ≤ d ∧ d < l := by
  have hi := (List.getElem?_eq_some_iff.mp e).1
  rw [← h.1] at hi
  refine ⟨ds[i], ?_, List.getElem?_eq_getElem hi, h.2 i _ l (List.getElem?_eq_getElem hi) e⟩
  rw [List.getElem?_map, List.getElem?_eq_getElem hi]
  rfl
theorem getV {ns : List Int} {i : Nat} (h : i < ns.length) : (ns.map V.int)[i]? = some (V.int ns[i]) := by
  rw [List.getElem?_map, List.getElem?_eq_getElem h]
  rfl
theorem getS {ns : List Str} {i : Nat} (h : i < ns.length) : (ns.map V.str)[i]? = some (V.str ns[i]) := by
  rw [List.getElem?_map, List.getElem?_eq_getElem h]
  rfl
/-- an index that is a number -/
theorem atI_k {xs : List V} {i : Int} {v : V} (k : Nat) (e : i = (k : Int)) (h : xs[k]? = some v) : atI xs i = some v := by
  subst e
  exact atI_nat h
theorem atI_k' {α : Type} {xs : List α} {i : Int} {v : α} (k : Nat) (e : i = (k : Int)) (h : xs[k]? = some v) : atI xs i = some v := by
  subst e
  exact atI_nat h
theorem ixN_nat {n p : Nat} (h : p < n) : ixN n (p : Int) = some p := by
  unfold ixN
  rw [if_pos (by omega), if_pos (by omega)]
  rfl
theorem _root_.L2.Same.upd {H : Hp} {p : Addr} {o : HO} (h : H p = none) : Same H (upd H p o) := fun b u e => by rw [upd_ne (ne_of_none e h)]; exact e
theorem _root_.L2.Same.up {H H1 : Hp} {p : Addr} {o : HO} (s : Same H H1) (h : H1 p = none) : Same H (L2.upd H1 p o) := s.trans (L2.Same.upd h)
/-- an object that is new with regard to H may be changed -/
theorem _root_.L2.Same.put {H H1 : Hp} {p : Addr} {o : HO} (s : Same H H1) (h : H p = none) : Same H (L2.upd H1 p o) := fun b u e => by rw [upd_ne (ne_of_none e h)]; exact s b u e

/-! ### len of an object with its own __len__ -/
def rLenOwn (C : Addr) (sp : Sp) : List V → Hp → VK → Prop := fun xs H Q => ∃ a dx fs, xs = [.ref a] ∧ H a = some (.ins C dx fs) ∧ sp [.ref a] H (fun v H' => ∃ n : Int, v = .int n ∧ (0 ≤ n ∧ n < 2 ^ 63) ∧ Q (.int n) H') E0
theorem call_lenR {X : Cx} {C : Addr} {k : Nat} {sp : Sp} (D : Me X.prog X.w X.K X.mg X.base C "__len__" k ["self"] sp) (hr : Room (k + 1) X.A) : CallR X (.builtin "len") (rLenOwn C sp) := by
  intro pins s σ H xs us Q I r h
  obtain ⟨a, dx, fs, rfl, ea, q⟩ := h
  obtain ⟨f, fd, c, hm, F, hb⟩ := D.ex
  cases r with
  | cons rv rn =>
    cases rn
    obtain rfl := (show _ = Value.ref a from rv)
    obtain ⟨mA, O, _⟩ := ins_get I.hok ea
    obtain ⟨od, J, _⟩ := O.look
    refine Calls.call_function_entry PySem.kind_len PySem.plain_len PySem.entry_len (PySem.args_len1 _) ?_
    unfold Builtin.«len»
    refine wpAny_bind (m := oneArg "len" _) (wpAny_pure ?_)
    refine wpAny_bind (m := callSpecial? (.ref a) (Str.ofString "__len__")) (PySem.W.special_fn I.kIn J hm.at_ (beq_iff_eq.mp hm.fn) ?_)
    refine wpAny_call (codeAny_mono (F.run X.A.in1 X.stack s H ⟨[.ref a], []⟩ [.ref a] [.ref a] _ E0 hr.in1 I.env0.in1 (hb _ [.ref a] I.kIn rfl) (.cons rfl .nil) q) fun r s' hq => ?_)
    cases r with
    | error e => exact False.elim hq
    | ok fl =>
      cases fl with
      | ret u =>
        obtain ⟨v, H', I3, rv, n, rfl, ⟨h0, h1⟩, q3⟩ := I.after hq
        obtain ⟨t, rfl⟩ := rv
        refine wpAny_bind (wpAny_holding (wpAny_pure ?_))
        refine wpAny_bind (wpAny_letGo ?_)
        show wpAny _ _ (if n < 0 then _ else _) _ _ _
        rw [if_neg (by omega)]
        show wpAny _ _ (if n ≥ 2 ^ 63 then _ else _) _ _ _
        rw [if_neg (by omega)]
        exact wpAny_bind (wpAny_mkInt (wpAny_pure ⟨_, rfl, ⟨.int n, H', I3.tok _, ⟨_, rfl⟩, q3⟩⟩))
      | next => exact False.elim hq
      | brk => exact False.elim hq
      | cont => exact False.elim hq
theorem atI_back {α : Type} {xs : List α} {v : α} (h : xs[xs.length - 1]? = some v) : atI xs (-1) = some v := by
  have hl := (List.getElem?_eq_some_iff.mp h).1
  unfold atI ixN
  rw [if_neg (by omega), if_pos (by omega)]
  show xs[((-1 : Int) + (xs.length : Int)).toNat]? = some v
  rw [show ((-1 : Int) + (xs.length : Int)).toNat = xs.length - 1 by omega]
  exact h
/-- what follows an if is shown once, for all that W says -/
theorem cutIf {b : Bool} {A : Prop} {D : Ends} {σ : St} {H : Hp} (W : St → Hp → Prop) (hT : ∀ σ' H', W σ' H' → D.nx σ' H') (hA : (∀ σ' H', W σ' H' → D.nx σ' H') → b = true → A) (hB : b = false → W σ H) : if b = true then A else tNext D σ H := by
  cases b with
  | true => exact hA hT rfl
  | false => exact hT σ H (hB rfl)
theorem cutIf2 {b : Bool} {A B : Prop} {D : Ends} (W : St → Hp → Prop) (hT : ∀ σ' H', W σ' H' → D.nx σ' H') (hA : (∀ σ' H', W σ' H' → D.nx σ' H') → b = true → A) (hB : (∀ σ' H', W σ' H' → D.nx σ' H') → b = false → B) : if b = true then A else B := by
  cases b with
  | true => exact hA hT rfl
  | false => exact hB hT rfl
/-- a new object -/
theorem nw {H H1 : Hp} {p : Addr} {o : HO} (e : upd H p o = H1) (h : H p = none) : Same H H1 ∧ H1 p = some o := by
  subst e
  exact ⟨L2.Same.upd h, upd_same⟩
theorem cutAnd {b : Bool} {A A2 : Prop} {D : Ends} {σ : St} {H : Hp} (W : St → Hp → Prop) (hT : ∀ σ' H', W σ' H' → D.nx σ' H') (hA : (∀ σ' H', W σ' H' → D.nx σ' H') → b = true → A) (hB : b = false → W σ H) :
    if b = true then A else (if false = true then A2 else tNext D σ H) := by
  cases b with
  | true => exact hA hT rfl
  | false => exact hT σ H (hB rfl)
/-- a power of a great number -/
def CPowW (i j : Int) : Prop := 0 ≤ j ∧ ∃ k : Nat, i.natAbs < 2 ^ k ∧ (k : Int) * j ≤ 2 ^ 27
theorem op_powW {X : Cx} : OpR X (binaryOp .Pow) (rI CPowW fun i j => .int (i ^ j.toNat)) := opI fun _ _ _ _ _ _ _ hc q => by
  obtain ⟨h0, k, hk, hz⟩ := hc
  refine PyProof.Rows.pow_int h0 (Int.le_trans (Int.mul_le_mul_of_nonneg_right (Int.ofNat_le.mpr (PyProof.Rows.intBits_le hk)) h0) hz) q
end Rg
/-! own mathematics: rows -/
namespace Rg
open PySem L2 TL

/-! ### how often one sign stands in a text -/
theorem cnt_run (x : Str) (c limit : Nat) : ∀ (m cur : Nat) (st : Array Nat × Nat), st.snd ≤ cur → st.fst.size + m ≤ limit →
    (forIn (List.range' cur m) st (StrLaws.occBody x ⟨#[c]⟩ x.length limit)).run.fst.size = st.fst.size + (((x.cps.toList).drop cur).take m).count c
  | 0, cur, st, h, _ => by simp
  | m + 1, cur, st, h, hl => by
    rw [List.range'_succ, List.forIn_cons]
    unfold StrLaws.occBody
    by_cases hc : x.cps.toList[cur]? = some c
    · have h2 := (StrLaws.subAt_one x c cur).mpr hc
      rw [if_pos ⟨⟨⟨by omega, h⟩, h2.1⟩, h2.2⟩]
      have ih := cnt_run x c limit m (cur + 1) (st.fst.push cur, cur + 1) (Nat.le_refl _) (by show (st.fst.push cur).size + m ≤ limit; rw [Array.size_push]; omega)
      obtain ⟨hlt, hget⟩ := List.getElem?_eq_some_iff.mp hc
      have e : (x.cps.toList.drop cur).take (m + 1) = c :: (x.cps.toList.drop (cur + 1)).take m := by
        rw [List.drop_eq_getElem_cons hlt, List.take_succ_cons, hget]
      refine Eq.trans ih ?_
      rw [e, List.count_cons_self]
      show (st.fst.push cur).size + _ = _
      rw [Array.size_push]
      omega
    · rw [if_neg fun z => hc ((StrLaws.subAt_one x c cur).mp ⟨z.1.2, z.2⟩)]
      have ih := cnt_run x c limit m (cur + 1) (st.fst, st.snd) (Nat.le_succ_of_le h) (by show st.fst.size + m ≤ limit; omega)
      refine Eq.trans ih ?_
      show st.fst.size + _ = _
      by_cases hlt : cur < x.cps.toList.length
      · have e : (x.cps.toList.drop cur).take (m + 1) = x.cps.toList[cur] :: (x.cps.toList.drop (cur + 1)).take m := by
          rw [List.drop_eq_getElem_cons hlt, List.take_succ_cons]
        have hne : ¬ (x.cps.toList[cur] == c) = true := fun z => hc (by rw [List.getElem?_eq_getElem hlt, beq_iff_eq.mp z])
        rw [e, List.count_cons_of_ne (fun z => hne (beq_iff_eq.mpr z))]
      · rw [List.drop_of_length_le (by omega), List.drop_of_length_le (by omega)]
        simp
theorem count_one (x : Str) (c : Nat) : Txt.count x ⟨#[c]⟩ = ((tl x).count c : Nat) := by
  show (((Builtin.Str.occurrences x ⟨#[c]⟩ 0 x.length (x.length + 1)).length : Nat) : Int) = _
  rw [StrLaws.occ_eq]
  have h := cnt_run x c (x.length + 1) (x.length + 1 - 0) 0 ((#[] : Array Nat), 0) (Nat.le_refl _) (by simp)
  rw [Array.length_toList, h]
  have e : ((x.cps.toList.drop 0).take (x.length + 1 - 0)) = x.cps.toList := by
    rw [List.drop_zero, List.take_of_length_le]
    show x.cps.toList.length ≤ x.cps.size + 1
    simp
  rw [e]
  simp [tl]

/-! ### rows -/
/-- the sign number i, modulo the length -/
def sg (l : List Nat) (i : Int) : Nat := l.getD (i % (l.length : Int)).toNat 0
def Signs (l : List Nat) : Prop := ∀ c ∈ l, c = 45 ∨ c = 46
structure Row (l : List Nat) : Prop where
  ne : 0 < l.length
  sgn : Signs l
  gap : ∀ i : Int, ¬ (sg l i = 45 ∧ sg l (i + 1) = 45)
theorem place_lt {l : List Nat} (h : 0 < l.length) (i : Int) : (i % (l.length : Int)).toNat < l.length := by
  have h1 := Int.emod_nonneg i (show (l.length : Int) ≠ 0 by omega)
  have h2 := Int.emod_lt_of_pos i (show (0 : Int) < l.length by omega)
  omega
theorem sg_get {l : List Nat} (h : 0 < l.length) (i : Int) : l[(i % (l.length : Int)).toNat]? = some (sg l i) := by
  unfold sg
  rw [List.getD_eq_getElem?_getD, List.getElem?_eq_getElem (place_lt h i)]
  rfl
theorem sg_nat {l : List Nat} {k : Nat} (h : k < l.length) : l[k]? = some (sg l (k : Int)) := by
  have e : ((k : Int) % (l.length : Int)).toNat = k := by
    rw [Int.emod_eq_of_lt (by omega) (by omega)]
    omega
  have q := sg_get (l := l) (by omega) (k : Int)
  rw [e] at q
  exact q
theorem sg_mem {l : List Nat} (h : 0 < l.length) (i : Int) : sg l i ∈ l := List.mem_of_getElem? (sg_get h i)
theorem sg_congr {l : List Nat} {i j : Int} (h : i % (l.length : Int) = j % (l.length : Int)) : sg l i = sg l j := by
  unfold sg
  rw [h]
theorem sg_add {l : List Nat} (i : Int) : sg l (i + (l.length : Int)) = sg l i := sg_congr (Int.add_emod_right i _)
theorem sg_first {l : List Nat} (h : 0 < l.length) : l[0]? = some (sg l 0) := sg_nat h
/-- what the program looks at: the signs and the first one behind them -/
theorem gap_iff {l : List Nat} (h : 0 < l.length) : (∀ i : Int, ¬ (sg l i = 45 ∧ sg l (i + 1) = 45)) ↔ ∀ i : Nat, ¬ ((l ++ l.take 1)[i]? = some 45 ∧ (l ++ l.take 1)[i + 1]? = some 45) := by
  have hn : ∀ k : Nat, k ≤ l.length → (l ++ l.take 1)[k]? = some (sg l (k : Int)) := fun k hk => by
    by_cases h1 : k < l.length
    · rw [List.getElem?_append_left h1]
      exact sg_nat h1
    · have e : k = l.length := by omega
      subst e
      rw [List.getElem?_append_right (Nat.le_refl _), Nat.sub_self, List.getElem?_take_of_lt (by omega), sg_first h]
      have q := sg_add (l := l) 0
      rw [Int.zero_add] at q
      rw [q]
  have hlen : (l ++ l.take 1).length = l.length + 1 := by
    rw [List.length_append, List.length_take]
    omega
  constructor
  · rintro g i ⟨h1, h2⟩
    have hi := (List.getElem?_eq_some_iff.mp h2).1
    rw [hlen] at hi
    rw [hn i (by omega)] at h1
    rw [hn (i + 1) (by omega)] at h2
    exact g (i : Int) ⟨Option.some.inj h1, by simpa using h2⟩
  · rintro g i ⟨h1, h2⟩
    have hp := place_lt h i
    have h0 := Int.emod_nonneg i (show (l.length : Int) ≠ 0 by omega)
    have e : (((i % (l.length : Int)).toNat : Nat) : Int) = i % (l.length : Int) := Int.toNat_of_nonneg h0
    have a1 : sg l (((i % (l.length : Int)).toNat : Nat) : Int) = sg l i := sg_congr (by rw [e, Int.emod_emod])
    have a2 : sg l ((((i % (l.length : Int)).toNat + 1 : Nat) : Nat) : Int) = sg l (i + 1) := sg_congr (by
      rw [Int.natCast_add, e]
      show (i % (l.length : Int) + 1) % (l.length : Int) = (i + 1) % (l.length : Int)
      rw [Int.emod_add_emod])
    refine g (i % (l.length : Int)).toNat ⟨?_, ?_⟩
    · rw [hn _ (by omega), a1, h1]
    · rw [hn _ (by omega), a2, h2]
theorem signs_count : ∀ l : List Nat, l.count 45 + l.count 46 ≤ l.length ∧ (l.count 45 + l.count 46 = l.length ↔ Signs l)
  | [] => ⟨by simp, by simp [Signs]⟩
  | a :: l => by
    obtain ⟨h1, h2⟩ := signs_count l
    by_cases e : a = 45
    · subst e
      rw [List.count_cons_self, List.count_cons_of_ne (by decide)]
      refine ⟨by simp; omega, ⟨fun h c hc => ?_, fun h => ?_⟩⟩
      · rcases List.mem_cons.mp hc with rfl | hc
        · exact .inl rfl
        · exact h2.mp (by simp at h; omega) c hc
      · have := h2.mpr fun c hc => h c (List.mem_cons_of_mem _ hc)
        simp; omega
    · by_cases e2 : a = 46
      · subst e2
        rw [List.count_cons_self, List.count_cons_of_ne (by decide)]
        refine ⟨by simp; omega, ⟨fun h c hc => ?_, fun h => ?_⟩⟩
        · rcases List.mem_cons.mp hc with rfl | hc
          · exact .inr rfl
          · exact h2.mp (by simp at h; omega) c hc
        · have := h2.mpr fun c hc => h c (List.mem_cons_of_mem _ hc)
          simp; omega
      · rw [List.count_cons_of_ne (fun z => e z), List.count_cons_of_ne (fun z => e2 z)]
        refine ⟨by simp; omega, ⟨fun h => ?_, fun h => ?_⟩⟩
        · simp at h; omega
        · rcases h a List.mem_cons_self with q | q
          · exact absurd q e
          · exact absurd q e2
/-- a list whose signs are those of a row, one after the other, at other places -/
theorem Row.move {l m : List Nat} (R : Row l) (hm : 0 < m.length) (f : Int → Int) (h : ∀ k : Nat, k < m.length → m[k]? = some (sg l (f k))) (hp : ∀ i : Int, sg l (f (i % (m.length : Int))) = sg l (f i)) (hs : ∀ i : Int, f (i + 1) = f i + 1 ∨ f (i + 1) = f i - 1) : Row m := by
  have key : ∀ i : Int, sg m i = sg l (f i) := fun i => by
    have h1 := sg_get hm i
    rw [h _ (place_lt hm i)] at h1
    have e : (((i % (m.length : Int)).toNat : Nat) : Int) = i % (m.length : Int) := Int.toNat_of_nonneg (Int.emod_nonneg i (by omega))
    rw [e, hp] at h1
    exact (Option.some.inj h1).symm
  refine ⟨hm, fun c hc => ?_, fun i ⟨h1, h2⟩ => ?_⟩
  · obtain ⟨k, hk, e⟩ := List.mem_iff_getElem.mp hc
    have q := h k hk
    rw [List.getElem?_eq_getElem hk, e] at q
    rw [Option.some.inj q]
    exact R.sgn _ (sg_mem R.ne _)
  · rw [key] at h1 h2
    rcases hs i with e | e
    · rw [e] at h2
      exact R.gap (f i) ⟨h1, h2⟩
    · rw [e] at h2
      exact R.gap (f i - 1) ⟨h2, by rw [Int.sub_add_cancel]; exact h1⟩
theorem rep_length (n : Nat) (l : List Nat) : ((List.replicate n l).flatten).length = n * l.length := by simp
theorem rep_get {l : List Nat} (hl : 0 < l.length) : ∀ (n k : Nat), k < n * l.length → ((List.replicate n l).flatten)[k]? = some (sg l (k : Int))
  | 0, k, h => by omega
  | n + 1, k, h => by
    rw [List.replicate_succ, List.flatten_cons]
    by_cases h1 : k < l.length
    · rw [List.getElem?_append_left h1]
      exact sg_nat h1
    · rw [List.getElem?_append_right (by omega), rep_get hl n (k - l.length) (by rw [Nat.succ_mul] at h; omega)]
      have e : ((k : Int)) = ((k - l.length : Nat) : Int) + (l.length : Int) := by omega
      rw [e, sg_add]
theorem Row.rep {l : List Nat} (R : Row l) {n : Nat} (hn : 0 < n) : Row (List.replicate n l).flatten := by
  have hlen := rep_length n l
  refine R.move (f := id) (by rw [hlen]; exact Nat.mul_pos hn R.ne) (fun k hk => rep_get R.ne n k (by rw [← hlen]; exact hk)) (fun i => sg_congr ?_) (fun i => .inl rfl)
  show (i % _) % _ = i % _
  rw [hlen]
  refine Int.emod_emod_of_dvd i ?_
  exact ⟨(n : Int), by rw [Int.natCast_mul, Int.mul_comm]⟩
/-- one sign becomes a point -/
theorem Row.dot {l : List Nat} (R : Row l) (p : Nat) : Row (l.set p 46) := by
  have hlen : (l.set p 46).length = l.length := List.length_set
  have key : ∀ i : Int, sg (l.set p 46) i = 46 ∨ sg (l.set p 46) i = sg l i := fun i => by
    unfold sg
    rw [hlen, List.getD_eq_getElem?_getD, List.getD_eq_getElem?_getD, List.getElem?_set]
    by_cases e : p = (i % (l.length : Int)).toNat
    · rw [if_pos e]
      by_cases h2 : p < l.length
      · rw [if_pos h2]
        exact .inl rfl
      · have := place_lt R.ne i
        omega
    · rw [if_neg e]
      exact .inr rfl
  refine ⟨by rw [hlen]; exact R.ne, fun c hc => ?_, fun i ⟨h1, h2⟩ => ?_⟩
  · rcases List.mem_or_eq_of_mem_set hc with h | h
    · exact R.sgn c h
    · exact .inr h
  · rcases key i with e | e
    · omega
    · rcases key (i + 1) with e2 | e2
      · omega
      · exact R.gap i ⟨by omega, by omega⟩
end Rg
namespace Rg
open PySem L2 TL
theorem take2_drop {l : List Nat} {a b i : Nat} : ((l.drop i).take 2 == [a, b]) = true ↔ l[i]? = some a ∧ l[i + 1]? = some b := by
  have e0 : l[i]? = (l.drop i)[0]? := by rw [List.getElem?_drop]; rfl
  have e1 : l[i + 1]? = (l.drop i)[1]? := by rw [List.getElem?_drop]
  rw [e0, e1, beq_iff_eq]
  cases l.drop i with
  | nil => simp
  | cons x r =>
    cases r with
    | nil => simp
    | cons y r => simp
theorem tl_dd : tl (Str.ofString "--") = [45, 45] := by decide +kernel
theorem dd_iff (y : Str) : (!(Builtin.Str.occurrences y (Str.ofString "--") 0 y.length 1).isEmpty) = true ↔ ∃ i, (tl y)[i]? = some 45 ∧ (tl y)[i + 1]? = some 45 := by
  rw [StrLaws.found_iff]
  have hl : (Str.ofString "--").length = 2 := by decide +kernel
  constructor
  · rintro ⟨i, _, h⟩
    rw [StrLaws.subAt_eq, hl, show (Str.ofString "--").cps.toList = [45, 45] from tl_dd] at h
    exact ⟨i, take2_drop.mp h⟩
  · rintro ⟨i, h⟩
    refine ⟨i, ?_, ?_⟩
    · have := (List.getElem?_eq_some_iff.mp h.2).1
      rw [hl, len_tl]
      omega
    · rw [StrLaws.subAt_eq, hl, show (Str.ofString "--").cps.toList = [45, 45] from tl_dd]
      exact take2_drop.mpr h
/-- what the program asks of a text is that it be a row -/
theorem row_asked {z : Str} {c : Nat} (h0 : 0 < (tl z).length) (hs : (tl z).count 45 + (tl z).count 46 = (tl z).length) (hc : (tl z)[0]? = some c) :
    (!(!(Builtin.Str.occurrences (z ++ (⟨#[c]⟩ : Str)) (Str.ofString "--") 0 (z ++ (⟨#[c]⟩ : Str)).length 1).isEmpty)) = true ↔ Row (tl z) := by
  have e : tl (z ++ (⟨#[c]⟩ : Str)) = tl z ++ (tl z).take 1 := by
    rw [tl_append]
    congr 1
    cases h : tl z with
    | nil => rw [h] at h0; simp at h0
    | cons x r =>
      rw [h] at hc
      have : x = c := by simpa using hc
      subst this
      rfl
  have d := dd_iff (z ++ (⟨#[c]⟩ : Str))
  rw [e] at d
  have g := gap_iff h0
  constructor
  · intro h
    refine ⟨h0, (signs_count _).2.mp hs, g.mpr fun i q => ?_⟩
    have := d.mpr ⟨i, q⟩
    rw [this] at h
    exact absurd h (by decide)
  · intro R
    cases q : (!(Builtin.Str.occurrences (z ++ (⟨#[c]⟩ : Str)) (Str.ofString "--") 0 (z ++ (⟨#[c]⟩ : Str)).length 1).isEmpty) with
    | false => rfl
    | true =>
      obtain ⟨i, hi⟩ := d.mp q
      exact absurd hi (g.mp R.gap i)
end Rg
namespace Rg
open PySem L2 TL
/-! ### a row that grows sign by sign -/
structure Part (n : Nat) (l : List Nat) : Prop where
  sgn : Signs l
  gap : ∀ i : Nat, ¬ (l[i]? = some 45 ∧ l[i + 1]? = some 45)
  fin : l.length = n → ¬ (l[n - 1]? = some 45 ∧ l[0]? = some 45)
theorem Part.nil {n : Nat} (h : 0 < n) : Part n [] := ⟨fun _ h => (nomatch h), fun i h => by simp at h, fun e => by simp at e; omega⟩
theorem Part.add {n : Nat} {l : List Nat} {c : Nat} (p : Part n l) (hc : c = 45 ∨ c = 46) (h1 : c = 45 → l.getLast? ≠ some 45) (h2 : c = 45 → l.length + 1 = n → n ≠ 1 ∧ l[0]? ≠ some 45) : Part n (l ++ [c]) := by
  refine ⟨fun x hx => ?_, fun i ⟨g1, g2⟩ => ?_, fun e ⟨g1, g2⟩ => ?_⟩
  · rcases List.mem_append.mp hx with h | h
    · exact p.sgn x h
    · rw [List.mem_singleton.mp h]
      exact hc
  · have hi := (List.getElem?_eq_some_iff.mp g2).1
    rw [List.length_append, List.length_singleton] at hi
    by_cases hl : i + 1 < l.length
    · rw [List.getElem?_append_left (by omega)] at g1
      rw [List.getElem?_append_left hl] at g2
      exact p.gap i ⟨g1, g2⟩
    · have e : i + 1 = l.length := by omega
      rw [List.getElem?_append_left (by omega)] at g1
      rw [e, List.getElem?_append_right (Nat.le_refl _), Nat.sub_self] at g2
      have ec : c = 45 := by simpa using g2
      refine h1 ec ?_
      rw [List.getLast?_eq_getElem?, show l.length - 1 = i by omega]
      exact g1
  · rw [List.length_append, List.length_singleton] at e
    rw [List.getElem?_append_right (by omega), show n - 1 - l.length = 0 by omega] at g1
    have ec : c = 45 := by simpa using g1
    obtain ⟨a1, a2⟩ := h2 ec e
    rw [List.getElem?_append_left (by omega)] at g2
    exact a2 g2
theorem Part.row {n : Nat} {l : List Nat} (p : Part n l) (e : l.length = n) (h : 0 < n) : Row l := by
  subst e
  refine ⟨h, p.sgn, (gap_iff h).mpr fun i ⟨g1, g2⟩ => ?_⟩
  have hi := (List.getElem?_eq_some_iff.mp g2).1
  rw [List.length_append, List.length_take] at hi
  rw [List.getElem?_append_left (by omega)] at g1
  by_cases hl : i + 1 < l.length
  · rw [List.getElem?_append_left hl] at g2
    exact p.gap i ⟨g1, g2⟩
  · have e : i + 1 = l.length := by omega
    rw [e, List.getElem?_append_right (Nat.le_refl _), Nat.sub_self, List.getElem?_take_of_lt (by omega)] at g2
    exact p.fin rfl ⟨by rw [show l.length - 1 = i by omega]; exact g1, g2⟩
theorem cut_last {z : Str} {c : Nat} (h : (tl z).getLast? = some c) : cutS z (some (-1)) none = ⟨#[c]⟩ := by
  refine ext_tl ?_
  show ((tl z).drop (HT.sIx z.length 0 (some (-1)))).take (HT.sIx z.length z.length none - HT.sIx z.length 0 (some (-1))) = [c]
  have e1 : HT.sIx z.length 0 (some (-1)) = z.length - 1 := by
    show (if (-1 : Int) < 0 then ((-1 : Int) + (z.length : Int)).toNat else min (-1 : Int).toNat z.length) = _
    rw [if_pos (by decide)]
    omega
  have e2 : HT.sIx z.length z.length none = z.length := rfl
  rw [e1, e2, len_tl]
  rw [List.getLast?_eq_getElem?] at h
  obtain ⟨hl, hg⟩ := List.getElem?_eq_some_iff.mp h
  rw [List.drop_eq_getElem_cons hl, hg, show (tl z).length - ((tl z).length - 1) = 1 by omega]
  rfl
/-- the rows of a rule, n signs each -/
structure Rows (n : Nat) (ls : List Str) : Prop where
  ne : 0 < ls.length
  len : ∀ z ∈ ls, (tl z).length = n
  row : ∀ z ∈ ls, Row (tl z)
theorem Rows.pos {n : Nat} {ls : List Str} (h : Rows n ls) : 0 < n := by
  have e := List.getElem_mem h.ne
  rw [← h.len _ e]
  exact (h.row _ e).ne
end Rg
namespace Rg
open PySem L2 TL
/-- a text k times -/
def repS (k : Nat) (z : Str) : Str := ⟨((List.replicate k (tl z)).flatten).toArray⟩
theorem tl_repS (k : Nat) (z : Str) : tl (repS k z) = (List.replicate k (tl z)).flatten := rfl
theorem Rows.mapRep {n k : Nat} {ls : List Str} (R : Rows n ls) (hk : 0 < k) : Rows (k * n) (ls.map (repS k)) := by
  refine ⟨by rw [List.length_map]; exact R.ne, fun z hz => ?_, fun z hz => ?_⟩
  all_goals obtain ⟨y, hy, rfl⟩ := List.mem_map.mp hz
  · rw [tl_repS, rep_length, R.len y hy]
  · rw [tl_repS]
    exact (R.row y hy).rep hk
theorem mem_rep {α : Type} {k : Nat} {l : List α} {x : α} (h : x ∈ (List.replicate k l).flatten) : x ∈ l := by
  rw [List.mem_flatten] at h
  obtain ⟨m, h1, h2⟩ := h
  rw [(List.mem_replicate.mp h1).2] at h2
  exact h2
theorem Rows.many {n k : Nat} {ls : List Str} (R : Rows n ls) (hk : 0 < k) : Rows n (List.replicate k ls).flatten :=
  ⟨by rw [show (List.replicate k ls).flatten.length = k * ls.length by simp]; exact Nat.mul_pos hk R.ne, fun z hz => R.len z (mem_rep hz), fun z hz => R.row z (mem_rep hz)⟩
theorem Rows.set {n : Nat} {ls : List Str} (R : Rows n ls) (p : Nat) {z : Str} (h : (tl z).length = n) (hr : Row (tl z)) : Rows n (ls.set p z) :=
  ⟨by rw [List.length_set]; exact R.ne, fun y hy => (List.mem_or_eq_of_mem_set hy).elim (R.len y) fun e => by rw [e]; exact h, fun y hy => (List.mem_or_eq_of_mem_set hy).elim (R.row y) fun e => by rw [e]; exact hr⟩
theorem rep_map {α β : Type} (f : α → β) (k : Nat) (l : List α) : (List.replicate k (l.map f)).flatten = (List.replicate k l).flatten.map f := by
  rw [List.map_flatten, List.map_replicate]
theorem rep_len' {α : Type} (k : Nat) (l : List α) : (List.replicate k l).flatten.length = k * l.length := by simp
theorem sIx_nat {n d p : Nat} : HT.sIx n d (some (p : Int)) = min p n := by
  show (if (p : Int) < 0 then ((p : Int) + (n : Int)).toNat else min (p : Int).toNat n) = _
  rw [if_neg (by omega)]
  rfl
/-- z[:p] + '.' + z[p + 1:] -/
theorem cut_dot {z s : Str} {p : Nat} (hs : tl s = [46]) (h : p < (tl z).length) : tl (cutS z none (some (p : Int)) ++ s ++ cutS z (some ((p : Int) + 1)) none) = (tl z).set p 46 := by
  rw [tl_append, tl_append, hs]
  have e1 : tl (cutS z none (some (p : Int))) = (tl z).take p := by
    show ((tl z).drop (HT.sIx z.length 0 none)).take (HT.sIx z.length z.length (some (p : Int)) - HT.sIx z.length 0 none) = _
    rw [sIx_nat]
    show ((tl z).drop 0).take (min p z.length - 0) = _
    rw [List.drop_zero, Nat.sub_zero, len_tl, Nat.min_eq_left (Nat.le_of_lt h)]
  have e2 : tl (cutS z (some ((p : Int) + 1)) none) = (tl z).drop (p + 1) := by
    show ((tl z).drop (HT.sIx z.length 0 (some ((p : Int) + 1)))).take (HT.sIx z.length z.length none - HT.sIx z.length 0 (some ((p : Int) + 1))) = _
    rw [show ((p : Int) + 1) = ((p + 1 : Nat) : Int) from rfl, sIx_nat]
    show ((tl z).drop (min (p + 1) z.length)).take (z.length - min (p + 1) z.length) = _
    rw [len_tl, Nat.min_eq_left (by omega), List.take_of_length_le (by rw [List.length_drop]; exact Nat.le_refl _)]
  rw [e1, e2, List.set_eq_take_append_cons_drop, if_pos h, List.append_assoc]
  rfl
theorem Rows.lenS {n : Nat} {ls : List Str} (R : Rows n ls) {z : Str} (h : z ∈ ls) : z.length = n := by rw [len_tl]; exact R.len z h
theorem take_snoc {α β : Type} {f : α → β} {ls : List α} {i : Nat} (h : i < ls.length) : (ls.take (i + 1)).map f = (ls.take i).map f ++ [f ls[i]] := by
  rw [List.take_add_one, List.getElem?_eq_getElem h, List.map_append]
  rfl
end Rg
/-! own words: == of own objects and of lists of texts -/
namespace Rg
open PySem L2 TL
theorem dp_strs {K : PySem.W.Frag} {H : Hp} : ∀ ls : List Str, DpAll K H (ls.map V.str) (ls.map PyData.str)
  | [] => .nil
  | z :: ls => .cons (.str z) (dp_strs ls)
theorem eqvAll_strs : ∀ ls ms : List Str, PyData.eqvAll (ls.map PyData.str) (ms.map PyData.str) = decide (ls = ms)
  | [], [] => rfl
  | [], _ :: _ => rfl
  | _ :: _, [] => rfl
  | x :: ls, y :: ms => by
    show (PyData.eqv (.str x) (.str y) && PyData.eqvAll (ls.map PyData.str) (ms.map PyData.str)) = _
    rw [eqvAll_strs ls ms]
    show ((x == y) && decide (ls = ms)) = _
    by_cases h1 : x = y
    · subst h1
      by_cases h2 : ls = ms
      · subst h2
        simp
      · rw [decide_eq_false h2, decide_eq_false fun e => h2 (List.cons.inj e).2]
        simp
    · rw [decide_eq_false fun e => h1 (List.cons.inj e).1, beq_eq_false_iff_ne.mpr h1]
      rfl
theorem eqv_tup (ls ms : List Str) : PyData.eqv (.tuple (ls.map PyData.str)) (.tuple (ms.map PyData.str)) = decide (ls = ms) := eqvAll_strs ls ms
theorem eqv_lst (ls ms : List Str) : PyData.eqv (.list (ls.map PyData.str)) (.list (ms.map PyData.str)) = decide (ls = ms) := eqvAll_strs ls ms
theorem depth_strs : ∀ ls : List Str, PyData.depthAll (ls.map PyData.str) ≤ 1
  | [] => Nat.zero_le _
  | z :: ls => by
    have ih := depth_strs ls
    simp only [List.map_cons, PyData.depthAll, PyData.depth]
    omega
theorem lay_strs : ∀ ls : List Str, (∀ z ∈ ls, Signs (tl z)) → PyData.canLayAll0 (ls.map PyData.str) = true
  | [], _ => rfl
  | z :: ls, h => by
    have ih := lay_strs ls fun y hy => h y (List.mem_cons_of_mem _ hy)
    show (PyData.strOk z && PyData.canLayAll0 (ls.map PyData.str)) = true
    rw [ih, Bool.and_true]
    show (z.cps.all fun x => decide (x < 0x110000)) = true
    rw [← Array.all_toList, List.all_eq_true]
    intro c hc
    rcases h z List.mem_cons_self c hc with e | e
    · rw [e]; rfl
    · rw [e]; rfl
theorem shaped_tup {ls : List Str} (h : ∀ z ∈ ls, Signs (tl z)) : SeqAt.shaped (.tuple (ls.map PyData.str)) = true := by
  have h1 := lay_strs ls h
  have h2 := depth_strs ls
  show (PyData.canLayAll0 (ls.map PyData.str) && decide (PyData.depth (.tuple (ls.map PyData.str)) ≤ 64)) = true
  rw [h1, Bool.true_and, decide_eq_true_eq]
  simp only [PyData.depth]
  omega
theorem shaped_lst {ls : List Str} (h : ∀ z ∈ ls, Signs (tl z)) : SeqAt.shaped (.list (ls.map PyData.str)) = true := by
  have h1 := lay_strs ls h
  have h2 := depth_strs ls
  show (PyData.canLayAll0 (ls.map PyData.str) && decide (PyData.depth (.list (ls.map PyData.str)) ≤ 64)) = true
  rw [h1, Bool.true_and, decide_eq_true_eq]
  simp only [PyData.depth]
  omega
theorem Rows.signs {n : Nat} {ls : List Str} (R : Rows n ls) : ∀ z ∈ ls, Signs (tl z) := fun z hz => (R.row z hz).sgn

/-! ### == of an object with its own __eq__ -/
def rEqOwn (K : PySem.W.Frag) (C : Addr) (sp : Sp) : R2 := fun x y H Q => ∃ a b dx dy fs gs, x = .ref a ∧ y = .ref b ∧ H a = some (.ins C dx fs) ∧ H b = some (.ins C dy gs) ∧ sp [.ref a, .ref b] H (fun v H' => ∃ k : Bool, v = .bl k ∧ Q (.bl k) H') E0
theorem op_eqOwn {X : Cx} {C : Addr} {n : Nat} {sp : Sp} (D : Me X.prog X.w X.K X.mg X.base C "__eq__" n ["self", "other"] sp) (hr : Room n X.A) : OpR X (compareOp .Eq) (rEqOwn X.K C sp) := by
  intro pins s σ H x y v u Q I rx ry h
  obtain ⟨a, b, dx, dy, fs, gs, rfl, rfl, ha, hb', q⟩ := h
  obtain ⟨f, fd, c, hm, F, hb⟩ := D.ex
  cases rx
  cases ry
  show wpAny (model X.prog X.w) X.A (richCompare .Eq (.ref a) (.ref b)) (EP X pins σ Q) X.xe s
  obtain ⟨mA, J, _⟩ := ins_get I.hok ha
  obtain ⟨mB, J', _⟩ := ins_get I.hok hb'
  obtain ⟨od, J, _⟩ := J.look
  obtain ⟨od', J', _⟩ := J'.look
  obtain ⟨m, hF⟩ := I.fr
  refine PySem.W.cmp_K (op := .Eq) (tb := .ref C) hr.units0 hF I.ok.mod.kin J J'.type (by simp [PySem.W.notFirst]) hm.at_ hm.fn ?_
  refine wpAny_call (codeAny_mono (F.run X.A X.stack s H ⟨[.ref a, .ref b], []⟩ [.ref a, .ref b] [.ref a, .ref b] _ E0 hr I.env0 (hb s [.ref a, .ref b] I.kIn rfl) (.cons rfl (.cons rfl .nil)) q) fun r s' hq => ?_)
  cases r with
  | error e => exact False.elim hq
  | ok fl =>
    cases fl with
    | ret w =>
      obtain ⟨z, H', I', rz, k, rfl, q'⟩ := I.after hq
      cases rz
      exact ⟨.bl k, H', I', rfl, q'⟩
    | next => exact False.elim hq
    | brk => exact False.elim hq
    | cont => exact False.elim hq
end Rg
/-! own mathematics: rows moved and mirrored -/
namespace Rg
open PySem L2 TL
/-- the list whose sign number i is the one with the number f i of l -/
def pick (l : List Nat) (f : Int → Int) : List Nat := (List.range l.length).map fun i : Nat => sg l (f (i : Int))
theorem pick_len (l : List Nat) (f : Int → Int) : (pick l f).length = l.length := by unfold pick; simp
theorem pick_get {l : List Nat} {f : Int → Int} {k : Nat} (h : k < l.length) : (pick l f)[k]? = some (sg l (f (k : Int))) := by
  unfold pick
  rw [List.getElem?_map, List.getElem?_range h]
  rfl
theorem pick_eq {l m : List Nat} {f : Int → Int} (hl : m.length = l.length) (h : ∀ k : Nat, k < l.length → m[k]? = some (sg l (f (k : Int)))) : m = pick l f := by
  refine List.ext_getElem? fun k => ?_
  by_cases hk : k < l.length
  · rw [h k hk, pick_get hk]
  · rw [List.getElem?_eq_none (by omega), List.getElem?_eq_none (by rw [pick_len]; omega)]
theorem pick_congr {l : List Nat} {f g : Int → Int} (h : ∀ k : Nat, k < l.length → sg l (f (k : Int)) = sg l (g (k : Int))) : pick l f = pick l g := by
  refine pick_eq (pick_len l f) fun k hk => ?_
  rw [pick_get hk, h k hk]
/-- what is asked of f: a step on is a step on or back, and it goes round with the length -/
structure Mv (n : Nat) (f : Int → Int) : Prop where
  step : ∀ i : Int, f (i + 1) = f i + 1 ∨ f (i + 1) = f i - 1
  round : ∀ i : Int, f (i % (n : Int)) % (n : Int) = f i % (n : Int)
theorem sg_pick {l : List Nat} (h0 : 0 < l.length) {f : Int → Int} (m : Mv l.length f) (i : Int) : sg (pick l f) i = sg l (f i) := by
  have hm : 0 < (pick l f).length := by rw [pick_len]; exact h0
  have h1 := sg_get hm i
  have hp := place_lt hm i
  rw [pick_len] at h1 hp
  rw [pick_get hp] at h1
  have e : (((i % (l.length : Int)).toNat : Nat) : Int) = i % (l.length : Int) := Int.toNat_of_nonneg (Int.emod_nonneg i (by omega))
  rw [e] at h1
  rw [← Option.some.inj h1]
  exact sg_congr (m.round i)
theorem Row.pick {l : List Nat} (R : Row l) {f : Int → Int} (m : Mv l.length f) : Row (pick l f) :=
  R.move (by rw [pick_len]; exact R.ne) f (fun k hk => pick_get (by rw [pick_len] at hk; exact hk)) (fun i => by rw [pick_len]; exact sg_congr (m.round i)) m.step
theorem mv_sub (n : Nat) (b : Int) : Mv n fun i => i - b :=
  ⟨fun i => .inl (by show i + 1 - b = i - b + 1; omega), fun i => by show (i % (n : Int) - b) % (n : Int) = (i - b) % (n : Int); rw [Int.sub_eq_add_neg, Int.emod_add_emod, Int.sub_eq_add_neg]⟩
theorem mv_mir (n : Nat) (b : Int) : Mv n fun i => b - i := by
  refine ⟨fun i => .inr (by show b - (i + 1) = b - i - 1; omega), fun i => ?_⟩
  show (b - i % (n : Int)) % (n : Int) = (b - i) % (n : Int)
  rw [Int.sub_emod, Int.emod_emod, ← Int.sub_emod]
theorem pick_pick {l : List Nat} (h0 : 0 < l.length) {f g : Int → Int} (m : Mv l.length f) : pick (pick l f) g = pick l fun i => f (g i) := by
  refine pick_eq (by rw [pick_len, pick_len]) fun k hk => ?_
  rw [pick_get (by rw [pick_len]; exact hk), sg_pick h0 m]
theorem pick_id {l : List Nat} {f : Int → Int} (h : ∀ i : Int, f i % (l.length : Int) = i % (l.length : Int)) : pick l f = l := by
  refine (pick_eq rfl fun k hk => ?_).symm
  rw [sg_nat hk, sg_congr (h k)]
/-- a row moved to the right -/
def rotS (b : Int) (z : Str) : Str := ⟨(pick (tl z) fun i => i - b).toArray⟩
/-- a row seen from the other side -/
def mirS (b : Int) (z : Str) : Str := ⟨(pick (tl z) fun i => b - i).toArray⟩
theorem tl_rotS (b : Int) (z : Str) : tl (rotS b z) = pick (tl z) fun i => i - b := rfl
theorem tl_mirS (b : Int) (z : Str) : tl (mirS b z) = pick (tl z) fun i => b - i := rfl
theorem Rows.map {n : Nat} {ls : List Str} (R : Rows n ls) {g : Str → Str} (hl : ∀ z, (tl (g z)).length = (tl z).length) (hr : ∀ z, Row (tl z) → Row (tl (g z))) : Rows n (ls.map g) := by
  refine ⟨by rw [List.length_map]; exact R.ne, fun z hz => ?_, fun z hz => ?_⟩
  all_goals obtain ⟨y, hy, rfl⟩ := List.mem_map.mp hz
  · rw [hl, R.len y hy]
  · exact hr y (R.row y hy)
theorem Rows.rot {n : Nat} {ls : List Str} (R : Rows n ls) (b : Int) : Rows n (ls.map (rotS b)) :=
  R.map (g := rotS b) (fun z => by rw [tl_rotS, pick_len]) fun z h => by rw [tl_rotS]; exact h.pick (mv_sub _ b)
theorem Rows.mir {n : Nat} {ls : List Str} (R : Rows n ls) (b : Int) : Rows n (ls.map (mirS b)) :=
  R.map (g := mirS b) (fun z => by rw [tl_mirS, pick_len]) fun z h => by rw [tl_mirS]; exact h.pick (mv_mir _ b)
theorem rot_rot {n : Nat} {ls : List Str} (R : Rows n ls) (a b : Int) : (ls.map (rotS a)).map (rotS b) = ls.map (rotS (a + b)) := by
  rw [List.map_map]
  refine List.map_congr_left fun z hz => ext_tl ?_
  show tl (rotS b (rotS a z)) = _
  rw [tl_rotS, tl_rotS, tl_rotS, pick_pick (R.row z hz).ne (mv_sub _ a)]
  refine pick_congr fun k _ => ?_
  show sg (tl z) ((k : Int) - b - a) = sg (tl z) ((k : Int) - (a + b))
  congr 1
  omega
theorem rot_width {n : Nat} {ls : List Str} (R : Rows n ls) : ls.map (rotS (n : Int)) = ls := by
  refine Eq.trans (List.map_congr_left fun z hz => ?_) (List.map_id ls)
  refine ext_tl ?_
  rw [tl_rotS]
  refine pick_id fun i => ?_
  rw [R.len z hz]
  exact Int.sub_emod_right i _
theorem mir_mir {n : Nat} {ls : List Str} (R : Rows n ls) (a b : Int) : (ls.map (mirS a)).map (mirS b) = ls.map (rotS (b - a)) := by
  rw [List.map_map]
  refine List.map_congr_left fun z hz => ext_tl ?_
  show tl (mirS b (mirS a z)) = _
  rw [tl_mirS, tl_mirS, tl_rotS, pick_pick (R.row z hz).ne (mv_mir _ a)]
  refine pick_congr fun k _ => ?_
  show sg (tl z) (a - (b - (k : Int))) = sg (tl z) ((k : Int) - (b - a))
  congr 1
  omega
/-- what the program does: the part from a cut on, and the part before it -/
theorem cut_rot {z : Str} {b : Int} {c : Nat} (h0 : 0 < (tl z).length) (hc : ((-b) % ((tl z).length : Int)) = (c : Int)) : cutS z (some (c : Int)) none ++ cutS z none (some (c : Int)) = rotS b z := by
  refine ext_tl ?_
  rw [tl_append, tl_rotS]
  have hlt : c < (tl z).length := by
    have := Int.emod_lt_of_pos (-b) (show (0 : Int) < (tl z).length by omega)
    omega
  have e1 : tl (cutS z none (some (c : Int))) = (tl z).take c := by
    show ((tl z).drop (HT.sIx z.length 0 none)).take (HT.sIx z.length z.length (some (c : Int)) - HT.sIx z.length 0 none) = _
    rw [sIx_nat]
    show ((tl z).drop 0).take (min c z.length - 0) = _
    rw [List.drop_zero, Nat.sub_zero, len_tl, Nat.min_eq_left (Nat.le_of_lt hlt)]
  have e2 : tl (cutS z (some (c : Int)) none) = (tl z).drop c := by
    show ((tl z).drop (HT.sIx z.length 0 (some (c : Int)))).take (HT.sIx z.length z.length none - HT.sIx z.length 0 (some (c : Int))) = _
    rw [sIx_nat]
    show ((tl z).drop (min c z.length)).take (z.length - min c z.length) = _
    rw [len_tl, Nat.min_eq_left (by omega), List.take_of_length_le (by rw [List.length_drop]; exact Nat.le_refl _)]
  rw [e1, e2]
  have hb : ∀ k : Int, sg (tl z) (k - b) = sg (tl z) (k + (c : Int)) := fun k => sg_congr (by
    rw [← hc, Int.add_emod_emod, Int.sub_eq_add_neg])
  refine pick_eq (by rw [List.length_append, List.length_drop, List.length_take]; omega) fun k hk => ?_
  rw [hb]
  by_cases h1 : k < (tl z).length - c
  · rw [List.getElem?_append_left (by rw [List.length_drop]; exact h1), List.getElem?_drop, sg_nat (by omega)]
    congr 2
    omega
  · rw [List.getElem?_append_right (by rw [List.length_drop]; omega), List.length_drop, List.getElem?_take_of_lt (by omega), sg_nat (by omega)]
    congr 1
    rw [← sg_add]
    congr 1
    omega
theorem atI_sg {l : List Nat} (h : 0 < l.length) (i : Int) : atI l (i % (l.length : Int)) = some (sg l i) := by
  have e : (((i % (l.length : Int)).toNat : Nat) : Int) = i % (l.length : Int) := Int.toNat_of_nonneg (Int.emod_nonneg i (by omega))
  rw [← e]
  exact atI_nat (sg_get h i)
theorem joinL_flat : ∀ parts : List (List Nat), joinL [] parts = parts.flatten
  | [] => rfl
  | [p] => by show p = [p].flatten; simp
  | p :: q :: r => by
    show p ++ ([] ++ joinL [] (q :: r)) = _
    rw [joinL_flat (q :: r)]
    simp
theorem join_singles (l : List Nat) : Txt.join (Str.ofString "") (l.map fun c => (⟨#[c]⟩ : Str)) = ⟨l.toArray⟩ := by
  refine ext_tl ?_
  rw [join_eq, tl_join, show tl (Str.ofString "") = [] by decide +kernel, joinL_flat, List.map_map]
  show (l.map fun c => [c]).flatten = l
  induction l with
  | nil => rfl
  | cons a l ih => rw [List.map_cons, List.flatten_cons, ih]; rfl
theorem sum_singles (l : List Nat) : ((l.map fun c => (⟨#[c]⟩ : Str)).map (·.length)).sum = l.length := by
  induction l with
  | nil => rfl
  | cons a l ih =>
    rw [List.map_cons, List.map_cons, List.sum_cons, ih, List.length_cons]
    show 1 + l.length = l.length + 1
    omega
/-- whether the sign with this number is a stroke -/
def rungB (z : Str) (q : Int) : Bool := decide (V.str (⟨#[sg (tl z) q]⟩ : Str) = V.str (Str.ofString "-"))
end Rg
/-! own words: errors of own classes, raised and caught -/
namespace Rg
open PySem L2 TL
open PyProof.Rows hiding St

/-! ### calls that may let an error out -/
structure DfX (P : Program) (w : World) (K : PySem.W.Frag) (mg : Str → Option Value) (base : Heap) (x : Str) (k : Nat) (ps : List Str) (sp : Sp) : Prop where
  ex : ∃ f fd, mg x = some (.ref f) ∧ FnOk P w K mg base (L2.CX P w) k f fd ps sp ∧ PySem.W.keepIn K (.ref f) = true ∧ Binds K fd ps []
structure MeX (P : Program) (w : World) (K : PySem.W.Frag) (mg : Str → Option Value) (base : Heap) (C : Addr) (x : Str) (k : Nat) (ps : List Str) (sp : Sp) : Prop where
  ex : ∃ f fd, Cls K C ∧ Meth K C x f ∧ FnOk P w K mg base (L2.CX P w) k f fd ps sp ∧ Binds K fd ps []
structure MkrX (P : Program) (w : World) (K : PySem.W.Frag) (mg : Str → Option Value) (base : Heap) (x : Str) (C : Addr) (k : Nat) (ps : List Str) (sp : Sp) : Prop where
  ex : ∃ f fd, mg x = some (.ref C) ∧ Mk K C f ∧ FnOk P w K mg base (L2.CX P w) k f fd ps sp ∧ Binds K fd ps []
/-- what keeps its promise and lets nothing out -/
theorem calmFn {P : Program} {w : World} {K : PySem.W.Frag} {mg : Str → Option Value} {base : Heap} {k : Nat} {f : Addr} {fd : FuncData} {ps : List Str} {sp sp' : Sp} (F : FnOk P w K mg base (L2.CX P w) k f fd ps sp)
    (h : ∀ vs H Q E, sp' vs H Q E → sp vs H Q E0) : FnOk P w K mg base CX0 k f fd ps sp' :=
  ⟨fun vs H Q E z => F.len vs H Q E0 (h vs H Q E z), fun A outer s H args us vs Q E hr e b r z => codeAny_mono (F.run A outer s H args us vs Q E0 hr e b r (h vs H Q E z)) fun r s' q => by
    cases r with
    | error e =>
      obtain ⟨_, _, _, _, _, _, _, _, _, _, _, _, y⟩ := q
      exact y.elim
    | ok fl => cases fl <;> exact q⟩
section
variable {X : Cx} {W : WX} {x m : Str} {k : Nat} {C : Addr} {ps : List Str} {sp : Sp} {o e : Expr} {es : List Expr} {ta : TE} {t : TA} {p pos apos : Pos}
theorem pe_dfS (D : DfX X.prog X.w X.K X.mg X.base x k ps sp) (hr : Room k X.A) (hg : Gl X x) (tk : Takes X W) (ha : PA X (e :: es) t) (hdb : (x == ("__debug__" : Str)) = false := by decide)
    (he : starEach (e :: es) X.env = (false, eval e X.env) :: starEach es X.env := by rfl) (hpl : (backTo pos (starEach es X.env)).any (·.1) = false := by rfl) :
    PE X (.Call (.Name x p) (e :: es) [] pos) (tCallS sp (WE W) t) := by
  obtain ⟨f, fd, hm, F, hk, hb⟩ := D.ex
  exact pe_callS F hr hg hm hk hb (fun σ => passAt tk σ) ha hdb he hpl
/-- o.m(e, ..) that may let an error out -/
def tMethS (C : Addr) (m : Str) (sp : Sp) (W : WX) (ta : TE) (t : TA) : TE := fun σ H Q => ta σ H fun x H1 => ∃ a dx fs, x = .ref a ∧ H1 a = some (.ins C dx fs) ∧ fs.lookup m = none ∧ t σ H1 fun vs H2 => sp (.ref a :: vs) H2 Q (WE W σ)
theorem pe_meS {pl : Sem Bool} (he : PE X o ta) (D : MeX X.prog X.w X.K X.mg X.base C m k ps sp) (hr : Room k X.A) (tk : Takes X W) (ha : PA X (e :: es) t)
    (hst : starEach (e :: es) X.env = (false, eval e X.env) :: starEach es X.env := by rfl) (hpl : (backTo pos (starEach es X.env)).any (·.1) = false := by rfl)
    (ht : eval (.Call (.Attribute o m apos) (e :: es) [] pos) X.env = (do
      let ov ← eval o X.env
      standAt apos.atName
      let (f, first) ← holding [ov] (getMethod ov m pl)
      callWith pos f first (backTo pos (starEach (e :: es) X.env)) (backToKw pos (keywordEach [] X.env))) := by rfl) :
    PE X (.Call (.Attribute o m apos) (e :: es) [] pos) (tMethS C m sp W ta t) := by
  obtain ⟨f, fd, c, hm, F, hb⟩ := D.ex
  refine ⟨fun ps0 s0 σ0 H0 Q0 I0 h0 => PySem.W.methodCall_KW (pl := pl) (thn (he.run ps0 s0 σ0 H0 _ I0 h0) fun u0 s1 hh => ?_) ht⟩
  obtain ⟨_, H1, I1, ru, a, dx, fs, rfl, ea, ln, q⟩ := hh
  cases (show u0 = Value.ref a from ru)
  refine getmeth_ok I1 ea c hm ln (PySem.W.callWith_K (first := [.ref a]) (h₀ := X.base) I1.ok.mod.kin hm.kp (thn (ha.run pos ps0 s1 σ0 H1 _ I1 q) fun us s2 h2 => ?_) hst hpl)
  obtain ⟨vs, H2, I2, rv, q2⟩ := h2
  exact ⟨I2.kIn, run_fnS (us := .ref a :: us) (vs := .ref a :: vs) F hr hb (passAt tk σ0) I2 (.cons rfl rv) q2⟩
/-- C(e, ..), whose __init__ may let an error out -/
def tMakeS (C : Addr) (sp : Sp) (W : WX) (t : TA) : TE := fun σ H Q => t σ H fun vs H1 => ∀ x dx, H1 x = none → H1 dx = none → dx ≠ x →
  sp (.ref x :: vs) (upd (upd H1 dx (.own x)) x (.ins C dx [])) (fun v H2 => v = .non ∧ Q (.ref x) H2) (WE W σ)
theorem pe_mkS (M : MkrX X.prog X.w X.K X.mg X.base x C k ps sp) (hr : Room (k + 1) X.A) (hg : Gl X x) (tk : Takes X W) (ha : PA X (e :: es) t) (hdb : (x == ("__debug__" : Str)) = false := by decide)
    (he : starEach (e :: es) X.env = (false, eval e X.env) :: starEach es X.env := by rfl) (hpl : (backTo pos (starEach es X.env)).any (·.1) = false := by rfl) :
    PE X (.Call (.Name x p) (e :: es) [] pos) (tMakeS C sp W t) := by
  obtain ⟨f, fd, hm, M, F, hb⟩ := M.ex
  refine ⟨fun ps0 s0 σ0 H0 Q0 I0 h0 => wpAny_Call_Name_kw (ld_glob I0 hg hm ?_ hdb)⟩
  refine PySem.W.callWith_K (h₀ := X.base) I0.ok.mod.kin M.kp (thn (ha.run pos ps0 s0 σ0 H0 _ I0 h0) fun us s1 h1 => ?_) he hpl
  obtain ⟨vs, H1, I1, r, q1⟩ := h1
  refine ⟨I1.kIn, ?_⟩
  have lt := Nat.lt_succ_self s1.heap.objs.size
  have hq := q1 (s1.heap.objs.size + 1) s1.heap.objs.size (I1.hok.fresh (Nat.le_of_lt lt)) (I1.hok.fresh (Nat.le_refl _)) (Nat.ne_of_lt lt)
  have J := Inv.made (C := C) I1
  have rv : Vals (V.ref (s1.heap.objs.size + 1) :: vs) (Value.ref (s1.heap.objs.size + 1) :: us) := .cons rfl r
  have hlen : (Value.ref (s1.heap.objs.size + 1) :: us).length = ps.length := (F.len _ _ _ _ hq) ▸ rv.length.symm
  have hbind := hb _ (Value.ref (s1.heap.objs.size + 1) :: us) J.kIn (by rw [List.append_nil]; exact hlen)
  rw [List.append_nil] at hbind
  have run := F.run _ X.stack _ _ ⟨Value.ref (s1.heap.objs.size + 1) :: us, []⟩ _ _ _ (WE W σ0) (hr.make C us []) (J.env0.make C us []) hbind rv hq
  refine wpAny_call (make_map (f := f) I1.kIn M.makes M.init (beq_iff_eq.mp M.fn) (codeAny_mono run fun res s2 hres => ?_))
  match res, hres with
  | .error er, hres => exact passAt tk σ0 ps0 _ _ er s2 J hres
  | .ok (.ret u), hres =>
    obtain ⟨v, H2, I2, rv2, ⟨ev, q2⟩⟩ := J.after hres
    cases ev
    exact ⟨rv2, V.ref (s1.heap.objs.size + 1), H2, I2, rfl, q2⟩
end

/-! ### several clauses «except C as n» -/
/-- the ends behind a suite whose name is taken away -/
def gone (i : Nat) (D : Ends) : Ends := { nx := fun σ H => D.nx (σ.set i none) H, rt := D.rt, bk := fun σ H => D.bk (σ.set i none) H, ct := fun σ H => D.ct (σ.set i none) H }
def wAll (K : PySem.W.Frag) (Wout : WX) (D : Ends) : List (Value × Nat × (Addr → Value → Option Addr → TS)) → WX
  | [] => Wout
  | (c, i, ts) :: r => fun cls d σ H => ∃ b, PySem.W.exmOne K cls c = some b ∧ (b = true → ∀ a, H a = none → ts a cls d (gone i D) (σ.set i (some (.ref a))) H) ∧ (b = false → wAll K Wout D r cls d σ H)
inductive Clauses (X : Cx) : List ExceptHandler → List (Value × Nat × (Addr → Value → Option Addr → TS)) → Prop
  | nil : Clauses X [] []
  | cons {x n : Str} {c : Value} {i : Nat} {ts : Addr → Value → Option Addr → TS} {st : Stmt} {sts : List Stmt} {p1 p2 : Pos} {hds : List ExceptHandler} {l : List (Value × Nat × (Addr → Value → Option Addr → TS))} (hc : Names X x c) (hi : X.N[i]? = some n) (hk : X.env.kindOf n = some .local)
      (hs : ∀ (a : Addr) (oe : Obj) (cls : Value) (d : Option Addr) (pn : List (Addr × Obj)), Zc cls d oe → (∃ vs, oe.data = .fields vs) → PSs (X.suite a ((a, oe) :: pn)) (st :: sts) (ts a cls d)) (r : Clauses X hds l) :
      Clauses X (.ExceptHandler (some (.Name x p1)) (some n) (st :: sts) p2 :: hds) ((c, i, ts) :: l)
section
variable {X : Cx} {pins : List (Addr × Obj)} {D : Ends} {Wout : WX}
/-- an error that has come down to the clauses -/
structure Down (X : Cx) (pins : List (Addr × Obj)) (σ : St) (H : Hp) (a : Addr) (B : Heap) (cls : Value) (d : Option Addr) (sI s : Shared) : Prop where
  inv : Inv X pins σ H sI
  nb : ∀ b o, sI.heap.get? b = some o → b ∉ frs X.stack → B.get? b = some o
  up : sI.heap.UpToSlots s.heap
  fly : HandSPX.FlyingZ B (X.env :: X.outer) a (Zc cls d) s.heap
  na : H a = none
  os : s.os = sI.os
  ag : AllBare s.gens
theorem Down.here {σ : St} {H : Hp} {a : Addr} {B : Heap} {cls : Value} {d : Option Addr} {sI s : Shared} (z : Down X pins σ H a B cls d sI s) : Inv X pins σ H s := z.inv.landed z.nb z.fly.1 z.up z.os z.ag
theorem Down.on {σ : St} {H : Hp} {a : Addr} {B : Heap} {cls : Value} {d : Option Addr} {sI s : Shared} {h : Heap} (z : Down X pins σ H a B cls d sI s) (fl : HandSPX.FlyingZ B (X.env :: X.outer) a (Zc cls d) h) (u : s.heap.UpToSlots h) : Down X pins σ H a B cls d sI { s with heap := h } :=
  ⟨z.inv, z.nb, z.up.trans u, fl, z.na, z.os, z.ag⟩
/-- as a suite finds it -/
theorem Down.suite {σ : St} {H : Hp} {a : Addr} {B : Heap} {cls : Value} {d : Option Addr} {sI s : Shared} (hf : X.env.frame = some X.env.locals) (z : Down X pins σ H a B cls d sI s) :
    ∃ oe, s.heap.get? a = some oe ∧ Zc cls d oe ∧ (∃ vs, oe.data = .fields vs) ∧ Inv (X.suite a ((a, oe) :: (X.pn ++ pins))) [] σ H s := by
  obtain ⟨oe, vs, he, hz, hd⟩ := z.fly.there
  have off : a ∉ frs (X.env :: X.outer) := fun hm => by
    obtain ⟨_, o2, e2, no⟩ := z.fly.2.2.1.mem hm
    cases he.symm.trans e2
    exact no _ hd
  exact ⟨oe, he, hz, ⟨vs, hd⟩, z.here.suite he hd z.na (fun e => off (List.mem_filterMap.mpr ⟨X.env, List.mem_cons_self, hf.trans (congrArg some e.symm)⟩))
    fun hm => off (let ⟨v, hv, q⟩ := List.mem_filterMap.mp hm; List.mem_filterMap.mpr ⟨v, List.mem_cons_of_mem _ hv, q⟩)⟩
/-- no clause is left: on it goes -/
theorem Down.out {σ : St} {H : Hp} {a : Addr} {B : Heap} {cls : Value} {d : Option Addr} {sI s : Shared} (hs : X.stack = X.env :: X.outer) (hf : X.env.frame = some X.env.locals) (tk : Takes X Wout) (z : Down X pins σ H a B cls d sI s) (w : Wout cls d σ H) :
    wpAny (model X.prog X.w) X.A (handleBy (.ref a) X.env []) (SP X pins D) X.xe s := by
  have fin : wpAny (model X.prog X.w) X.A (setFlight (.ref a) X.env.frame) (fun _ s4 => wpAny (model X.prog X.w) X.A (throw (.ref a) : Sem Flow) (SP X pins D) X.xe s4) X.xe s := hf ▸
    HandSPX.setFlight_upZ z.fly fun h4 held u4 => wpAny_throw (tk _ _ ⟨a, B, sI, pins, σ, H, cls, d, rfl, z.inv, z.nb, z.up.trans u4, .inr (.inr (hs ▸ held)), z.na, z.os, z.ag, w⟩)
  refine wpAny_handleBy_nil ?_
  obtain ⟨_, _, _, oe, vs, T, oT, ts', he, hz, hd, h1, hr⟩ := id z.fly
  unfold PySem.passOn
  refine wpAny_bind (wpAny_field he hd h1 ?_)
  rw [if_neg (fun e => Value.noConfusion (beq_iff_eq.mp e))]
  first | exact wpAny_bind (wpAny_pure (wpAny_bind fin)) | exact wpAny_bind fin
theorem Down.go (hs : X.stack = X.env :: X.outer) (hf : X.env.frame = some X.env.locals) (hN : X.N.Nodup) (tk : Takes X Wout) {a : Addr} {B : Heap} {cls : Value} {d : Option Addr} {sI : Shared} {σ : St} {H : Hp} :
    ∀ {hds : List ExceptHandler} {l : List (Value × Nat × (Addr → Value → Option Addr → TS))} {s : Shared}, Clauses X hds l → Down X pins σ H a B cls d sI s → wAll X.K Wout D l cls d σ H → wpAny (model X.prog X.w) X.A (handleBy (.ref a) X.env hds) (SP X pins D) X.xe s
  | _, _, _, .nil, z, w => z.out hs hf tk w
  | _, _, s, @Clauses.cons _ x n c i ts st sts p1 p2 hds l hc hi hk hsu r, z, w => by
    obtain ⟨b, hb, yes, no⟩ := w
    obtain ⟨oe, he, hz, _, S⟩ := z.suite hf
    have LM := PySem.W.exm_one (M := model X.prog X.w) z.here.kIn (c := c) (fun A Q E s2 kk q => wpAny_typeOf_ref (kk _ _ he) (hz.1.symm ▸ q)) hb
    have test : ∀ {Q E : Value → Shared → Prop}, Q c s → wpAny (model X.prog X.w) (X.A.mark (some (.ref a))) (eval (.Name x p1) X.env) Q E s := fun {Q E} q => by
      obtain ⟨hg, hdb, hm | ⟨hm, hv, hnn⟩⟩ := hc
      · exact ld_glob S hg hm q hdb
      · exact ld_blt S hg hm hv q hnn hdb
    refine wpAny_handleBy_cons (codeAny_handlers_test (test (LM.here ?_))) (fun q => nomatch q)
    cases b with
    | false => exact Down.go hs hf hN tk r z (no rfl)
    | true =>
      refine codeAny_handlers_suite_as (HandSPX.lands_againZ z.fly fun h2 fl2 u2 => ?_)
      obtain ⟨oe2, _, hz2, hd2, S2⟩ := (z.on fl2 u2).suite hf
      refine store_ok (X := X.suite a ((a, oe2) :: (X.pn ++ pins))) (v := .ref a) S2 hN hi (.inl hk) rfl (fun s5 S5 => ?_) (.inr hk)
      refine wpAny_mono ((hsu a oe2 cls d (X.pn ++ pins) hz2 hd2).run [] s5 _ H _ S5 (yes rfl a z.na)) (fun f s6 hsp => ?_) fun _ _ y => y.elim
      have last : ∀ {σ6 : St} {H6 : Hp} {Q : Shared → Prop}, Inv (X.suite a ((a, oe2) :: (X.pn ++ pins))) [] σ6 H6 s6 → (∀ s7, Inv X pins (σ6.set i none) H6 s7 → Q s7) → wpAny (model X.prog X.w) X.A (do bindName X.env n .none; unbindBehindTheSuite X.env n p2) (fun _ s7 => Q s7) X.xe s6 :=
        fun S6 hq => gone_ok (S6.unsuite z.inv.ok) hN hi hk hq
      match f, hsp with
      | .next, ⟨_, _, S6, q6⟩ => exact last S6 fun s7 J7 => ⟨_, _, J7, q6⟩
      | .brk, ⟨_, _, S6, q6⟩ => exact last S6 fun s7 J7 => ⟨_, _, J7, q6⟩
      | .cont, ⟨_, _, S6, q6⟩ => exact last S6 fun s7 J7 => ⟨_, _, J7, q6⟩
      | .ret u, ⟨_, _, _, S6, r6, q6⟩ => exact last S6 fun s7 J7 => ⟨_, _, _, J7, r6, q6⟩
theorem ps_tryAll {body : List Stmt} {h0 : ExceptHandler} {hds : List ExceptHandler} {l : List (Value × Nat × (Addr → Value → Option Addr → TS))} {pos : Pos} {tb : WX → TS} (hs : X.stack = X.env :: X.outer) (hf : X.env.frame = some X.env.locals) (hN : X.N.Nodup) (tk : Takes X Wout)
    (hb : ∀ (W : WX) (pn : List (Addr × Obj)) (xe : Value → Shared → Prop), Takes (X.tr pn xe) W → PassesOwn (model X.prog X.w) X.A X.env xe → PSs (X.tr pn xe) body (tb W)) (hh : Clauses X (h0 :: hds) l) :
    PS X (.Try body (h0 :: hds) [] [] pos) (fun D σ H => tb (wAll X.K Wout D l) D σ H) := by
  refine ⟨fun ps0 s0 σ0 H0 D0 I0 h0' => wpAny_Try_except ?_⟩
  have ok := I0.ok
  have frames : X.A.frames = some (X.env :: X.outer) := ok.frames.trans (congrArg some hs)
  have rb := hb (wAll X.K Wout D0 l) (X.pn ++ ps0) (fun e s1 => wpAny (model X.prog X.w) X.A (noteFrame e X.env) (fun _ s2 => wpAny (model X.prog X.w) X.A (setFlight e none) (fun _ s3 => wpAny (model X.prog X.w) X.A (handleBy e X.env (h0 :: hds)) (SP X ps0 D0) X.xe s3) X.xe s2) X.xe s1)
    (fun u s' xx => by
      obtain ⟨a, B, sI, ps1, σ', H', cls, d, rfl, J', nb, up, sky, na, os, ag, w⟩ := xx
      have sky2 : Sky B (X.env :: X.outer) a (Zc cls d) X.env.locals s'.heap := hs ▸ sky
      exact Sky.land Zc.steady frames hf sky2 fun h3 fl3 up3 => Down.go hs hf hN tk hh (s := { s' with heap := h3 }) ⟨J'.ofTry ok, nb, up.trans up3, fl3, na, os, ag⟩ w) PassesOwn.looking
  refine wpAny_mono (rb.run [] s0 σ0 H0 D0 (I0.toTry _) h0') (fun f s1 hsp => ?_) fun _ _ y => y
  match f, hsp with
  | .next, ⟨σ', H', J', q⟩ => exact wpAny_execs_nil ⟨σ', H', J'.ofTry ok, q⟩
  | .brk, ⟨σ', H', J', q⟩ => exact ⟨σ', H', J'.ofTry ok, q⟩
  | .cont, ⟨σ', H', J', q⟩ => exact ⟨σ', H', J'.ofTry ok, q⟩
  | .ret u, ⟨v, σ', H', J', r, q⟩ => exact ⟨v, σ', H', J'.ofTry ok, r, q⟩
end
end Rg
namespace Rg
open PySem L2 TL
open PyProof.Rows hiding St
theorem upd_none {H : Hp} {d t : Addr} {o : HO} (h : upd H d o t = none) : H t = none := by
  by_cases e : t = d
  · rw [e, upd_same] at h
    cases h
  · rwa [upd_ne e] at h
/-! ### the error classes of the program: one __init__ for all, that stores the value -/
def spErr (K : PySem.W.Frag) : Sp := fun vs H Q _ => ∃ (a C : Addr) (v : V), vs = [.ref a, v] ∧ OexC K C ∧ PySem.W.findIn K (.ref C) "value" = some none ∧ H a = some (exo a C none) ∧
  ∀ dx, H dx = none → dx ≠ a → Q .non (upd (upd H dx (exd dx [("value", v)])) a (exo a C (some dx)))
structure Er (P : Program) (w : World) (K : PySem.W.Frag) (mg : Str → Option Value) (base : Heap) (x : Str) (C : Addr) : Prop where
  g : mg x = some (.ref C)
  o : OexC K C
  f : XfC K C
  i : ExcC K C
  nv : PySem.W.findIn K (.ref C) "value" = some none
  ini : ∃ fI fd, PySem.W.findIn K (.ref C) "__init__" = some (some (.ref fI)) ∧ PySem.W.typeIn K (.ref fI) = some (.type "function") ∧ FnOk P w K mg base CX0 1 fI fd ["self", "value"] (spErr K) ∧ Binds K fd ["self", "value"] []
section
variable {X : Cx} {x : Str} {C : Addr} {e : Expr} {es : List Expr} {ta : TA} {te : TE} {p pos : Pos}
theorem pmk_er (T : Er X.prog X.w X.K X.mg X.base x C) (hr : Room 2 X.A) (hg : Gl X x) (ha : PA X (e :: es) ta) (hdb : (x == ("__debug__" : Str)) = false := by decide)
    (he : starEach (e :: es) X.env = (false, eval e X.env) :: starEach es X.env := by rfl) (hpl : (backTo pos (starEach es X.env)).any (·.1) = false := by rfl) :
    PMk X (.Call (.Name x p) (e :: es) [] pos) (tMkO C (spErr X.K) [] ta) := by
  obtain ⟨fI, fd, h1, h2, F, hb⟩ := T.ini
  exact pmk_oex T.o h1 h2 F hr hb .nil pass0 hg T.g ha hdb he hpl
theorem rd_er {P : Program} {w : World} {K : PySem.W.Frag} {mg : Str → Option Value} {base : Heap} (T : Er P w K mg base x C) {v : V} {H : Hp} {Q : XK} (h : ∀ d, H d = none → Q (.ref C) (some d) (upd H d (.xd [("value", v)]))) :
    [v].length ≤ 1000 ∧ ∀ a, H a = none → spErr K (.ref a :: ([v] ++ [])) (upd H a (exo a C none))
      (fun u H2 => u = .non ∧ ∃ (d : Addr) (fs : List (Str × V)), H2 a = some (exo a C (some d)) ∧ H2 d = some (exd d fs) ∧ H d = none ∧ Q (.ref C) (some d) (upd (del H2 a) d (.xd fs))) (fun _ _ _ => False) := by
  refine ⟨by show 1 ≤ 1000; decide, fun a ha => ⟨a, C, v, rfl, T.o, T.nv, upd_same, fun dx hd hne => ⟨rfl, dx, _, upd_same, by rw [upd_ne hne]; exact upd_same, by rw [upd_ne hne] at hd; exact hd, ?_⟩⟩⟩
  rw [upd_ne hne] at hd
  have e : upd (del (upd (upd (upd H a (exo a C none)) dx (exd dx [("value", v)])) a (exo a C (some dx))) a) dx (.xd [("value", v)]) = upd H dx (.xd [("value", v)]) := by
    funext b
    by_cases hb : b = dx
    · rw [hb, upd_same, upd_same]
    · rw [upd_ne hb, upd_ne hb]
      by_cases hba : b = a
      · rw [hba, del_same, ha]
      · rw [del_ne hba, upd_ne hba, upd_ne hb, upd_ne hba]
  rw [e]
  exact h dx hd
variable {a : Addr} {oe : Obj} {cls : Value} {d : Option Addr} {pn : List (Addr × Obj)} {n : Str}
/-- e.n of the error that the suite holds -/
def tXfA (K : PySem.W.Frag) (a : Addr) (cls : Value) (d : Option Addr) (n : Str) (te : TE) : TE := fun σ H Q => ∃ C, XfC K C ∧ PySem.W.findIn K (.ref C) n = some none ∧ tXf a cls d C n te σ H Q
theorem pe_xfA (hz : Zc cls d oe) (hf : ∃ vs, oe.data = .fields vs) (he : PE (X.suite a ((a, oe) :: pn)) e te) (hb : attributeBase e n X.env (eval e X.env) = eval e X.env := by rfl) : PE (X.suite a ((a, oe) :: pn)) (.Attribute e n pos) (tXfA X.K a cls d n te) :=
  ⟨fun pins s σ H Q I ⟨_, T, hno, h⟩ => (pe_xf T hno hz hf he hb).run pins s σ H Q I h⟩
/-- isinstance(e, c) of that error -/
def rIsEd (K : PySem.W.Frag) (a : Addr) (cls : Value) (d : Option Addr) : List V → Hp → VK → Prop := fun xs H Q => ∃ (D dd : Addr) (fs : List (Str × V)) (c : V) (cv : Value) (b : Bool), cls = .ref D ∧ ExcC K D ∧ d = some dd ∧ H dd = some (.xd fs) ∧ xs = [.ref a, c] ∧ (∀ u, RelV c u → u = cv) ∧
  PySem.W.kitOne K (.ref D) cv = some b ∧ Q (.bl b) H
theorem call_isEd (hz : Zc cls d oe) (hf : ∃ vs, oe.data = .fields vs) : CallR (X.suite a ((a, oe) :: pn)) (.builtin "isinstance") (rIsEd X.K a cls d) := by
  intro pins s σ H xs us Q I r h
  obtain ⟨D, dd, fs, c, cv, b, rfl, E, rfl, ed, rfl, hcv, hk, q⟩ := h
  match us, r with
  | [u0, u1], .cons r0 (.cons r1 .nil) =>
    cases r0
    cases hcv _ r1
    obtain ⟨hget, _⟩ := I.pin (a, oe) (List.mem_append.mpr (.inl List.mem_cons_self))
    obtain ⟨vs, hv⟩ := hf
    have hx : ObjOk X.prog X.w H s.heap dd (.xd fs) := I.hok dd _ ed
    obtain ⟨mA, hns, _⟩ := hx
    obtain ⟨od, ho, _⟩ := lookIn_ns hns
    have J : PySem.W.InstAt s.heap a oe D (some od) := ⟨hget, hz.1, by unfold PySem.W.notCls; rw [hv] <;> rfl, by rw [hz.2]; exact ho⟩
    obtain ⟨cd, hcd, _⟩ := PySem.W.any_some E.hd
    exact PySem.W.kia_one (PySem.W.kitx_exc (by rw [hcd]; rfl) E.hg E.hk E.hs E.ha E.hn E.ht E.hm) I.kIn J hk (fun z => nomatch z) fun tk => ⟨.bl b, H, I.kept (t' := tk) fun _ _ z => z, rfl, q⟩
end
theorem kit_er {K : PySem.W.Frag} {D R : Addr} (hs : PySem.W.subIn K (.ref D) (.ref R) = some true) (ht : PySem.W.typeIn K (.ref R) = some (.type "type")) (hd : PySem.W.hasDictIn K R = true) : PySem.W.kitOne K (.ref D) (.ref R) = some true := by
  obtain ⟨cd, hcd, _⟩ := PySem.W.any_some hd
  unfold PySem.W.kitOne
  split
  · rfl
  · show (if ((PySem.W.clsIn K R).isSome && PySem.W.typeIn K (.ref R) == some (.type "type")) = true then PySem.W.subIn K (.ref D) (.ref R) else none) = some true
    rw [if_pos (by rw [hcd, ht]; rfl)]
    exact hs
theorem refs_tail : PySem.HandSPX.refsVE [.type "ValueError", .type "Exception", .type "BaseException", .type "object"] = true := by decide +kernel
theorem refs_one {c : Addr} : PySem.HandSPX.refsVE [.ref c, .type "ValueError", .type "Exception", .type "BaseException", .type "object"] = true := refs_tail
theorem Er.ex {P : Program} {w : World} {K : PySem.W.Frag} {mg : Str → Option Value} {base : Heap} {x : Str} {C D : Addr} {b : Bool} (T : Er P w K mg base x C) (h : PySem.W.subIn K (.ref D) (.ref C) = some b) : PySem.W.exmOne K (.ref D) (.ref C) = some b := PySem.W.exm_ref T.f.exC T.f.hdC T.o.tyC h
theorem Er.kit {P : Program} {w : World} {K : PySem.W.Frag} {mg : Str → Option Value} {base : Heap} {x : Str} {C D : Addr} (T : Er P w K mg base x C) (h : PySem.W.subIn K (.ref D) (.ref C) = some true) : PySem.W.kitOne K (.ref D) (.ref C) = some true := kit_er h T.o.tyC T.f.hdC
/-- a number that may be below b: then an error of the class at C carries it -/
def spChk (C : Addr) (b : Int) : Sp := fun vs H Q E => ∃ n : Int, vs = [.int n] ∧ (b ≤ n → Q .non H) ∧ (n < b → ∀ d, H d = none → E (.ref C) (some d) (upd H d (.xd [("value", .int n)])))
end Rg
/-! own words: errors that carry a number -/
namespace Rg
open PySem L2 TL
/-- an error of the class at C, with this number, goes out -/
def Bad (E : XK) (H : Hp) (C : Addr) (v : Int) : Prop := ∀ d, H d = none → E (.ref C) (some d) (upd H d (.xd [("value", .int v)]))
def spChkP (C : Addr) : Sp := fun vs H Q E => ∃ q n : Int, vs = [.int q, .int n] ∧ (0 ≤ q → q < n → Q .non H) ∧ (q < 0 ∨ n ≤ q → Bad E H C q)
/-- a question of a ladder with a post: the errors in their order, or an answer -/
def Asked1 (Q : VK) (E : XK) (H : Hp) (CS CP CN : Addr) (sz q dep : Int) : Prop :=
  (sz < 1 → Bad E H CS sz) ∧ (1 ≤ sz → (q < 0 ∨ sz ≤ q) → Bad E H CP q) ∧ (1 ≤ sz → 0 ≤ q → q < sz → dep < 0 → Bad E H CN dep) ∧ (1 ≤ sz → 0 ≤ q → q < sz → 0 ≤ dep → ∀ v H', Same H H' → Q v H')
end Rg
/-! own words: an except suite that raises another error «from None» -/
namespace Rg
open PySem L2 TL
open PyProof.Rows hiding St
section
variable {P : Program} {w : World} {K : PySem.W.Frag} {mg : Str → Option Value} {base : Heap}
/-- a def that may raise, of whose errors it is known that none is their context -/
theorem okN {x qual : Str} {st : Stmt} {f : Addr} {fd : FuncData} {N ps : List Str} {k : Nat} {sp : Sp} (F : Fun K x qual st f fd) (S : FnScope N ps (defScope st)) (len : ∀ vs H Q E, sp vs H Q E → vs.length = ps.length)
    (hbody : ∀ (cdv : Value) (A : Around) (outer : List Env) (s : Shared) (H : Hp) (vs : List V) (Q : VK) (E : XK), Room k (A.deeper (envOfC qual (defScope st) s.heap.objs.size f cdv)) → sp vs H Q E →
      ∃ t, PSs (cxOf (L2N.CX P w) P w K mg base N qual (defScope st) f cdv A outer s H E) (defBody st) t ∧ t { nx := fun _ H' => Q .non H', rt := Q } (start N vs) H) : FnOk P w K mg base (L2N.CX P w) (k + 1) f fd ps sp := by
  obtain ⟨oc, od, kV, doc, pm, an, cdv, ct, osl, rfl, lk, hcd⟩ := F.ex
  exact fn_of lk hcd S len fun A outer s H vs Q E hr hsp => hbody cdv A outer s H vs Q E hr hsp
/-- a def that is called while an error is handled -/
theorem okH {x qual : Str} {st : Stmt} {f : Addr} {fd : FuncData} {N ps : List Str} {k : Nat} {sp : Sp} {CX : CXT} (F : Fun K x qual st f fd) (S : FnScope N ps (defScope st)) (len : ∀ vs H Q E, sp vs H Q E → vs.length = ps.length)
    (hbody : ∀ (cdv : Value) (A : Around) (outer : List Env) (s : Shared) (H : Hp) (vs : List V) (Q : VK) (E : XK) (p : Addr × Obj), L2H.Hot1 A p → L2H.RoomH k (A.deeper (envOfC qual (defScope st) s.heap.objs.size f cdv)) → sp vs H Q E →
      ∃ t, PSs (L2H.cxH CX P w K mg base N qual (defScope st) f cdv A outer s H E p) (defBody st) t ∧ t { nx := fun _ H' => Q .non H', rt := Q } (start N vs) H) : L2H.FnH P w K mg base CX (k + 1) f fd ps sp := by
  obtain ⟨oc, od, kV, doc, pm, an, cdv, ct, osl, rfl, lk, hcd⟩ := F.ex
  exact L2H.fn_ofH lk hcd S len fun A outer s H vs Q E p hp hr hsp => hbody cdv A outer s H vs Q E p hp hr hsp
end
structure MkrN (P : Program) (w : World) (K : PySem.W.Frag) (mg : Str → Option Value) (base : Heap) (x : Str) (C : Addr) (k : Nat) (ps : List Str) (sp : Sp) : Prop where
  ex : ∃ f fd, mg x = some (.ref C) ∧ Mk K C f ∧ FnOk P w K mg base (L2N.CX P w) k f fd ps sp ∧ Binds K fd ps []
structure ErH (P : Program) (w : World) (K : PySem.W.Frag) (mg : Str → Option Value) (base : Heap) (x : Str) (C : Addr) : Prop where
  er : Er P w K mg base x C
  ini : ∃ fI fd, PySem.W.findIn K (.ref C) "__init__" = some (some (.ref fI)) ∧ PySem.W.typeIn K (.ref fI) = some (.type "function") ∧ L2H.FnH P w K mg base CX0 1 fI fd ["self", "value"] (spErr K) ∧ Binds K fd ["self", "value"] []
section
variable {X : Cx} {W : WX} {x : Str} {C : Addr} {e : Expr} {es : List Expr} {t ta : TA} {p pos : Pos} {k : Nat} {ps : List Str} {sp : Sp}
theorem pe_mkN (M : MkrN X.prog X.w X.K X.mg X.base x C k ps sp) (hr : Room (k + 1) X.A) (hg : Gl X x) (tk : L2N.Takes X W) (ha : PA X (e :: es) t) (hdb : (x == ("__debug__" : Str)) = false := by decide)
    (he : starEach (e :: es) X.env = (false, eval e X.env) :: starEach es X.env := by rfl) (hpl : (backTo pos (starEach es X.env)).any (·.1) = false := by rfl) :
    PE X (.Call (.Name x p) (e :: es) [] pos) (tMakeS C sp W t) := by
  obtain ⟨f, fd, hm, M, F, hb⟩ := M.ex
  refine ⟨fun ps0 s0 σ0 H0 Q0 I0 h0 => wpAny_Call_Name_kw (ld_glob I0 hg hm ?_ hdb)⟩
  refine PySem.W.callWith_K (h₀ := X.base) I0.ok.mod.kin M.kp (thn (ha.run pos ps0 s0 σ0 H0 _ I0 h0) fun us s1 h1 => ?_) he hpl
  obtain ⟨vs, H1, I1, r, q1⟩ := h1
  refine ⟨I1.kIn, ?_⟩
  have lt := Nat.lt_succ_self s1.heap.objs.size
  have hq := q1 (s1.heap.objs.size + 1) s1.heap.objs.size (I1.hok.fresh (Nat.le_of_lt lt)) (I1.hok.fresh (Nat.le_refl _)) (Nat.ne_of_lt lt)
  have J := Inv.made (C := C) I1
  have rv : Vals (V.ref (s1.heap.objs.size + 1) :: vs) (Value.ref (s1.heap.objs.size + 1) :: us) := .cons rfl r
  have hlen : (Value.ref (s1.heap.objs.size + 1) :: us).length = ps.length := (F.len _ _ _ _ hq) ▸ rv.length.symm
  have hbind := hb _ (Value.ref (s1.heap.objs.size + 1) :: us) J.kIn (by rw [List.append_nil]; exact hlen)
  rw [List.append_nil] at hbind
  have run := F.run _ X.stack _ _ ⟨Value.ref (s1.heap.objs.size + 1) :: us, []⟩ _ _ _ (WE W σ0) (hr.make C us []) (J.env0.make C us []) hbind rv hq
  refine wpAny_call (make_map (f := f) I1.kIn M.makes M.init (beq_iff_eq.mp M.fn) (codeAny_mono run fun res s2 hres => ?_))
  match res, hres with
  | .error er, hres => exact L2N.passAt tk σ0 ps0 _ _ er s2 J hres
  | .ok (.ret u), hres =>
    obtain ⟨v, H2, I2, rv2, ⟨ev, q2⟩⟩ := J.after hres
    cases ev
    exact ⟨rv2, V.ref (s1.heap.objs.size + 1), H2, I2, rfl, q2⟩
/-- C(e, ..) of an own error, made while one is handled -/
theorem pmk_erH {a : Addr} {pn : List (Addr × Obj)} (T : ErH X.prog X.w X.K X.mg X.base x C) (hr : L2H.RoomH 2 (X.A.mark (some (.ref a)))) (hc : L2H.HotC (L2H.suiteX X a pn)) (hg : Gl (L2H.suiteX X a pn) x) (ha : PA (L2H.suiteX X a pn) (e :: es) ta) (hdb : (x == ("__debug__" : Str)) = false := by decide)
    (he : starEach (e :: es) X.env = (false, eval e X.env) :: starEach es X.env := by rfl) (hpl : (backTo pos (starEach es X.env)).any (·.1) = false := by rfl) :
    L2H.PMk5 (L2H.suiteX X a pn) (.Call (.Name x p) (e :: es) [] pos) (tMkO C (spErr X.K) [] ta) := by
  obtain ⟨fI, fd, h1, h2, F, hb⟩ := T.ini
  exact L2H.pmk5_oexH (X := L2H.suiteX X a pn) T.er.o h1 h2 F hr hc hb pass0 hg T.er.g ha hdb he hpl
/-- the same where nothing is handled, with none as its context -/
theorem pmk_erN (T : Er X.prog X.w X.K X.mg X.base x C) (hr : Room 2 X.A) (hg : Gl X x) (ha : PA X (e :: es) ta) (hdb : (x == ("__debug__" : Str)) = false := by decide)
    (he : starEach (e :: es) X.env = (false, eval e X.env) :: starEach es X.env := by rfl) (hpl : (backTo pos (starEach es X.env)).any (·.1) = false := by rfl) :
    L2N.PMk X (.Call (.Name x p) (e :: es) [] pos) (tMkO C (spErr X.K) [] ta) := by
  obtain ⟨fI, fd, iC, tI, F1, hb⟩ := T.ini
  have TO := T.o
  intro pins s σ H Q I h
  obtain ⟨nm, q, N, bs, bm, sn, sub, ab, col, dd, k0, k1, k2, k3, k5, hC, hbm⟩ := TO.cls
  refine wpAny_Call_Name_kw (ld_glob I hg T.g ?_ hdb)
  refine PySem.W.callWith_K (h₀ := X.base) I.ok.mod.kin TO.kC (thn (ha.run pos pins s σ H _ I h) fun us s1 ⟨vs, H1, I1, r1, hz, q1⟩ => ⟨I1.kIn, ?_⟩) he hpl
  show wpAny _ _ (call (.ref C) us) _ _ _
  obtain ⟨hp, g, dr, tk, os⟩ := s1
  have hsz : hp.objs.size ≤ hp.objs.size + 1 := Nat.le_succ _
  have hn : H1 (hp.objs.size + 1) = none := I1.hok.fresh hsz
  have hq := q1 (hp.objs.size + 1) hn
  rw [List.append_nil] at hq
  have kk : ∀ b o, hp.get? b = some o → ((hp.push (PySem.W.kdv_tup us)).push (PySem.HandSPX.excO C hp.objs.size)).get? b = some o := fun b o e => Heap.get?_push_of_some _ (Heap.get?_push_of_some _ e)
  have hget : ((hp.push (PySem.W.kdv_tup us)).push (PySem.HandSPX.excO C hp.objs.size)).get? (hp.objs.size + 1) = some (PySem.HandSPX.excO C hp.objs.size) := by heap_get
  have I2 : Inv X pins σ (upd H1 (hp.objs.size + 1) (exo (hp.objs.size + 1) C none)) ⟨(hp.push (PySem.W.kdv_tup us)).push (PySem.HandSPX.excO C hp.objs.size), g, dr, tk, os⟩ :=
    I1.laid (t' := tk) (a := hp.objs.size + 1) (o := exo (hp.objs.size + 1) C none) (h' := (hp.push (PySem.W.kdv_tup us)).push (PySem.HandSPX.excO C hp.objs.size)) kk hsz (exo_ok hget)
  have r2 : Vals (V.ref (hp.objs.size + 1) :: vs) (Value.ref (hp.objs.size + 1) :: us) := .cons rfl r1
  have hl : (Value.ref (hp.objs.size + 1) :: us ++ []).length = ["self", "value"].length := by
    have e := r2.length
    rw [F1.len _ _ _ _ hq] at e
    rw [List.append_nil]
    exact e.symm
  have hus : us.length ≤ sizeLine := by
    rw [← Paired.length r1, sizeLine_eq]
    omega
  have b2 := hb _ (Value.ref (hp.objs.size + 1) :: us) I2.kIn hl
  rw [List.append_nil] at b2
  refine wpAny_call (PySem.HandSPX.call_own F.excBase_ValueError (fun Y => PySem.HandSPX.refsVE_contains Y bm hbm) (I1.kIn _ _ hC) (PySem.W.looks_findIn I1.kIn iC) (fun self => PySem.W.bind_fn I1.kIn self tI) hus
    (codeAny_mono (F1.run _ X.stack _ _ ⟨Value.ref (hp.objs.size + 1) :: us, []⟩ (Value.ref (hp.objs.size + 1) :: us) _ _ (fun _ _ _ => False) (hr.make C us []) (I2.env0.make C us []) b2 r2 hq) fun r s' hq' => ?_))
  cases r with
  | error er => exact pass0 (X := X) pins σ _ _ er s' I2 hq'
  | ok fl =>
    cases fl with
    | ret u =>
      obtain ⟨v, H2, os2, bare2, un2, hok2, rv, ev, d, fs, ea, ed, hd1, q2⟩ := hq'
      subst ev
      obtain ⟨h2, g2, d2, t2, os'⟩ := s'
      obtain ⟨t0, G, J, kG, ge, hoe, na⟩ := mk_end0 (d2 := d2) (t2 := t2) I1 hsz kk un2 hok2 os2 bare2 ea ed hd1
      refine ⟨rv, hp.objs.size + 1, _, _, ⟨G, g2, d2, t2, os'⟩, _, .ref C, some d, rfl, J, kG, ge, hoe, ⟨rfl, rfl, fun vs hv => ?_⟩, rfl, rfl, na, rfl, bare2, raises_own TO.exC TO.tyC, q2⟩
      cases hv
      rfl
    | next => exact False.elim hq'
    | brk => exact False.elim hq'
    | cont => exact False.elim hq'
end
end Rg
namespace Rg
open PySem L2 TL
open PyProof.Rows hiding St
theorem dfOfX {P : Program} {w : World} {K : PySem.W.Frag} {mg : Str → Option Value} {base : Heap} {x : Str} {k : Nat} {ps : List Str} {sp sp' : Sp} (D : DfX P w K mg base x k ps sp) (h : ∀ vs H Q E, sp' vs H Q E → sp vs H Q E0) : Df P w K mg base x k ps sp' := by
  obtain ⟨f, fd, a, F, b, c⟩ := D.ex
  exact ⟨f, fd, a, calmFn F h, b, c⟩
end Rg
/-! own words: a text cut at strokes -/
namespace Rg
open PySem L2 TL
open PyProof.Rows hiding St
theorem spl_len (S : List Nat) : ∀ (l : List Nat) (k : Nat) (acc p : List Nat), p ∈ spl S k acc l → p.length ≤ acc.length + l.length
  | [], k, acc, p, h => by
    rw [spl_nil] at h
    rw [List.mem_singleton.mp h]
    exact Nat.le_add_right _ _
  | c :: r, 0, acc, p, h => by
    cases hp : pre S (c :: r) with
    | true =>
      rw [spl_hit hp] at h
      rcases List.mem_cons.mp h with e | h
      · rw [e]; exact Nat.le_add_right _ _
      · have := spl_len S r _ [] p h
        rw [List.length_nil] at this
        rw [List.length_cons]
        omega
    | false =>
      rw [spl_miss hp] at h
      have := spl_len S r _ _ p h
      rw [List.length_append, List.length_singleton] at this
      rw [List.length_cons]
      omega
  | c :: r, k + 1, acc, p, h => by
    have := spl_len S r k acc p h
    rw [List.length_cons]
    omega
theorem spl_ne (S : List Nat) : ∀ (l : List Nat) (k : Nat) (acc : List Nat), spl S k acc l ≠ []
  | [], k, acc => by rw [spl_nil]; simp
  | c :: r, 0, acc => by
    cases hp : pre S (c :: r) with
    | true => rw [spl_hit hp]; simp
    | false => rw [spl_miss hp]; exact spl_ne S r _ _
  | c :: r, k + 1, acc => spl_ne S r k acc
theorem spl_count (S : List Nat) : ∀ (l : List Nat) (k : Nat) (acc : List Nat), (spl S k acc l).length ≤ l.length + 1
  | [], k, acc => by rw [spl_nil]; exact Nat.le_refl _
  | c :: r, 0, acc => by
    cases hp : pre S (c :: r) with
    | true =>
      rw [spl_hit hp, List.length_cons, List.length_cons]
      have := spl_count S r (S.length - 1) []
      omega
    | false =>
      rw [spl_miss hp, List.length_cons]
      have := spl_count S r 0 (acc ++ [c])
      omega
  | c :: r, k + 1, acc => by
    have := spl_count S r k acc
    rw [List.length_cons]
    exact Nat.le_succ_of_le this
/-- the rows of a text, between its strokes -/
def cutR (z : Str) : List Str := Txt.split z (Str.ofString "/")
theorem cutR_spl (z : Str) : (cutR z).map tl = spl (tl (Str.ofString "/")) 0 [] (tl z) := split_spl z _ (by decide +kernel) (kind_ok (by decide +kernel))
theorem cutR_ne (z : Str) : cutR z ≠ [] := fun e => by
  have := cutR_spl z
  rw [e] at this
  exact spl_ne _ _ _ _ this.symm
theorem cutR_len {z p : Str} (h : p ∈ cutR z) : p.length ≤ z.length := by
  have := spl_len (tl (Str.ofString "/")) (tl z) 0 [] (tl p) (by rw [← cutR_spl]; exact List.mem_map_of_mem h)
  rw [List.length_nil, Nat.zero_add] at this
  rw [len_tl, len_tl]
  exact this
theorem cutR_count (z : Str) : (cutR z).length ≤ z.length + 1 := by
  have := spl_count (tl (Str.ofString "/")) (tl z) 0 []
  rw [← cutR_spl, List.length_map] at this
  rw [len_tl]
  exact this
/-- the text of rows -/
def joinR (ls : List Str) : Str := Txt.join (Str.ofString "/") ls
theorem join_cut (z : Str) : joinR (cutR z) = z := by
  show Txt.join _ _ = _
  rw [join_eq]
  exact StrLaws.join_split z _
theorem cut_join {ls : List Str} (h : ls ≠ []) (hs : ∀ z ∈ ls, 47 ∉ tl z) : cutR (joinR ls) = ls := split_join (s := 47) (S := []) (by decide +kernel) (by decide +kernel) h hs
/-- the two ends of a text -/
theorem cutS_two (z : Str) {p q : Nat} (h : p ≤ q) : (cutS z none (some (p : Int))).length + (cutS z (some (q : Int)) none).length ≤ z.length := by
  have e1 : tl (cutS z none (some (p : Int))) = (tl z).take (min p z.length) := by
    show ((tl z).drop (HT.sIx z.length 0 none)).take (HT.sIx z.length z.length (some (p : Int)) - HT.sIx z.length 0 none) = _
    rw [sIx_nat]
    show ((tl z).drop 0).take (min p z.length - 0) = _
    rw [List.drop_zero, Nat.sub_zero]
  have e2 : tl (cutS z (some (q : Int)) none) = ((tl z).drop (min q z.length)).take (z.length - min q z.length) := by
    show ((tl z).drop (HT.sIx z.length 0 (some (q : Int)))).take (HT.sIx z.length z.length none - HT.sIx z.length 0 (some (q : Int))) = _
    rw [sIx_nat]
    rfl
  rw [len_tl, len_tl, e1, e2, List.length_take, List.length_take, List.length_drop, ← len_tl]
  omega
theorem joinL_len (S : List Nat) {m : Nat} : ∀ ls : List (List Nat), (∀ l ∈ ls, l.length ≤ m) → (joinL S ls).length ≤ ls.length * (m + S.length)
  | [], _ => Nat.zero_le _
  | [p], h => by
    show p.length ≤ 1 * (m + S.length)
    have := h p List.mem_cons_self
    omega
  | p :: q :: r, h => by
    show (p ++ (S ++ joinL S (q :: r))).length ≤ _
    have h1 := joinL_len S (q :: r) fun l hl => h l (List.mem_cons_of_mem _ hl)
    have h2 := h p List.mem_cons_self
    rw [List.length_append, List.length_append, List.length_cons, Nat.succ_mul]
    omega
theorem joinR_len {ls : List Str} {m : Nat} (h : ∀ z ∈ ls, z.length ≤ m) : (joinR ls).length ≤ ls.length * (m + 1) := by
  have e : tl (joinR ls) = joinL (tl (Str.ofString "/")) (ls.map tl) := by
    show tl (Txt.join _ _) = _
    rw [join_eq, tl_join]
  have := joinL_len (tl (Str.ofString "/")) (m := m) (ls.map tl) fun l hl => by
    obtain ⟨z, hz, rfl⟩ := List.mem_map.mp hl
    rw [← len_tl]
    exact h z hz
  rw [List.length_map, show (tl (Str.ofString "/")).length = 1 by decide +kernel] at this
  rw [len_tl, e]
  exact this
end Rg
/-! own words: texts of any signs -/
namespace Rg
open PySem L2 TL
def Plain (z : Str) : Prop := ∀ c ∈ tl z, c < 0x110000
theorem Plain.cat {x y : Str} (h : Plain x) (g : Plain y) : Plain (x ++ y) := fun c hc => by
  rw [tl_append] at hc
  exact (List.mem_append.mp hc).elim (h c) (g c)
theorem Plain.cut {z : Str} (h : Plain z) (a b : Option Int) : Plain (cutS z a b) := fun c hc => by
  have hc' : c ∈ ((tl z).drop (HT.sIx z.length 0 a)).take (HT.sIx z.length z.length b - HT.sIx z.length 0 a) := hc
  exact h c (List.mem_of_mem_drop (List.mem_of_mem_take hc'))
theorem cut_len (z : Str) (a b : Option Int) : (cutS z a b).length ≤ z.length := by
  have e : tl (cutS z a b) = ((tl z).drop (HT.sIx z.length 0 a)).take (HT.sIx z.length z.length b - HT.sIx z.length 0 a) := rfl
  rw [len_tl, e, List.length_take, List.length_drop, len_tl]
  omega
theorem cat_len (x y : Str) : (x ++ y).length = x.length + y.length := by rw [len_tl, len_tl, len_tl, tl_append, List.length_append]
theorem Plain.row {z : Str} (h : Signs (tl z)) : Plain z := fun c hc => by
  rcases h c hc with e | e <;> rw [e] <;> decide
theorem lay_plain : ∀ ls : List Str, (∀ z ∈ ls, Plain z) → PyData.canLayAll0 (ls.map PyData.str) = true
  | [], _ => rfl
  | z :: ls, h => by
    have ih := lay_plain ls fun y hy => h y (List.mem_cons_of_mem _ hy)
    show (PyData.strOk z && PyData.canLayAll0 (ls.map PyData.str)) = true
    rw [ih, Bool.and_true]
    show (z.cps.all fun x => decide (x < 0x110000)) = true
    rw [← Array.all_toList, List.all_eq_true]
    exact fun c hc => decide_eq_true (h z List.mem_cons_self c hc)
theorem shaped_plain {ls : List Str} (h : ∀ z ∈ ls, Plain z) : SeqAt.shaped (.list (ls.map PyData.str)) = true := by
  have h1 := lay_plain ls h
  have h2 := depth_strs ls
  show (PyData.canLayAll0 (ls.map PyData.str) && decide (PyData.depth (.list (ls.map PyData.str)) ≤ 64)) = true
  rw [h1, Bool.true_and, decide_eq_true_eq]
  simp only [PyData.depth]
  omega
/-- is a list of texts empty? -/
theorem rd_empty {K : PySem.W.Frag} {H : Hp} {p q : Addr} {ls : List Str} {Q : VK} (hp : H p = some (.lst (ls.map V.str))) (hq : H q = some (.lst [])) (h : ∀ z ∈ ls, Plain z) (k : Q (.bl (decide (ls = []))) H) : rEqD K (.ref p) (.ref q) H Q := by
  refine ⟨_, _, .lst (SqL.of hp) (dp_strs ls), .lst (SqL.of hq) .nil, shaped_plain h, shaped_plain (ls := []) (fun _ h => by cases h), ?_⟩
  have e := eqv_lst ls []
  rw [show PyData.eqv (.list (ls.map PyData.str)) (.list []) = decide (ls = []) from e]
  exact k
/-- is it a row? -/
noncomputable def rowB (z : Str) : Bool := @decide (Row (tl z)) (Classical.propDecidable _)
theorem rowB_iff {z : Str} : rowB z = true ↔ Row (tl z) := by
  unfold rowB
  exact @decide_eq_true_iff (Row (tl z)) (Classical.propDecidable _)
theorem rowB_of {z : Str} {b : Bool} (h : b = true ↔ Row (tl z)) : b = rowB z := by
  rw [Bool.eq_iff_iff, h, rowB_iff]
/-- what is refused at a row -/
noncomputable def offB (w : Nat) (z : Str) : Bool := !rowB z || !decide (V.int (z.length : Nat) = V.int (w : Nat))
/-- what becomes of a list of texts: none good, or the one that is refused -/
noncomputable def off : List Str → Option Str
  | [] => none
  | t :: ts => (t :: ts).find? (offB t.length)
theorem off_rows {ts : List Str} (h0 : 0 < ts.length) (h : off ts = none) : ∃ n, Rows n ts := by
  match ts, h0, h with
  | t :: ts, _, h =>
    have h' : (t :: ts).find? (offB t.length) = none := h
    rw [List.find?_eq_none] at h'
    refine ⟨t.length, Nat.succ_pos _, fun z hz => ?_, fun z hz => ?_⟩
    all_goals
      have q := h' z hz
      unfold offB at q
      rw [Bool.or_eq_true, not_or, Bool.not_eq_true', Bool.not_eq_true', Bool.not_eq_false, Bool.not_eq_false] at q
    · have e := of_decide_eq_true q.2
      injection e with e
      rw [← len_tl]
      omega
    · exact rowB_iff.mp q.1
end Rg
/-! own words: replace, and what is a row by the law's words -/
namespace Rg
open PySem L2 TL
theorem pet_cmpR {X : Cx} {op : CmpOp} {r : R2} {a b : Expr} {ta tb : TE} {pos : Pos} (ho : OpR X (compareOp op) r) (ha : PET X a ta) (hb : PE X b tb) (hm : behindInMarks op b = false) : PET X (.Compare a [op] [b] pos) (tOp r ta tb) := by
  intro pins s σ H Q h0 I h
  refine wpAny_Compare1 (thn (ha pins s σ H _ h0 I h) fun v s1 ⟨x, H1, I1, r1, q1⟩ => ?_) hm
  exact thn (hb.run pins s1 σ H1 _ I1 q1) fun u s2 ⟨y, H2, I2, r2, q2⟩ => ho pins s2 σ H2 x y v u Q I2 r1 r2 q2
/-- a def that has a parameter: a token is out when it begins -/
theorem okT {P : Program} {w : World} {K : PySem.W.Frag} {mg : Str → Option Value} {base : Heap} {x qual : Str} {st : Stmt} {f : Addr} {fd : FuncData} {N ps : List Str} {k : Nat} {sp : Sp} (F : Fun K x qual st f fd) (S : FnScope N ps (defScope st)) (hnc : ∀ y ∈ (defScope st).names, y.2 ≠ .cell) (hps : 1 ≤ ps.length) (len : ∀ vs H Q E, sp vs H Q E → vs.length = ps.length)
    (hbody : ∀ (cdv : Value) (A : Around) (outer : List Env) (s : Shared) (H : Hp) (vs : List V) (Q : VK) (E : XK), Room k (A.deeper (PyProof.Rows.envOfC qual (defScope st) s.heap.objs.size f cdv)) → sp vs H Q E →
      ∃ t, PSsT (cxOf CX0 P w K mg base N qual (defScope st) f cdv A outer s H E) (defBody st) t ∧ t { nx := fun _ H' => Q .non H', rt := Q } (start N vs) H) : FnOk P w K mg base CX0 (k + 1) f fd ps sp := by
  obtain ⟨oc, od, kV, doc, pm, an, cdv, ct, osl, rfl, lk, hcd⟩ := F.ex
  exact fn_ofT lk hcd S hnc hps len fun A outer s H vs Q E hr hsp => hbody cdv A outer s H vs Q E hr hsp
/-- only strokes and points: nothing is left without them -/
theorem struck (z : Str) : decide (V.str (Txt.replace (Txt.replace z (Str.ofString "-") (Str.ofString "")) (Str.ofString ".") (Str.ofString "")) = V.str (Str.ofString "")) = true ↔ Signs (tl z) := by
  have e1 : Str.ofString "-" = ⟨#[45]⟩ := ext_tl (by decide +kernel)
  have e2 : Str.ofString "." = ⟨#[46]⟩ := ext_tl (by decide +kernel)
  have e3 : Str.ofString "" = ⟨#[]⟩ := ext_tl (by decide +kernel)
  rw [e1, e2, e3, decide_eq_true_eq]
  have h : tl (Txt.replace (Txt.replace z ⟨#[45]⟩ ⟨#[]⟩) ⟨#[46]⟩ ⟨#[]⟩) = ((tl z).filter (· != 45)).filter (· != 46) := by
    have a := PyProof.Rows.replace_strikes (Txt.replace z ⟨#[45]⟩ ⟨#[]⟩) 46
    have b := PyProof.Rows.replace_strikes z 45
    show (Txt.replace (Txt.replace z ⟨#[45]⟩ ⟨#[]⟩) ⟨#[46]⟩ ⟨#[]⟩).cps.toList = _
    rw [a, b]
  constructor
  · intro e c hc
    injection e with e
    rw [e] at h
    have h' : ((tl z).filter (· != 45)).filter (· != 46) = [] := h.symm
    by_cases g1 : c = 45
    · exact .inl g1
    · by_cases g2 : c = 46
      · exact .inr g2
      · have : c ∈ ((tl z).filter (· != 45)).filter (· != 46) := List.mem_filter.mpr ⟨List.mem_filter.mpr ⟨hc, by simp [g1]⟩, by simp [g2]⟩
        rw [h'] at this
        cases this
  · intro S
    refine congrArg V.str (ext_tl ?_)
    rw [h]
    show _ = []
    rw [List.filter_eq_nil_iff]
    intro c hc
    obtain ⟨h1, h2⟩ := List.mem_filter.mp hc
    rcases S c h1 with e | e
    · rw [e] at h2
      exact absurd h2 (by decide)
    · rw [e]
      decide
/-- a row, told by its ends -/
theorem row_ends {l : List Nat} : Row l ↔ 0 < l.length ∧ Signs l ∧ (∀ i : Nat, ¬ (l[i]? = some 45 ∧ l[i + 1]? = some 45)) ∧ ¬ (l[0]? = some 45 ∧ l[l.length - 1]? = some 45) := by
  constructor
  · intro R
    have g := R.gap
    refine ⟨R.ne, R.sgn, fun i ⟨g1, g2⟩ => ?_, fun ⟨g1, g2⟩ => ?_⟩
    · have h2 := (List.getElem?_eq_some_iff.mp g2).1
      have a1 := sg_nat (show i < l.length by omega)
      have a2 := sg_nat h2
      rw [g1] at a1
      rw [g2] at a2
      exact g (i : Int) ⟨(Option.some.inj a1).symm, by rw [show (i : Int) + 1 = ((i + 1 : Nat) : Int) by omega]; exact (Option.some.inj a2).symm⟩
    · have a1 := sg_nat R.ne
      have a2 := sg_nat (show l.length - 1 < l.length by have := R.ne; omega)
      rw [g1] at a1
      rw [g2] at a2
      refine g ((l.length - 1 : Nat) : Int) ⟨(Option.some.inj a2).symm, ?_⟩
      rw [show ((l.length - 1 : Nat) : Int) + 1 = 0 + (l.length : Int) by have := R.ne; omega, sg_add]
      exact (Option.some.inj a1).symm
  · rintro ⟨h0, h1, h2, h3⟩
    exact Part.row (n := l.length) ⟨h1, h2, fun _ ⟨g1, g2⟩ => h3 ⟨g2, g1⟩⟩ rfl h0
end Rg
/-! own words: == and != of lists of texts, of numbers -/
namespace Rg
open PySem L2 TL
theorem rd_neS {K : PySem.W.Frag} {H : Hp} {p q : Addr} {ls ms : List Str} {Q : VK} (hp : H p = some (.lst (ls.map V.str))) (hq : H q = some (.lst (ms.map V.str))) (h1 : ∀ z ∈ ls, Signs (tl z)) (h2 : ∀ z ∈ ms, Signs (tl z)) (k : Q (.bl (!decide (ls = ms))) H) : rNeD K (.ref p) (.ref q) H Q := by
  refine ⟨_, _, .lst (SqL.of hp) (dp_strs ls), .lst (SqL.of hq) (dp_strs ms), shaped_lst h1, shaped_lst h2, ?_⟩
  rw [eqv_lst]
  exact k
theorem rd_eqS {K : PySem.W.Frag} {H : Hp} {p q : Addr} {ls ms : List Str} {Q : VK} (hp : H p = some (.lst (ls.map V.str))) (hq : H q = some (.lst (ms.map V.str))) (h1 : ∀ z ∈ ls, Signs (tl z)) (h2 : ∀ z ∈ ms, Signs (tl z)) (k : Q (.bl (decide (ls = ms))) H) : rEqD K (.ref p) (.ref q) H Q := by
  refine ⟨_, _, .lst (SqL.of hp) (dp_strs ls), .lst (SqL.of hq) (dp_strs ms), shaped_lst h1, shaped_lst h2, ?_⟩
  rw [eqv_lst]
  exact k
end Rg
/-! own words: walks down the rows -/
namespace Rg
open PySem L2 TL
/-- where a walker goes on one row -/
def cross (z : Str) (n q : Int) : Int := if decide (q + 1 < n) && rungB z q then q + 1 else if decide (0 < q) && rungB z (q - 1) then q - 1 else q
def rowAt (ls : List Str) (r : Nat) : Str := ls.getD (r % ls.length) Str.empty
/-- where it stands behind k rows -/
def wk (ls : List Str) (n a : Int) : Nat → Int
  | 0 => a
  | k + 1 => cross (rowAt ls k) n (wk ls n a k)
def way (ls : List Str) (n a : Int) (d : Nat) : List Int := (List.range d).map (wk ls n a)
theorem way_len (ls : List Str) (n a : Int) (d : Nat) : (way ls n a d).length = d := by unfold way; simp
theorem way_get {ls : List Str} {n a : Int} {d k : Nat} (h : k < d) : (way ls n a d)[k]? = some (wk ls n a k) := by
  unfold way
  rw [List.getElem?_map, List.getElem?_range h]
  rfl
theorem way_add (ls : List Str) (n a : Int) (d : Nat) : way ls n a (d + 1) = way ls n a d ++ [wk ls n a d] := by
  unfold way
  rw [List.range_succ, List.map_append]
  rfl
theorem rowAt_mem {ls : List Str} (h : 0 < ls.length) (r : Nat) : rowAt ls r ∈ ls := by
  unfold rowAt
  have hr := Nat.mod_lt r h
  rw [List.getD_eq_getElem?_getD, List.getElem?_eq_getElem hr]
  exact List.getElem_mem hr
theorem rowAt_get {ls : List Str} (h : 0 < ls.length) (r : Nat) : ls[((r : Int) % (ls.length : Int)).toNat]? = some (rowAt ls r) := by
  unfold rowAt
  have hr := Nat.mod_lt r h
  rw [show ((r : Int) % (ls.length : Int)).toNat = r % ls.length by omega, List.getD_eq_getElem?_getD, List.getElem?_eq_getElem hr]
  rfl
theorem cross_on {z : Str} {n q : Int} (h0 : 0 ≤ q) (h1 : q < n) : 0 ≤ cross z n q ∧ cross z n q < n := by
  unfold cross
  split
  · rename_i h
    rw [Bool.and_eq_true, decide_eq_true_eq] at h
    omega
  · split
    · rename_i h
      rw [Bool.and_eq_true, decide_eq_true_eq] at h
      omega
    · omega
theorem wk_on {ls : List Str} {n a : Int} (h0 : 0 ≤ a) (h1 : a < n) : ∀ k, 0 ≤ wk ls n a k ∧ wk ls n a k < n
  | 0 => ⟨h0, h1⟩
  | k + 1 => cross_on (wk_on h0 h1 k).1 (wk_on h0 h1 k).2
end Rg
namespace Rg
open PySem L2 TL
local macro_rules | `(tactic| walk_at "sd") => `(tactic| (first | (with_reducible show (_ : Int) ≤ _; omega) | (with_reducible show (_ : Int) < _; omega) | ((fail_if_success (with_reducible show (_ : Int) ≤ _)); rfl) | assumption | omega | (show (0 : Int) < _; omega) | (refine Or.inl ⟨?_, ?_⟩ <;> omega) | (refine Or.inr ⟨?_, ?_⟩ <;> omega) | (refine And.intro ?_ ?_ <;> omega) | exact cp60 | exact cp18 | exact cm60 | exact ps60 | exact Nat.le_of_ble_eq_true rfl | decide))
local macro_rules | `(tactic| walk_at "r") => `(tactic| (first | refine ⟨_, rfl, ?_⟩ | refine Or.inl ⟨_, rfl, ?_⟩ | refine ⟨_, _, rfl, rfl, ?_⟩ | refine ⟨_, _, _, _, rfl, rfl, SqL.of (by assumption), (by assumption), ?_⟩ | refine And.intro (Or.inl ⟨rfl, _, SqL.of (by assumption)⟩) ?_ | refine And.intro ⟨_, rfl⟩ ?_ | refine ⟨_, _, rfl, .inl (SqL.of (by assumption)), ?_⟩ | (refine And.intro ?_ ?_; focus (walk_at "sd"; done))))
local macro_rules | `(tactic| walk_at "x") => `(tactic| (first | refine ⟨_, rfl, ?_⟩ | refine Or.inl ⟨_, rfl, ?_⟩ | refine ⟨_, _, rfl, rfl, ?_⟩ | refine ⟨_, _, _, _, rfl, rfl, SqL.of (by assumption), (by assumption), ?_⟩ | refine And.intro (Or.inl ⟨rfl, _, SqL.of (by assumption)⟩) ?_ | refine And.intro ⟨_, rfl⟩ ?_ | refine ⟨_, _, rfl, .inl (SqL.of (by assumption)), ?_⟩ | refine ⟨_, _, rfl, .inr (SqT.of (by assumption)), ?_⟩ | refine ⟨_, _, _, _, rfl, rfl, SqT.of (by assumption), (by assumption), ?_⟩ | with_reducible refine iteF ?_ | with_reducible refine iteT ?_ | (refine And.intro ?_ ?_; focus (walk_at "sd"; done))))
local macro_rules | `(tactic| walk_at "rd") => `(tactic| repeat (first | refine ⟨_, rfl, ?_⟩ | refine Or.inl ⟨_, rfl, ?_⟩ | refine ⟨_, _, rfl, rfl, ?_⟩ | refine ⟨_, _, _, _, rfl, rfl, SqL.of (by assumption), (by assumption), ?_⟩ | refine And.intro (Or.inl ⟨rfl, _, SqL.of (by assumption)⟩) ?_ | refine And.intro ⟨_, rfl⟩ ?_ | refine ⟨_, _, rfl, .inl (SqL.of (by assumption)), ?_⟩ | (refine And.intro ?_ ?_; focus (walk_at "sd"; done))))
local macro_rules | `(tactic| walk_at "rx") => `(tactic| repeat (first | refine ⟨_, rfl, ?_⟩ | refine Or.inl ⟨_, rfl, ?_⟩ | refine ⟨_, _, rfl, rfl, ?_⟩ | refine ⟨_, _, _, _, rfl, rfl, SqL.of (by assumption), (by assumption), ?_⟩ | refine And.intro (Or.inl ⟨rfl, _, SqL.of (by assumption)⟩) ?_ | refine And.intro ⟨_, rfl⟩ ?_ | refine ⟨_, _, rfl, .inl (SqL.of (by assumption)), ?_⟩ | refine ⟨_, _, rfl, .inr (SqT.of (by assumption)), ?_⟩ | refine ⟨_, _, _, _, rfl, rfl, SqT.of (by assumption), (by assumption), ?_⟩ | with_reducible refine iteF ?_ | with_reducible refine iteT ?_ | (refine And.intro ?_ ?_; focus (walk_at "sd"; done))))
def top (i : Nat) : Stmt := PySem.Challenge.pw_rungrepeats_k84_whole_every_text_of_rule.main.body.getD i (.Pass ⟨0, 0, 0, 0⟩)
abbrev s_RungError_u__init_u_ : Stmt := inClass (top 3) 0
abbrev N_RungError_u__init_u_ : List Str := ["self", "value"]
theorem sc_RungError_u__init_u_ : FnScope N_RungError_u__init_u_ ["self", "value"] (defScope s_RungError_u__init_u_) := ⟨rfl, rfl, rfl, by decide +kernel, rfl, by decide +kernel, by decide +kernel⟩
section
variable {P : Program} {w : World} {K : PySem.W.Frag} {mg : Str → Option Value} {base : Heap}
theorem ok_RungError_init_h {f : Addr} {fd : FuncData} (F : Fun K "__init__" "RungError.__init__" s_RungError_u__init_u_ f fd) (B : Bi mg) : L2H.FnH P w K mg base CX0 1 f fd ["self", "value"] (spErr K) := by
  refine okH F sc_RungError_u__init_u_ (fun vs H Q E h => ?_) (fun cdv A outer s H vs Q E p hot hr h => ?_)
  · obtain ⟨a, C, v, rfl, _⟩ := h
    rfl
  · obtain ⟨a, C, v, rfl, T, nv, ha, k⟩ := h
    refine ⟨_, (pss_one (ps_ost (pv 0) (pv 1) rfl)), ?_⟩
    exact ⟨_, rfl, _, rfl, a, C, rfl, T, nv, .inl ⟨ha, fun dx h1 h2 => k dx h1 h2⟩⟩
theorem ok_RungError_init {f : Addr} {fd : FuncData} (F : Fun K "__init__" "RungError.__init__" s_RungError_u__init_u_ f fd) (B : Bi mg) : FnOk P w K mg base CX0 1 f fd ["self", "value"] (spErr K) := by
  refine F.ok sc_RungError_u__init_u_ (fun vs H Q E h => ?_) (fun cdv A outer s H vs Q E hr h => ?_)
  · obtain ⟨a, C, v, rfl, _⟩ := h
    rfl
  · obtain ⟨a, C, v, rfl, T, nv, ha, k⟩ := h
    refine ⟨_, (pss_one (ps_ost (pv 0) (pv 1) rfl)), ?_⟩
    exact ⟨_, rfl, _, rfl, a, C, rfl, T, nv, .inl ⟨ha, fun dx h1 h2 => k dx h1 h2⟩⟩
end
abbrev s_is_marked : Stmt := top 8
abbrev N_is_marked : List Str := ["text"]
theorem sc_is_marked : FnScope N_is_marked ["text"] (defScope s_is_marked) := ⟨rfl, rfl, rfl, by decide +kernel, rfl, by decide +kernel, by decide +kernel⟩
section
variable {P : Program} {w : World} {K : PySem.W.Frag} {mg : Str → Option Value} {base : Heap}
/-- marks alone, no two rungs side by side: as the program asks it -/
def Mk (z : Str) : Bool := decide ((tl z).count 45 + (tl z).count 46 = (tl z).length) && (!(!(Builtin.Str.occurrences z (Str.ofString "--") 0 z.length 1).isEmpty))
def spIsMarked : Sp := fun vs H Q _ => ∃ z : Str, vs = [.str z] ∧ z.length ≤ sizeLine ∧ Q (.bl (Mk z)) H
theorem ok_is_marked {f : Addr} {fd : FuncData} (F : Fun K "is_marked" "is_marked" s_is_marked f fd) (B : Bi mg) : FnOk P w K mg base CX0 1 f fd ["text"] spIsMarked := by
  refine F.ok sc_is_marked (fun vs H Q E h => ?_) (fun cdv A outer s H vs Q E hr h => ?_)
  · obtain ⟨z, rfl, _⟩ := h
    rfl
  · obtain ⟨z, rfl, hz, k⟩ := h
    refine ⟨_, (pss_one (ps_ret (pe_and (pe_cmpR op_eq (pe_op op_add (pe_m1 PySem.F.slot_str_count PySem.F.type_str_count mt_count (pv 0) pe_str) (pe_m1 PySem.F.slot_str_count PySem.F.type_str_count mt_count (pv 0) pe_str)) (pe_callB call_len_str (by rfl) B.len_ PySem.boot_len (pa_cons (pv 0) pa_nil)) (nomark _)) (pe_one (pe_cmpR op_notin_str pe_str (pv 0) (by rfl)))))), ?_⟩
    walk_at "rx"
    have e1 : Txt.count z (Str.ofString "-") = ((tl z).count 45 : Nat) := count_one z 45
    have e2 : Txt.count z (Str.ofString ".") = ((tl z).count 46 : Nat) := count_one z 46
    rw [e1, e2, len_tl]
    unfold Mk at k
    refine ite2 (fun hc => ?_) (fun hc => ?_)
    · have hs : (tl z).count 45 + (tl z).count 46 = (tl z).length := by
        have := of_decide_eq_true hc
        injection this with this
        omega
      rw [decide_eq_true hs, Bool.true_and] at k
      walk_at "rx"
      exact k
    · have hs : ¬ (tl z).count 45 + (tl z).count 46 = (tl z).length := fun h => hc (decide_eq_true (congrArg V.int (by omega)))
      rw [decide_eq_false hs, Bool.false_and] at k
      walk_at "rx"
      exact k
end
abbrev s_is_row : Stmt := top 9
abbrev N_is_row : List Str := ["text"]
theorem sc_is_row : FnScope N_is_row ["text"] (defScope s_is_row) := ⟨rfl, rfl, rfl, by decide +kernel, rfl, by decide +kernel, by decide +kernel⟩
section
variable {P : Program} {w : World} {K : PySem.W.Frag} {mg : Str → Option Value} {base : Heap}
theorem mk_row {z : Str} {c : Nat} (h0 : 0 < (tl z).length) (hc : (tl z)[0]? = some c) : Mk (z ++ (⟨#[c]⟩ : Str)) = true ↔ Row (tl z) := by
  have e : tl (z ++ (⟨#[c]⟩ : Str)) = tl z ++ [c] := tl_append z _
  unfold Mk
  rw [e, Bool.and_eq_true, decide_eq_true_eq, List.count_append, List.count_append, List.length_append, List.length_singleton]
  have q := (signs_count (tl z)).1
  have q1 := (signs_count [c]).1
  rw [List.length_singleton] at q1
  constructor
  · rintro ⟨h1, h2⟩
    have hs : (tl z).count 45 + (tl z).count 46 = (tl z).length := by omega
    exact (row_asked h0 hs hc).mp h2
  · intro R
    have hs := (signs_count (tl z)).2.mpr R.sgn
    have hs1 : ([c]).count 45 + ([c]).count 46 = ([c] : List Nat).length := (signs_count [c]).2.mpr fun x hx => by
      rw [List.mem_singleton.mp hx]
      exact R.sgn c (List.mem_of_getElem? hc)
    rw [List.length_singleton] at hs1
    exact ⟨by omega, (row_asked h0 hs hc).mpr R⟩
def spIsRow : Sp := fun vs H Q _ => ∃ z : Str, vs = [.str z] ∧ z.length < sizeLine ∧ ∀ b : Bool, (b = true ↔ Row (tl z)) → Q (.bl b) H
theorem ok_is_row {f : Addr} {fd : FuncData} (F : Fun K "is_row" "is_row" s_is_row f fd) (B : Bi mg) (D_is_marked : Df P w K mg base "is_marked" 1 ["text"] spIsMarked) : FnOk P w K mg base CX0 2 f fd ["text"] spIsRow := by
  refine F.ok sc_is_row (fun vs H Q E h => ?_) (fun cdv A outer s H vs Q E hr h => ?_)
  · obtain ⟨z, rfl, _⟩ := h
    rfl
  · obtain ⟨z, rfl, hz, k⟩ := h
    refine ⟨_, (pss_one (ps_ret (pe_and (pe_cmpR op_ne (pv 0) pe_str (nomark _)) (pe_one (pe_df D_is_marked (hr.mono (by first | decide | omega)) (by rfl) (pa_cons (pe_op op_add_str (pv 0) (pe_ix ix_str (pv 0) pe_int (fun _ _ => rfl))) pa_nil)))))), ?_⟩
    walk_at "rx"
    refine ite2 (fun hc => ?_) (fun hc => ?_)
    · have hne : 0 < (tl z).length := by
        rcases Nat.eq_zero_or_pos (tl z).length with q | q
        · rw [decide_eq_true (congrArg V.str (ext_tl (List.length_eq_zero_iff.mp q : tl z = tl (Str.ofString "")) ))] at hc
          exact absurd hc (by decide)
        · exact q
      have hg := sg_first hne
      walk_at "rx"
      refine ⟨_, _, _, rfl, rfl, Nat.le_of_lt hz, atI_k' 0 rfl hg, ?_⟩
      refine ⟨_, _, rfl, rfl, hz, ?_⟩
      walk_at "rx"
      refine ⟨?_, k _ (mk_row hne hg)⟩
      have : (z ++ (⟨#[sg (tl z) 0]⟩ : Str)).length = z.length + 1 := by
        rw [len_tl, tl_append, List.length_append, len_tl]
        rfl
      omega
    · walk_at "rx"
      refine k false ⟨fun h => (nomatch h), fun R => ?_⟩
      rw [Bool.not_eq_true, Bool.not_eq_false', decide_eq_true_eq] at hc
      injection hc with e
      rw [e] at R
      exact absurd R.ne (by decide +kernel)
end
abbrev s_Rule_u__init_u_ : Stmt := inClass (top 11) 0
abbrev N_Rule_u__init_u_ : List Str := ["self", "texts", "row"]
theorem sc_Rule_u__init_u_ : FnScope N_Rule_u__init_u_ ["self", "texts"] (defScope s_Rule_u__init_u_) := ⟨rfl, rfl, rfl, by decide +kernel, rfl, by decide +kernel, by decide +kernel⟩
section
variable {P : Program} {w : World} {K : PySem.W.Frag} {mg : Str → Option Value} {base : Heap}
/-- what is known of the class -/
structure Rl (K : PySem.W.Frag) (C : Addr) : Prop where
  cl : Cls K C
  nR : NoAttr K C "_rows"
  c1 : PySem.W.findIn K (.ref C) "__class__" = some (some (.builtin "object.__class__"))
  c2 : PySem.W.specialIn K (.builtin "object.__class__") "__get__" = some (some (.builtin "getset_descriptor.__get__"))
  c3 : PySem.W.takesIn K (.builtin "object.__class__") = some true
  c4 : PySem.W.mroIn K C (.type "object") = some true
  sf : PySem.W.selfFirst K C = true
theorem Rl.c5 {K : PySem.W.Frag} {C : Addr} (_ : Rl K C) : PySem.W.kitOne K (.ref C) (.ref C) = some true := by
  unfold PySem.W.kitOne
  rw [if_pos (beq_self_eq_true _)]
theorem Rl.ty {K : PySem.W.Frag} {C : Addr} (T : Rl K C) {H : Hp} {a dx : Addr} {fs : List (Str × V)} (e : H a = some (.ins C dx fs)) : TyX K H (.ref a) (.ref C) := .base (.ins e T.cl T.c1 T.c2 T.c3 T.c4)
/-- at p an object of the class stands, with these rows -/
def RuleAt (C : Addr) (H : Hp) (p : Addr) (ls : List Str) : Prop := ∃ dx u, H p = some (.ins C dx [("_rows", V.ref u)]) ∧ H u = some (.tup (ls.map V.str))
theorem RuleAt.same {C : Addr} {H H' : Hp} {p : Addr} {ls : List Str} (h : RuleAt C H p ls) (s : Same H H') : RuleAt C H' p ls := by
  obtain ⟨dx, u, h1, h2⟩ := h
  exact ⟨dx, u, s _ _ h1, s _ _ h2⟩
theorem RuleAt.put {C : Addr} {H : Hp} {p l : Addr} {ls : List Str} {xs : List V} {o : HO} (h : RuleAt C H p ls) (hl : H l = some (.lst xs)) : RuleAt C (upd H l o) p ls := by
  obtain ⟨dx, u, h1, h2⟩ := h
  exact ⟨dx, u, by rw [upd_ne (ne_of h1 hl (by intro z; cases z))]; exact h1, by rw [upd_ne (ne_of h2 hl (by intro z; cases z))]; exact h2⟩
def spInit (C : Addr) : Sp := fun vs H Q _ => ∃ (p t dx : Addr) (n : Nat) (ls : List Str), vs = [.ref p, .ref t] ∧ H p = some (.ins C dx []) ∧ H t = some (.lst (ls.map V.str)) ∧ Rows n ls ∧ n ≤ 5000 ∧
  ∀ H' : Hp, RuleAt C H' p ls → (∀ b o, H b = some o → b ≠ p → H' b = some o) → Q .non H'
theorem ok_Rule_init {f C : Addr} {fd : FuncData} (F : Fun K "__init__" "Rule.__init__" s_Rule_u__init_u_ f fd) (B : Bi mg) (T : Rl K C) (D_is_row : Df P w K mg base "is_row" 2 ["text"] spIsRow) : FnOk P w K mg base CX0 3 f fd ["self", "texts"] (spInit C) := by
  refine F.ok sc_Rule_u__init_u_ (fun vs H Q E h => ?_) (fun cdv A outer s H vs Q E hr h => ?_)
  · obtain ⟨p, t, dx, n, ls, rfl, _⟩ := h
    rfl
  · obtain ⟨p, t, dx, n, ls, rfl, hp, ht, R, hn, k⟩ := h
    have npt : p ≠ t := ne_of hp ht (by intro z; cases z)
    have n5 : n < sizeLine := Nat.lt_of_le_of_lt hn (by decide)
    refine ⟨_, (pss_cons (ps_if (pt_cmpR op_eq (pe_callB call_len_seq (by rfl) B.len_ PySem.boot_len (pa_cons (pv 1) pa_nil)) pe_int (nomark _))
    (pss_one ps_never)
    pss_nil)
    (pss_cons (ps_for PassesOwn.never rfl (pi_list (pv 1)) (pg_name (i := 2) sc_Rule_u__init_u_.nd rfl (Or.inl rfl))
    (pss_one (ps_if (PW.pt (pw_or (pt_not (pt_val (pe_df D_is_row (hr.mono (by first | decide | omega)) (by rfl) (pa_cons (pv 2) pa_nil)))) (pw_or1 (pt_cmpR op_ne (pe_callB call_len_str (by rfl) B.len_ PySem.boot_len (pa_cons (pv 2) pa_nil)) (pe_callB call_len_str (by rfl) B.len_ PySem.boot_len (pa_cons (pe_ix ix_list (pv 1) pe_int (fun _ _ => rfl)) pa_nil)) (nomark _)))))
    (pss_one ps_never)
    pss_nil)))
    (pss_one (ps_fld (pv 0) (pe_callTy call_tuple_of (by rfl) B.tuple_ (by decide +kernel) (pa_cons (pv 1) pa_nil)) rfl)))), ?_⟩
    walk_at "rd"
    refine ite2 (fun hc => ?_) (fun hc => ?_)
    · exfalso
      have e := of_decide_eq_true hc
      injection e with e
      rw [List.length_map] at e
      have := R.ne
      omega
    walk_at "rd"
    refine ⟨⟨_, SqL.of ht⟩, ?_⟩
    refine for_list (K := K) (a := t) (xs := ls.map V.str) (fun i σ H' => H' = H ∧ ∃ v, σ = [some (.ref p), some (.ref t), v]) ⟨rfl, none, rfl⟩ (fun i σ H' _ h => by rw [h.1]; exact SqL.of ht) ?_ ?_
    · rintro i x σ H' hi ⟨rfl, v, rfl⟩
      have hil : i < ls.length := by
        have := (List.getElem?_eq_some_iff.mp hi).1
        rw [List.length_map] at this
        exact this
      rw [getS hil] at hi
      obtain rfl := Option.some.inj hi
      have hz := R.lenS (List.getElem_mem hil)
      have hz0 := R.lenS (List.getElem_mem R.ne)
      walk_at "rd"
      intro b hb
      obtain rfl := hb.mpr (R.row _ (List.getElem_mem hil))
      have iz := atI_k' (i := 0) 0 rfl (getS R.ne)
      walk_at "rd"
      rw [hz, hz0]
      walk_at "rd"
      refine iteNS rfl ?_
      walk_at "rd"
      exact ⟨_, rfl⟩
    · rintro σ H' ⟨rfl, v, rfl⟩
      walk_at "rd"
      refine ⟨t, _, rfl, .inl ⟨SqL.of ht, fun u hu => ?_⟩⟩
      have npu : p ≠ u := ne_of_none hp hu
      walk_at "rd"
      refine ⟨p, C, dx, [], rfl, by rw [upd_ne npu]; exact hp, T.cl, T.nR, by decide, ?_⟩
      refine k _ ⟨dx, u, upd_same, by rw [upd_ne npu.symm, upd_same]⟩ fun b o e hb => ?_
      rw [upd_ne hb, upd_ne (ne_of_none e hu)]
      exact e
theorem mk_at {C : Addr} {H : Hp} {t x dx : Addr} {n : Nat} {ls : List Str} {Q : VK} (ht : H t = some (.lst (ls.map V.str))) (W : Rows n ls) (hn : n ≤ 5000) (nx : H x = none) (ndx : H dx = none) (k : ∀ H' : Hp, Same H H' → RuleAt C H' x ls → Q .non H') :
    spInit C [.ref x, .ref t] (upd (upd H dx (.own x)) x (.ins C dx [])) Q E0 :=
  ⟨x, t, dx, n, ls, rfl, upd_same, by rw [upd_ne (ne_of_none ht nx), upd_ne (ne_of_none ht ndx)]; exact ht, W, hn, fun H' RA keep => k H' (L2.Same.made nx ndx keep) RA⟩
theorem lkR {m : Str} (v : V) (h : ¬ m = "_rows") : ([("_rows", v)] : List (Str × V)).lookup m = none := by
  have : (m == ("_rows" : Str)) = false := by simpa using h
  simp [List.lookup, this]
end
abbrev s_Rule_rows : Stmt := inClass (top 11) 1
abbrev N_Rule_rows : List Str := ["self"]
theorem sc_Rule_rows : FnScope N_Rule_rows ["self"] (defScope s_Rule_rows) := ⟨rfl, rfl, rfl, by decide +kernel, rfl, by decide +kernel, by decide +kernel⟩
section
variable {P : Program} {w : World} {K : PySem.W.Frag} {mg : Str → Option Value} {base : Heap}
def spRows (C : Addr) : Sp := fun vs H Q _ => ∃ (p : Addr) (ls : List Str), vs = [.ref p] ∧ RuleAt C H p ls ∧ ∀ (q : Addr) (H' : Hp), Same H H' → H q = none → H' q = some (.lst (ls.map V.str)) → Q (.ref q) H'
theorem ok_Rule_rows {f C : Addr} {fd : FuncData} (F : Fun K "rows" "Rule.rows" s_Rule_rows f fd) (B : Bi mg) (T : Rl K C) : FnOk P w K mg base CX0 2 f fd ["self"] (spRows C) := by
  refine F.ok sc_Rule_rows (fun vs H Q E h => ?_) (fun cdv A outer s H vs Q E hr h => ?_)
  · obtain ⟨p, ls, rfl, _⟩ := h
    rfl
  · obtain ⟨p, ls, rfl, ⟨dx, u, hp, hu⟩, k⟩ := h
    refine ⟨_, (pss_one (ps_ret (pe_callTy call_list_of (by rfl) B.list_ (by decide +kernel) (pa_cons (pe_fld (pv 0) rfl) pa_nil)))), ?_⟩
    walk_at "rd"
    refine ⟨p, C, dx, _, _, rfl, hp, T.cl, T.nR, rfl, ?_⟩
    refine ⟨u, _, rfl, .inr (SqT.of hu), fun l hl => ?_⟩
    exact k l _ (Same.upd hl) hl upd_same
theorem rd_rows {C : Addr} {H : Hp} {p : Addr} {ls : List Str} {Q : VK} (R : RuleAt C H p ls) (k : ∀ (q : Addr) (H' : Hp), Same H H' → H q = none → H' q = some (.lst (ls.map V.str)) → Q (.ref q) H') :
    ∃ a dx fs, V.ref p = .ref a ∧ H a = some (.ins C dx fs) ∧ spRows C [.ref a] H Q E0 := by
  obtain ⟨dx, u, hp, _⟩ := id R
  exact ⟨p, dx, _, rfl, hp, p, ls, rfl, R, k⟩
end
abbrev s_Rule_u__eq_u_ : Stmt := inClass (top 11) 11
abbrev N_Rule_u__eq_u_ : List Str := ["self", "other"]
theorem sc_Rule_u__eq_u_ : FnScope N_Rule_u__eq_u_ ["self", "other"] (defScope s_Rule_u__eq_u_) := ⟨rfl, rfl, rfl, by decide +kernel, rfl, by decide +kernel, by decide +kernel⟩
section
variable {P : Program} {w : World} {K : PySem.W.Frag} {mg : Str → Option Value} {base : Heap}
def spEqR (C : Addr) : Sp := fun vs H Q _ => ∃ (p q : Addr) (ls ms : List Str), vs = [.ref p, .ref q] ∧ RuleAt C H p ls ∧ RuleAt C H q ms ∧ (∀ z ∈ ls, Signs (tl z)) ∧ (∀ z ∈ ms, Signs (tl z)) ∧ Q (.bl (decide (ls = ms))) H
theorem ok_Rule_eq {f C : Addr} {fd : FuncData} (F : Fun K "__eq__" "Rule.__eq__" s_Rule_u__eq_u_ f fd) (B : Bi mg) (T : Rl K C) (G_Rule : mg "Rule" = some (.ref C)) : FnOk P w K mg base CX0 2 f fd ["self", "other"] (spEqR C) := by
  refine F.ok sc_Rule_u__eq_u_ (fun vs H Q E h => ?_) (fun cdv A outer s H vs Q E hr h => ?_)
  · obtain ⟨p, q, ls, ms, rfl, _⟩ := h
    rfl
  · obtain ⟨p, q, ls, ms, rfl, ⟨dx, u, hp, hu⟩, ⟨dy, v, hq, hv⟩, g1, g2, k⟩ := h
    refine ⟨_, (pss_one (ps_ret (pe_and (pe_callB call_isi (by rfl) B.isinstance_ (by decide +kernel) (pa_cons (pv 1) (pa_cons (pe_glob (v := .ref C) (by rfl) G_Rule rfl) pa_nil))) (pe_one (pe_cmpR (op_eqD hr.units) (pe_fld (pv 0) rfl) (pe_fld (pv 1) rfl) (nomark _)))))), ?_⟩
    walk_at "rd"
    refine ⟨_, _, _, _, true, rfl, .own _, T.ty hq, T.c5, ?_⟩
    walk_at "rd"
    refine ⟨p, C, dx, _, _, rfl, hp, T.cl, T.nR, rfl, ?_⟩
    refine ⟨_, rfl, q, C, dy, _, _, rfl, hq, T.cl, T.nR, rfl, ?_⟩
    refine ⟨_, _, .tup (SqT.of hu) (dp_strs ls), .tup (SqT.of hv) (dp_strs ms), shaped_tup g1, shaped_tup g2, ?_⟩
    rw [eqv_tup]
    exact k
theorem rd_eq {C : Addr} {H : Hp} {p q : Addr} {ls ms : List Str} {Q : VK} (R : RuleAt C H p ls) (S : RuleAt C H q ms) (h1 : ∀ z ∈ ls, Signs (tl z)) (h2 : ∀ z ∈ ms, Signs (tl z)) (k : Q (.bl (decide (ls = ms))) H) : rEqOwn K C (spEqR C) (.ref p) (.ref q) H Q := by
  obtain ⟨dx, u, hp, _⟩ := id R
  obtain ⟨dy, v, hq, _⟩ := id S
  exact ⟨p, q, dx, dy, _, _, rfl, rfl, hp, hq, p, q, ls, ms, rfl, R, S, h1, h2, _, rfl, k⟩
end
abbrev s_show_rule : Stmt := top 15
abbrev N_show_rule : List Str := ["rule"]
theorem sc_show_rule : FnScope N_show_rule ["rule"] (defScope s_show_rule) := ⟨rfl, rfl, rfl, by decide +kernel, rfl, by decide +kernel, by decide +kernel⟩
section
variable {P : Program} {w : World} {K : PySem.W.Frag} {mg : Str → Option Value} {base : Heap}
theorem sum_le' {m : Nat} : ∀ {ls : List Str}, (∀ z ∈ ls, z.length ≤ m) → (ls.map (·.length)).sum ≤ ls.length * m
  | [], _ => by simp
  | z :: ls, h => by
    rw [List.map_cons, List.sum_cons, List.length_cons, Nat.succ_mul]
    have := sum_le' fun y hy => h y (List.mem_cons_of_mem _ hy)
    have := h z List.mem_cons_self
    omega
def spShowRule (C : Addr) : Sp := fun vs H Q _ => ∃ (p : Addr) (ls : List Str), vs = [.ref p] ∧ RuleAt C H p ls ∧ ls.length ≤ 5000 ∧ (∀ z ∈ ls, z.length ≤ 3300) ∧ ∀ H' : Hp, Same H H' → Q (.str (joinR ls)) H'
theorem ok_show_rule {f C : Addr} {fd : FuncData} (F : Fun K "show_rule" "show_rule" s_show_rule f fd) (B : Bi mg) (T : Rl K C) (P_rows : Pr P w K mg base C "rows" 2 (spRows C)) : FnOk P w K mg base CX0 4 f fd ["rule"] (spShowRule C) := by
  refine F.ok sc_show_rule (fun vs H Q E h => ?_) (fun cdv A outer s H vs Q E hr h => ?_)
  · obtain ⟨p, ls, rfl, _⟩ := h
    rfl
  · obtain ⟨p, ls, rfl, R, hl, hz, k⟩ := h
    refine ⟨_, (pss_one (ps_ret (pe_join pe_str (pe_pr (pv 0) P_rows (hr.mono (by first | decide | omega)) rfl)))), ?_⟩
    walk_at "rx"
    refine rd_rows R fun q H2 s2 hq hq2 => ?_
    walk_at "rx"
    have sl := sum_le' hz
    have big : ls.length * 3300 ≤ 16500000 := Nat.le_trans (Nat.mul_le_mul_right 3300 hl) (by decide)
    refine ⟨_, q, ls, rfl, rfl, .inl (SqL.of hq2), ?_, ?_⟩
    · rw [show (Str.ofString "/").length = 1 by decide +kernel]
      omega
    exact k _ s2
end
abbrev s__law_cell : Stmt := top 17
abbrev N__law_cell : List Str := ["script", "at", "cell"]
theorem sc__law_cell : FnScope N__law_cell ["script", "at"] (defScope s__law_cell) := ⟨rfl, rfl, rfl, by decide +kernel, rfl, by decide +kernel, by decide +kernel⟩
section
variable {P : Program} {w : World} {K : PySem.W.Frag} {mg : Str → Option Value} {base : Heap}
def spCell (K : PySem.W.Frag) : Sp := fun vs H Q _ => ∃ (a : Addr) (ns : List Int) (j : Nat), vs = [.ref a, .int j] ∧ SqL K H a (ns.map V.int) ∧ ∀ c : Int, 0 ≤ c → c < 10 ^ 120 → Q (.int c) H
theorem ok__law_cell {f : Addr} {fd : FuncData} (F : Fun K "_law_cell" "_law_cell" s__law_cell f fd) (B : Bi mg) : FnOk P w K mg base CX0 2 f fd ["script", "at"] (spCell K) := by
  refine F.ok sc__law_cell (fun vs H Q E h => ?_) (fun cdv A outer s H vs Q E hr h => ?_)
  · obtain ⟨a, ns, j, rfl, _⟩ := h
    rfl
  · obtain ⟨a, ns, j, rfl, hS, k⟩ := h
    refine ⟨_, (pss_cons (ps_set (i := 2) sc__law_cell.nd rfl (Or.inl rfl) pe_int)
    (pss_cons (ps_if (pt_cmpR op_lt (pv 1) (pe_callB call_len_seq (by rfl) B.len_ PySem.boot_len (pa_cons (pv 0) pa_nil)) (nomark _))
    (pss_one (ps_set (i := 2) sc__law_cell.nd rfl (Or.inl rfl) (pe_ix ix_list (pv 0) (pv 1) (fun _ _ => rfl))))
    pss_nil)
    (pss_cons (ps_if (pt_cmpR op_lt (pv 2) pe_int (nomark _))
    (pss_one (ps_set (i := 2) sc__law_cell.nd rfl (Or.inl rfl) (pe_op op_sub pe_int (pe_op op_mul pe_int (pv 2)))))
    pss_nil)
    (pss_one (ps_ret (pe_op op_mod (pv 2) (pe_op op_mulW (pe_op op_pow pe_int pe_int) (pe_op op_pow pe_int pe_int)))))))), ?_⟩
    walk_at "rd"
    refine ⟨a, _, rfl, .inl hS, ?_⟩
    walk_at "rd"
    have fin : ∀ c : Int, Q (.int (c % ((10 : Int) ^ (60 : Int).toNat * (10 : Int) ^ (60 : Int).toNat))) H := fun c =>
      k _ (Int.emod_nonneg _ (by decide +kernel)) (Int.emod_lt_of_pos _ (by decide +kernel))
    refine ite2 (fun hc => ?_) (fun hc => ?_)
    · have hj : j < ns.length := by
        have := of_decide_eq_true hc
        rw [List.length_map] at this
        omega
      walk_at "rd"
      refine ⟨a, _, _, _, rfl, rfl, hS, atI_nat (getV hj), ?_⟩
      walk_at "rd"
      refine ite2 (fun hc => ?_) (fun hc => ?_)
      all_goals
        walk_at "rd"
        exact fin _
    · walk_at "rd"
      exact fin _
end
abbrev s__law_draws : Stmt := top 18
abbrev N__law_draws : List Str := ["script", "at", "limits", "cell", "rest", "drawn", "k", "stir"]
theorem sc__law_draws : FnScope N__law_draws ["script", "at", "limits"] (defScope s__law_draws) := ⟨rfl, rfl, rfl, by decide +kernel, rfl, by decide +kernel, by decide +kernel⟩
section
variable {P : Program} {w : World} {K : PySem.W.Frag} {mg : Str → Option Value} {base : Heap}
def spDraws (K : PySem.W.Frag) : Sp := fun vs H Q _ => ∃ (a p : Addr) (ns ls : List Int) (j : Nat), vs = [.ref a, .int j, .ref p] ∧ SqL K H a (ns.map V.int) ∧ H p = some (.lst (ls.map V.int)) ∧ ls.length ≤ 5000 ∧ (∀ l ∈ ls, 0 < l ∧ l < 1073741824) ∧
  ∀ (ds : List Int) (q : Addr) (H' : Hp), Drawn ds ls → Same H H' → H q = none → H' q = some (.lst (ds.map V.int)) → Q (.ref q) H'
theorem ok__law_draws {f : Addr} {fd : FuncData} (F : Fun K "_law_draws" "_law_draws" s__law_draws f fd) (B : Bi mg) (D_law_cell : Df P w K mg base "_law_cell" 2 ["script", "at"] (spCell K)) : FnOk P w K mg base CX0 3 f fd ["script", "at", "limits"] (spDraws K) := by
  refine F.ok sc__law_draws (fun vs H Q E h => ?_) (fun cdv A outer s H vs Q E hr h => ?_)
  · obtain ⟨a, p, ns, ls, j, rfl, _⟩ := h
    rfl
  · obtain ⟨a, p, ns, ls, j, rfl, hS, hL, hl, hp, k⟩ := h
    refine ⟨_, (pss_cons (ps_set (i := 3) sc__law_draws.nd rfl (Or.inl rfl) (pe_df D_law_cell (hr.mono (by first | decide | omega)) (by rfl) (pa_cons (pv 0) (pa_cons (pv 1) pa_nil))))
    (pss_cons (ps_set (i := 4) sc__law_draws.nd rfl (Or.inl rfl) (pe_op op_sub (pv 3) (pe_op op_pow pe_int pe_int)))
    (pss_cons (ps_set (i := 5) sc__law_draws.nd rfl (Or.inl rfl) (pe_lst pa_nil))
    (pss_cons (ps_for PassesOwn.never rfl (pi_range1 (by rfl) B.range_ (pa_cons (pe_callB call_len_seq (by rfl) B.len_ PySem.boot_len (pa_cons (pv 2) pa_nil)) pa_nil)) (pg_name (i := 6) sc__law_draws.nd rfl (Or.inl rfl))
    (pss_cons (ps_set (i := 7) sc__law_draws.nd rfl (Or.inl rfl) (pe_op op_mod (pe_callTy call_int1 (by rfl) B.int_ (by decide +kernel) (pa_cons (pe_op op_add (pe_op op_add (pe_op op_mul (pv 3) pe_int) (pe_op op_mul (pe_op op_mul (pe_op op_add (pv 6) pe_int) (pe_op op_add (pv 6) pe_int)) pe_int)) (pe_op op_mul (pv 1) pe_int)) pa_nil)) pe_int))
    (pss_cons (ps_set (i := 7) sc__law_draws.nd rfl (Or.inl rfl) (pe_op op_fdiv (pe_op op_mod (pe_callTy call_int1 (by rfl) B.int_ (by decide +kernel) (pa_cons (pe_op op_add (pe_op op_add (pe_op op_mul (pv 7) (pv 7)) (pe_op op_mul (pv 6) pe_int)) pe_int) pa_nil)) pe_int) pe_int))
    (pss_cons (ps_if (pt_cmpR op_ge (pv 3) (pe_op op_pow pe_int pe_int) (nomark _))
    (pss_cons (ps_set (i := 7) sc__law_draws.nd rfl (Or.inl rfl) (pv 4))
    (pss_one (ps_set (i := 4) sc__law_draws.nd rfl (Or.inl rfl) (pe_op op_fdiv (pv 4) (pe_ix ix_list (pv 2) (pv 6) (fun _ _ => rfl))))))
    pss_nil)
    (pss_one (ps_expr (pe_bm PySem.F.plainAttrs_list PySem.F.slot_list_append PySem.F.type_list_append mt_append (pv 5) (pa_cons (pe_op op_mod (pe_callTy call_int1 (by rfl) B.int_ (by decide +kernel) (pa_cons (pv 7) pa_nil)) (pe_ix ix_list (pv 2) (pv 6) (fun _ _ => rfl))) pa_nil))))))))
    (pss_one (ps_ret (pv 5))))))), ?_⟩
    walk_at "rd"
    refine ⟨a, ns, j, rfl, hS, fun c c0 c1 => ?_⟩
    walk_at "rd"
    intro q hq
    walk_at "rd"
    have s0 : Same H (upd H q (.lst [])) := Same.upd hq
    refine ⟨p, _, rfl, .inl (SqL.of (s0 _ _ hL)), ?_⟩
    refine ⟨_, rfl, by omega, by rw [List.length_map]; omega, ?_⟩
    rw [List.length_map]
    refine for_range (lo := 0) (n := ls.length) (fun i σ H' => ∃ (ds : List Int) (rest : Int) (v1 v2 : Option V), σ = [some (.ref a), some (.int j), some (.ref p), some (.int c), some (.int rest), some (.ref q), v1, v2] ∧ Same H H' ∧
      H' q = some (.lst (ds.map V.int)) ∧ Drawn ds (ls.take i)) ⟨[], _, none, none, rfl, s0, upd_same, ⟨rfl, fun i d l h => by simp at h⟩⟩ ?_ ?_
    · rintro i σ H' hi ⟨ds0, rest, v1, v2, rfl, sm, hd, dr⟩
      have hL' := sm _ _ hL
      have hdl : ds0.length = i := by
        have := dr.1
        rw [List.length_take] at this
        omega
      have hlim : 0 < ls[i] ∧ ls[i] < 1073741824 := hp _ (List.getElem_mem hi)
      have hat : atI (ls.map V.int) (0 + (i : Int)) = some (V.int ls[i]) := atI_k i (by omega) (getV hi)
      walk_at "rd"
      have fin : ∀ (z r : Int) (o1 o2 : Option V) (σ2 : St), σ2 = [some (.ref a), some (.int j), some (.ref p), some (.int c), some (.int r), some (.ref q), o1, o2] →
          ∃ (ds : List Int) (rest : Int) (v1 v2 : Option V), σ2 = [some (.ref a), some (.int j), some (.ref p), some (.int c), some (.int rest), some (.ref q), v1, v2] ∧ Same H (upd H' q (.lst ((ds0.map V.int) ++ [V.int (z % ls[i])]))) ∧
            (upd H' q (.lst ((ds0.map V.int) ++ [V.int (z % ls[i])]))) q = some (.lst (ds.map V.int)) ∧ Drawn ds (ls.take (i + 1)) := by
        intro z r o1 o2 σ2 e
        refine ⟨ds0 ++ [z % ls[i]], r, o1, o2, e, sm.put hq, by rw [upd_same, List.map_append]; rfl, ?_, ?_⟩
        · rw [List.length_append, List.length_take]
          simp
          omega
        · intro n d l h1 h2
          by_cases hn : n < i
          · rw [List.getElem?_append_left (by omega)] at h1
            rw [List.getElem?_take_of_lt (by omega)] at h2
            exact dr.2 n d l h1 (by rw [List.getElem?_take_of_lt hn]; exact h2)
          · have hn2 := (List.getElem?_eq_some_iff.mp h1).1
            rw [List.length_append, List.length_singleton] at hn2
            have e : n = i := by omega
            subst e
            rw [List.getElem?_append_right (by omega), hdl, Nat.sub_self] at h1
            rw [List.getElem?_take_of_lt (by omega), List.getElem?_eq_getElem hi] at h2
            have e1 : z % ls[n] = d := Option.some.inj h1
            have e2 : ls[n] = l := Option.some.inj h2
            rw [← e1, ← e2]
            exact ⟨Int.emod_nonneg _ (by omega), Int.emod_lt_of_pos _ hlim.1⟩
      refine ite2 (fun hc => ?_) (fun hc => ?_)
      all_goals
        walk_at "rd"
        refine ⟨_, _, _, rfl, rfl, hd, by rw [List.length_map, hdl]; exact Nat.lt_of_lt_of_le hi (Nat.le_trans hl (by decide)), ?_⟩
        exact fin _ _ _ _ _ rfl
    · rintro σ H' ⟨ds, rest, v1, v2, rfl, sm, hd, dr⟩
      walk_at "rd"
      rw [List.take_length] at dr
      exact k ds q H' dr sm hq hd
end
abbrev s__law_lines : Stmt := top 19
abbrev N__law_lines : List Str := ["script", "at", "wide", "high", "drawn", "size", "lines", "k", "line", "i", "mark"]
theorem sc__law_lines : FnScope N__law_lines ["script", "at", "wide", "high"] (defScope s__law_lines) := ⟨rfl, rfl, rfl, by decide +kernel, rfl, by decide +kernel, by decide +kernel⟩
section
variable {P : Program} {w : World} {K : PySem.W.Frag} {mg : Str → Option Value} {base : Heap}
def spLines (K : PySem.W.Frag) : Sp := fun vs H Q _ => ∃ (a : Addr) (ns : List Int) (j wd hg : Nat), vs = [.ref a, .int j, .int wd, .int hg] ∧ SqL K H a (ns.map V.int) ∧ 0 < wd ∧ wd ≤ 60 ∧ 0 < hg ∧ hg ≤ 60 ∧
  ∀ (n : Nat) (ls : List Str) (q : Addr) (H' : Hp), Rows n ls → n ≤ wd → ls.length ≤ hg → Same H H' → H q = none → H' q = some (.lst (ls.map V.str)) → Q (.ref q) H'
theorem lims {wd hg : Nat} : ([V.int wd, V.int hg] ++ (List.replicate ((wd : Int) * (hg : Int)).toNat [V.int 2]).flatten) = (([(wd : Int), (hg : Int)] ++ List.replicate (wd * hg) 2).map V.int) := by
  have e : ((wd : Int) * (hg : Int)).toNat = wd * hg := by
    rw [← Int.natCast_mul]
    rfl
  rw [e, List.map_append, List.map_replicate]
  congr 1
  generalize wd * hg = m
  induction m with
  | zero => rfl
  | succ m ih =>
    rw [List.replicate_succ, List.flatten_cons, ih]
    rfl
theorem ok__law_lines {f : Addr} {fd : FuncData} (F : Fun K "_law_lines" "_law_lines" s__law_lines f fd) (B : Bi mg) (D_law_draws : Df P w K mg base "_law_draws" 3 ["script", "at", "limits"] (spDraws K)) : FnOk P w K mg base CX0 4 f fd ["script", "at", "wide", "high"] (spLines K) := by
  refine F.ok sc__law_lines (fun vs H Q E h => ?_) (fun cdv A outer s H vs Q E hr h => ?_)
  · obtain ⟨a, ns, j, wd, hg, rfl, _⟩ := h
    rfl
  · obtain ⟨a, ns, j, wd, hg, rfl, hS, w0, w1, g0, g1, k⟩ := h
    have hmul : (wd : Int) * (hg : Int) = ((wd * hg : Nat) : Int) := by rw [Int.natCast_mul]
    have hm2 : wd * hg ≤ 3600 := Nat.mul_le_mul w1 g1
    refine ⟨_, (pss_cons (ps_set (i := 4) sc__law_lines.nd rfl (Or.inl rfl) (pe_df D_law_draws (hr.mono (by first | decide | omega)) (by rfl) (pa_cons (pv 0) (pa_cons (pv 1) (pa_cons (pe_op op_cat (pe_lst (pa_cons (pv 2) (pa_cons (pv 3) pa_nil))) (pe_op op_rep (pe_lst (pa_cons pe_int pa_nil)) (pe_op op_mul (pv 2) (pv 3)))) pa_nil)))))
    (pss_cons (ps_set (i := 5) sc__law_lines.nd rfl (Or.inl rfl) (pe_op op_add pe_int (pe_ix ix_list (pv 4) pe_int (fun _ _ => rfl))))
    (pss_cons (ps_set (i := 6) sc__law_lines.nd rfl (Or.inl rfl) (pe_lst pa_nil))
    (pss_cons (ps_for PassesOwn.never rfl (pi_range1 (by rfl) B.range_ (pa_cons (pe_op op_add pe_int (pe_ix ix_list (pv 4) pe_int (fun _ _ => rfl))) pa_nil)) (pg_name (i := 7) sc__law_lines.nd rfl (Or.inl rfl))
    (pss_cons (ps_set (i := 8) sc__law_lines.nd rfl (Or.inl rfl) pe_str)
    (pss_cons (ps_for PassesOwn.never rfl (pi_range1 (by rfl) B.range_ (pa_cons (pv 5) pa_nil)) (pg_name (i := 9) sc__law_lines.nd rfl (Or.inl rfl))
    (pss_cons (ps_set (i := 10) sc__law_lines.nd rfl (Or.inl rfl) (pe_and (pe_cmpR op_eq (pe_ix ix_list (pv 4) (pe_op op_add (pe_op op_add pe_int (pe_op op_mul (pv 7) (pv 2))) (pv 9)) (fun _ _ => rfl)) pe_int (nomark _)) (pe_one (pe_cmpR op_ne (pe_slice sl_str (pv 8) (po_some (pe_un un_neg pe_int)) po_none) pe_str (nomark _)))))
    (pss_cons (ps_if (PW.pt (pw_and (pt_cmpR op_eq (pv 9) (pe_op op_sub (pv 5) pe_int) (nomark _)) (pw_and1 (PW.pt (pw_or (pt_cmpR op_eq (pv 5) pe_int (nomark _)) (pw_or1 (pt_cmpR op_eq (pe_ix ix_str (pv 8) pe_int (fun _ _ => rfl)) pe_str (nomark _))))))))
    (pss_one (ps_set (i := 10) sc__law_lines.nd rfl (Or.inl rfl) pe_bl))
    pss_nil)
    (pss_one (ps_set (i := 8) sc__law_lines.nd rfl (Or.inl rfl) (pe_op op_add_str (pv 8) (pe_ifExp (pt_val (pv 10)) pe_str pe_str)))))))
    (pss_one (ps_expr (pe_bm PySem.F.plainAttrs_list PySem.F.slot_list_append PySem.F.type_list_append mt_append (pv 6) (pa_cons (pv 8) pa_nil)))))))
    (pss_one (ps_ret (pv 6))))))), ?_⟩
    walk_at "rd"
    intro p1 hp1
    walk_at "rd"
    intro p2 hp2
    walk_at "rd"
    refine ⟨_, _, _, rfl, rfl, upd_same, by omega, by omega, by rw [hmul]; exact Nat.le_trans (Nat.le_of_eq (Nat.one_mul _)) (Nat.le_trans hm2 (by show 3600 ≤ 2 ^ 24; decide)), fun p3 hp3 => ?_⟩
    have n12 : p1 ≠ p2 := fun e => by rw [e, upd_same] at hp2; cases hp2
    have eL : upd (upd (upd H p1 (.lst [V.int wd, V.int hg])) p2 (.lst [V.int 2])) p3 (.lst (List.replicate ((wd : Int) * (hg : Int)).toNat [V.int 2]).flatten) p1 = some (.lst [V.int wd, V.int hg]) := by
      rw [upd_ne (fun e => by rw [← e, upd_ne n12, upd_same] at hp3; cases hp3), upd_ne n12, upd_same]
    refine ⟨_, _, _, _, rfl, rfl, eL, upd_same, ?_, fun p4 hp4 => ?_⟩
    · rw [hmul]
      simp
      exact Nat.le_trans (show 2 + wd * hg ≤ 3602 by omega) (by decide)
    have s1 : Same H (upd H p1 (.lst [V.int wd, V.int hg])) := Same.upd hp1
    have s2 := s1.up (o := .lst [V.int 2]) hp2
    have s3 := s2.up (o := .lst (List.replicate ((wd : Int) * (hg : Int)).toNat [V.int 2]).flatten) hp3
    have s4 := s3.up (o := .lst ([V.int wd, V.int hg] ++ (List.replicate ((wd : Int) * (hg : Int)).toNat [V.int 2]).flatten)) hp4
    generalize hH4 : upd (upd (upd (upd H p1 _) p2 _) p3 _) p4 _ = H4 at s4 ⊢
    have e4 : H4 p4 = some (.lst (([(wd : Int), (hg : Int)] ++ List.replicate (wd * hg) 2).map V.int)) := by rw [← hH4, upd_same, lims]
    clear hH4 eL s1 s2 s3 hp2 hp3 hp4 n12
    refine ⟨a, p4, ns, _, j, rfl, s4.seq hS, e4, ?_, ?_, ?_⟩
    · simp
      omega
    · intro l hl
      simp at hl
      omega
    intro ds q H5 dr sm hq hd
    obtain ⟨d0, a0, b0, c0, c1⟩ := dr.at (i := 0) (l := wd) rfl
    obtain ⟨d1, a1, b1, c2, c3⟩ := dr.at (i := 1) (l := hg) rfl
    have i0 := atI_k' (i := 0) 0 rfl a0
    have i1 := atI_k' (i := 1) 1 rfl a1
    walk_at "rd"
    intro l hl
    have s5 : Same H5 (upd H5 l (.lst [])) := Same.upd hl
    have hd' := s5 _ _ hd
    walk_at "rd"
    have hq5 : H5 q = some (.lst (ds.map V.int)) := hd
    refine for_range (lo := 0) (n := (1 + d1).toNat) (fun i σ H' => ∃ (ls : List Str) (vk vl vi vm : Option V), σ = [some (.ref a), some (.int j), some (.int wd), some (.int hg), some (.ref q), some (.int (1 + d0)), some (.ref l), vk, vl, vi, vm] ∧ Same H5 H' ∧
      H' l = some (.lst (ls.map V.str)) ∧ ls.length = i ∧ ∀ z ∈ ls, (tl z).length = (1 + d0).toNat ∧ Row (tl z)) ⟨[], none, none, none, none, rfl, s5, upd_same, rfl, by simp⟩ ?_ ?_
    · rintro i σ H' hi ⟨ls, vk, vl, vi, vm, rfl, s6, hls, hlen, hrow⟩
      have hdk := s6 _ _ hq5
      walk_at "rd"
      refine for_range (lo := 0) (n := (1 + d0).toNat) (fun i2 σ H2 => H2 = H' ∧ ∃ (z : Str) (vi vm : Option V), σ = [some (.ref a), some (.int j), some (.int wd), some (.int hg), some (.ref q), some (.int (1 + d0)), some (.ref l), some (.int (0 + (i : Int))), some (.str z), vi, vm] ∧
        (tl z).length = i2 ∧ Part (1 + d0).toNat (tl z)) ⟨rfl, Str.ofString "", vi, vm, rfl, by decide +kernel, ?_⟩ ?_ ?_
      · rw [show tl (Str.ofString "") = [] by decide +kernel]
        exact Part.nil (by omega)
      · rintro i2 σ H2 hi2 ⟨rfl, z, vi, vm, rfl, hz, hp⟩
        have hz60 : z.length ≤ 60 := by rw [len_tl]; omega
        have hzl : z.length ≤ sizeLine := Nat.le_trans hz60 (by decide)
        have hs46 : z.length + (Str.ofString ".").length ≤ sizeLine := by
          rw [show (Str.ofString ".").length = 1 by decide +kernel]
          exact Nat.le_trans (Nat.succ_le_succ hz60) (by decide)
        have hs45 : z.length + (Str.ofString "-").length ≤ sizeLine := by
          rw [show (Str.ofString "-").length = 1 by decide +kernel]
          exact Nat.le_trans (Nat.succ_le_succ hz60) (by decide)
        have hmu : i * wd + wd ≤ hg * wd := by
          have := Nat.mul_le_mul_right wd (show i + 1 ≤ hg by omega)
          rw [Nat.succ_mul] at this
          exact this
        have hpl : ([(wd : Int), (hg : Int)] ++ List.replicate (wd * hg) 2)[2 + (i * wd + i2)]? = some 2 := by
          rw [List.getElem?_append_right (by simp), List.getElem?_replicate, if_pos]
          simp
          rw [Nat.mul_comm wd hg]
          omega
        obtain ⟨dk, ak, bk, _, _⟩ := dr.at hpl
        have ik : atI (ds.map V.int) (2 + (0 + (i : Int)) * (wd : Int) + (0 + (i2 : Int))) = some (V.int dk) := atI_k' _ (by
          rw [Int.zero_add, Int.zero_add, Int.natCast_add, Int.natCast_add, Int.natCast_mul]
          omega) ak
        have dot : ∀ (o1 o2 : Option V), ∃ (z2 : Str) (vi vm : Option V), ([some (.ref a), some (.int j), some (.int wd), some (.int hg), some (.ref q), some (.int (1 + d0)), some (.ref l), some (.int (0 + (i : Int))), some (.str (z ++ Str.ofString ".")), o1, o2] : St) =
            [some (.ref a), some (.int j), some (.int wd), some (.int hg), some (.ref q), some (.int (1 + d0)), some (.ref l), some (.int (0 + (i : Int))), some (.str z2), vi, vm] ∧ (tl z2).length = i2 + 1 ∧ Part (1 + d0).toNat (tl z2) := fun o1 o2 => by
          have e : tl (z ++ Str.ofString ".") = tl z ++ [46] := by rw [tl_append, show tl (Str.ofString ".") = [46] by decide +kernel]
          refine ⟨_, o1, o2, rfl, by rw [e, List.length_append, hz]; rfl, ?_⟩
          rw [e]
          exact hp.add (.inr rfl) (fun h => by cases h) (fun h => by cases h)
        have stroke : (tl z).getLast? ≠ some 45 → ((tl z).length + 1 = (1 + d0).toNat → (1 + d0).toNat ≠ 1 ∧ (tl z)[0]? ≠ some 45) → ∀ (o1 o2 : Option V), ∃ (z2 : Str) (vi vm : Option V), ([some (.ref a), some (.int j), some (.int wd), some (.int hg), some (.ref q), some (.int (1 + d0)), some (.ref l), some (.int (0 + (i : Int))), some (.str (z ++ Str.ofString "-")), o1, o2] : St) =
            [some (.ref a), some (.int j), some (.int wd), some (.int hg), some (.ref q), some (.int (1 + d0)), some (.ref l), some (.int (0 + (i : Int))), some (.str z2), vi, vm] ∧ (tl z2).length = i2 + 1 ∧ Part (1 + d0).toNat (tl z2) := fun g1 g2 o1 o2 => by
          have e : tl (z ++ Str.ofString "-") = tl z ++ [45] := by rw [tl_append, show tl (Str.ofString "-") = [45] by decide +kernel]
          refine ⟨_, o1, o2, rfl, by rw [e, List.length_append, hz]; rfl, ?_⟩
          rw [e]
          exact hp.add (.inl rfl) (fun _ => g1) (fun _ => g2)
        have first : decide (V.int (0 + (i2 : Int)) = V.int (1 + d0 - 1)) = true → ¬ decide (V.int (1 + d0) = V.int 1) = true → ∃ c, (tl z)[0]? = some c := fun h1 h2 => by
          have e1 := of_decide_eq_true h1
          injection e1 with e1
          rw [decide_eq_true_eq] at h2
          have h0 : 0 < (tl z).length := by
            rcases Nat.eq_zero_or_pos (tl z).length with q | q
            · exact absurd (congrArg V.int (show 1 + d0 = 1 by omega)) h2
            · exact q
          exact ⟨_, List.getElem?_eq_getElem h0⟩
        walk_at "rd"
        refine ite2 (fun hc => ?_) (fun hc => ?_)
        · walk_at "rd"
          have hm : (!decide (V.str (cutS z (some (-1)) none) = V.str (Str.ofString "-"))) = true → (tl z).getLast? ≠ some 45 := fun h h2 => by
            rw [cut_last h2] at h
            exact absurd h (by decide +kernel)
          refine ite2 (fun h1 => ?_) (fun h1 => ?_)
          · walk_at "rd"
            refine ite2 (fun h2 => ?_) (fun h2 => ?_)
            · walk_at "rd"
              exact dot _ _
            · obtain ⟨c0, hc0⟩ := first h1 h2
              walk_at "rd"
              refine ⟨_, _, _, rfl, rfl, hzl, atI_k' 0 rfl hc0, ?_⟩
              walk_at "rd"
              refine ite2 (fun h3 => ?_) (fun h3 => ?_)
              · walk_at "rd"
                exact dot _ _
              · walk_at "rd"
                refine ite2 (fun h4 => ?_) (fun h4 => ?_)
                · walk_at "rd"
                  refine stroke (hm h4) (fun _ => ⟨fun e => h2 (decide_eq_true (congrArg V.int (by omega))), fun e => ?_⟩) _ _
                  rw [hc0] at e
                  rw [Option.some.inj e] at h3
                  exact absurd (show decide (V.str (⟨#[45]⟩ : Str) = V.str (Str.ofString "-")) = true by decide +kernel) h3
                · walk_at "rd"
                  exact dot _ _
          · walk_at "rd"
            refine ite2 (fun h4 => ?_) (fun h4 => ?_)
            · walk_at "rd"
              exact stroke (hm h4) (fun e => absurd (decide_eq_true (congrArg V.int (by omega))) h1) _ _
            · walk_at "rd"
              exact dot _ _
        · walk_at "rd"
          refine ite2 (fun h1 => ?_) (fun h1 => ?_)
          · walk_at "rd"
            refine ite2 (fun h2 => ?_) (fun h2 => ?_)
            · walk_at "rd"
              exact dot _ _
            · obtain ⟨c0, hc0⟩ := first h1 h2
              walk_at "rd"
              refine ⟨_, _, _, rfl, rfl, hzl, atI_k' 0 rfl hc0, ?_⟩
              walk_at "rd"
              refine ite2 (fun h3 => ?_) (fun h3 => ?_)
              · walk_at "rd"
                exact dot _ _
              · walk_at "rd"
                exact dot _ _
          · walk_at "rd"
            exact dot _ _
      · rintro σ H2 ⟨rfl, z, vi, vm, rfl, hz, hp⟩
        walk_at "rd"
        refine ⟨_, _, _, rfl, rfl, hls, by rw [List.length_map, hlen]; exact Nat.lt_of_lt_of_le (show i < 61 by omega) (by decide), ?_⟩
        refine ⟨ls ++ [z], _, _, _, _, rfl, s6.put hl, by rw [upd_same, List.map_append]; rfl, by rw [List.length_append, hlen]; rfl, fun y hy => ?_⟩
        rcases List.mem_append.mp hy with h | h
        · exact hrow y h
        · rw [List.mem_singleton.mp h]
          exact ⟨hz, hp.row hz (by omega)⟩
    · rintro σ H' ⟨ls, vk, vl, vi, vm, rfl, s6, hls, hlen, hrow⟩
      walk_at "rd"
      refine k (1 + d0).toNat ls l H' ⟨by omega, fun z hz => (hrow z hz).1, fun z hz => (hrow z hz).2⟩ (by omega) (by omega) ((s4.trans sm).trans s6) ?_ hls
      exact (s4.trans sm).free hl
end
abbrev s__law_large : Stmt := top 20
abbrev N__law_large : List Str := ["script", "at", "drawn", "lines", "deep", "spot", "line"]
theorem sc__law_large : FnScope N__law_large ["script", "at"] (defScope s__law_large) := ⟨rfl, rfl, rfl, by decide +kernel, rfl, by decide +kernel, by decide +kernel⟩
section
variable {P : Program} {w : World} {K : PySem.W.Frag} {mg : Str → Option Value} {base : Heap}
def spLarge (K : PySem.W.Frag) : Sp := fun vs H Q _ => ∃ (a : Addr) (ns : List Int) (j : Nat), vs = [.ref a, .int j] ∧ SqL K H a (ns.map V.int) ∧
  ∀ (n : Nat) (ls : List Str) (q : Addr) (H' : Hp), Rows n ls → n ≤ 60 → ls.length ≤ 36 → Same H H' → H q = none → H' q = some (.lst (ls.map V.str)) → Q (.ref q) H'
theorem ok__law_large {f : Addr} {fd : FuncData} (F : Fun K "_law_large" "_law_large" s__law_large f fd) (B : Bi mg) (D_law_draws : Df P w K mg base "_law_draws" 3 ["script", "at", "limits"] (spDraws K))
    (D_law_lines : Df P w K mg base "_law_lines" 4 ["script", "at", "wide", "high"] (spLines K)) : FnOk P w K mg base CX0 5 f fd ["script", "at"] (spLarge K) := by
  refine F.ok sc__law_large (fun vs H Q E h => ?_) (fun cdv A outer s H vs Q E hr h => ?_)
  · obtain ⟨a, ns, j, rfl, _⟩ := h
    rfl
  · obtain ⟨a, ns, j, rfl, hS, k⟩ := h
    refine ⟨_, (pss_cons (ps_set (i := 2) sc__law_large.nd rfl (Or.inr rfl) (pe_df D_law_draws (hr.mono (by first | decide | omega)) (by rfl) (pa_cons (pv 0) (pa_cons (pe_op op_add (pv 1) pe_int) (pa_cons (pe_lst (pa_cons pe_int (pa_cons pe_int (pa_cons pe_int (pa_cons pe_int pa_nil))))) pa_nil)))))
    (pss_cons (ps_set (i := 3) sc__law_large.nd rfl (Or.inl rfl) (pe_op op_rep (pe_lc (own := [("line", 6)]) (g := gName 6) (tt := tYes) rfl sc__law_large.nd (pi_list (pe_df D_law_lines (hr.mono (by first | decide | omega)) (by rfl) (pa_cons (pv 0) (pa_cons (pv 1) (pa_cons pe_int (pa_cons pe_int pa_nil)))))) (blkOk_by (N := N__law_large) (sc := defScope s__law_large) (by decide +kernel)) (fun _ _ _ _ _ => pg_name (i := 6) sc__law_large.nd rfl (Or.inl rfl)) (fun _ _ _ _ _ => pts_nil) (fun _ _ _ _ _ => (pe_op op_rep_str (pv 6) (pe_op op_add pe_int (pe_ix (show IxR _ (rIxL K) from ix_list) (pv 2) pe_int (fun _ _ => rfl)))))) (pe_op op_add pe_int (pe_ix ix_list (pv 2) pe_int (fun _ _ => rfl)))))
    (pss_cons (ps_set (i := 4) sc__law_large.nd rfl (Or.inl rfl) (pe_op op_mod (pe_ix ix_list (pv 2) pe_int (fun _ _ => rfl)) (pe_callB call_len_seq (by rfl) B.len_ PySem.boot_len (pa_cons (pv 3) pa_nil))))
    (pss_cons (ps_set (i := 5) sc__law_large.nd rfl (Or.inl rfl) (pe_op op_mod (pe_ix ix_list (pv 2) pe_int (fun _ _ => rfl)) (pe_callB call_len_str (by rfl) B.len_ PySem.boot_len (pa_cons (pe_ix ix_list (pv 3) pe_int (fun _ _ => rfl)) pa_nil))))
    (pss_cons (ps_asg (pe_op op_add_str (pe_op op_add_str (pe_slice sl_str (pe_ix ix_list (pv 3) (pv 4) (fun _ _ => rfl)) po_none (po_some (pv 5))) pe_str) (pe_slice sl_str (pe_ix ix_list (pv 3) (pv 4) (fun _ _ => rfl)) (po_some (pe_op op_add (pv 5) pe_int)) po_none)) (pg_sub (pv 3) (pv 4) set_list))
    (pss_one (ps_ret (pv 3)))))))), ?_⟩
    walk_at "rd"
    intro p1 hp1
    have s1 : Same H (upd H p1 (.lst [V.int 10, V.int 6, V.int 36, V.int 60])) := Same.upd hp1
    refine ⟨a, p1, ns, [10, 6, 36, 60], j + 1, rfl, s1.seq hS, upd_same, by decide, by decide, ?_⟩
    intro ds q0 H2 dr sm hq0 hd
    obtain ⟨d0, a0, _, c0, c1⟩ := dr.at (i := 0) (l := 10) rfl
    obtain ⟨d1, a1, _, c2, c3⟩ := dr.at (i := 1) (l := 6) rfl
    obtain ⟨d2, a2, _, c4, c5⟩ := dr.at (i := 2) (l := 36) rfl
    obtain ⟨d3, a3, _, c6, c7⟩ := dr.at (i := 3) (l := 60) rfl
    have i0 := atI_k' (i := 0) 0 rfl a0
    have i1 := atI_k' (i := 1) 1 rfl a1
    have i2 := atI_k' (i := 2) 2 rfl a2
    have i3 := atI_k' (i := 3) 3 rfl a3
    have s2 := s1.trans sm
    walk_at "rd"
    refine ⟨a, ns, j, 6, 6, rfl, s2.seq hS, by decide, by decide, by decide, by decide, ?_⟩
    intro n ls q1 H3 R hn hl s3 hq1 hls
    refine ⟨q1, rfl, ⟨_, SqL.of hls⟩, fun D hD => ?_⟩
    have hz : ∀ z ∈ ls, z.length ≤ 6 := fun z hz => by
      rw [len_tl, R.len z hz]
      exact hn
    have hd3 := s3 _ _ hd
    refine lc_list (K := K) (a := q1) (xs := ls.map V.str) (fun i H' => Same H3 H' ∧ H' D = some (.lst (((ls.take i).map (repS (1 + d0).toNat)).map V.str))) ⟨Same.upd hD, upd_same⟩ (fun i H' _ h => SqL.of (h.1 _ _ hls)) ?_ ?_
    · rintro i x H' hi ⟨sm', hD'⟩
      have hil : i < ls.length := by
        have := (List.getElem?_eq_some_iff.mp hi).1
        rw [List.length_map] at this
        exact this
      rw [getS hil] at hi
      obtain rfl := Option.some.inj hi
      have hz6 := hz _ (List.getElem_mem hil)
      have hd4 := sm' _ _ hd3
      refine ⟨rfl, ?_⟩
      walk_at "rd"
      refine ⟨?_, _, hD', ?_, sm'.put hD, ?_⟩
      · refine Nat.le_trans (Nat.mul_le_mul hz6 (show (1 + d0).toNat ≤ 10 by omega)) (by decide)
      · rw [List.length_map, List.length_map, List.length_take]
        exact Nat.lt_of_le_of_lt (show min i ls.length ≤ 6 by omega) (by decide)
      · rw [upd_same, List.take_add_one, List.getElem?_eq_getElem hil, List.map_append, List.map_append]
        rfl
    · rintro H4 ⟨sm', hD'⟩
      rw [List.length_map, List.take_length] at hD'
      have hd4 := sm' _ _ hd3
      walk_at "rd"
      have R1 := R.mapRep (k := (1 + d0).toNat) (by omega)
      have R2 := R1.many (k := (1 + d1).toNat) (by omega)
      generalize eLS : (List.replicate (1 + d1).toNat (ls.map (repS (1 + d0).toNat))).flatten = LS at R2
      have lLS : LS.length ≤ 36 := by
        rw [← eLS, rep_len', List.length_map]
        exact Nat.mul_le_mul (show (1 + d1).toNat ≤ 6 by omega) hl
      generalize eN : (1 + d0).toNat * n = N at R2
      have lN : N ≤ 60 := by
        rw [← eN]
        exact Nat.mul_le_mul (show (1 + d0).toNat ≤ 10 by omega) hn
      refine ⟨_, _, _, rfl, rfl, hD', by omega, by omega, ?_, fun p hp => ?_⟩
      · rw [List.length_map, List.length_map, Nat.mul_comm]
        refine Nat.le_trans (Nat.mul_le_mul (show (1 + d1).toNat ≤ 6 by omega) hl) (by decide)
      rw [rep_map, eLS]
      have s4 := sm'.up (o := .lst (LS.map V.str)) hp
      have hd5 := s4 _ _ hd3
      have hL : (upd H4 p (.lst (LS.map V.str))) p = some (.lst (LS.map V.str)) := upd_same
      generalize upd H4 p (.lst (LS.map V.str)) = H5 at s4 hd5 hL ⊢
      walk_at "rd"
      try (refine ⟨p, _, rfl, .inl (SqL.of hL), ?_⟩)
      rw [List.length_map]
      have q0 : (0 : Int) < LS.length := by have := R2.ne; omega
      have e0 := Int.emod_nonneg d2 (show (LS.length : Int) ≠ 0 by omega)
      have e1 := Int.emod_lt_of_pos d2 q0
      obtain ⟨pd, epd⟩ := Int.eq_ofNat_of_zero_le e0
      have hpd : pd < LS.length := by omega
      have ip := atI_k' (i := d2 % (LS.length : Int)) pd epd (getS hpd)
      have if0 := atI_k' (i := 0) 0 rfl (getS R2.ne)
      walk_at "rd"
      have hz0 : LS[0].length = N := by rw [len_tl]; exact R2.len _ (List.getElem_mem R2.ne)
      have hzs : LS[0].length ≤ sizeLine := by rw [hz0]; exact Nat.le_trans lN (by decide)
      refine And.intro hzs ?_
      rw [hz0]
      have hN := R2.pos
      have e2 := Int.emod_nonneg d3 (show (N : Int) ≠ 0 by omega)
      have e3 := Int.emod_lt_of_pos d3 (show (0 : Int) < N by omega)
      obtain ⟨ps, eps⟩ := Int.eq_ofNat_of_zero_le e2
      have hps : ps < N := by omega
      have hzp : (tl LS[pd]).length = N := R2.len _ (List.getElem_mem hpd)
      have hzl : LS[pd].length ≤ sizeLine := by rw [len_tl, hzp]; exact Nat.le_trans lN (by decide)
      have hc1 := cutS_length LS[pd] none (some (d3 % (N : Int)))
      have hc2 := cutS_length LS[pd] (some (d3 % (N : Int) + 1)) none
      have hd1 : (Str.ofString ".").length = 1 := by decide +kernel
      have h60 : LS[pd].length ≤ 60 := by rw [len_tl, hzp]; exact lN
      walk_at "rd"
      refine And.intro ?_ ?_
      · refine Nat.le_trans (m := 61) ?_ (by decide)
        omega
      walk_at "rd"
      refine And.intro ?_ ?_
      · rw [Str.length_append]
        refine Nat.le_trans (m := 121) ?_ (by decide)
        omega
      walk_at "rd"
      refine ⟨_, _, _, pd, rfl, rfl, hL, by rw [epd, List.length_map]; exact ixN_nat hpd, ?_⟩
      walk_at "rd"
      rw [← List.map_set]
      have ec : tl (cutS LS[pd] none (some (d3 % (N : Int))) ++ Str.ofString "." ++ cutS LS[pd] (some (d3 % (N : Int) + 1)) none) = (tl LS[pd]).set ps 46 := by
        rw [eps]
        exact cut_dot (by decide +kernel) (by omega)
      refine k N _ p _ (R2.set pd (by rw [ec, List.length_set, hzp]) (by rw [ec]; exact (R2.row _ (List.getElem_mem hpd)).dot ps)) lN (by rw [List.length_set]; exact lLS) ?_ ?_ upd_same
      · exact ((s2.trans s3).trans s4).put ((s2.trans (s3.trans sm')).free hp)
      · exact (s2.trans (s3.trans sm')).free hp
end
abbrev s__law_is_row : Stmt := top 21
abbrev N__law_is_row : List Str := ["line"]
theorem sc__law_is_row : FnScope N__law_is_row ["line"] (defScope s__law_is_row) := ⟨rfl, rfl, rfl, by decide +kernel, rfl, by decide +kernel, by decide +kernel⟩
section
variable {P : Program} {w : World} {K : PySem.W.Frag} {mg : Str → Option Value} {base : Heap}
def spLawIsRow : Sp := fun vs H Q _ => ∃ z : Str, vs = [.str z] ∧ z.length ≤ 5000 ∧ ∀ b : Bool, (b = true ↔ Row (tl z)) → Q (.bl b) H
theorem ok__law_is_row {f : Addr} {fd : FuncData} (F : Fun K "_law_is_row" "_law_is_row" s__law_is_row f fd) (B : Bi mg) : FnOk P w K mg base CX0 2 f fd ["line"] spLawIsRow := by
  refine okT F sc__law_is_row (by decide +kernel) (by decide) (fun vs H Q E h => ?_) (fun cdv A outer s H vs Q E hr h => ?_)
  · obtain ⟨z, rfl, _⟩ := h
    rfl
  · obtain ⟨z, rfl, hz, k⟩ := h
    refine ⟨_, (psst_cons (PST.of (ps_if (PW.pt (pw_or (pt_cmpR op_eq (pv 0) pe_str (nomark _)) (pw_or (pt_cmpR op_eq (pv 0) pe_str (nomark _)) (pw_or1 (pt_cmpR op_in_str pe_str (pv 0) (by rfl))))))
    (pss_one (ps_ret pe_bl))
    pss_nil))
    (psst_cons (PST.of (ps_if (PW.pt (pw_and (pt_cmpR op_eq (pe_ix ix_str (pv 0) pe_int (fun _ _ => rfl)) pe_str (nomark _)) (pw_and1 (pt_cmpR op_eq (pe_ix ix_str (pv 0) (pe_un un_neg pe_int) (fun _ _ => rfl)) pe_str (nomark _)))))
    (pss_one (ps_ret pe_bl))
    pss_nil))
    (CwR.psst_one (CwR.pst_ret (pet_cmpR op_eq (CwR.pet_replT (CwR.pet_replC (pv 0))) pe_str (nomark _)))))), ?_⟩
    have hzs : z.length < sizeLine := Nat.lt_of_le_of_lt hz (by decide)
    have no : ¬ Row (tl z) → Q (.bl false) H := fun h => k false ⟨fun h2 => (nomatch h2), fun R => absurd R h⟩
    walk_at "rd"
    refine ite2 (fun hc => ?_) (fun hc => ?_)
    · walk_at "rd"
      refine no fun R => ?_
      have e := of_decide_eq_true hc
      injection e with e
      rw [e] at R
      exact absurd R.ne (by decide +kernel)
    have hne : 0 < (tl z).length := by
      rcases Nat.eq_zero_or_pos (tl z).length with q | q
      · exact absurd (decide_eq_true (congrArg V.str (ext_tl (List.length_eq_zero_iff.mp q : tl z = tl (Str.ofString ""))))) hc
      · exact q
    walk_at "rd"
    refine ite2 (fun hc1 => ?_) (fun hc1 => ?_)
    · walk_at "rd"
      refine no fun R => ?_
      have e := of_decide_eq_true hc1
      injection e with e
      rw [e] at R
      have r := (row_ends.mp R).2.2.2
      rw [show tl (Str.ofString "-") = [45] by decide +kernel] at r
      exact r ⟨rfl, rfl⟩
    walk_at "rd"
    refine ite2 (fun hd => ?_) (fun hd => ?_)
    · walk_at "rd"
      refine no fun R => ?_
      obtain ⟨i, g1, g2⟩ := (dd_iff z).mp hd
      exact (row_ends.mp R).2.2.1 i ⟨g1, g2⟩
    have hgap : ∀ i : Nat, ¬ ((tl z)[i]? = some 45 ∧ (tl z)[i + 1]? = some 45) := fun i g => hd ((dd_iff z).mpr ⟨i, g⟩)
    have hf : (tl z)[0]? = some (sg (tl z) 0) := sg_first hne
    obtain ⟨c1, hl⟩ : ∃ c, (tl z)[(tl z).length - 1]? = some c := ⟨_, List.getElem?_eq_getElem (by omega)⟩
    have ch : ∀ c : Nat, decide (V.str (⟨#[c]⟩ : Str) = V.str (Str.ofString "-")) = true ↔ c = 45 := fun c => by
      rw [decide_eq_true_eq]
      constructor
      · intro e
        injection e with e
        have e2 := congrArg tl e
        rw [show tl (Str.ofString "-") = [45] by decide +kernel] at e2
        injection e2
      · intro e
        subst e
        exact congrArg V.str (ext_tl (by decide +kernel))
    have fin : ¬ ((tl z)[0]? = some 45 ∧ (tl z)[(tl z).length - 1]? = some 45) → Q (.bl (decide (V.str (Txt.replace (Txt.replace z (Str.ofString "-") (Str.ofString "")) (Str.ofString ".") (Str.ofString "")) = V.str (Str.ofString "")))) H := fun h => by
      refine k _ ?_
      rw [struck z]
      exact ⟨fun S => row_ends.mpr ⟨hne, S, hgap, h⟩, fun R => (row_ends.mp R).2.1⟩
    have hrl : z.length + (z.length + 1) * (Str.ofString "").length ≤ 16777216 := by
      rw [show (Str.ofString "").length = 0 by decide +kernel]
      omega
    have hr2 : (Txt.replace z (Str.ofString "-") (Str.ofString "")).length + ((Txt.replace z (Str.ofString "-") (Str.ofString "")).length + 1) * (Str.ofString "").length ≤ 16777216 := by
      have := TK.replace_len z (Str.ofString "-") (Str.ofString "")
      rw [show (Str.ofString "").length = 0 by decide +kernel] at this ⊢
      omega
    walk_at "rd"
    refine ⟨_, _, _, rfl, rfl, Nat.le_of_lt hzs, atI_k' 0 rfl hf, ?_⟩
    walk_at "rd"
    refine cutAnd (fun σ H' => H = H' ∧ σ = [some (.str z)] ∧ ¬ ((tl z)[0]? = some 45 ∧ (tl z)[(tl z).length - 1]? = some 45)) ?_ ?_ (fun hc => ⟨rfl, rfl, fun h => ?_⟩)
    · rintro σ _ ⟨rfl, rfl, h⟩
      walk_at "rd"
      exact fin h
    · intro hT hc
      walk_at "rd"
      refine ⟨_, _, _, rfl, rfl, Nat.le_of_lt hzs, atI_back hl, ?_⟩
      walk_at "rd"
      refine ite2 (fun hb => ?_) (fun hb => ?_)
      · walk_at "rd"
        refine no fun R => ?_
        refine (row_ends.mp R).2.2.2 ⟨?_, ?_⟩
        · rw [hf, (ch _).mp hc]
        · rw [hl, (ch _).mp hb]
      · exact hT _ _ ⟨rfl, rfl, fun h => hb ((ch _).mpr (Option.some.inj (hl.symm.trans h.2)))⟩
    · have e := (ch (sg (tl z) 0)).mpr (Option.some.inj (hf.symm.trans h.1))
      rw [hc] at e
      cases e
end
abbrev s__law_sign : Stmt := top 22
abbrev N__law_sign : List Str := ["number", "signs"]
theorem sc__law_sign : FnScope N__law_sign ["number"] (defScope s__law_sign) := ⟨rfl, rfl, rfl, by decide +kernel, rfl, by decide +kernel, by decide +kernel⟩
section
variable {P : Program} {w : World} {K : PySem.W.Frag} {mg : Str → Option Value} {base : Heap}
def spSign : Sp := fun vs H Q _ => ∃ i : Int, vs = [.int i] ∧ ∀ z : Str, Plain z → z.length = 1 → Q (.str z) H
theorem ok__law_sign {f : Addr} {fd : FuncData} (F : Fun K "_law_sign" "_law_sign" s__law_sign f fd) (B : Bi mg) : FnOk P w K mg base CX0 2 f fd ["number"] spSign := by
  refine F.ok sc__law_sign (fun vs H Q E h => ?_) (fun cdv A outer s0 H vs Q E hr h => ?_)
  · obtain ⟨i, rfl, _⟩ := h
    rfl
  · obtain ⟨i, rfl, k⟩ := h
    refine ⟨_, (pss_cons (ps_set (i := 1) sc__law_sign.nd rfl (Or.inl rfl) pe_str)
    (pss_one (ps_ret (pe_ix ix_str (pv 1) (pe_op op_mod (pv 0) pe_int) (fun _ _ => rfl))))), ?_⟩
    walk_at "rd"
    have e0 := Int.emod_nonneg i (show (94 : Int) ≠ 0 by decide)
    have e1 := Int.emod_lt_of_pos i (show (0 : Int) < 94 by decide)
    have hl : (tl (Str.ofString "~}|{zyxwvutsrqponmlkjihgfedcba_^]\\[ZYXWVUTSRQPONMLKJIHGFEDCBA@?>=<;:9876543210/.-,+*)('&$#\"! `")).length = 94 := by decide +kernel
    have hp : ∀ c ∈ tl (Str.ofString "~}|{zyxwvutsrqponmlkjihgfedcba_^]\\[ZYXWVUTSRQPONMLKJIHGFEDCBA@?>=<;:9876543210/.-,+*)('&$#\"! `"), c < 0x110000 := by decide +kernel
    have hj : (i % 94).toNat < (tl (Str.ofString "~}|{zyxwvutsrqponmlkjihgfedcba_^]\\[ZYXWVUTSRQPONMLKJIHGFEDCBA@?>=<;:9876543210/.-,+*)('&$#\"! `")).length := by rw [hl]; omega
    refine ⟨_, _, _, rfl, rfl, by rw [len_tl, hl]; decide, atI_k' (i % 94).toNat (Int.toNat_of_nonneg e0).symm (List.getElem?_eq_getElem hj), ?_⟩
    refine k _ (fun c hc => ?_) rfl
    rw [List.mem_singleton.mp hc]
    exact hp _ (List.getElem_mem hj)
end
abbrev s__law_same : Stmt := top 23
abbrev N__law_same : List Str := ["found", "due", "k"]
theorem sc__law_same : FnScope N__law_same ["found", "due"] (defScope s__law_same) := ⟨rfl, rfl, rfl, by decide +kernel, rfl, by decide +kernel, by decide +kernel⟩
section
variable {P : Program} {w : World} {K : PySem.W.Frag} {mg : Str → Option Value} {base : Heap}
/-- two values that are the same data, n deep at most -/
inductive Alike (K : PySem.W.Frag) (H : Hp) : Nat → V → V → Prop where
  | non {n : Nat} : Alike K H (n + 1) .non .non
  | bl {n : Nat} (b : Bool) : Alike K H (n + 1) (.bl b) (.bl b)
  | int {n : Nat} (i : Int) : Alike K H (n + 1) (.int i) (.int i)
  | str {n : Nat} (z : Str) : Alike K H (n + 1) (.str z) (.str z)
  | lst {n : Nat} {a b : Addr} {xs ys : List V} (ha : H a = some (.lst xs)) (hb : H b = some (.lst ys)) (hl : xs.length = ys.length) (hm : ys.length ≤ 5000)
      (h : ∀ (i : Nat) (x y : V), xs[i]? = some x → ys[i]? = some y → Alike K H n x y) : Alike K H (n + 1) (.ref a) (.ref b)
  | tup {n : Nat} {a b : Addr} {xs ys : List V} (ha : H a = some (.tup xs)) (hb : H b = some (.tup ys)) (hl : xs.length = ys.length) (hm : ys.length ≤ 5000)
      (h : ∀ (i : Nat) (x y : V), xs[i]? = some x → ys[i]? = some y → Alike K H n x y) : Alike K H (n + 1) (.ref a) (.ref b)
theorem Alike.same {H H' : Hp} (s : Same H H') {n : Nat} {x y : V} (h : Alike K H n x y) : Alike K H' n x y := by
  induction h with
  | non => exact .non
  | bl b => exact .bl b
  | int i => exact .int i
  | str z => exact .str z
  | lst ha hb hl hm _ ih => exact .lst (s _ _ ha) (s _ _ hb) hl hm ih
  | tup ha hb hl hm _ ih => exact .tup (s _ _ ha) (s _ _ hb) hl hm ih
def spSame (K : PySem.W.Frag) (n : Nat) : Sp := fun vs H Q _ => ∃ x y : V, vs = [x, y] ∧ Alike K H n x y ∧ ∀ H' : Hp, Same H H' → Q (.bl true) H'
theorem all_true (n : Nat) : ((List.replicate n true).all id) = true := by
  induction n with
  | zero => rfl
  | succ n ih => rw [List.replicate_succ, List.all_cons, ih]; rfl
theorem step__law_same {n : Nat} {f : Addr} {fd : FuncData} (F : Fun K "_law_same" "_law_same" s__law_same f fd) (B : Bi mg) (D_law_same : Df P w K mg base "_law_same" n ["found", "due"] (spSame K n)) : FnOk P w K mg base CX0 (n + 1) f fd ["found", "due"] (spSame K (n + 1)) := by
  refine F.ok sc__law_same (fun vs H Q E h => ?_) (fun cdv A outer s H vs Q E hr h => ?_)
  · obtain ⟨x, y, rfl, _⟩ := h
    rfl
  · obtain ⟨x, y, rfl, hA, k⟩ := h
    refine ⟨_, (pss_cons (ps_if (pt_cmpR op_isN (pv 1) pe_non (nomark _))
    (pss_one (ps_ret (pe_cmpR op_isN (pv 0) pe_non (nomark _))))
    pss_nil)
    (pss_cons (ps_if (pt_val (pe_callB call_isi (by rfl) B.isinstance_ (by decide +kernel) (pa_cons (pv 1) (pa_cons (pe_bltn (v := .ty "bool") (u := .type "bool") (by rfl) B.bool_ (by decide +kernel) rfl) pa_nil))))
    (pss_one (ps_ret (pe_and (pe_callB call_isi (by rfl) B.isinstance_ (by decide +kernel) (pa_cons (pv 0) (pa_cons (pe_bltn (v := .ty "bool") (u := .type "bool") (by rfl) B.bool_ (by decide +kernel) rfl) pa_nil))) (pe_one (pe_cmpR op_eq (pv 0) (pv 1) (nomark _))))))
    pss_nil)
    (pss_cons (ps_if (pt_val (pe_callB call_isi (by rfl) B.isinstance_ (by decide +kernel) (pa_cons (pv 1) (pa_cons (pe_bltn (v := .ty "int") (u := .type "int") (by rfl) B.int_ (by decide +kernel) rfl) pa_nil))))
    (pss_one (ps_ret (pe_and (pe_callB call_isi (by rfl) B.isinstance_ (by decide +kernel) (pa_cons (pv 0) (pa_cons (pe_bltn (v := .ty "int") (u := .type "int") (by rfl) B.int_ (by decide +kernel) rfl) pa_nil))) (pe_and (pe_not (pe_callB call_isi (by rfl) B.isinstance_ (by decide +kernel) (pa_cons (pv 0) (pa_cons (pe_bltn (v := .ty "bool") (u := .type "bool") (by rfl) B.bool_ (by decide +kernel) rfl) pa_nil)))) (pe_one (pe_cmpR op_eq (pv 0) (pv 1) (nomark _)))))))
    pss_nil)
    (pss_cons (ps_if (pt_val (pe_callB call_isi (by rfl) B.isinstance_ (by decide +kernel) (pa_cons (pv 1) (pa_cons (pe_bltn (v := .ty "str") (u := .type "str") (by rfl) B.str_ (by decide +kernel) rfl) pa_nil))))
    (pss_one (ps_ret (pe_and (pe_callB call_isi (by rfl) B.isinstance_ (by decide +kernel) (pa_cons (pv 0) (pa_cons (pe_bltn (v := .ty "str") (u := .type "str") (by rfl) B.str_ (by decide +kernel) rfl) pa_nil))) (pe_one (pe_cmpR op_eq (pv 0) (pv 1) (nomark _))))))
    pss_nil)
    (pss_cons (ps_if (pt_val (pe_callB call_isi (by rfl) B.isinstance_ (by decide +kernel) (pa_cons (pv 1) (pa_cons (pe_bltn (v := .ty "list") (u := .type "list") (by rfl) B.list_ (by decide +kernel) rfl) pa_nil))))
    (pss_one (ps_if (pt_not (pt_val (pe_callB call_isi (by rfl) B.isinstance_ (by decide +kernel) (pa_cons (pv 0) (pa_cons (pe_bltn (v := .ty "list") (u := .type "list") (by rfl) B.list_ (by decide +kernel) rfl) pa_nil)))))
    (pss_one (ps_ret pe_bl))
    pss_nil))
    (pss_one (ps_if (pt_not (pt_val (pe_callB call_isi (by rfl) B.isinstance_ (by decide +kernel) (pa_cons (pv 0) (pa_cons (pe_bltn (v := .ty "tuple") (u := .type "tuple") (by rfl) B.tuple_ (by decide +kernel) rfl) pa_nil)))))
    (pss_one (ps_ret pe_bl))
    pss_nil)))
    (pss_cons (ps_if (pt_cmpR op_ne (pe_callB call_len (by rfl) B.len_ PySem.boot_len (pa_cons (pv 0) pa_nil)) (pe_callB call_len (by rfl) B.len_ PySem.boot_len (pa_cons (pv 1) pa_nil)) (nomark _))
    (pss_one (ps_ret pe_bl))
    pss_nil)
    (pss_one (ps_ret (pe_callB (cr_all rfl) (by rfl) B.all_ (by decide +kernel) (pa_cons (pe_lc (own := [("k", 2)]) (g := gName 2) (tt := tYes) rfl sc__law_same.nd (pi_range1 (by rfl) B.range_ (pa_cons (pe_callB call_len (by rfl) B.len_ PySem.boot_len (pa_cons (pv 1) pa_nil)) pa_nil)) (blkOk_by (N := N__law_same) (sc := defScope s__law_same) (by decide +kernel)) (fun _ _ _ _ _ => pg_name (i := 2) sc__law_same.nd rfl (Or.inl rfl)) (fun _ _ _ _ _ => pts_nil) (fun _ _ _ _ _ => (pe_df D_law_same (hr.mono (by first | decide | omega)) (by rfl) (pa_cons (pe_ix (show IxR _ (rIx K) from ix_seq) (pv 0) (pv 2) (fun _ _ => rfl)) (pa_cons (pe_ix (show IxR _ (rIx K) from ix_seq) (pv 1) (pv 2) (fun _ _ => rfl)) pa_nil))))) pa_nil)))))))))), ?_⟩
    cases hA with
    | non =>
      walk_at "rd"
      exact k _ (Same.refl _)
    | bl b =>
      walk_at "rd"
      refine ⟨_, _, _, _, true, rfl, .ty _, .base (.bl _), kit_ty (by decide +kernel), ?_⟩
      walk_at "rd"
      refine ⟨_, _, _, _, true, rfl, .ty _, .base (.bl _), kit_ty (by decide +kernel), ?_⟩
      walk_at "rd"
      rw [decide_eq_true rfl]
      exact k _ (Same.refl _)
    | int i =>
      walk_at "rd"
      refine ⟨_, _, _, _, false, rfl, .ty _, .base (.int _), kit_ty (by decide +kernel), ?_⟩
      walk_at "rd"
      refine ⟨_, _, _, _, true, rfl, .ty _, .base (.int _), kit_ty (by decide +kernel), ?_⟩
      walk_at "rd"
      refine ⟨_, _, _, _, true, rfl, .ty _, .base (.int _), kit_ty (by decide +kernel), ?_⟩
      walk_at "rd"
      refine ⟨_, _, _, _, false, rfl, .ty _, .base (.int _), kit_ty (by decide +kernel), ?_⟩
      walk_at "rd"
      rw [decide_eq_true rfl]
      exact k _ (Same.refl _)
    | str z =>
      walk_at "rd"
      refine ⟨_, _, _, _, false, rfl, .ty _, .base (.str _), kit_ty (by decide +kernel), ?_⟩
      walk_at "rd"
      refine ⟨_, _, _, _, false, rfl, .ty _, .base (.str _), kit_ty (by decide +kernel), ?_⟩
      walk_at "rd"
      refine ⟨_, _, _, _, true, rfl, .ty _, .base (.str _), kit_ty (by decide +kernel), ?_⟩
      walk_at "rd"
      refine ⟨_, _, _, _, true, rfl, .ty _, .base (.str _), kit_ty (by decide +kernel), ?_⟩
      walk_at "rd"
      rw [decide_eq_true rfl]
      exact k _ (Same.refl _)
    | @lst _ a b xs ys ha hb hl hm hi =>
      walk_at "rd"
      refine ⟨_, _, _, _, false, rfl, .ty _, .base (.lst hb), kit_ty (by decide +kernel), ?_⟩
      walk_at "rd"
      refine ⟨_, _, _, _, false, rfl, .ty _, .base (.lst hb), kit_ty (by decide +kernel), ?_⟩
      walk_at "rd"
      refine ⟨_, _, _, _, false, rfl, .ty _, .base (.lst hb), kit_ty (by decide +kernel), ?_⟩
      walk_at "rd"
      refine ⟨_, _, _, _, true, rfl, .ty _, .base (.lst hb), kit_ty (by decide +kernel), ?_⟩
      walk_at "rd"
      refine ⟨_, _, _, _, true, rfl, .ty _, .base (.lst ha), kit_ty (by decide +kernel), ?_⟩
      walk_at "rd"
      refine ⟨_, _, rfl, .inl ⟨_, SqL.of ha, rfl⟩, ?_⟩
      walk_at "rd"
      refine ⟨_, _, rfl, .inl ⟨_, SqL.of hb, rfl⟩, ?_⟩
      rw [hl]
      walk_at "rd"
      refine iteNS rfl ?_
      walk_at "rd"
      refine ⟨_, _, rfl, .inl ⟨_, SqL.of hb, rfl⟩, ?_⟩
      walk_at "rd"
      intro D hD
      refine lc_range (lo := 0) (n := ys.length) (fun i H' => Same H H' ∧ H' D = some (.lst (List.replicate i (V.bl true)))) ⟨Same.upd hD, upd_same⟩ ?_ ?_
      · rintro i H' hil ⟨sm, hD'⟩
        have ex : xs[i]? = some xs[i] := List.getElem?_eq_getElem (by omega)
        have ey : ys[i]? = some ys[i] := List.getElem?_eq_getElem hil
        refine ⟨rfl, ?_⟩
        refine ⟨_, rfl, _, rfl, .inl ⟨_, _, _, _, rfl, rfl, SqL.of (sm _ _ ha), atI_k i (by omega) ex, ?_⟩⟩
        refine ⟨_, rfl, _, rfl, .inl ⟨_, _, _, _, rfl, rfl, SqL.of (sm _ _ hb), atI_k i (by omega) ey, ?_⟩⟩
        refine ⟨_, _, rfl, (hi i _ _ ex ey).same sm, fun H2 s2 => ?_⟩
        refine ⟨_, s2 _ _ hD', by rw [List.length_replicate]; exact Nat.lt_of_lt_of_le hil (Nat.le_trans hm (by decide)), (sm.trans s2).put hD, ?_⟩
        rw [upd_same, List.replicate_succ']
      · rintro H' ⟨sm, hD'⟩
        walk_at "rd"
        refine ⟨D, List.replicate ys.length true, rfl, SqL.of (by rw [List.map_replicate]; exact hD'), ?_⟩
        rw [all_true]
        exact k _ sm
    | @tup _ a b xs ys ha hb hl hm hi =>
      walk_at "rd"
      refine ⟨_, _, _, _, false, rfl, .ty _, .base (.tup hb), kit_ty (by decide +kernel), ?_⟩
      walk_at "rd"
      refine ⟨_, _, _, _, false, rfl, .ty _, .base (.tup hb), kit_ty (by decide +kernel), ?_⟩
      walk_at "rd"
      refine ⟨_, _, _, _, false, rfl, .ty _, .base (.tup hb), kit_ty (by decide +kernel), ?_⟩
      walk_at "rd"
      refine ⟨_, _, _, _, false, rfl, .ty _, .base (.tup hb), kit_ty (by decide +kernel), ?_⟩
      walk_at "rd"
      refine ⟨_, _, _, _, true, rfl, .ty _, .base (.tup ha), kit_ty (by decide +kernel), ?_⟩
      walk_at "rd"
      refine ⟨_, _, rfl, .inr ⟨_, SqT.of ha, rfl⟩, ?_⟩
      walk_at "rd"
      refine ⟨_, _, rfl, .inr ⟨_, SqT.of hb, rfl⟩, ?_⟩
      rw [hl]
      walk_at "rd"
      refine iteNS rfl ?_
      walk_at "rd"
      refine ⟨_, _, rfl, .inr ⟨_, SqT.of hb, rfl⟩, ?_⟩
      walk_at "rd"
      intro D hD
      refine lc_range (lo := 0) (n := ys.length) (fun i H' => Same H H' ∧ H' D = some (.lst (List.replicate i (V.bl true)))) ⟨Same.upd hD, upd_same⟩ ?_ ?_
      · rintro i H' hil ⟨sm, hD'⟩
        have ex : xs[i]? = some xs[i] := List.getElem?_eq_getElem (by omega)
        have ey : ys[i]? = some ys[i] := List.getElem?_eq_getElem hil
        refine ⟨rfl, ?_⟩
        refine ⟨_, rfl, _, rfl, .inr (.inl ⟨_, _, _, _, rfl, rfl, SqT.of (sm _ _ ha), atI_k i (by omega) ex, ?_⟩)⟩
        refine ⟨_, rfl, _, rfl, .inr (.inl ⟨_, _, _, _, rfl, rfl, SqT.of (sm _ _ hb), atI_k i (by omega) ey, ?_⟩)⟩
        refine ⟨_, _, rfl, (hi i _ _ ex ey).same sm, fun H2 s2 => ?_⟩
        refine ⟨_, s2 _ _ hD', by rw [List.length_replicate]; exact Nat.lt_of_lt_of_le hil (Nat.le_trans hm (by decide)), (sm.trans s2).put hD, ?_⟩
        rw [upd_same, List.replicate_succ']
      · rintro H' ⟨sm, hD'⟩
        walk_at "rd"
        refine ⟨D, List.replicate ys.length true, rfl, SqL.of (by rw [List.map_replicate]; exact hD'), ?_⟩
        rw [all_true]
        exact k _ sm
theorem ok__law_same {f : Addr} {fd : FuncData} (F : Fun K "_law_same" "_law_same" s__law_same f fd) (B : Bi mg) (hm : mg "_law_same" = some (.ref f)) (hb : Binds K fd ["found", "due"] []) : ∀ n : Nat, FnOk P w K mg base CX0 n f fd ["found", "due"] (spSame K n)
  | 0 => ⟨fun vs H Q E h => by obtain ⟨x, y, rfl, _⟩ := h; rfl, fun A outer s H args us vs Q E _ _ _ _ h => by obtain ⟨x, y, _, h, _⟩ := h; cases h⟩
  | n + 1 => step__law_same F B (Df.mk' F (ok__law_same F B hm hb n) hm hb)
theorem alike_strs {H : Hp} {n : Nat} {a b : Addr} {ls : List Str} (ha : H a = some (.lst (ls.map V.str))) (hb : H b = some (.lst (ls.map V.str))) (hl : ls.length ≤ 5000) : Alike K H (n + 2) (.ref a) (.ref b) :=
  .lst ha hb rfl (by rw [List.length_map]; exact hl) fun i x y h1 h2 => by
    have hi := (List.getElem?_eq_some_iff.mp h1).1
    rw [List.length_map] at hi
    rw [getS hi] at h1 h2
    obtain rfl := Option.some.inj h1
    obtain rfl := Option.some.inj h2
    exact .str _
def flat1 : V → Bool
  | .non | .bl _ | .int _ | .str _ => true
  | _ => false
theorem alike_one {H : Hp} {n : Nat} : ∀ {x : V}, flat1 x = true → Alike K H (n + 1) x x
  | .non, _ => .non
  | .bl b, _ => .bl b
  | .int i, _ => .int i
  | .str z, _ => .str z
theorem alike_flat {H : Hp} {n : Nat} {a b : Addr} {xs : List V} (ha : H a = some (.lst xs)) (hb : H b = some (.lst xs)) (hl : xs.length ≤ 5000) (hf : xs.all flat1 = true) : Alike K H (n + 2) (.ref a) (.ref b) :=
  .lst ha hb rfl hl fun i x y h1 h2 => by
    rw [h1] at h2
    obtain rfl := Option.some.inj h2
    exact alike_one (List.all_eq_true.mp hf x (List.mem_of_getElem? h1))
theorem alike_flatT {H : Hp} {n : Nat} {a b : Addr} {xs : List V} (ha : H a = some (.tup xs)) (hb : H b = some (.tup xs)) (hl : xs.length ≤ 5000) (hf : xs.all flat1 = true) : Alike K H (n + 2) (.ref a) (.ref b) :=
  .tup ha hb rfl hl fun i x y h1 h2 => by
    rw [h1] at h2
    obtain rfl := Option.some.inj h2
    exact alike_one (List.all_eq_true.mp hf x (List.mem_of_getElem? h1))
theorem pair_get {H : Hp} {n : Nat} : ∀ {xs ys : List V}, PySem.Paired (Alike K H n) xs ys → ∀ (i : Nat) (x y : V), xs[i]? = some x → ys[i]? = some y → Alike K H n x y
  | _, _, .nil, i, x, y, h, _ => by simp at h
  | _, _, .cons r t, 0, x, y, h1, h2 => by
    simp at h1 h2
    subst h1 h2
    exact r
  | _, _, .cons r t, i + 1, x, y, h1, h2 => pair_get t i x y (by simpa using h1) (by simpa using h2)
theorem pair_len {α β : Type} {R : α → β → Prop} : ∀ {xs : List α} {ys : List β}, PySem.Paired R xs ys → xs.length = ys.length
  | _, _, .nil => rfl
  | _, _, .cons _ t => congrArg (· + 1) (pair_len t)
theorem alike_of {H : Hp} {n : Nat} {a b : Addr} {xs ys : List V} (ha : H a = some (.lst xs)) (hb : H b = some (.lst ys)) (hl : ys.length ≤ 5000) (p : PySem.Paired (Alike K H n) xs ys) : Alike K H (n + 1) (.ref a) (.ref b) :=
  .lst ha hb (pair_len p) hl (pair_get p)
theorem alike_ofT {H : Hp} {n : Nat} {a b : Addr} {xs ys : List V} (ha : H a = some (.tup xs)) (hb : H b = some (.tup ys)) (hl : ys.length ≤ 5000) (p : PySem.Paired (Alike K H n) xs ys) : Alike K H (n + 1) (.ref a) (.ref b) :=
  .tup ha hb (pair_len p) hl (pair_get p)
end
abbrev s_Rule_u__init_u__x : Stmt := inClass (top 11) 0
abbrev N_Rule_u__init_u__x : List Str := ["self", "texts", "row"]
theorem sc_Rule_u__init_u__x : FnScope N_Rule_u__init_u__x ["self", "texts"] (defScope s_Rule_u__init_u__x) := ⟨rfl, rfl, rfl, by decide +kernel, rfl, by decide +kernel, by decide +kernel⟩
section
variable {P : Program} {w : World} {K : PySem.W.Frag} {mg : Str → Option Value} {base : Heap}
theorem find_at {p : Str → Bool} {ts : List Str} {i : Nat} (h : i < ts.length) (h0 : ∀ j (hj : j < i), p (ts[j]'(by omega)) = false) (h1 : p ts[i] = true) : ts.find? p = some ts[i] :=
  List.find?_eq_some_iff_getElem.mpr ⟨h1, i, h, rfl, fun j hj => by rw [h0 j hj]; rfl⟩
theorem off_of {ts : List Str} (h : 0 < ts.length) : off ts = ts.find? (offB (ts[0]'h).length) := by
  match ts, h with
  | t :: ts, _ => rfl
def BadS (E : XK) (H : Hp) (C : Addr) (z : Str) : Prop := ∀ d, H d = none → E (.ref C) (some d) (upd H d (.xd [("value", .str z)]))
def spInitX (C CS CR : Addr) : Sp := fun vs H Q E => ∃ (p t dx : Addr) (ts : List Str), vs = [.ref p, .ref t] ∧ H p = some (.ins C dx []) ∧ H t = some (.lst (ts.map V.str)) ∧ (∀ z ∈ ts, z.length ≤ 5000) ∧ ts.length ≤ 5000 ∧
  (ts = [] → Bad E H CS 0) ∧ (∀ z, off ts = some z → BadS E H CR z) ∧ (ts ≠ [] → off ts = none → ∀ H' : Hp, RuleAt C H' p ts → (∀ b o, H b = some o → b ≠ p → H' b = some o) → Q .non H')
theorem ok_Rule_init_x {f C C_InvalidSize C_InvalidRow : Addr} {fd : FuncData} (F : Fun K "__init__" "Rule.__init__" s_Rule_u__init_u__x f fd) (B : Bi mg) (T : Rl K C) (X_InvalidSize : Er P w K mg base "InvalidSize" C_InvalidSize) (X_InvalidRow : Er P w K mg base "InvalidRow" C_InvalidRow) (D_is_row : Df P w K mg base "is_row" 2 ["text"] spIsRow) : FnOk P w K mg base (L2N.CX P w) 4 f fd ["self", "texts"] (spInitX C C_InvalidSize C_InvalidRow) := by
  refine okN F sc_Rule_u__init_u__x (fun vs H Q E h => ?_) (fun cdv A outer s H vs Q E hr h => ?_)
  · obtain ⟨p, t, dx, ts, rfl, _⟩ := h
    rfl
  · obtain ⟨p, t, dx, ts, rfl, hp, ht, hz, hl, kS, kR, k⟩ := h
    have npt : p ≠ t := ne_of hp ht (by intro z; cases z)
    refine ⟨_, (pss_cons (ps_if (pt_cmpR op_eq (pe_callB call_len_seq (by rfl) B.len_ PySem.boot_len (pa_cons (pv 1) pa_nil)) pe_int (nomark _))
    (pss_one (L2N.ps_raise rfl (L2N.takes_of rfl rfl rfl rfl) (pmk_erN X_InvalidSize (hr.mono (by first | decide | omega)) (by rfl) (pa_cons pe_int pa_nil))))
    pss_nil)
    (pss_cons (ps_for (passes_of rfl) rfl (pi_list (pv 1)) (pg_name (i := 2) sc_Rule_u__init_u__x.nd rfl (Or.inl rfl))
    (pss_one (ps_if (PW.pt (pw_or (pt_not (pt_val (pe_df D_is_row (hr.mono (by first | decide | omega)) (by rfl) (pa_cons (pv 2) pa_nil)))) (pw_or1 (pt_cmpR op_ne (pe_callB call_len_str (by rfl) B.len_ PySem.boot_len (pa_cons (pv 2) pa_nil)) (pe_callB call_len_str (by rfl) B.len_ PySem.boot_len (pa_cons (pe_ix ix_list (pv 1) pe_int (fun _ _ => rfl)) pa_nil)) (nomark _)))))
    (pss_one (L2N.ps_raise rfl (L2N.takes_of rfl rfl rfl rfl) (pmk_erN X_InvalidRow (hr.mono (by first | decide | omega)) (by rfl) (pa_cons (pv 2) pa_nil))))
    pss_nil)))
    (pss_one (ps_fld (pv 0) (pe_callTy call_tuple_of (by rfl) B.tuple_ (by decide +kernel) (pa_cons (pv 1) pa_nil)) rfl)))), ?_⟩
    walk_at "rd"
    refine ite2 (fun hc => ?_) (fun hc => ?_)
    · have e : ts = [] := by
        have e := of_decide_eq_true hc
        injection e with e
        rw [List.length_map] at e
        exact List.length_eq_zero_iff.mp (by omega)
      exact rd_er X_InvalidSize fun d hd => kS e d hd
    have h0 : 0 < ts.length := by
      rcases Nat.eq_zero_or_pos ts.length with q | q
      · refine absurd (decide_eq_true (congrArg V.int ?_)) hc
        rw [List.length_map, q]
        rfl
      · exact q
    have iz := atI_k' (i := 0) 0 rfl (getS h0)
    have eo := off_of h0
    walk_at "rd"
    refine ⟨⟨_, SqL.of ht⟩, ?_⟩
    refine for_list (K := K) (a := t) (xs := ts.map V.str) (fun i σ H' => H = H' ∧ ∃ v, σ = [some (.ref p), some (.ref t), v] ∧ ∀ j (hj : j < i) (hj2 : j < ts.length), offB (ts[0]'h0).length (ts[j]'hj2) = false) ⟨rfl, none, rfl, fun j hj => absurd hj (Nat.not_lt_zero j)⟩ (fun i σ H' _ h => by rw [← h.1]; exact SqL.of ht) ?_ ?_
    · rintro i x σ _ hi ⟨rfl, v, rfl, hj⟩
      have hil : i < ts.length := by
        have := (List.getElem?_eq_some_iff.mp hi).1
        rw [List.length_map] at this
        exact this
      rw [getS hil] at hi
      obtain rfl := Option.some.inj hi
      have hzi := hz _ (List.getElem_mem hil)
      have hz0 := hz _ (List.getElem_mem h0)
      have hbig : (ts[i]).length < sizeLine := Nat.lt_of_le_of_lt hzi (by decide)
      have bad : offB (ts[0]'h0).length ts[i] = true → BadS E H C_InvalidRow ts[i] := fun h => kR _ (eo.trans (find_at hil (fun j hj2 => hj j hj2 (by omega)) h))
      walk_at "rd"
      intro b hb
      obtain rfl := rowB_of hb
      walk_at "rd"
      cases hR : rowB ts[i] with
      | false =>
        have ho : offB (ts[0]'h0).length ts[i] = true := by unfold offB; rw [hR]; rfl
        walk_at "rd"
        exact (rd_er X_InvalidRow fun d hd => bad ho d hd).2
      | true =>
        have hzs0 : (ts[0]'h0).length ≤ sizeLine := Nat.le_trans hz0 (by decide)
        have hzsi : (ts[i]).length ≤ sizeLine := Nat.le_trans hzi (by decide)
        walk_at "rd"
        refine ite2 (fun hc2 => ?_) (fun hc2 => ?_)
        · have ho : offB (ts[0]'h0).length ts[i] = true := by unfold offB; rw [hR]; exact hc2
          walk_at "rd"
          exact (rd_er X_InvalidRow fun d hd => bad ho d hd).2
        · have ho : offB (ts[0]'h0).length ts[i] = false := by unfold offB; rw [hR]; exact Bool.eq_false_iff.mpr hc2
          refine ⟨rfl, _, rfl, fun j hj1 hj2 => ?_⟩
          by_cases q : j < i
          · exact hj j q hj2
          · have e : j = i := by omega
            subst e
            exact ho
    · rintro σ _ ⟨rfl, v, rfl, hj⟩
      have hn : off ts = none := by
        rw [eo, List.find?_eq_none]
        intro z hz2
        obtain ⟨j, hj2, rfl⟩ := List.getElem_of_mem hz2
        rw [hj j (by rw [List.length_map]; exact hj2) hj2]
        exact Bool.false_ne_true
      walk_at "rd"
      refine ⟨t, _, rfl, .inl ⟨SqL.of ht, fun u hu => ?_⟩⟩
      have npu : p ≠ u := ne_of_none hp hu
      walk_at "rd"
      refine ⟨p, C, dx, [], rfl, by rw [upd_ne npu]; exact hp, T.cl, T.nR, by decide, ?_⟩
      refine k (fun e => by rw [e] at h0; exact absurd h0 (Nat.lt_irrefl 0)) hn _ ⟨dx, u, upd_same, by rw [upd_ne npu.symm, upd_same]⟩ fun b o e hb => ?_
      rw [upd_ne hb, upd_ne (ne_of_none e hu)]
      exact e
end
abbrev s__law_due : Stmt := top 24
abbrev N__law_due : List Str := ["line", "parts", "part"]
theorem sc__law_due : FnScope N__law_due ["line"] (defScope s__law_due) := ⟨rfl, rfl, rfl, by decide +kernel, rfl, by decide +kernel, by decide +kernel⟩
section
variable {P : Program} {w : World} {K : PySem.W.Frag} {mg : Str → Option Value} {base : Heap}
def Told84 (H : Hp) (q : Addr) (z : Str) : Prop := ((∃ y, off (cutR z) = some y) ∧ H q = some (.tup [.str (Str.ofString "bad"), .str z, .bl true])) ∨ (off (cutR z) = none ∧ ∃ g, H g = some (.lst ((cutR z).map V.str)) ∧ H q = some (.tup [.str (Str.ofString "good"), .ref g, .bl true]))
def spDue84 : Sp := fun vs H Q _ => ∃ z : Str, vs = [.str z] ∧ z.length ≤ 4000 ∧ ∀ (q : Addr) (H' : Hp), Same H H' → Told84 H' q z → Q (.ref q) H'
theorem ok_k84_law_due {f : Addr} {fd : FuncData} (F : Fun K "_law_due" "_law_due" s__law_due f fd) (B : Bi mg) (D_law_is_row : Df P w K mg base "_law_is_row" 2 ["line"] spLawIsRow) : FnOk P w K mg base CX0 4 f fd ["line"] spDue84 := by
  refine F.ok sc__law_due (fun vs H Q E h => ?_) (fun cdv A outer s H vs Q E hr h => ?_)
  · obtain ⟨z, rfl, _⟩ := h
    rfl
  · obtain ⟨z, rfl, hz, kt⟩ := h
    have bad : (∃ y, off (cutR z) = some y) → ∀ (q : Addr) (H' : Hp), Same H H' → H' q = some (.tup [.str (Str.ofString "bad"), .str z, .bl true]) → Q (.ref q) H' := fun h q H' s h2 => kt q H' s (.inl ⟨h, h2⟩)
    have good : off (cutR z) = none → ∀ (q g : Addr) (H' : Hp), Same H H' → H' g = some (.lst ((cutR z).map V.str)) → H' q = some (.tup [.str (Str.ofString "good"), .ref g, .bl true]) → Q (.ref q) H' := fun h q g H' s h2 h3 => kt q H' s (.inr ⟨h, g, h2, h3⟩)
    clear kt
    refine ⟨_, (pss_cons (ps_set (i := 1) sc__law_due.nd rfl (Or.inl rfl) (pe_m1 PySem.F.slot_str_split PySem.F.type_str_split mt_split (pv 0) pe_str))
    (pss_cons (ps_for PassesOwn.never rfl (pi_list (pv 1)) (pg_name (i := 2) sc__law_due.nd rfl (Or.inl rfl))
    (pss_one (ps_if (PW.pt (pw_or (pt_not (pt_val (pe_df D_law_is_row (hr.mono (by first | decide | omega)) (by rfl) (pa_cons (pv 2) pa_nil)))) (pw_or1 (pt_cmpR op_ne (pe_callB call_len_str (by rfl) B.len_ PySem.boot_len (pa_cons (pv 2) pa_nil)) (pe_callB call_len_str (by rfl) B.len_ PySem.boot_len (pa_cons (pe_ix ix_list (pv 1) pe_int (fun _ _ => rfl)) pa_nil)) (nomark _)))))
    (pss_one (ps_ret (pe_tup (pa_cons pe_str (pa_cons (pv 0) (pa_cons pe_bl pa_nil))))))
    pss_nil)))
    (pss_one (ps_ret (pe_tup (pa_cons pe_str (pa_cons (pv 1) (pa_cons pe_bl pa_nil)))))))), ?_⟩
    walk_at "rd"
    refine And.intro ?_ ?_
    · rw [sizeLine_eq]
      omega
    intro t zt
    change H t = none at zt
    generalize ets : cutR z = ts at bad good
    have e0 : upd H t (.lst ((Txt.split z (Str.ofString "/")).map V.str)) = upd H t (.lst (ts.map V.str)) := by rw [← ets]; rfl
    rw [e0]
    generalize e1 : upd H t _ = H1
    obtain ⟨s1, ht1⟩ := nw e1 zt
    have hne : ts ≠ [] := by rw [← ets]; exact cutR_ne z
    have h0 : 0 < ts.length := List.length_pos_iff.mpr hne
    have hp : ∀ y ∈ ts, y.length ≤ 5000 := fun y hy => by
      have := cutR_len (z := z) (p := y) (by rw [ets]; exact hy)
      omega
    have hl : ts.length ≤ 5000 := by
      have := cutR_count z
      rw [ets] at this
      omega
    have iz := atI_k' (i := 0) 0 rfl (getS h0)
    have eo := off_of h0
    walk_at "rd"
    refine ⟨⟨_, SqL.of ht1⟩, ?_⟩
    refine for_list (K := K) (a := t) (xs := ts.map V.str) (fun i σ H' => H1 = H' ∧ ∃ v, σ = [some (.str z), some (.ref t), v] ∧ ∀ j (hj : j < i) (hj2 : j < ts.length), offB (ts[0]'h0).length (ts[j]'hj2) = false) ⟨rfl, none, rfl, fun j hj => absurd hj (Nat.not_lt_zero j)⟩ (fun i σ H' _ h => by rw [← h.1]; exact SqL.of ht1) ?_ ?_
    · rintro i x σ _ hi ⟨rfl, v, rfl, hj⟩
      have hil : i < ts.length := by
        have := (List.getElem?_eq_some_iff.mp hi).1
        rw [List.length_map] at this
        exact this
      rw [getS hil] at hi
      obtain rfl := Option.some.inj hi
      have hzi := hp _ (List.getElem_mem hil)
      have hz0 := hp _ (List.getElem_mem h0)
      have hzs0 : (ts[0]'h0).length ≤ sizeLine := Nat.le_trans hz0 (by decide)
      have hzsi : (ts[i]).length ≤ sizeLine := Nat.le_trans hzi (by decide)
      have bad2 : offB (ts[0]'h0).length ts[i] = true → ∀ r, H1 r = none → Q (.ref r) (upd H1 r (.tup [.str (Str.ofString "bad"), .str z, .bl true])) := fun h r zr => bad ⟨_, eo.trans (find_at hil (fun j hj2 => hj j hj2 (by omega)) h)⟩ r _ (s1.up zr) upd_same
      walk_at "rd"
      intro b hb
      obtain rfl := rowB_of hb
      walk_at "rd"
      cases hR : rowB ts[i] with
      | false =>
        have ho : offB (ts[0]'h0).length ts[i] = true := by unfold offB; rw [hR]; rfl
        walk_at "rd"
        exact bad2 ho
      | true =>
        walk_at "rd"
        refine ite2 (fun hc2 => ?_) (fun hc2 => ?_)
        · have ho : offB (ts[0]'h0).length ts[i] = true := by unfold offB; rw [hR]; exact hc2
          walk_at "rd"
          exact bad2 ho
        · have ho : offB (ts[0]'h0).length ts[i] = false := by unfold offB; rw [hR]; exact Bool.eq_false_iff.mpr hc2
          refine ⟨rfl, _, rfl, fun j hj1 hj2 => ?_⟩
          by_cases q : j < i
          · exact hj j q hj2
          · have e : j = i := by omega
            subst e
            exact ho
    · rintro σ _ ⟨rfl, v, rfl, hj⟩
      have hn : off ts = none := by
        rw [eo, List.find?_eq_none]
        intro z hz2
        obtain ⟨j, hj2, rfl⟩ := List.getElem_of_mem hz2
        rw [hj j (by rw [List.length_map]; exact hj2) hj2]
        exact Bool.false_ne_true
      walk_at "rd"
      intro r zr
      exact good hn r t _ (s1.up zr) (by rw [upd_ne (ne_of_none ht1 zr)]; exact ht1) upd_same
end
abbrev s_read_rule_x : Stmt := top 13
abbrev N_read_rule_x : List Str := ["text"]
theorem sc_read_rule_x : FnScope N_read_rule_x ["text"] (defScope s_read_rule_x) := ⟨rfl, rfl, rfl, by decide +kernel, rfl, by decide +kernel, by decide +kernel⟩
section
variable {P : Program} {w : World} {K : PySem.W.Frag} {mg : Str → Option Value} {base : Heap}
def spReadRule (C CU : Addr) : Sp := fun vs H Q E => ∃ z : Str, vs = [.str z] ∧ z.length ≤ 4000 ∧ (∀ y, off (cutR z) = some y → ∀ H' : Hp, Same H H' → BadS E H' CU z) ∧ (off (cutR z) = none → ∀ (r : Addr) (H' : Hp), Same H H' → H r = none → RuleAt C H' r (cutR z) → Q (.ref r) H')
theorem ok_read_rule_x {f C C_InvalidSize C_InvalidRow C_Unreadable : Addr} {fd : FuncData} (F : Fun K "read_rule" "read_rule" s_read_rule_x f fd) (B : Bi mg) (MX_Rule : MkrN P w K mg base "Rule" C 4 ["self", "texts"] (spInitX C C_InvalidSize C_InvalidRow))
    (X_InvalidSize : Er P w K mg base "InvalidSize" C_InvalidSize) (X_InvalidRow : Er P w K mg base "InvalidRow" C_InvalidRow) (XH_Unreadable : ErH P w K mg base "Unreadable" C_Unreadable)
    (S_InvalidSize_InvalidRow : PySem.W.subIn K (.ref C_InvalidSize) (.ref C_InvalidRow) = some false) (S_InvalidRow_InvalidRow : PySem.W.subIn K (.ref C_InvalidRow) (.ref C_InvalidRow) = some true) : FnOk P w K mg base (L2.CX P w) 6 f fd ["text"] (spReadRule C C_Unreadable) := by
  have G_InvalidRow := X_InvalidRow.g
  refine F.okX sc_read_rule_x (fun vs H Q E h => ?_) (fun cdv A outer s H vs Q E hr h => ?_)
  · obtain ⟨z, rfl, _⟩ := h
    rfl
  · obtain ⟨z, rfl, hz, bad, good⟩ := h
    refine ⟨_, (pss_one (L2H.ps_try_onlyX rfl rfl ⟨rfl, by decide, .inl G_InvalidRow⟩ (fun hd => L2H.passesAt_of rfl hd) (takes_of rfl rfl rfl rfl) (fun _ _ _ tk _ _ => (pss_one (ps_ret (pe_mkN MX_Rule (hr.mono (by first | decide | omega)) (by rfl) tk (pa_cons (pe_m1 PySem.F.slot_str_split PySem.F.type_str_split mt_split (pv 0) pe_str) pa_nil)))))
    (fun _ _ _ _ _ _ _ tk hot => (pss_one (L2H.ps_raiseHN hot tk (pmk_erH XH_Unreadable (L2H.roomH_mark (hr.mono (by first | decide | omega)) _) hot (by rfl) (pa_cons (pv 0) pa_nil))))))), ?_⟩
    walk_at "rx"
    refine And.intro ?_ ?_
    · rw [sizeLine_eq]
      omega
    intro t ht
    walk_at "rx"
    intro x dx nx ndx nxd
    have s1 : Same H (upd H t (.lst ((cutR z).map V.str))) := Same.upd ht
    have hl : (upd H t (.lst ((cutR z).map V.str))) t = some (.lst ((cutR z).map V.str)) := upd_same
    change spInitX C _ _ _ (upd (upd (upd H t (.lst ((cutR z).map V.str))) dx _) x _) _ _
    change upd H t (.lst ((cutR z).map V.str)) x = none at nx
    change upd H t (.lst ((cutR z).map V.str)) dx = none at ndx
    generalize upd H t (.lst ((cutR z).map V.str)) = H1 at *
    have hc := cutR_count z
    refine ⟨x, t, dx, cutR z, rfl, upd_same, ?_, fun y hy => by have := cutR_len hy; omega, by omega, fun e => absurd e (cutR_ne z), fun y hy d hd => ?_, fun _ hn H' R keep => ⟨rfl, ?_⟩⟩
    · rw [upd_ne (ne_of_none hl nx), upd_ne (ne_of_none hl ndx)]
      exact hl
    · have s2 : Same H1 (upd (upd H1 dx (.own x)) x (.ins C dx [])) := (Same.upd ndx).up (by rw [upd_ne nxd.symm]; exact nx)
      refine ⟨true, X_InvalidRow.ex S_InvalidRow_InvalidRow, (fun _ e he => ?_), fun z => nomatch z⟩
      walk_at "rx"
      exact (rd_er XH_Unreadable.er fun d2 hd2 => bad y hy _ ((s1.trans s2).up hd) d2 hd2).2
    · have s2 : Same H1 H' := L2.Same.made nx ndx keep
      walk_at "rx"
      refine good hn x H' (s1.trans s2) ?_ R
      rcases hx : H x with _ | o
      · rfl
      · rw [s1 _ _ hx] at nx
        cases nx
end
abbrev s__law_found : Stmt := top 25
abbrev N__law_found : List Str := ["line", "answer", "found", "e"]
theorem sc__law_found : FnScope N__law_found ["line"] (defScope s__law_found) := ⟨rfl, rfl, rfl, by decide +kernel, rfl, by decide +kernel, by decide +kernel⟩
section
variable {P : Program} {w : World} {K : PySem.W.Frag} {mg : Str → Option Value} {base : Heap}
def spFound84 : Sp := fun vs H Q _ => ∃ z : Str, vs = [.str z] ∧ z.length ≤ 3200 ∧ ∀ (q : Addr) (H' : Hp), Same H H' → Told84 H' q z → Q (.ref q) H'
theorem row_of_off {ls : List Str} (h : off ls = none) : ∀ z ∈ ls, Row (tl z) := fun z hz => by
  have h0 : 0 < ls.length := List.length_pos_of_mem hz
  rw [off_of h0, List.find?_eq_none] at h
  have := h z hz
  unfold offB at this
  cases e : rowB z with
  | true => exact rowB_iff.mp e
  | false =>
    rw [e] at this
    exact absurd rfl this
theorem ok_k84_law_found {f C C_RungError C_Unreadable : Addr} {fd : FuncData} (F : Fun K "_law_found" "_law_found" s__law_found f fd) (B : Bi mg) (T : Rl K C) (DX_read_rule : DfX P w K mg base "read_rule" 6 ["text"] (spReadRule C C_Unreadable)) (P_rows : Pr P w K mg base C "rows" 2 (spRows C))
    (D_show_rule : Df P w K mg base "show_rule" 4 ["rule"] (spShowRule C)) (O_eq : Me P w K mg base C "__eq__" 2 ["self", "other"] (spEqR C)) (X_RungError : Er P w K mg base "RungError" C_RungError) (X_Unreadable : Er P w K mg base "Unreadable" C_Unreadable)
    (S_Unreadable_Unreadable : PySem.W.subIn K (.ref C_Unreadable) (.ref C_Unreadable) = some true) (S_Unreadable_RungError : PySem.W.subIn K (.ref C_Unreadable) (.ref C_RungError) = some true) : FnOk P w K mg base CX0 8 f fd ["line"] spFound84 := by
  have G_Unreadable := X_Unreadable.g
  have G_RungError := X_RungError.g
  have D_read_rule : Df P w K mg base "read_rule" 6 ["text"] (fun vs H Q _ => spReadRule C C_Unreadable vs H Q E0) := dfOfX DX_read_rule fun _ _ _ _ h => h
  refine F.ok sc__law_found (fun vs H Q E h => ?_) (fun cdv A outer s H vs Q E hr h => ?_)
  · obtain ⟨z, rfl, _⟩ := h
    rfl
  · obtain ⟨z, rfl, hz, k⟩ := h
    refine ⟨_, (pss_cons (ps_set (i := 1) sc__law_found.nd rfl (Or.inl rfl) pe_non)
    (pss_cons (ps_set (i := 2) sc__law_found.nd rfl (Or.inl rfl) pe_non)
    (pss_cons (ps_tryAll rfl rfl sc__law_found.nd takes0 (fun _ _ _ tk _ => (pss_one (ps_set (i := 1) sc__law_found.nd rfl (Or.inl rfl) (pe_dfS DX_read_rule (hr.mono (by first | decide | omega)) (by rfl) tk (pa_cons (pv 0) pa_nil)))))
    (Clauses.cons (i := 3) ⟨rfl, by decide, .inl G_Unreadable⟩ rfl rfl (fun _ _ _ _ _ hz hf => (pss_one (ps_set (i := 2) sc__law_found.nd rfl (Or.inl rfl) (pe_tup (pa_cons pe_str (pa_cons (pe_xfA hz hf (pv 3)) (pa_cons (pe_callB (call_isEd hz hf) (by rfl) B.isinstance_ (by decide +kernel) (pa_cons (pv 3) (pa_cons (pe_glob (v := .ref C_RungError) (by rfl) G_RungError rfl) pa_nil))) pa_nil)))))))
    Clauses.nil))
    (pss_cons (ps_if (pt_cmpR op_isN (pv 2) pe_non (nomark _))
    (pss_one (ps_set (i := 2) sc__law_found.nd rfl (Or.inl rfl) (pe_tup (pa_cons pe_str (pa_cons (pe_pr (pv 1) P_rows (hr.mono (by first | decide | omega)) rfl) (pa_cons (pe_and (pe_cmpR op_eq (pe_df D_show_rule (hr.mono (by first | decide | omega)) (by rfl) (pa_cons (pv 1) pa_nil)) (pv 0) (nomark _)) (pe_one (pe_cmpR (op_eqOwn O_eq (hr.mono (by first | decide | omega))) (pv 1) (pe_df D_read_rule (hr.mono (by first | decide | omega)) (by rfl) (pa_cons (pv 0) pa_nil)) (nomark _)))) pa_nil))))))
    pss_nil)
    (pss_one (ps_ret (pv 2))))))), ?_⟩
    walk_at "rx"
    refine And.intro (fun y hy H1 s1 d hd => ?_) (fun hn r H1 s1 zr R => ?_)
    · refine ⟨true, X_Unreadable.ex S_Unreadable_Unreadable, (fun _ e he => ?_), fun z => nomatch z⟩
      walk_at "rx"
      refine ⟨_, X_Unreadable.f, X_Unreadable.nv, ?_⟩
      walk_at "rx"
      refine ⟨d, _, _, rfl, upd_same, rfl, ?_⟩
      walk_at "rx"
      refine ⟨_, d, _, _, _, true, rfl, X_Unreadable.i, rfl, upd_same, rfl, (fun _ y => y), X_RungError.kit S_Unreadable_RungError, ?_⟩
      walk_at "rx"
      intro t ht
      walk_at "rx"
      exact k t _ ((s1.up hd).up ht) (.inl ⟨⟨y, hy⟩, upd_same⟩)
    · walk_at "rx"
      refine rd_rows R fun g H2 s2 hg hg2 => ?_
      have sg2 : ∀ y ∈ cutR z, Signs (tl y) := fun y hy => (row_of_off hn y hy).sgn
      have hlen : ∀ y ∈ cutR z, y.length ≤ 3300 := fun y hy => by have := cutR_len hy; omega
      have hcnt := cutR_count z
      have R2 := R.same s2
      walk_at "rx"
      refine ⟨r, cutR z, rfl, R2, by omega, hlen, fun H3 s3 => ?_⟩
      rw [join_cut]
      have R3 := R2.same s3
      walk_at "rx"
      rw [decide_eq_true (rfl : V.str z = V.str z), if_pos rfl]
      walk_at "rx"
      refine And.intro (fun y hy => ?_) (fun _ r' H4 s4 _ R4 => ?_)
      · rw [hn] at hy
        cases hy
      refine rd_eq (R3.same s4) R4 sg2 sg2 ?_
      rw [decide_eq_true (rfl : cutR z = cutR z)]
      walk_at "rx"
      intro t ht
      walk_at "rx"
      have s14 := s1.trans (s2.trans (s3.trans s4))
      refine k t _ (s14.up ht) (.inr ⟨hn, g, ?_, upd_same⟩)
      have hg4 := s4 _ _ (s3 _ _ hg2)
      rw [upd_ne (ne_of_none hg4 ht)]
      exact hg4
end
abbrev s__law_changed : Stmt := top 26
abbrev N__law_changed : List Str := ["line", "script", "at", "drawn", "k", "way", "kind", "place", "sign", "char", "spot", "mark"]
theorem sc__law_changed : FnScope N__law_changed ["line", "script", "at"] (defScope s__law_changed) := ⟨rfl, rfl, rfl, by decide +kernel, rfl, by decide +kernel, by decide +kernel⟩
section
variable {P : Program} {w : World} {K : PySem.W.Frag} {mg : Str → Option Value} {base : Heap}
def spChanged84 (K : PySem.W.Frag) : Sp := fun vs H Q _ => ∃ (a : Addr) (ns : List Int) (j : Nat) (z : Str), vs = [.str z, .ref a, .int j] ∧ SqL K H a (ns.map V.int) ∧ z.length ≤ 3000 ∧ ∀ (y : Str) (H' : Hp), Same H H' → y.length ≤ 3010 → Q (.str y) H'
theorem five84 {ds : List Int} (dr : Drawn ds [4, 9, 3, 4, 2200, 4, 94, 3, 4, 2200, 4, 94, 3, 4, 2200, 4, 94, 3, 4, 2200, 4, 94]) {i : Nat} (hi : i < 4) : ∃ e0 e1 e2 e3 e4 : Int, cutV (ds.map V.int) (some (2 + 5 * (0 + (i : Int)))) (some (7 + 5 * (0 + (i : Int)))) = [V.int e0, V.int e1, V.int e2, V.int e3, V.int e4] ∧
    (0 ≤ e0 ∧ e0 < 3) ∧ (0 ≤ e1 ∧ e1 < 4) ∧ (0 ≤ e2 ∧ e2 < 2200) ∧ (0 ≤ e3 ∧ e3 < 4) ∧ (0 ≤ e4 ∧ e4 < 94) := by
  obtain ⟨hl, hd⟩ := dr
  match ds, hl with
  | [a0, a1, a2, a3, a4, a5, a6, a7, a8, a9, a10, a11, a12, a13, a14, a15, a16, a17, a18, a19, a20, a21], _ =>
    match i, hi with
    | 0, _ => exact ⟨a2, a3, a4, a5, a6, rfl, hd 2 _ _ rfl rfl, hd 3 _ _ rfl rfl, hd 4 _ _ rfl rfl, hd 5 _ _ rfl rfl, hd 6 _ _ rfl rfl⟩
    | 1, _ => exact ⟨a7, a8, a9, a10, a11, rfl, hd 7 _ _ rfl rfl, hd 8 _ _ rfl rfl, hd 9 _ _ rfl rfl, hd 10 _ _ rfl rfl, hd 11 _ _ rfl rfl⟩
    | 2, _ => exact ⟨a12, a13, a14, a15, a16, rfl, hd 12 _ _ rfl rfl, hd 13 _ _ rfl rfl, hd 14 _ _ rfl rfl, hd 15 _ _ rfl rfl, hd 16 _ _ rfl rfl⟩
    | 3, _ => exact ⟨a17, a18, a19, a20, a21, rfl, hd 17 _ _ rfl rfl, hd 18 _ _ rfl rfl, hd 19 _ _ rfl rfl, hd 20 _ _ rfl rfl, hd 21 _ _ rfl rfl⟩
theorem ok_k84_law_changed {f : Addr} {fd : FuncData} (F : Fun K "_law_changed" "_law_changed" s__law_changed f fd) (B : Bi mg) (D_law_draws : Df P w K mg base "_law_draws" 3 ["script", "at", "limits"] (spDraws K)) (D_law_sign : Df P w K mg base "_law_sign" 2 ["number"] spSign) : FnOk P w K mg base CX0 4 f fd ["line", "script", "at"] (spChanged84 K) := by
  refine F.ok sc__law_changed (fun vs H Q E h => ?_) (fun cdv A outer s H vs Q E hr h => ?_)
  · obtain ⟨a, ns, j, z, rfl, _⟩ := h
    rfl
  · obtain ⟨a, ns, j, z, rfl, hS, hz, k⟩ := h
    refine ⟨_, (pss_cons (ps_set (i := 3) sc__law_changed.nd rfl (Or.inl rfl) (pe_df D_law_draws (hr.mono (by first | decide | omega)) (by rfl) (pa_cons (pv 1) (pa_cons (pv 2) (pa_cons (pe_op op_cat (pe_lst (pa_cons pe_int (pa_cons pe_int pa_nil))) (pe_op op_rep (pe_lst (pa_cons pe_int (pa_cons pe_int (pa_cons pe_int (pa_cons pe_int (pa_cons pe_int pa_nil)))))) pe_int)) pa_nil)))))
    (pss_cons (ps_if (pt_cmpR op_eq (pe_ix ix_list (pv 3) pe_int (fun _ _ => rfl)) pe_int (nomark _))
    (pss_one (ps_set (i := 0) sc__law_changed.nd rfl (Or.inl rfl) pe_str))
    pss_nil)
    (pss_cons (ps_for PassesOwn.never rfl (pi_range1 (by rfl) B.range_ (pa_cons (pe_op op_add pe_int (pe_ix ix_list (pv 3) pe_int (fun _ _ => rfl))) pa_nil)) (pg_name (i := 4) sc__law_changed.nd rfl (Or.inl rfl))
    (pss_cons (ps_asg (pe_slice sl_list (pv 3) (po_some (pe_op op_add pe_int (pe_op op_mulW pe_int (pv 4)))) (po_some (pe_op op_add pe_int (pe_op op_mulW pe_int (pv 4))))) (pg_lst rfl (pgs_cons (pg_name (i := 5) sc__law_changed.nd rfl (Or.inl rfl)) (pgs_cons (pg_name (i := 6) sc__law_changed.nd rfl (Or.inl rfl)) (pgs_cons (pg_name (i := 7) sc__law_changed.nd rfl (Or.inl rfl)) (pgs_cons (pg_name (i := 8) sc__law_changed.nd rfl (Or.inl rfl)) (pgs_cons (pg_name (i := 9) sc__law_changed.nd rfl (Or.inl rfl)) pgs_nil)))))))
    (pss_cons (ps_set (i := 10) sc__law_changed.nd rfl (Or.inl rfl) (pe_op op_mod (pv 7) (pe_op op_add (pe_callB call_len_str (by rfl) B.len_ PySem.boot_len (pa_cons (pv 0) pa_nil)) pe_int)))
    (pss_cons (ps_set (i := 11) sc__law_changed.nd rfl (Or.inl rfl) (pe_ix ix_str pe_str (pv 8) (fun _ _ => rfl)))
    (pss_cons (ps_if (pt_cmpR op_eq (pv 6) pe_int (nomark _))
    (pss_one (ps_set (i := 11) sc__law_changed.nd rfl (Or.inl rfl) (pe_df D_law_sign (hr.mono (by first | decide | omega)) (by rfl) (pa_cons (pv 9) pa_nil))))
    pss_nil)
    (pss_cons (ps_if (pt_cmpR op_eq (pv 5) pe_int (nomark _))
    (pss_one (ps_set (i := 0) sc__law_changed.nd rfl (Or.inl rfl) (pe_op op_add_str (pe_op op_add_str (pe_slice sl_str (pv 0) po_none (po_some (pv 10))) (pv 11)) (pe_slice sl_str (pv 0) (po_some (pv 10)) po_none))))
    pss_nil)
    (pss_cons (ps_if (pt_cmpR op_eq (pv 5) pe_int (nomark _))
    (pss_one (ps_set (i := 0) sc__law_changed.nd rfl (Or.inl rfl) (pe_op op_add_str (pe_slice sl_str (pv 0) po_none (po_some (pv 10))) (pe_slice sl_str (pv 0) (po_some (pe_op op_add (pv 10) pe_int)) po_none))))
    pss_nil)
    (pss_one (ps_if (pt_cmpR op_eq (pv 5) pe_int (nomark _))
    (pss_one (ps_set (i := 0) sc__law_changed.nd rfl (Or.inl rfl) (pe_op op_add_str (pe_op op_add_str (pe_slice sl_str (pv 0) po_none (po_some (pv 10))) (pv 11)) (pe_slice sl_str (pv 0) (po_some (pe_op op_add (pv 10) pe_int)) po_none))))
    pss_nil)))))))))
    (pss_one (ps_ret (pv 0)))))), ?_⟩
    walk_at "rx"
    intro p1 hp1
    generalize e1 : upd H p1 _ = H1
    obtain ⟨s1, h1⟩ := nw e1 hp1
    walk_at "rx"
    intro p2 hp2
    generalize e2 : upd H1 p2 _ = H2
    obtain ⟨s2, h2⟩ := nw e2 hp2
    have h1' := s2 _ _ h1
    walk_at "rx"
    refine ⟨_, _, _, rfl, rfl, h2, by decide, by decide, by decide, fun p3 hp3 => ?_⟩
    generalize e3 : upd H2 p3 _ = H3
    obtain ⟨s3, h3⟩ := nw e3 hp3
    refine ⟨_, _, _, _, rfl, rfl, s3 _ _ h1', h3, by decide, fun p4 hp4 => ?_⟩
    generalize e4 : upd H3 p4 _ = H4
    obtain ⟨s4, h4⟩ := nw e4 hp4
    have s04 := s1.trans (s2.trans (s3.trans s4))
    refine ⟨a, p4, ns, [4, 9, 3, 4, 2200, 4, 94, 3, 4, 2200, 4, 94, 3, 4, 2200, 4, 94, 3, 4, 2200, 4, 94], j, rfl, s04.seq hS, h4, by decide, by decide, ?_⟩
    intro ds q H5 dr s5 hq hd
    have s05 := s04.trans s5
    obtain ⟨d0, a0, b0, c0, c1⟩ := dr.at (i := 0) (l := 4) rfl
    obtain ⟨d1, a1, b1, c2, c3⟩ := dr.at (i := 1) (l := 9) rfl
    have i0 := atI_k' (i := 0) 0 rfl a0
    have i1 := atI_k' (i := 1) 1 rfl a1
    clear e1 e2 e3 e4 h1 h1' h2 h3 h4 hp1 hp2 hp3 hp4 s1 s2 s3 s4 s04
    walk_at "rx"
    refine cutIf (fun σ H' => H5 = H' ∧ ∃ y : Str, y.length ≤ 3000 ∧ σ = [some (.str y), some (.ref a), some (.int j), some (.ref q), none, none, none, none, none, none, none, none]) ?_ (fun hT hc => ?_) (fun hc => ?_)
    rotate_left
    · repeat (first | exact hT _ _ ⟨rfl, Str.ofString "", by decide +kernel, rfl⟩ | walk_at "x")
    · exact ⟨rfl, z, hz, rfl⟩
    rintro σ _ ⟨rfl, y, hy, rfl⟩
    walk_at "rx"
    refine for_range (lo := 0) (n := (1 + d0).toNat) (fun i σ H' => ∃ (x : Str) (v4 v5 v6 v7 v8 v9 v10 v11 : Option V), σ = [some (.str x), some (.ref a), some (.int j), some (.ref q), v4, v5, v6, v7, v8, v9, v10, v11] ∧ Same H5 H' ∧ x.length ≤ 3000 + 2 * i) ⟨y, none, none, none, none, none, none, none, none, rfl, Same.refl _, hy⟩ ?_ ?_
    · rintro i σ H' hi ⟨x, v4, v5, v6, v7, v8, v9, v10, v11, rfl, s6, hx⟩
      have hd6 := s6 _ _ hd
      have hi4 : i < 4 := by omega
      have l1 : x.length ≤ 3006 := by omega
      have l2 : x.length < sizeLine := Nat.lt_of_le_of_lt l1 (by decide)
      have cm : CMulW 5 (0 + (i : Int)) := wide_mul (a := 3) (b := 3) (by decide) (show (0 + (i : Int)).natAbs < 8 by omega) (by decide) (by decide) (by decide)
      walk_at "rx"
      refine ⟨q, _, rfl, SqL.of hd6, fun p zp => ?_⟩
      obtain ⟨way, kind, place, sign, char, e5, w, kd, pl, sg', ch⟩ := five84 dr hi4
      rw [e5]
      generalize e7 : upd H' p _ = H7
      obtain ⟨s7, h7⟩ := nw e7 zp
      refine ⟨p, _, rfl, SqL.of h7, rfl, ?_⟩
      refine ⟨_, _, rfl, ⟨_, _, rfl, ⟨_, _, rfl, ⟨_, _, rfl, ⟨_, _, rfl, ⟨rfl, ?_⟩⟩⟩⟩⟩⟩
      have s67 := s6.trans s7
      generalize e8 : (0 + (i : Int)) = I
      obtain ⟨sn, esn⟩ := Int.eq_ofNat_of_zero_le sg'.1
      obtain ⟨c, hc⟩ : ∃ c, (tl (Str.ofString "-./."))[sn]? = some c := ⟨_, List.getElem?_eq_getElem (show sn < (tl (Str.ofString "-./.")).length by rw [show (tl (Str.ofString "-./.")).length = 4 by decide +kernel]; omega)⟩
      walk_at "rx"
      refine ⟨_, _, _, rfl, rfl, by decide +kernel, atI_k' sn esn hc, ?_⟩
      obtain ⟨SP, eSP⟩ : ∃ n : Nat, place % ((x.length : Int) + 1) = n := Int.eq_ofNat_of_zero_le (Int.emod_nonneg _ (by omega))
      have hSP : SP ≤ x.length := by
        have := Int.emod_lt_of_pos place (show (0 : Int) < (x.length : Int) + 1 by omega)
        omega
      walk_at "rx"
      refine cutIf (fun σ H' => H7 = H' ∧ ∃ m : Str, m.length = 1 ∧ σ = [some (.str x), some (.ref a), some (.int j), some (.ref q), some (.int I), some (.int way), some (.int kind), some (.int place), some (.int sign), some (.int char), some (.int (SP : Int)), some (.str m)]) ?_ (fun hT hc => ?_) (fun hc => ?_)
      rotate_left
      · walk_at "rx"
        intro m _ hm
        repeat (first | exact hT _ _ ⟨rfl, m, hm, by rw [← eSP]; rfl⟩ | walk_at "x")
      · exact ⟨rfl, _, rfl, by rw [← eSP]; rfl⟩
      rintro σ _ ⟨rfl, m, hm, rfl⟩
      have cl : ∀ x y : Str, (x ++ y).length = x.length + y.length := fun x y => by rw [len_tl, tl_append, List.length_append, ← len_tl, ← len_tl]
      have big : ∀ n : Nat, n ≤ 10000 → n ≤ sizeLine := fun n h => Nat.le_trans h (by decide)
      have hSP62 : (SP : Int) < 2 ^ 62 := by omega
      clear hc esn e5 eSP
      walk_at "rx"
      refine cutIf (fun σ H' => H7 = H' ∧ ∃ x1 : Str, x1.length ≤ 3001 + 2 * i ∧ σ = [some (.str x1), some (.ref a), some (.int j), some (.ref q), some (.int I), some (.int way), some (.int kind), some (.int place), some (.int sign), some (.int char), some (.int (SP : Int)), some (.str m)]) ?_ (fun hT hc => ?_) (fun hc => ⟨rfl, x, by omega, rfl⟩)
      rotate_left
      · have c1 := cutS_two x (Nat.le_refl SP)
        have hlen : (cutS x none (some (SP : Int)) ++ m ++ cutS x (some (SP : Int)) none).length ≤ 3001 + 2 * i := by rw [cl, cl]; omega
        have g1 : (cutS x none (some (SP : Int))).length + m.length ≤ sizeLine := big _ (by omega)
        have g2 : (cutS x none (some (SP : Int)) ++ m).length + (cutS x (some (SP : Int)) none).length ≤ sizeLine := big _ (by rw [cl]; omega)
        repeat (first | exact hT _ _ ⟨rfl, _, hlen, rfl⟩ | walk_at "x")
      rintro σ _ ⟨rfl, x1, hx1, rfl⟩
      have k1 : x1.length < sizeLine := Nat.lt_of_le_of_lt (show x1.length ≤ 3009 by omega) (by decide)
      walk_at "rx"
      refine cutIf (fun σ H' => H7 = H' ∧ ∃ x1 : Str, x1.length ≤ 3001 + 2 * i ∧ σ = [some (.str x1), some (.ref a), some (.int j), some (.ref q), some (.int I), some (.int way), some (.int kind), some (.int place), some (.int sign), some (.int char), some (.int (SP : Int)), some (.str m)]) ?_ (fun hT hc => ?_) (fun hc => ⟨rfl, x1, hx1, rfl⟩)
      rotate_left
      · have c1 : (cutS x1 none (some (SP : Int))).length + (cutS x1 (some ((SP : Int) + 1)) none).length ≤ x1.length := cutS_two x1 (Nat.le_succ SP)
        have hlen : (cutS x1 none (some (SP : Int)) ++ cutS x1 (some ((SP : Int) + 1)) none).length ≤ 3001 + 2 * i := by rw [cl]; omega
        have g1 : (cutS x1 none (some (SP : Int))).length + (cutS x1 (some ((SP : Int) + 1)) none).length ≤ sizeLine := big _ (by omega)
        repeat (first | exact hT _ _ ⟨rfl, _, hlen, rfl⟩ | walk_at "x")
      rintro σ _ ⟨rfl, x2, hx2, rfl⟩
      have k2 : x2.length < sizeLine := Nat.lt_of_le_of_lt (show x2.length ≤ 3009 by omega) (by decide)
      walk_at "rx"
      refine ite2 (fun hc => ?_) (fun hc => ?_)
      · have c1 : (cutS x2 none (some (SP : Int))).length + (cutS x2 (some ((SP : Int) + 1)) none).length ≤ x2.length := cutS_two x2 (Nat.le_succ SP)
        have hlen : (cutS x2 none (some (SP : Int)) ++ m ++ cutS x2 (some ((SP : Int) + 1)) none).length ≤ 3000 + 2 * (i + 1) := by rw [cl, cl]; omega
        have g1 : (cutS x2 none (some (SP : Int))).length + m.length ≤ sizeLine := big _ (by omega)
        have g2 : (cutS x2 none (some (SP : Int)) ++ m).length + (cutS x2 (some ((SP : Int) + 1)) none).length ≤ sizeLine := big _ (by rw [cl]; omega)
        repeat (first | exact ⟨_, _, _, _, _, _, _, _, _, rfl, s67, hlen⟩ | walk_at "x")
      · exact ⟨x2, _, _, _, _, _, _, _, _, rfl, s67, by omega⟩
    · rintro σ H' ⟨x, v4, v5, v6, v7, v8, v9, v10, v11, rfl, s6, hx⟩
      walk_at "rx"
      exact k x _ (s05.trans s6) (by omega)
end
abbrev s_law : Stmt := top 27
abbrev N_law : List Str := ["script", "lines", "good", "at", "line"]
theorem sc_law : FnScope N_law ["script"] (defScope s_law) := ⟨rfl, rfl, rfl, by decide +kernel, rfl, by decide +kernel, by decide +kernel⟩
section
variable {P : Program} {w : World} {K : PySem.W.Frag} {mg : Str → Option Value} {base : Heap}
def spLaw (K : PySem.W.Frag) : Sp := fun vs H Q _ => ∃ (a : Addr) (ns : List Int), vs = [.ref a] ∧ SqL K H a (ns.map V.int) ∧ ns.length ≤ 63 ∧ ∀ H', Q (.bl true) H'
theorem off_good {n : Nat} : ∀ {ls : List Str}, Rows n ls → ls ≠ [] ∧ off ls = none
  | [], W => absurd W.ne (Nat.lt_irrefl 0)
  | t :: ts, W => by
    refine ⟨fun h => (nomatch h), ?_⟩
    show (t :: ts).find? (offB t.length) = none
    rw [List.find?_eq_none]
    intro z hz
    have e : z.length = t.length := by rw [len_tl, len_tl, W.len z hz, W.len t List.mem_cons_self]
    unfold offB
    rw [rowB_iff.mpr (W.row z hz), e, decide_eq_true rfl]
    decide
theorem Told84.same {H H' : Hp} {a : Addr} {z : Str} (h : Told84 H a z) (s : Same H H') : Told84 H' a z := by
  rcases h with ⟨h1, h2⟩ | ⟨h1, g, h3, h4⟩
  · exact .inl ⟨h1, s _ _ h2⟩
  · exact .inr ⟨h1, g, s _ _ h3, s _ _ h4⟩
theorem told_alike {H : Hp} {a b : Addr} {z : Str} (h : Told84 H a z) (g : Told84 H b z) (hl : z.length ≤ 4000) : Alike K H 4 (.ref a) (.ref b) := by
  have hc := cutR_count z
  rcases h with ⟨h1, h2⟩ | ⟨h1, l, h3, h4⟩
  · rcases g with ⟨g1, g2⟩ | ⟨g1, _⟩
    · exact alike_ofT h2 g2 (Nat.le_of_ble_eq_true rfl) (.cons (.str _) (.cons (.str _) (.cons (.bl _) .nil)))
    · obtain ⟨y, hy⟩ := h1
      rw [g1] at hy
      cases hy
  · rcases g with ⟨⟨y, hy⟩, _⟩ | ⟨g1, l', g3, g4⟩
    · rw [h1] at hy
      cases hy
    · exact alike_ofT h4 g4 (Nat.le_of_ble_eq_true rfl) (.cons (.str _) (.cons (alike_strs h3 g3 (by omega)) (.cons (.bl _) .nil)))
theorem ok_law {f C : Addr} {fd : FuncData} (F : Fun K "law" "law" s_law f fd) (B : Bi mg) (T : Rl K C) (D_law_draws : Df P w K mg base "_law_draws" 3 ["script", "at", "limits"] (spDraws K)) (D_law_lines : Df P w K mg base "_law_lines" 4 ["script", "at", "wide", "high"] (spLines K))
    (D_law_large : Df P w K mg base "_law_large" 5 ["script", "at"] (spLarge K)) (D_law_same : Df P w K mg base "_law_same" 4 ["found", "due"] (spSame K 4)) (D_law_due : Df P w K mg base "_law_due" 4 ["line"] spDue84) (D_law_found : Df P w K mg base "_law_found" 8 ["line"] spFound84)
    (D_law_changed : Df P w K mg base "_law_changed" 4 ["line", "script", "at"] (spChanged84 K)) : FnOk P w K mg base CX0 9 f fd ["script"] (spLaw K) := by
  refine F.ok sc_law (fun vs H Q E h => ?_) (fun cdv A outer s H vs Q E hr h => ?_)
  · obtain ⟨a, ns, rfl, _⟩ := h
    rfl
  · obtain ⟨a, ns, rfl, hS, hlen, k⟩ := h
    refine ⟨_, (pss_cons (ps_set (i := 1) sc_law.nd rfl (Or.inl rfl) (pe_df D_law_lines (hr.mono (by first | decide | omega)) (by rfl) (pa_cons (pv 0) (pa_cons pe_int (pa_cons pe_int (pa_cons pe_int pa_nil))))))
    (pss_cons (ps_if (pt_cmpR op_eq (pe_ix ix_list (pe_df D_law_draws (hr.mono (by first | decide | omega)) (by rfl) (pa_cons (pv 0) (pa_cons pe_int (pa_cons (pe_lst (pa_cons pe_int pa_nil)) pa_nil)))) pe_int (fun _ _ => rfl)) pe_int (nomark _))
    (pss_one (ps_set (i := 1) sc_law.nd rfl (Or.inl rfl) (pe_df D_law_large (hr.mono (by first | decide | omega)) (by rfl) (pa_cons (pv 0) (pa_cons pe_int pa_nil)))))
    pss_nil)
    (pss_cons (ps_set (i := 2) sc_law.nd rfl (Or.inl rfl) (pe_join pe_str (pv 1)))
    (pss_cons (ps_for PassesOwn.never rfl (pi_range2 (by rfl) B.range_ (pa_cons pe_int (pa_cons (pe_callB (call_max2 rfl) (by rfl) B.max_ (by decide +kernel) (pa_cons pe_int (pa_cons (pe_callB (call_min2 rfl) (by rfl) B.min_ (by decide +kernel) (pa_cons (pe_callB call_len_seq (by rfl) B.len_ PySem.boot_len (pa_cons (pv 0) pa_nil)) (pa_cons pe_int pa_nil))) pa_nil))) pa_nil))) (pg_name (i := 3) sc_law.nd rfl (Or.inl rfl))
    (pss_cons (ps_set (i := 4) sc_law.nd rfl (Or.inl rfl) (pe_df D_law_changed (hr.mono (by first | decide | omega)) (by rfl) (pa_cons (pv 2) (pa_cons (pv 0) (pa_cons (pv 3) pa_nil)))))
    (pss_cons (ps_if (pt_not (pt_val (pe_df D_law_same (hr.mono (by first | decide | omega)) (by rfl) (pa_cons (pe_df D_law_found (hr.mono (by first | decide | omega)) (by rfl) (pa_cons (pv 4) pa_nil)) (pa_cons (pe_df D_law_due (hr.mono (by first | decide | omega)) (by rfl) (pa_cons (pv 4) pa_nil)) pa_nil)))))
    (pss_one (ps_ret pe_bl))
    pss_nil)
    (pss_one (ps_if (pt_not (pt_val (pe_df D_law_same (hr.mono (by first | decide | omega)) (by rfl) (pa_cons (pe_df D_law_found (hr.mono (by first | decide | omega)) (by rfl) (pa_cons (pv 2) pa_nil)) (pa_cons (pe_tup (pa_cons pe_str (pa_cons (pv 1) (pa_cons pe_bl pa_nil)))) pa_nil)))))
    (pss_one (ps_ret pe_bl))
    pss_nil)))))
    (pss_one (ps_ret pe_bl)))))), ?_⟩
    walk_at "rx"
    refine ⟨a, ns, 0, 6, 6, rfl, hS, by decide, by decide, by decide, by decide, ?_⟩
    intro n' ls' q1' H1 W' hn' hl' s1 _ hls1
    walk_at "rx"
    intro p1 zp1
    generalize ep1 : upd _ p1 _ = H2
    obtain ⟨s2, hl2⟩ := nw ep1 zp1
    refine ⟨a, p1, ns, [3], 1, rfl, (s1.trans s2).seq hS, hl2, by decide, by decide, ?_⟩
    intro ds q0 H3 dr sm _ hd
    obtain ⟨d0, a0, _, b0, b1⟩ := dr.at (i := 0) (l := 3) rfl
    have i0 := atI_k' (i := 0) 0 rfl a0
    have s03 := s1.trans (s2.trans sm)
    have hls3 := sm _ _ (s2 _ _ hls1)
    clear a0 hl2 ep1 zp1 s1 s2 sm hls1 dr
    walk_at "rx"
    refine cutIf (fun σ H4 => ∃ (n : Nat) (ls : List Str) (q1 : Addr), σ = [some (.ref a), some (.ref q1), none, none, none] ∧ Rows n ls ∧ n ≤ 60 ∧ ls.length ≤ 36 ∧ Same H3 H4 ∧ H4 q1 = some (.lst (ls.map V.str))) ?_ ?_ (fun _ => ⟨n', ls', q1', rfl, W', by omega, by omega, Same.refl _, hls3⟩)
    rotate_left
    · intro hT hc
      walk_at "rx"
      refine ⟨a, ns, 0, rfl, s03.seq hS, ?_⟩
      intro n ls q H' W hn hl s4 _ hls
      exact hT _ _ ⟨n, ls, q, rfl, W, hn, hl, s4, hls⟩
    rintro σ H4 ⟨n, ls, q1, rfl, W, hn, hl, s4, hls⟩
    clear hls3 W' hn' hl'
    have s04 := s03.trans s4
    have hS4 := s04.seq hS
    obtain ⟨hne, hgood⟩ := off_good W
    have z60 : ∀ z ∈ ls, z.length ≤ 60 := fun z hz => by rw [len_tl, W.len z hz]; exact hn
    have hnl : ∀ z ∈ ls, 47 ∉ tl z := fun z hz h => by rcases (W.row z hz).sgn _ h with e | e <;> cases e
    have jl := joinR_len z60
    have ecj := cut_join hne hnl
    have sl := sum_le' z60
    have l36 : ls.length * 60 ≤ 2160 := Nat.mul_le_mul_right 60 hl
    have l36' : ls.length * (60 + 1) ≤ 2196 := Nat.mul_le_mul_right 61 hl
    clear hd s4 s03 hS s04 i0
    walk_at "rx"
    refine ⟨_, q1, ls, rfl, rfl, .inl (SqL.of hls), ?_, ?_⟩
    · rw [show (Str.ofString "/").length = 1 by decide +kernel]
      omega
    have hjl : (joinR ls).length ≤ 2196 := by omega
    have ej : Txt.join (Str.ofString "/") ls = joinR ls := rfl
    rw [ej]
    generalize joinR ls = G at hjl ecj
    have hLl : ((ns.map V.int).length : Int) ≤ 63 := by rw [List.length_map]; omega
    walk_at "rx"
    refine ⟨a, _, rfl, .inl hS4, ?_⟩
    walk_at "rx"
    refine ⟨_, _, rfl, ?_⟩
    walk_at "rx"
    refine ⟨_, _, rfl, ?_⟩
    generalize emn : (if (12 : Int) < ((ns.map V.int).length : Nat) then (12 : Int) else ((ns.map V.int).length : Nat)) = mn
    have hmn : 0 ≤ mn ∧ mn ≤ 12 := by
      rw [← emn]
      split <;> omega
    generalize emx : (if mn > 3 then mn else 3) = mx
    have hmx : 3 ≤ mx ∧ mx ≤ 12 := by
      rw [← emx]
      split <;> omega
    walk_at "rx"
    refine ⟨_, _, rfl, ⟨by omega, by omega, by omega, by omega⟩, ?_⟩
    refine for_range (lo := 2) (n := (mx - 2).toNat) (fun i σ H' => ∃ (o3 o4 : Option V), σ = [some (.ref a), some (.ref q1), some (.str G), o3, o4] ∧ Same H4 H') ⟨none, none, rfl, Same.refl _⟩ ?_ ?_
    · rintro i σ H' hi ⟨o3, o4, rfl, s'⟩
      have hi8 : i < 10 := by omega
      walk_at "rx"
      refine ⟨a, ns, 2 + i, G, rfl, s'.seq hS4, by omega, fun y H5 s5 hy => ?_⟩
      walk_at "rx"
      intro fo H6 s6 hfo
      walk_at "rx"
      intro du H7 s7 hdu
      walk_at "rx"
      refine ⟨_, _, rfl, told_alike (hfo.same s7) hdu (by omega), fun H8 s8 => ?_⟩
      have sA := s'.trans (s5.trans (s6.trans (s7.trans s8)))
      clear hfo hdu s5 s6 s7 s8
      walk_at "rx"
      intro fo2 H9 s9 hfo2
      have hls9 := (sA.trans s9) _ _ hls
      walk_at "rx"
      intro g2 zg2
      generalize eg2 : upd _ g2 _ = HE
      obtain ⟨sE, hg2⟩ := nw eg2 zg2
      have tg : Told84 HE g2 G := .inr ⟨by rw [ecj]; exact hgood, q1, by rw [ecj]; exact sE _ _ hls9, hg2⟩
      refine ⟨_, _, rfl, told_alike (hfo2.same sE) tg (by omega), fun HF sF => ?_⟩
      have sAF := sA.trans (s9.trans (sE.trans sF))
      repeat (first | exact ⟨_, _, rfl, sAF⟩ | walk_at "x")
    · rintro σ H' ⟨o3, o4, rfl, s'⟩
      walk_at "rx"
      exact k _
end
theorem all_mk {l : PySem.W.OpenLaw} {w : World} {K : PySem.W.Frag} {h : Heap} {mg : Str → Option Value} {fa : Addr} (X : K.In h) (G : h.Ns mainGlobals mg) (hfa : mg "law" = some (.ref fa))
    {C_Unreadable : Addr} {nmUnreadable qUnreadable : Str} {NUnreadable : Addr} {bsUnreadable : List Value} {snUnreadable : List Str} {subUnreadable : List Value} {abUnreadable : Bool} {colUnreadable : Option Bool} {ddUnreadable : Option Addr} {m0Unreadable m1Unreadable m2Unreadable m3Unreadable m5Unreadable : Option Value}
    {C_InvalidRow : Addr} {nmInvalidRow qInvalidRow : Str} {NInvalidRow : Addr} {bsInvalidRow : List Value} {snInvalidRow : List Str} {subInvalidRow : List Value} {abInvalidRow : Bool} {colInvalidRow : Option Bool} {ddInvalidRow : Option Addr} {m0InvalidRow m1InvalidRow m2InvalidRow m3InvalidRow m5InvalidRow : Option Value}
    {C_InvalidSize : Addr} {nmInvalidSize qInvalidSize : Str} {NInvalidSize : Addr} {bsInvalidSize : List Value} {snInvalidSize : List Str} {subInvalidSize : List Value} {abInvalidSize : Bool} {colInvalidSize : Option Bool} {ddInvalidSize : Option Addr} {m0InvalidSize m1InvalidSize m2InvalidSize m3InvalidSize m5InvalidSize : Option Value}
    {C_RungError : Addr} {nmRungError qRungError : Str} {NRungError : Addr} {bsRungError : List Value} {snRungError : List Str} {subRungError : List Value} {abRungError : Bool} {colRungError : Option Bool} {ddRungError : Option Addr} {m0RungError m1RungError m2RungError m3RungError m5RungError : Option Value}
    {C : Addr}
    {f1 : Addr} {od1 an1 : Option Addr} {sl1 : Array (Option Value)} {oc1 kV1 dc1 pm1 cd1 ct1 : Value}
    {f2 : Addr} {od2 an2 : Option Addr} {sl2 : Array (Option Value)} {oc2 kV2 dc2 pm2 cd2 ct2 : Value}
    {f3 : Addr} {od3 an3 : Option Addr} {sl3 : Array (Option Value)} {oc3 kV3 dc3 pm3 cd3 ct3 : Value}
    {f4 : Addr} {od4 an4 : Option Addr} {sl4 : Array (Option Value)} {oc4 kV4 dc4 pm4 cd4 ct4 : Value}
    {f5 : Addr} {od5 an5 : Option Addr} {sl5 : Array (Option Value)} {oc5 kV5 dc5 pm5 cd5 ct5 : Value}
    {p5 : Addr} {re5 : List Value}
    {f6 : Addr} {od6 an6 : Option Addr} {sl6 : Array (Option Value)} {oc6 kV6 dc6 pm6 cd6 ct6 : Value}
    {f7 : Addr} {od7 an7 : Option Addr} {sl7 : Array (Option Value)} {oc7 kV7 dc7 pm7 cd7 ct7 : Value}
    {f8 : Addr} {od8 an8 : Option Addr} {sl8 : Array (Option Value)} {oc8 kV8 dc8 pm8 cd8 ct8 : Value}
    {f9 : Addr} {od9 an9 : Option Addr} {sl9 : Array (Option Value)} {oc9 kV9 dc9 pm9 cd9 ct9 : Value}
    {f10 : Addr} {od10 an10 : Option Addr} {sl10 : Array (Option Value)} {oc10 kV10 dc10 pm10 cd10 ct10 : Value}
    {f11 : Addr} {od11 an11 : Option Addr} {sl11 : Array (Option Value)} {oc11 kV11 dc11 pm11 cd11 ct11 : Value}
    {f12 : Addr} {od12 an12 : Option Addr} {sl12 : Array (Option Value)} {oc12 kV12 dc12 pm12 cd12 ct12 : Value}
    {f13 : Addr} {od13 an13 : Option Addr} {sl13 : Array (Option Value)} {oc13 kV13 dc13 pm13 cd13 ct13 : Value}
    {f14 : Addr} {od14 an14 : Option Addr} {sl14 : Array (Option Value)} {oc14 kV14 dc14 pm14 cd14 ct14 : Value}
    {f15 : Addr} {od15 an15 : Option Addr} {sl15 : Array (Option Value)} {oc15 kV15 dc15 pm15 cd15 ct15 : Value}
    {f16 : Addr} {od16 an16 : Option Addr} {sl16 : Array (Option Value)} {oc16 kV16 dc16 pm16 cd16 ct16 : Value}
    {f17 : Addr} {od17 an17 : Option Addr} {sl17 : Array (Option Value)} {oc17 kV17 dc17 pm17 cd17 ct17 : Value}
    {f18 : Addr} {od18 an18 : Option Addr} {sl18 : Array (Option Value)} {oc18 kV18 dc18 pm18 cd18 ct18 : Value}
    {f19 : Addr} {od19 an19 : Option Addr} {sl19 : Array (Option Value)} {oc19 kV19 dc19 pm19 cd19 ct19 : Value}
    {f20 : Addr} {od20 an20 : Option Addr} {sl20 : Array (Option Value)} {oc20 kV20 dc20 pm20 cd20 ct20 : Value}
    (aCRungError : PySem.W.nsIn K mainGlobals "RungError" = some (some (.ref C_RungError)))
    (xLRungError : K.lookup C_RungError = some (PySem.excClassObj nmRungError qRungError C_RungError NRungError bsRungError [.type "ValueError", .type "Exception", .type "BaseException", .type "object"] true snRungError subRungError abRungError colRungError ddRungError m0RungError m1RungError m2RungError m3RungError m5RungError "ValueError.__new__"))
    (saRungError : PySem.W.findIn K (.ref C_RungError) "__setattr__" = some (some (.builtin "object.__setattr__")))
    (gaRungError : PySem.W.findIn K (.ref C_RungError) "__getattribute__" = some (some (.builtin "BaseException.__getattribute__")))
    (ggRungError : PySem.W.findIn K (.ref C_RungError) "__getattr__" = some none)
    (nvRungError : PySem.W.findIn K (.ref C_RungError) "value" = some none)
    (kCRungError : PySem.W.keepIn K (.ref C_RungError) = true)
    (eCRungError : PySem.W.subIn K (.ref C_RungError) (.type "BaseException") = some true)
    (tCRungError : PySem.W.typeIn K (.ref C_RungError) = some (.type "type"))
    (hCRungError : PySem.W.hasDictIn K C_RungError = true)
    (haRungError : PySem.W.findIn K (.ref C_RungError) "__class__" = some (some (.builtin "object.__class__")))
    (hmRungError : PySem.W.mroIn K C_RungError (.type "object") = some true)
    (aCInvalidSize : PySem.W.nsIn K mainGlobals "InvalidSize" = some (some (.ref C_InvalidSize)))
    (xLInvalidSize : K.lookup C_InvalidSize = some (PySem.excClassObj nmInvalidSize qInvalidSize C_InvalidSize NInvalidSize bsInvalidSize [.ref C_RungError, .type "ValueError", .type "Exception", .type "BaseException", .type "object"] true snInvalidSize subInvalidSize abInvalidSize colInvalidSize ddInvalidSize m0InvalidSize m1InvalidSize m2InvalidSize m3InvalidSize m5InvalidSize "ValueError.__new__"))
    (saInvalidSize : PySem.W.findIn K (.ref C_InvalidSize) "__setattr__" = some (some (.builtin "object.__setattr__")))
    (gaInvalidSize : PySem.W.findIn K (.ref C_InvalidSize) "__getattribute__" = some (some (.builtin "BaseException.__getattribute__")))
    (ggInvalidSize : PySem.W.findIn K (.ref C_InvalidSize) "__getattr__" = some none)
    (nvInvalidSize : PySem.W.findIn K (.ref C_InvalidSize) "value" = some none)
    (kCInvalidSize : PySem.W.keepIn K (.ref C_InvalidSize) = true)
    (eCInvalidSize : PySem.W.subIn K (.ref C_InvalidSize) (.type "BaseException") = some true)
    (tCInvalidSize : PySem.W.typeIn K (.ref C_InvalidSize) = some (.type "type"))
    (hCInvalidSize : PySem.W.hasDictIn K C_InvalidSize = true)
    (haInvalidSize : PySem.W.findIn K (.ref C_InvalidSize) "__class__" = some (some (.builtin "object.__class__")))
    (hmInvalidSize : PySem.W.mroIn K C_InvalidSize (.type "object") = some true)
    (aCInvalidRow : PySem.W.nsIn K mainGlobals "InvalidRow" = some (some (.ref C_InvalidRow)))
    (xLInvalidRow : K.lookup C_InvalidRow = some (PySem.excClassObj nmInvalidRow qInvalidRow C_InvalidRow NInvalidRow bsInvalidRow [.ref C_RungError, .type "ValueError", .type "Exception", .type "BaseException", .type "object"] true snInvalidRow subInvalidRow abInvalidRow colInvalidRow ddInvalidRow m0InvalidRow m1InvalidRow m2InvalidRow m3InvalidRow m5InvalidRow "ValueError.__new__"))
    (saInvalidRow : PySem.W.findIn K (.ref C_InvalidRow) "__setattr__" = some (some (.builtin "object.__setattr__")))
    (gaInvalidRow : PySem.W.findIn K (.ref C_InvalidRow) "__getattribute__" = some (some (.builtin "BaseException.__getattribute__")))
    (ggInvalidRow : PySem.W.findIn K (.ref C_InvalidRow) "__getattr__" = some none)
    (nvInvalidRow : PySem.W.findIn K (.ref C_InvalidRow) "value" = some none)
    (kCInvalidRow : PySem.W.keepIn K (.ref C_InvalidRow) = true)
    (eCInvalidRow : PySem.W.subIn K (.ref C_InvalidRow) (.type "BaseException") = some true)
    (tCInvalidRow : PySem.W.typeIn K (.ref C_InvalidRow) = some (.type "type"))
    (hCInvalidRow : PySem.W.hasDictIn K C_InvalidRow = true)
    (haInvalidRow : PySem.W.findIn K (.ref C_InvalidRow) "__class__" = some (some (.builtin "object.__class__")))
    (hmInvalidRow : PySem.W.mroIn K C_InvalidRow (.type "object") = some true)
    (aCUnreadable : PySem.W.nsIn K mainGlobals "Unreadable" = some (some (.ref C_Unreadable)))
    (xLUnreadable : K.lookup C_Unreadable = some (PySem.excClassObj nmUnreadable qUnreadable C_Unreadable NUnreadable bsUnreadable [.ref C_RungError, .type "ValueError", .type "Exception", .type "BaseException", .type "object"] true snUnreadable subUnreadable abUnreadable colUnreadable ddUnreadable m0Unreadable m1Unreadable m2Unreadable m3Unreadable m5Unreadable "ValueError.__new__"))
    (saUnreadable : PySem.W.findIn K (.ref C_Unreadable) "__setattr__" = some (some (.builtin "object.__setattr__")))
    (gaUnreadable : PySem.W.findIn K (.ref C_Unreadable) "__getattribute__" = some (some (.builtin "BaseException.__getattribute__")))
    (ggUnreadable : PySem.W.findIn K (.ref C_Unreadable) "__getattr__" = some none)
    (nvUnreadable : PySem.W.findIn K (.ref C_Unreadable) "value" = some none)
    (kCUnreadable : PySem.W.keepIn K (.ref C_Unreadable) = true)
    (eCUnreadable : PySem.W.subIn K (.ref C_Unreadable) (.type "BaseException") = some true)
    (tCUnreadable : PySem.W.typeIn K (.ref C_Unreadable) = some (.type "type"))
    (hCUnreadable : PySem.W.hasDictIn K C_Unreadable = true)
    (haUnreadable : PySem.W.findIn K (.ref C_Unreadable) "__class__" = some (some (.builtin "object.__class__")))
    (hmUnreadable : PySem.W.mroIn K C_Unreadable (.type "object") = some true)
    (aCRule : PySem.W.nsIn K mainGlobals "Rule" = some (some (.ref C)))
    (inRungError : PySem.W.findIn K (.ref C_RungError) "__init__" = some (some (.ref f1)))
    (inInvalidSize : PySem.W.findIn K (.ref C_InvalidSize) "__init__" = some (some (.ref f1)))
    (inInvalidRow : PySem.W.findIn K (.ref C_InvalidRow) "__init__" = some (some (.ref f1)))
    (inUnreadable : PySem.W.findIn K (.ref C_Unreadable) "__init__" = some (some (.ref f1)))
    (i1 : PySem.W.typeIn K (.ref f1) = some (.type "function"))
    (l1 : K.lookup f1 = some ⟨oc1, od1, .func (PySem.W.fnOf "__init__" "RungError.__init__" (defArgs s_RungError_u__init_u_) (defBody s_RungError_u__init_u_) (defScope s_RungError_u__init_u_) .none kV1 dc1 pm1 an1 cd1 ct1), sl1⟩)
    (c1 : PySem.W.codeIn K cd1 "RungError.__init__" = true)
    (k1 : PySem.W.keepIn K (.ref f1) = true)
    (a2 : PySem.W.nsIn K mainGlobals "is_marked" = some (some (.ref f2)))
    (l2 : K.lookup f2 = some ⟨oc2, od2, .func (PySem.W.fnOf "is_marked" "is_marked" (defArgs s_is_marked) (defBody s_is_marked) (defScope s_is_marked) .none kV2 dc2 pm2 an2 cd2 ct2), sl2⟩)
    (c2 : PySem.W.codeIn K cd2 "is_marked" = true)
    (k2 : PySem.W.keepIn K (.ref f2) = true)
    (a3 : PySem.W.nsIn K mainGlobals "is_row" = some (some (.ref f3)))
    (l3 : K.lookup f3 = some ⟨oc3, od3, .func (PySem.W.fnOf "is_row" "is_row" (defArgs s_is_row) (defBody s_is_row) (defScope s_is_row) .none kV3 dc3 pm3 an3 cd3 ct3), sl3⟩)
    (c3 : PySem.W.codeIn K cd3 "is_row" = true)
    (k3 : PySem.W.keepIn K (.ref f3) = true)
    (a4 : PySem.W.findIn K (.ref C) "__init__" = some (some (.ref f4)))
    (i4 : PySem.W.isFn K (.ref f4) = true)
    (l4 : K.lookup f4 = some ⟨oc4, od4, .func (PySem.W.fnOf "__init__" "Rule.__init__" (defArgs s_Rule_u__init_u_) (defBody s_Rule_u__init_u_) (defScope s_Rule_u__init_u_) .none kV4 dc4 pm4 an4 cd4 ct4), sl4⟩)
    (c4 : PySem.W.codeIn K cd4 "Rule.__init__" = true)
    (k4 : PySem.W.keepIn K (.ref f4) = true)
    (a5 : PySem.W.findIn K (.ref C) "rows" = some (some (.ref p5)))
    (g5 : PySem.W.specialIn K (.ref p5) "__get__" = some (some (.builtin "property.__get__")))
    (t5 : PySem.W.takesIn K (.ref p5) = some true)
    (r5 : PySem.W.recIn K p5 "property" = some (.ref f5 :: re5))
    (l5 : K.lookup f5 = some ⟨oc5, od5, .func (PySem.W.fnOf "rows" "Rule.rows" (defArgs s_Rule_rows) (defBody s_Rule_rows) (defScope s_Rule_rows) .none kV5 dc5 pm5 an5 cd5 ct5), sl5⟩)
    (c5 : PySem.W.codeIn K cd5 "Rule.rows" = true)
    (k5 : PySem.W.keepIn K (.ref f5) = true)
    (a6 : PySem.W.findIn K (.ref C) "__eq__" = some (some (.ref f6)))
    (i6 : PySem.W.isFn K (.ref f6) = true)
    (l6 : K.lookup f6 = some ⟨oc6, od6, .func (PySem.W.fnOf "__eq__" "Rule.__eq__" (defArgs s_Rule_u__eq_u_) (defBody s_Rule_u__eq_u_) (defScope s_Rule_u__eq_u_) .none kV6 dc6 pm6 an6 cd6 ct6), sl6⟩)
    (c6 : PySem.W.codeIn K cd6 "Rule.__eq__" = true)
    (k6 : PySem.W.keepIn K (.ref f6) = true)
    (a7 : PySem.W.nsIn K mainGlobals "show_rule" = some (some (.ref f7)))
    (l7 : K.lookup f7 = some ⟨oc7, od7, .func (PySem.W.fnOf "show_rule" "show_rule" (defArgs s_show_rule) (defBody s_show_rule) (defScope s_show_rule) .none kV7 dc7 pm7 an7 cd7 ct7), sl7⟩)
    (c7 : PySem.W.codeIn K cd7 "show_rule" = true)
    (k7 : PySem.W.keepIn K (.ref f7) = true)
    (a8 : PySem.W.nsIn K mainGlobals "_law_cell" = some (some (.ref f8)))
    (l8 : K.lookup f8 = some ⟨oc8, od8, .func (PySem.W.fnOf "_law_cell" "_law_cell" (defArgs s__law_cell) (defBody s__law_cell) (defScope s__law_cell) .none kV8 dc8 pm8 an8 cd8 ct8), sl8⟩)
    (c8 : PySem.W.codeIn K cd8 "_law_cell" = true)
    (k8 : PySem.W.keepIn K (.ref f8) = true)
    (a9 : PySem.W.nsIn K mainGlobals "_law_draws" = some (some (.ref f9)))
    (l9 : K.lookup f9 = some ⟨oc9, od9, .func (PySem.W.fnOf "_law_draws" "_law_draws" (defArgs s__law_draws) (defBody s__law_draws) (defScope s__law_draws) .none kV9 dc9 pm9 an9 cd9 ct9), sl9⟩)
    (c9 : PySem.W.codeIn K cd9 "_law_draws" = true)
    (k9 : PySem.W.keepIn K (.ref f9) = true)
    (a10 : PySem.W.nsIn K mainGlobals "_law_lines" = some (some (.ref f10)))
    (l10 : K.lookup f10 = some ⟨oc10, od10, .func (PySem.W.fnOf "_law_lines" "_law_lines" (defArgs s__law_lines) (defBody s__law_lines) (defScope s__law_lines) .none kV10 dc10 pm10 an10 cd10 ct10), sl10⟩)
    (c10 : PySem.W.codeIn K cd10 "_law_lines" = true)
    (k10 : PySem.W.keepIn K (.ref f10) = true)
    (a11 : PySem.W.nsIn K mainGlobals "_law_large" = some (some (.ref f11)))
    (l11 : K.lookup f11 = some ⟨oc11, od11, .func (PySem.W.fnOf "_law_large" "_law_large" (defArgs s__law_large) (defBody s__law_large) (defScope s__law_large) .none kV11 dc11 pm11 an11 cd11 ct11), sl11⟩)
    (c11 : PySem.W.codeIn K cd11 "_law_large" = true)
    (k11 : PySem.W.keepIn K (.ref f11) = true)
    (a12 : PySem.W.nsIn K mainGlobals "_law_is_row" = some (some (.ref f12)))
    (l12 : K.lookup f12 = some ⟨oc12, od12, .func (PySem.W.fnOf "_law_is_row" "_law_is_row" (defArgs s__law_is_row) (defBody s__law_is_row) (defScope s__law_is_row) .none kV12 dc12 pm12 an12 cd12 ct12), sl12⟩)
    (c12 : PySem.W.codeIn K cd12 "_law_is_row" = true)
    (k12 : PySem.W.keepIn K (.ref f12) = true)
    (a13 : PySem.W.nsIn K mainGlobals "_law_sign" = some (some (.ref f13)))
    (l13 : K.lookup f13 = some ⟨oc13, od13, .func (PySem.W.fnOf "_law_sign" "_law_sign" (defArgs s__law_sign) (defBody s__law_sign) (defScope s__law_sign) .none kV13 dc13 pm13 an13 cd13 ct13), sl13⟩)
    (c13 : PySem.W.codeIn K cd13 "_law_sign" = true)
    (k13 : PySem.W.keepIn K (.ref f13) = true)
    (a14 : PySem.W.nsIn K mainGlobals "_law_same" = some (some (.ref f14)))
    (l14 : K.lookup f14 = some ⟨oc14, od14, .func (PySem.W.fnOf "_law_same" "_law_same" (defArgs s__law_same) (defBody s__law_same) (defScope s__law_same) .none kV14 dc14 pm14 an14 cd14 ct14), sl14⟩)
    (c14 : PySem.W.codeIn K cd14 "_law_same" = true)
    (k14 : PySem.W.keepIn K (.ref f14) = true)
    (a15 : PySem.W.findIn K (.ref C) "__init__" = some (some (.ref f15)))
    (i15 : PySem.W.isFn K (.ref f15) = true)
    (l15 : K.lookup f15 = some ⟨oc15, od15, .func (PySem.W.fnOf "__init__" "Rule.__init__" (defArgs s_Rule_u__init_u__x) (defBody s_Rule_u__init_u__x) (defScope s_Rule_u__init_u__x) .none kV15 dc15 pm15 an15 cd15 ct15), sl15⟩)
    (c15 : PySem.W.codeIn K cd15 "Rule.__init__" = true)
    (k15 : PySem.W.keepIn K (.ref f15) = true)
    (a16 : PySem.W.nsIn K mainGlobals "_law_due" = some (some (.ref f16)))
    (l16 : K.lookup f16 = some ⟨oc16, od16, .func (PySem.W.fnOf "_law_due" "_law_due" (defArgs s__law_due) (defBody s__law_due) (defScope s__law_due) .none kV16 dc16 pm16 an16 cd16 ct16), sl16⟩)
    (c16 : PySem.W.codeIn K cd16 "_law_due" = true)
    (k16 : PySem.W.keepIn K (.ref f16) = true)
    (a17 : PySem.W.nsIn K mainGlobals "read_rule" = some (some (.ref f17)))
    (l17 : K.lookup f17 = some ⟨oc17, od17, .func (PySem.W.fnOf "read_rule" "read_rule" (defArgs s_read_rule_x) (defBody s_read_rule_x) (defScope s_read_rule_x) .none kV17 dc17 pm17 an17 cd17 ct17), sl17⟩)
    (c17 : PySem.W.codeIn K cd17 "read_rule" = true)
    (k17 : PySem.W.keepIn K (.ref f17) = true)
    (a18 : PySem.W.nsIn K mainGlobals "_law_found" = some (some (.ref f18)))
    (l18 : K.lookup f18 = some ⟨oc18, od18, .func (PySem.W.fnOf "_law_found" "_law_found" (defArgs s__law_found) (defBody s__law_found) (defScope s__law_found) .none kV18 dc18 pm18 an18 cd18 ct18), sl18⟩)
    (c18 : PySem.W.codeIn K cd18 "_law_found" = true)
    (k18 : PySem.W.keepIn K (.ref f18) = true)
    (a19 : PySem.W.nsIn K mainGlobals "_law_changed" = some (some (.ref f19)))
    (l19 : K.lookup f19 = some ⟨oc19, od19, .func (PySem.W.fnOf "_law_changed" "_law_changed" (defArgs s__law_changed) (defBody s__law_changed) (defScope s__law_changed) .none kV19 dc19 pm19 an19 cd19 ct19), sl19⟩)
    (c19 : PySem.W.codeIn K cd19 "_law_changed" = true)
    (k19 : PySem.W.keepIn K (.ref f19) = true)
    (a20 : PySem.W.nsIn K mainGlobals "law" = some (some (.ref f20)))
    (l20 : K.lookup f20 = some ⟨oc20, od20, .func (PySem.W.fnOf "law" "law" (defArgs s_law) (defBody s_law) (defScope s_law) .none kV20 dc20 pm20 an20 cd20 ct20), sl20⟩)
    (c20 : PySem.W.codeIn K cd20 "law" = true)
    (k20 : PySem.W.keepIn K (.ref f20) = true)
    (pg : PySem.W.plainGet K C Str.empty = true)
    (hd : PySem.W.hasDictIn K C = true)
    (po : PySem.W.plainOver K C = true)
    (sa : PySem.W.findIn K (.ref C) "__setattr__" = some (some (.builtin "object.__setattr__")))
    (mk : PySem.W.makesIn K C = true)
    (kc : PySem.W.keepIn K (.ref C) = true)
    (nR : PySem.W.findIn K (.ref C) "_rows" = some none)
    (cl1 : PySem.W.findIn K (.ref C) "__class__" = some (some (.builtin "object.__class__")))
    (cl2 : PySem.W.specialIn K (.builtin "object.__class__") "__get__" = some (some (.builtin "getset_descriptor.__get__")))
    (cl3 : PySem.W.takesIn K (.builtin "object.__class__") = some true)
    (cl4 : PySem.W.mroIn K C (.type "object") = some true)
    (sf : PySem.W.selfFirst K C = true)
    (S_InvalidRow_InvalidRow : PySem.W.subIn K (.ref C_InvalidRow) (.ref C_InvalidRow) = some true)
    (S_InvalidSize_InvalidRow : PySem.W.subIn K (.ref C_InvalidSize) (.ref C_InvalidRow) = some false)
    (S_Unreadable_RungError : PySem.W.subIn K (.ref C_Unreadable) (.ref C_RungError) = some true)
    (S_Unreadable_Unreadable : PySem.W.subIn K (.ref C_Unreadable) (.ref C_Unreadable) = some true)
    (zlen : PySem.W.nsIn K mainGlobals "len" = some none)
    (zint : PySem.W.nsIn K mainGlobals "int" = some none)
    (zrange : PySem.W.nsIn K mainGlobals "range" = some none)
    (zlist : PySem.W.nsIn K mainGlobals "list" = some none)
    (ztuple : PySem.W.nsIn K mainGlobals "tuple" = some none)
    (zisinstance : PySem.W.nsIn K mainGlobals "isinstance" = some none)
    (zall : PySem.W.nsIn K mainGlobals "all" = some none)
    (zany : PySem.W.nsIn K mainGlobals "any" = some none)
    (zbool : PySem.W.nsIn K mainGlobals "bool" = some none)
    (zstr : PySem.W.nsIn K mainGlobals "str" = some none)
    (zmin : PySem.W.nsIn K mainGlobals "min" = some none)
    (zmax : PySem.W.nsIn K mainGlobals "max" = some none)
    (zabs : PySem.W.nsIn K mainGlobals "abs" = some none)
    (zsum : PySem.W.nsIn K mainGlobals "sum" = some none)
    (zsorted : PySem.W.nsIn K mainGlobals "sorted" = some none)
    (zset : PySem.W.nsIn K mainGlobals "set" = some none)
    (zValueError : PySem.W.nsIn K mainGlobals "ValueError" = some none) :
    ∃ fd : FuncData, (∀ (s : Shared) (v : Value), BindsTo s fd ⟨[v], []⟩ [("script", v)]) ∧ ∀ base : Heap, K.In base → base.Ns mainGlobals mg → FnOk l.prog w K mg base CX0 9 fa fd ["script"] (spLaw K) := by
  have e := hfa.symm.trans (PySem.W.mg_of X G a20)
  cases e
  have B : Bi mg := ⟨PySem.W.mg_none_of X G zlen, PySem.W.mg_none_of X G zint, PySem.W.mg_none_of X G zrange, PySem.W.mg_none_of X G zlist, PySem.W.mg_none_of X G ztuple, PySem.W.mg_none_of X G zisinstance, PySem.W.mg_none_of X G zall, PySem.W.mg_none_of X G zany, PySem.W.mg_none_of X G zbool, PySem.W.mg_none_of X G zstr, PySem.W.mg_none_of X G zmin, PySem.W.mg_none_of X G zmax, PySem.W.mg_none_of X G zabs, PySem.W.mg_none_of X G zsum, PySem.W.mg_none_of X G zsorted, PySem.W.mg_none_of X G zset, PySem.W.mg_none_of X G zValueError⟩
  have G_Rule := PySem.W.mg_of X G aCRule
  have T : Rl K C := ⟨⟨pg, hd, po, sa⟩, nR, cl1, cl2, cl3, cl4, sf⟩
  have F1 := fun_mk (st := s_RungError_u__init_u_) l1 c1 k1
  have b1 := F1.binds (ps := ["self", "value"]) fun _ _ _ _ _ _ us hl => match us, hl with | [_, _], _ => rfl
  have F2 := fun_mk (st := s_is_marked) l2 c2 k2
  have b2 := F2.binds (ps := ["text"]) fun _ _ _ _ _ _ us hl => match us, hl with | [_], _ => rfl
  have F3 := fun_mk (st := s_is_row) l3 c3 k3
  have b3 := F3.binds (ps := ["text"]) fun _ _ _ _ _ _ us hl => match us, hl with | [_], _ => rfl
  have F4 := fun_mk (st := s_Rule_u__init_u_) l4 c4 k4
  have b4 := F4.binds (ps := ["self", "texts"]) fun _ _ _ _ _ _ us hl => match us, hl with | [_, _], _ => rfl
  have F5 := fun_mk (st := s_Rule_rows) l5 c5 k5
  have b5 := F5.binds (ps := ["self"]) fun _ _ _ _ _ _ us hl => match us, hl with | [_], _ => rfl
  have F6 := fun_mk (st := s_Rule_u__eq_u_) l6 c6 k6
  have b6 := F6.binds (ps := ["self", "other"]) fun _ _ _ _ _ _ us hl => match us, hl with | [_, _], _ => rfl
  have F7 := fun_mk (st := s_show_rule) l7 c7 k7
  have b7 := F7.binds (ps := ["rule"]) fun _ _ _ _ _ _ us hl => match us, hl with | [_], _ => rfl
  have F8 := fun_mk (st := s__law_cell) l8 c8 k8
  have b8 := F8.binds (ps := ["script", "at"]) fun _ _ _ _ _ _ us hl => match us, hl with | [_, _], _ => rfl
  have F9 := fun_mk (st := s__law_draws) l9 c9 k9
  have b9 := F9.binds (ps := ["script", "at", "limits"]) fun _ _ _ _ _ _ us hl => match us, hl with | [_, _, _], _ => rfl
  have F10 := fun_mk (st := s__law_lines) l10 c10 k10
  have b10 := F10.binds (ps := ["script", "at", "wide", "high"]) fun _ _ _ _ _ _ us hl => match us, hl with | [_, _, _, _], _ => rfl
  have F11 := fun_mk (st := s__law_large) l11 c11 k11
  have b11 := F11.binds (ps := ["script", "at"]) fun _ _ _ _ _ _ us hl => match us, hl with | [_, _], _ => rfl
  have F12 := fun_mk (st := s__law_is_row) l12 c12 k12
  have b12 := F12.binds (ps := ["line"]) fun _ _ _ _ _ _ us hl => match us, hl with | [_], _ => rfl
  have F13 := fun_mk (st := s__law_sign) l13 c13 k13
  have b13 := F13.binds (ps := ["number"]) fun _ _ _ _ _ _ us hl => match us, hl with | [_], _ => rfl
  have F14 := fun_mk (st := s__law_same) l14 c14 k14
  have b14 := F14.binds (ps := ["found", "due"]) fun _ _ _ _ _ _ us hl => match us, hl with | [_, _], _ => rfl
  have F15 := fun_mk (st := s_Rule_u__init_u__x) l15 c15 k15
  have b15 := F15.binds (ps := ["self", "texts"]) fun _ _ _ _ _ _ us hl => match us, hl with | [_, _], _ => rfl
  have F16 := fun_mk (st := s__law_due) l16 c16 k16
  have b16 := F16.binds (ps := ["line"]) fun _ _ _ _ _ _ us hl => match us, hl with | [_], _ => rfl
  have F17 := fun_mk (st := s_read_rule_x) l17 c17 k17
  have b17 := F17.binds (ps := ["text"]) fun _ _ _ _ _ _ us hl => match us, hl with | [_], _ => rfl
  have F18 := fun_mk (st := s__law_found) l18 c18 k18
  have b18 := F18.binds (ps := ["line"]) fun _ _ _ _ _ _ us hl => match us, hl with | [_], _ => rfl
  have F19 := fun_mk (st := s__law_changed) l19 c19 k19
  have b19 := F19.binds (ps := ["line", "script", "at"]) fun _ _ _ _ _ _ us hl => match us, hl with | [_, _, _], _ => rfl
  have F20 := fun_mk (st := s_law) l20 c20 k20
  have b20 := F20.binds (ps := ["script"]) fun _ _ _ _ _ _ us hl => match us, hl with | [_], _ => rfl
  refine ⟨PySem.W.fnOf "law" "law" (defArgs s_law) (defBody s_law) (defScope s_law) .none kV20 dc20 pm20 an20 cd20 ct20, fun s v => .of_eq rfl, fun base _ _ => ?_⟩
  have G1 : FnOk l.prog w K mg base CX0 1 f1 _ ["self", "value"] (spErr K) := ok_RungError_init F1 B
  have GH1 : L2H.FnH l.prog w K mg base CX0 1 f1 _ ["self", "value"] (spErr K) := ok_RungError_init_h F1 B
  have X_RungError : Er l.prog w K mg base "RungError" C_RungError := ⟨PySem.W.mg_of X G aCRungError, ⟨⟨_, _, _, _, _, _, _, _, _, _, _, _, _, _, _, xLRungError, refs_tail⟩, saRungError, eCRungError, tCRungError, kCRungError⟩, ⟨gaRungError, ggRungError, eCRungError, hCRungError⟩, ⟨gaRungError, ggRungError, eCRungError, hCRungError, haRungError, cl2, cl3, hmRungError⟩, nvRungError, ⟨_, _, inRungError, i1, G1, b1⟩⟩
  have X_InvalidSize : Er l.prog w K mg base "InvalidSize" C_InvalidSize := ⟨PySem.W.mg_of X G aCInvalidSize, ⟨⟨_, _, _, _, _, _, _, _, _, _, _, _, _, _, _, xLInvalidSize, refs_one⟩, saInvalidSize, eCInvalidSize, tCInvalidSize, kCInvalidSize⟩, ⟨gaInvalidSize, ggInvalidSize, eCInvalidSize, hCInvalidSize⟩, ⟨gaInvalidSize, ggInvalidSize, eCInvalidSize, hCInvalidSize, haInvalidSize, cl2, cl3, hmInvalidSize⟩, nvInvalidSize, ⟨_, _, inInvalidSize, i1, G1, b1⟩⟩
  have X_InvalidRow : Er l.prog w K mg base "InvalidRow" C_InvalidRow := ⟨PySem.W.mg_of X G aCInvalidRow, ⟨⟨_, _, _, _, _, _, _, _, _, _, _, _, _, _, _, xLInvalidRow, refs_one⟩, saInvalidRow, eCInvalidRow, tCInvalidRow, kCInvalidRow⟩, ⟨gaInvalidRow, ggInvalidRow, eCInvalidRow, hCInvalidRow⟩, ⟨gaInvalidRow, ggInvalidRow, eCInvalidRow, hCInvalidRow, haInvalidRow, cl2, cl3, hmInvalidRow⟩, nvInvalidRow, ⟨_, _, inInvalidRow, i1, G1, b1⟩⟩
  have X_Unreadable : Er l.prog w K mg base "Unreadable" C_Unreadable := ⟨PySem.W.mg_of X G aCUnreadable, ⟨⟨_, _, _, _, _, _, _, _, _, _, _, _, _, _, _, xLUnreadable, refs_one⟩, saUnreadable, eCUnreadable, tCUnreadable, kCUnreadable⟩, ⟨gaUnreadable, ggUnreadable, eCUnreadable, hCUnreadable⟩, ⟨gaUnreadable, ggUnreadable, eCUnreadable, hCUnreadable, haUnreadable, cl2, cl3, hmUnreadable⟩, nvUnreadable, ⟨_, _, inUnreadable, i1, G1, b1⟩⟩
  have XH_Unreadable : ErH l.prog w K mg base "Unreadable" C_Unreadable := ⟨X_Unreadable, ⟨_, _, inUnreadable, i1, GH1, b1⟩⟩
  have G2 : FnOk l.prog w K mg base CX0 1 f2 _ ["text"] spIsMarked := ok_is_marked F2 B
  have D_is_marked := Df.mk' F2 G2 (PySem.W.mg_of X G a2) b2
  have G3 : FnOk l.prog w K mg base CX0 2 f3 _ ["text"] spIsRow := ok_is_row F3 B D_is_marked
  have D_is_row := Df.mk' F3 G3 (PySem.W.mg_of X G a3) b3
  have G4 : FnOk l.prog w K mg base CX0 3 f4 _ ["self", "texts"] (spInit C) := ok_Rule_init F4 B T D_is_row
  have M_Rule : Mkr l.prog w K mg base "Rule" C 3 ["self", "texts"] (spInit C) := ⟨_, _, PySem.W.mg_of X G aCRule, ⟨mk, a4, i4, kc⟩, G4, b4⟩
  have G5 : FnOk l.prog w K mg base CX0 2 f5 _ ["self"] (spRows C) := ok_Rule_rows F5 B T
  have P_rows : Pr l.prog w K mg base C "rows" 2 (spRows C) := ⟨_, _, _, T.cl, ⟨a5, g5, t5, _, r5⟩, G5, b5⟩
  have G6 : FnOk l.prog w K mg base CX0 2 f6 _ ["self", "other"] (spEqR C) := ok_Rule_eq F6 B T G_Rule
  have O_eq : Me l.prog w K mg base C "__eq__" 2 ["self", "other"] (spEqR C) := ⟨_, _, T.cl, ⟨a6, i6, k6⟩, G6, b6⟩
  have G7 : FnOk l.prog w K mg base CX0 4 f7 _ ["rule"] (spShowRule C) := ok_show_rule F7 B T P_rows
  have D_show_rule := Df.mk' F7 G7 (PySem.W.mg_of X G a7) b7
  have G8 : FnOk l.prog w K mg base CX0 2 f8 _ ["script", "at"] (spCell K) := ok__law_cell F8 B
  have D_law_cell := Df.mk' F8 G8 (PySem.W.mg_of X G a8) b8
  have G9 : FnOk l.prog w K mg base CX0 3 f9 _ ["script", "at", "limits"] (spDraws K) := ok__law_draws F9 B D_law_cell
  have D_law_draws := Df.mk' F9 G9 (PySem.W.mg_of X G a9) b9
  have G10 : FnOk l.prog w K mg base CX0 4 f10 _ ["script", "at", "wide", "high"] (spLines K) := ok__law_lines F10 B D_law_draws
  have D_law_lines := Df.mk' F10 G10 (PySem.W.mg_of X G a10) b10
  have G11 : FnOk l.prog w K mg base CX0 5 f11 _ ["script", "at"] (spLarge K) := ok__law_large F11 B D_law_draws D_law_lines
  have D_law_large := Df.mk' F11 G11 (PySem.W.mg_of X G a11) b11
  have G12 : FnOk l.prog w K mg base CX0 2 f12 _ ["line"] spLawIsRow := ok__law_is_row F12 B
  have D_law_is_row := Df.mk' F12 G12 (PySem.W.mg_of X G a12) b12
  have G13 : FnOk l.prog w K mg base CX0 2 f13 _ ["number"] spSign := ok__law_sign F13 B
  have D_law_sign := Df.mk' F13 G13 (PySem.W.mg_of X G a13) b13
  have D_law_same : Df l.prog w K mg base "_law_same" 4 ["found", "due"] (spSame K 4) := Df.mk' F14 (ok__law_same F14 B (PySem.W.mg_of X G a14) b14 4) (PySem.W.mg_of X G a14) b14
  have G15 : FnOk l.prog w K mg base (L2N.CX l.prog w) 4 f15 _ ["self", "texts"] (spInitX C C_InvalidSize C_InvalidRow) := ok_Rule_init_x F15 B T X_InvalidSize X_InvalidRow D_is_row
  have MX_Rule : MkrN l.prog w K mg base "Rule" C 4 ["self", "texts"] (spInitX C C_InvalidSize C_InvalidRow) := ⟨_, _, PySem.W.mg_of X G aCRule, ⟨mk, a15, i15, kc⟩, G15, b15⟩
  have G16 : FnOk l.prog w K mg base CX0 4 f16 _ ["line"] spDue84 := ok_k84_law_due F16 B D_law_is_row
  have D_law_due := Df.mk' F16 G16 (PySem.W.mg_of X G a16) b16
  have G17 : FnOk l.prog w K mg base (L2.CX l.prog w) 6 f17 _ ["text"] (spReadRule C C_Unreadable) := ok_read_rule_x F17 B MX_Rule X_InvalidSize X_InvalidRow XH_Unreadable S_InvalidSize_InvalidRow S_InvalidRow_InvalidRow
  have DX_read_rule : DfX l.prog w K mg base "read_rule" 6 ["text"] (spReadRule C C_Unreadable) := ⟨_, _, PySem.W.mg_of X G a17, G17, k17, b17⟩
  have G18 : FnOk l.prog w K mg base CX0 8 f18 _ ["line"] spFound84 := ok_k84_law_found F18 B T DX_read_rule P_rows D_show_rule O_eq X_RungError X_Unreadable S_Unreadable_Unreadable S_Unreadable_RungError
  have D_law_found := Df.mk' F18 G18 (PySem.W.mg_of X G a18) b18
  have G19 : FnOk l.prog w K mg base CX0 4 f19 _ ["line", "script", "at"] (spChanged84 K) := ok_k84_law_changed F19 B D_law_draws D_law_sign
  have D_law_changed := Df.mk' F19 G19 (PySem.W.mg_of X G a19) b19
  exact ok_law F20 B T D_law_draws D_law_lines D_law_large D_law_same D_law_due D_law_found D_law_changed
theorem walk {l : PySem.W.OpenLaw} {q : Program} {loose : List Str} {XP : (Str → Option Value) → Heap → Prop} {YP : World → Heap → Prop} {d : DefRec} {K : Params → PySem.W.Frag} (hn : l.most = some 63) (hdf : d.params.defaults = [])
    (hY : ∀ (w : World) (h : Heap), YP w h → (K w.params).In h)
    (F : ∀ (w : World) (mg : Str → Option Value) (fa : Addr) (h : Heap), (K w.params).In h → h.Ns mainGlobals mg → mg d.name = some (.ref fa) →
      ∃ fd : FuncData, (∀ (s : Shared) (u : Value), BindsTo s fd ⟨[u], []⟩ [("script", u)]) ∧ ∀ base : Heap, (K w.params).In base → base.Ns mainGlobals mg → FnOk l.prog w (K w.params) mg base CX0 9 fa fd ["script"] (spLaw (K w.params))) :
    PySem.W.WalkO q loose XP YP l.row.toRowW d [] (fun f vs => PySem.call f vs) :=
  L2.walk_of (n := 63) (k := 9) (x := "script") (CX := fun _ => CX0) (sp := fun w => spLaw (K w.params)) hn (by decide) hdf ⟨rfl, by decide, by decide⟩ hY F (fun _ _ a ns hl _ hS => ⟨a, ns, rfl, hS, hl, fun _ => rfl⟩) fun _ _ _ _ _ z => z
end Rg
open PySem PySem.W PyProof.Rows
set_option maxRecDepth 100000 in
set_option maxHeartbeats 0 in
theorem PySem.Challenge.cw_rungrepeats_k84_whole_every_text_of_rule_holds : PySem.Challenge.rw_rungrepeats_k84_whole_every_text_of_rule.Holds := by
  w_on; o_law; k_head; (case hw => w_witness2)
  k_fill
  refine Rg.walk (l := PySem.Challenge.rw_rungrepeats_k84_whole_every_text_of_rule) rfl rfl (fun w h Y => PySem.W.kIn_of Y) ?F
  case F =>
    intro w mg fa h KX G hmg
    refine' Rg.all_mk KX G hmg ?aCRungError ?xLRungError ?saRungError ?gaRungError ?ggRungError ?nvRungError ?kCRungError ?eCRungError ?tCRungError ?hCRungError ?haRungError ?hmRungError ?aCInvalidSize ?xLInvalidSize ?saInvalidSize ?gaInvalidSize ?ggInvalidSize ?nvInvalidSize ?kCInvalidSize ?eCInvalidSize ?tCInvalidSize ?hCInvalidSize ?haInvalidSize ?hmInvalidSize ?aCInvalidRow ?xLInvalidRow ?saInvalidRow ?gaInvalidRow ?ggInvalidRow ?nvInvalidRow ?kCInvalidRow ?eCInvalidRow ?tCInvalidRow ?hCInvalidRow ?haInvalidRow ?hmInvalidRow ?aCUnreadable ?xLUnreadable ?saUnreadable ?gaUnreadable ?ggUnreadable ?nvUnreadable ?kCUnreadable ?eCUnreadable ?tCUnreadable ?hCUnreadable ?haUnreadable ?hmUnreadable ?aCRule ?inRungError ?inInvalidSize ?inInvalidRow ?inUnreadable ?i1 ?l1 ?c1 ?k1 ?a2 ?l2 ?c2 ?k2 ?a3 ?l3 ?c3 ?k3 ?a4 ?i4 ?l4 ?c4 ?k4 ?a5 ?g5 ?t5 ?r5 ?l5 ?c5 ?k5 ?a6 ?i6 ?l6 ?c6 ?k6 ?a7 ?l7 ?c7 ?k7 ?a8 ?l8 ?c8 ?k8 ?a9 ?l9 ?c9 ?k9 ?a10 ?l10 ?c10 ?k10 ?a11 ?l11 ?c11 ?k11 ?a12 ?l12 ?c12 ?k12 ?a13 ?l13 ?c13 ?k13 ?a14 ?l14 ?c14 ?k14 ?a15 ?i15 ?l15 ?c15 ?k15 ?a16 ?l16 ?c16 ?k16 ?a17 ?l17 ?c17 ?k17 ?a18 ?l18 ?c18 ?k18 ?a19 ?l19 ?c19 ?k19 ?a20 ?l20 ?c20 ?k20 ?pg ?hd ?po ?sa ?mk ?kc ?nR ?cl1 ?cl2 ?cl3 ?cl4 ?sf ?S_InvalidRow_InvalidRow ?S_InvalidSize_InvalidRow ?S_Unreadable_RungError ?S_Unreadable_Unreadable ?zlen ?zint ?zrange ?zlist ?ztuple ?zisinstance ?zall ?zany ?zbool ?zstr ?zmin ?zmax ?zabs ?zsum ?zsorted ?zset ?zValueError
    (case aCRungError => k_is)
    (case xLRungError => k_is)
    (case saRungError => k_is)
    (case gaRungError => k_is)
    (case ggRungError => k_is)
    (case nvRungError => k_is)
    (case kCRungError => k_is)
    (case eCRungError => k_is)
    (case tCRungError => k_is)
    (case hCRungError => k_is)
    (case haRungError => k_is)
    (case hmRungError => k_is)
    (case aCInvalidSize => k_is)
    (case xLInvalidSize => k_is)
    (case saInvalidSize => k_is)
    (case gaInvalidSize => k_is)
    (case ggInvalidSize => k_is)
    (case nvInvalidSize => k_is)
    (case kCInvalidSize => k_is)
    (case eCInvalidSize => k_is)
    (case tCInvalidSize => k_is)
    (case hCInvalidSize => k_is)
    (case haInvalidSize => k_is)
    (case hmInvalidSize => k_is)
    (case aCInvalidRow => k_is)
    (case xLInvalidRow => k_is)
    (case saInvalidRow => k_is)
    (case gaInvalidRow => k_is)
    (case ggInvalidRow => k_is)
    (case nvInvalidRow => k_is)
    (case kCInvalidRow => k_is)
    (case eCInvalidRow => k_is)
    (case tCInvalidRow => k_is)
    (case hCInvalidRow => k_is)
    (case haInvalidRow => k_is)
    (case hmInvalidRow => k_is)
    (case aCUnreadable => k_is)
    (case xLUnreadable => k_is)
    (case saUnreadable => k_is)
    (case gaUnreadable => k_is)
    (case ggUnreadable => k_is)
    (case nvUnreadable => k_is)
    (case kCUnreadable => k_is)
    (case eCUnreadable => k_is)
    (case tCUnreadable => k_is)
    (case hCUnreadable => k_is)
    (case haUnreadable => k_is)
    (case hmUnreadable => k_is)
    (case aCRule => k_is)
    (case inRungError => k_is)
    (case inInvalidSize => k_is)
    (case inInvalidRow => k_is)
    (case inUnreadable => k_is)
    (case i1 => k_is)
    (case l1 => k_is)
    (case c1 => k_is)
    (case k1 => k_is)
    (case a2 => k_is)
    (case l2 => k_is)
    (case c2 => k_is)
    (case k2 => k_is)
    (case a3 => k_is)
    (case l3 => k_is)
    (case c3 => k_is)
    (case k3 => k_is)
    (case a4 => k_is)
    (case i4 => k_is)
    (case l4 => k_is)
    (case c4 => k_is)
    (case k4 => k_is)
    (case a5 => k_is)
    (case g5 => k_is)
    (case t5 => k_is)
    (case r5 => k_is)
    (case l5 => k_is)
    (case c5 => k_is)
    (case k5 => k_is)
    (case a6 => k_is)
    (case i6 => k_is)
    (case l6 => k_is)
    (case c6 => k_is)
    (case k6 => k_is)
    (case a7 => k_is)
    (case l7 => k_is)
    (case c7 => k_is)
    (case k7 => k_is)
    (case a8 => k_is)
    (case l8 => k_is)
    (case c8 => k_is)
    (case k8 => k_is)
    (case a9 => k_is)
    (case l9 => k_is)
    (case c9 => k_is)
    (case k9 => k_is)
    (case a10 => k_is)
    (case l10 => k_is)
    (case c10 => k_is)
    (case k10 => k_is)
    (case a11 => k_is)
    (case l11 => k_is)
    (case c11 => k_is)
    (case k11 => k_is)
    (case a12 => k_is)
    (case l12 => k_is)
    (case c12 => k_is)
    (case k12 => k_is)
    (case a13 => k_is)
    (case l13 => k_is)
    (case c13 => k_is)
    (case k13 => k_is)
    (case a14 => k_is)
    (case l14 => k_is)
    (case c14 => k_is)
    (case k14 => k_is)
    (case a15 => k_is)
    (case i15 => k_is)
    (case l15 => k_is)
    (case c15 => k_is)
    (case k15 => k_is)
    (case a16 => k_is)
    (case l16 => k_is)
    (case c16 => k_is)
    (case k16 => k_is)
    (case a17 => k_is)
    (case l17 => k_is)
    (case c17 => k_is)
    (case k17 => k_is)
    (case a18 => k_is)
    (case l18 => k_is)
    (case c18 => k_is)
    (case k18 => k_is)
    (case a19 => k_is)
    (case l19 => k_is)
    (case c19 => k_is)
    (case k19 => k_is)
    (case a20 => k_is)
    (case l20 => k_is)
    (case c20 => k_is)
    (case k20 => k_is)
    (case pg => k_is)
    (case hd => k_is)
    (case po => k_is)
    (case sa => k_is)
    (case mk => k_is)
    (case kc => k_is)
    (case nR => k_is)
    (case cl1 => k_is)
    (case cl2 => k_is)
    (case cl3 => k_is)
    (case cl4 => k_is)
    (case sf => k_is)
    (case S_InvalidRow_InvalidRow => k_is)
    (case S_InvalidSize_InvalidRow => k_is)
    (case S_Unreadable_RungError => k_is)
    (case S_Unreadable_Unreadable => k_is)
    (case zlen => k_is)
    (case zint => k_is)
    (case zrange => k_is)
    (case zlist => k_is)
    (case ztuple => k_is)
    (case zisinstance => k_is)
    (case zall => k_is)
    (case zany => k_is)
    (case zbool => k_is)
    (case zstr => k_is)
    (case zmin => k_is)
    (case zmax => k_is)
    (case zabs => k_is)
    (case zsum => k_is)
    (case zsorted => k_is)
    (case zset => k_is)
    (case zValueError => k_is)
