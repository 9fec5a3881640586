import PyProof.Rows.All
import Wide.All
import OpenK.AllK
import Wide.FinOn
import HandS.ForMost
import HandS.IsInst
import HandS.Gcd
import HandS.Wide
import HandS.ExcInit
import HandS.WordsExc
import HandS.SetKeys
import HandS.Zip
import HandS.Style
import HandS.Text
import HandS.Conv
import HandS.ExcIs
import HandS.Walk
import HandS.Lambda
import HandS.ExcValue
import KE.KExcIs
import KE.GoesMore
import KE.GoesEnum
import HandS.ExcField
import HandS.CallLocal
import HandS.NoneIn
import HandS.EndTab
import KE.KNestM
import HandS.HeadWalk
import PySem.Challenge.RW_farseen_k01_checks_of_any_value
set_option Elab.async false
set_option linter.all false
set_option maxRecDepth 100000
set_option maxHeartbeats 8000000
namespace K1
def gcdI (p q : Int) : Nat := Nat.gcd p.natAbs q.natAbs
def lowG (n d : Int) : Int := if d < 0 then -((gcdI n d : Nat) : Int) else ((gcdI n d : Nat) : Int)
def low (n d : Int) : Int × Int := (n.fdiv (lowG n d), d.fdiv (lowG n d))
theorem lowG_dvd (n d : Int) : lowG n d ∣ n ∧ lowG n d ∣ d := by
  have h1 : ((gcdI n d : Nat) : Int) ∣ n := Int.ofNat_dvd_left.mpr (Nat.gcd_dvd_left _ _)
  have h2 : ((gcdI n d : Nat) : Int) ∣ d := Int.ofNat_dvd_left.mpr (Nat.gcd_dvd_right _ _)
  unfold lowG
  split
  · exact ⟨Int.neg_dvd.mpr h1, Int.neg_dvd.mpr h2⟩
  · exact ⟨h1, h2⟩
theorem gcdI_pos {n d : Int} (h : d ≠ 0) : 0 < gcdI n d := Nat.gcd_pos_of_pos_right _ (Int.natAbs_pos.mpr h)
theorem lowG_ne {n d : Int} (h : d ≠ 0) : lowG n d ≠ 0 := by
  have := gcdI_pos (n := n) h
  unfold lowG
  split <;> omega
theorem lowG_abs (n d : Int) : (lowG n d).natAbs = gcdI n d := by
  unfold lowG
  split <;> simp
theorem low_eq {n d : Int} (h : d ≠ 0) : n = lowG n d * (low n d).1 ∧ d = lowG n d * (low n d).2 := by
  obtain ⟨⟨a, ha⟩, b, hb⟩ := lowG_dvd n d
  have hg := lowG_ne (n := n) h
  unfold low
  constructor
  · show n = lowG n d * n.fdiv (lowG n d)
    have e : n.fdiv (lowG n d) = a := by
      conv => lhs; lhs; rw [ha]
      exact Int.mul_fdiv_cancel_left a hg
    rw [e, ← ha]
  · show d = lowG n d * d.fdiv (lowG n d)
    have e : d.fdiv (lowG n d) = b := by
      conv => lhs; lhs; rw [hb]
      exact Int.mul_fdiv_cancel_left b hg
    rw [e, ← hb]
theorem Int.pos_of_mul_pos_of_pos' {a b : Int} (h : 0 < a * b) (ha : 0 < a) : 0 < b := by
  rcases Int.lt_or_le 0 b with z | z
  · exact z
  · have := Int.mul_nonpos_of_nonneg_of_nonpos (Int.le_of_lt ha) z
    omega
theorem low_pos {n d : Int} (h : d ≠ 0) : 0 < (low n d).2 := by
  have e := (low_eq (n := n) h).2
  have g := gcdI_pos (n := n) h
  by_cases hd : d < 0
  · have hg : lowG n d = -((gcdI n d : Nat) : Int) := by unfold lowG; rw [if_pos hd]
    rw [hg] at e
    have : 0 < ((gcdI n d : Nat) : Int) * (low n d).2 := by
      have : -((gcdI n d : Nat) : Int) * (low n d).2 = -(((gcdI n d : Nat) : Int) * (low n d).2) := Int.neg_mul _ _
      omega
    exact Int.pos_of_mul_pos_of_pos' this (by omega)
  · have hg : lowG n d = ((gcdI n d : Nat) : Int) := by unfold lowG; rw [if_neg hd]
    rw [hg] at e
    have : 0 < ((gcdI n d : Nat) : Int) * (low n d).2 := by omega
    exact Int.pos_of_mul_pos_of_pos' this (by omega)
theorem low_gcd {n d : Int} (h : d ≠ 0) : gcdI (low n d).1 (low n d).2 = 1 := by
  obtain ⟨e1, e2⟩ := low_eq (n := n) h
  have g := gcdI_pos (n := n) h
  have a1 : n.natAbs = gcdI n d * (low n d).1.natAbs := by
    conv => lhs; rw [e1]
    rw [Int.natAbs_mul, lowG_abs]
  have a2 : d.natAbs = gcdI n d * (low n d).2.natAbs := by
    conv => lhs; rw [e2]
    rw [Int.natAbs_mul, lowG_abs]
  have z : gcdI n d = gcdI n d * gcdI (low n d).1 (low n d).2 := by
    conv => lhs; unfold gcdI; rw [a1, a2, Nat.gcd_mul_left]
    rfl
  have : gcdI n d * 1 = gcdI n d * gcdI (low n d).1 (low n d).2 := by omega
  exact (Nat.eq_of_mul_eq_mul_left g this).symm
theorem low_cross {n d : Int} (h : d ≠ 0) : (low n d).1 * d = n * (low n d).2 := by
  obtain ⟨e1, e2⟩ := low_eq (n := n) h
  generalize (low n d).1 = p at e1 e2 ⊢
  generalize (low n d).2 = q at e1 e2 ⊢
  generalize lowG n d = g at e1 e2
  subst e2
  rw [e1]
  grind
theorem low_le {n d : Int} (h : d ≠ 0) : (low n d).1.natAbs ≤ n.natAbs ∧ (low n d).2.natAbs ≤ d.natAbs := by
  obtain ⟨e1, e2⟩ := low_eq (n := n) h
  have g := gcdI_pos (n := n) h
  constructor
  · conv => rhs; rw [e1]
    rw [Int.natAbs_mul, lowG_abs]
    exact Nat.le_mul_of_pos_left _ g
  · conv => rhs; rw [e2]
    rw [Int.natAbs_mul, lowG_abs]
    exact Nat.le_mul_of_pos_left _ g
/-- two ratios in lowest terms, equal as numbers, are one -/
theorem low_one {p q r s : Int} (hq : 0 < q) (hs : 0 < s) (h1 : gcdI p q = 1) (h2 : gcdI r s = 1) (e : p * s = r * q) : p = r ∧ q = s := by
  have en : p.natAbs * s.natAbs = r.natAbs * q.natAbs := by rw [← Int.natAbs_mul, ← Int.natAbs_mul, e]
  have c1 : Nat.Coprime q.natAbs p.natAbs := by rw [Nat.coprime_comm]; exact h1
  have c2 : Nat.Coprime s.natAbs r.natAbs := by rw [Nat.coprime_comm]; exact h2
  have d1 : q.natAbs ∣ s.natAbs := c1.dvd_of_dvd_mul_left ⟨r.natAbs, by rw [en, Nat.mul_comm]⟩
  have d2 : s.natAbs ∣ q.natAbs := c2.dvd_of_dvd_mul_left ⟨p.natAbs, by rw [← en, Nat.mul_comm]⟩
  have eq : q.natAbs = s.natAbs := Nat.dvd_antisymm d1 d2
  have : q = s := by omega
  subst this
  exact ⟨Int.eq_of_mul_eq_mul_right (by omega) e, rfl⟩
end K1

namespace K1
open PySem PySem.Spec PyProof.Rows L2
def top (i : Nat) : Stmt := PySem.Challenge.pw_farseen_k01_checks_of_any_value.main.body.getD i (.Pass ⟨0, 0, 0, 0⟩)
/-! ### values: kinds -/
def isI : V → Bool
  | .int _ => true
  | _ => false
/-- a value of a built-in kind -/
inductive Kd (H : Hp) : V → String → Prop
  | non : Kd H .non "NoneType"
  | bl (b : Bool) : Kd H (.bl b) "bool"
  | int (i : Int) : Kd H (.int i) "int"
  | str (x : Str) : Kd H (.str x) "str"
  | lst {a : Addr} {xs : List V} (e : H a = some (.lst xs)) : Kd H (.ref a) "list"
  | tup {a : Addr} {xs : List V} (e : H a = some (.tup xs)) : Kd H (.ref a) "tuple"
  | dK {a : Addr} {kvs : List (Key × V)} (e : H a = some (.dK kvs)) : Kd H (.ref a) "dict"
theorem Kd.ty {K : PySem.W.Frag} {H : Hp} {v : V} {t : String} (k : Kd H v t) : TyX K H v (.type t) := by
  cases k with
  | non => exact .base .non
  | bl b => exact .base (.bl b)
  | int i => exact .base (.int i)
  | str x => exact .base (.str x)
  | lst e => exact .base (.lst e)
  | tup e => exact .base (.tup e)
  | dK e => exact .base (.dK e)
theorem Kd.same {H H' : Hp} {v : V} {t : String} (k : Kd H v t) (s : Same H H') : Kd H' v t := by
  cases k with
  | non => exact .non
  | bl b => exact .bl b
  | int i => exact .int i
  | str x => exact .str x
  | lst e => exact .lst (s _ _ e)
  | tup e => exact .tup (s _ _ e)
  | dK e => exact .dK (s _ _ e)
theorem Kd.int? {K : PySem.W.Frag} {H : Hp} {v : V} {t : String} (k : Kd H v t) : ∃ b c, PySem.W.kitOne K (.type t) (.type "int") = some b ∧ PySem.W.kitOne K (.type t) (.type "bool") = some c ∧ (b && !c) = isI v := by
  cases k with
  | non => exact ⟨_, _, kit_ty (by decide +kernel : kitB _ _ = some false), kit_ty (by decide +kernel : kitB _ _ = some false), rfl⟩
  | bl b => exact ⟨_, _, kit_ty (by decide +kernel : kitB _ _ = some true), kit_ty (by decide +kernel : kitB _ _ = some true), rfl⟩
  | int i => exact ⟨_, _, kit_ty (by decide +kernel : kitB _ _ = some true), kit_ty (by decide +kernel : kitB _ _ = some false), rfl⟩
  | str x => exact ⟨_, _, kit_ty (by decide +kernel : kitB _ _ = some false), kit_ty (by decide +kernel : kitB _ _ = some false), rfl⟩
  | lst e => exact ⟨_, _, kit_ty (by decide +kernel : kitB _ _ = some false), kit_ty (by decide +kernel : kitB _ _ = some false), rfl⟩
  | tup e => exact ⟨_, _, kit_ty (by decide +kernel : kitB _ _ = some false), kit_ty (by decide +kernel : kitB _ _ = some false), rfl⟩
  | dK e => exact ⟨_, _, kit_ty (by decide +kernel : kitB _ _ = some false), kit_ty (by decide +kernel : kitB _ _ = some false), rfl⟩
/-- whether it is a list or a tuple -/
def seqT (t : String) : Bool := t == "list" || t == "tuple"
theorem Kd.seq? {K : PySem.W.Frag} {H : Hp} {v : V} {t : String} (k : Kd H v t) : PySem.W.kitAny K (.type t) [.type "list", .type "tuple"] = some (seqT t) := by
  cases k with
  | non => exact kitAny_cons (kit_ty (by decide +kernel : kitB _ _ = some false)) (fun _ => kitAny_cons (kit_ty (by decide +kernel : kitB _ _ = some false)) (fun _ => kitAny_nil) (fun z => nomatch z)) (fun z => nomatch z)
  | bl b => exact kitAny_cons (kit_ty (by decide +kernel : kitB _ _ = some false)) (fun _ => kitAny_cons (kit_ty (by decide +kernel : kitB _ _ = some false)) (fun _ => kitAny_nil) (fun z => nomatch z)) (fun z => nomatch z)
  | int i => exact kitAny_cons (kit_ty (by decide +kernel : kitB _ _ = some false)) (fun _ => kitAny_cons (kit_ty (by decide +kernel : kitB _ _ = some false)) (fun _ => kitAny_nil) (fun z => nomatch z)) (fun z => nomatch z)
  | str x => exact kitAny_cons (kit_ty (by decide +kernel : kitB _ _ = some false)) (fun _ => kitAny_cons (kit_ty (by decide +kernel : kitB _ _ = some false)) (fun _ => kitAny_nil) (fun z => nomatch z)) (fun z => nomatch z)
  | lst e => exact kitAny_cons (kit_ty (by decide +kernel : kitB _ _ = some true)) (fun z => nomatch z) (fun _ => rfl)
  | tup e => exact kitAny_cons (kit_ty (by decide +kernel : kitB _ _ = some false)) (fun _ => kitAny_cons (kit_ty (by decide +kernel : kitB _ _ = some true)) (fun z => nomatch z) (fun _ => rfl)) (fun z => nomatch z)
  | dK e => exact kitAny_cons (kit_ty (by decide +kernel : kitB _ _ = some false)) (fun _ => kitAny_cons (kit_ty (by decide +kernel : kitB _ _ = some false)) (fun _ => kitAny_nil) (fun z => nomatch z)) (fun z => nomatch z)
/-- a list or a tuple of these -/
def Sq (H : Hp) (a : Addr) (xs : List V) : Prop := H a = some (.lst xs) ∨ H a = some (.tup xs)
theorem Sq.same {H H' : Hp} {a : Addr} {xs : List V} (k : Sq H a xs) (s : Same H H') : Sq H' a xs := k.elim (fun e => .inl (s _ _ e)) (fun e => .inr (s _ _ e))
def AllKd (H : Hp) (xs : List V) : Prop := ∀ x ∈ xs, ∃ t, Kd H x t
theorem AllKd.same {H H' : Hp} {xs : List V} (k : AllKd H xs) (s : Same H H') : AllKd H' xs := fun x hx => let ⟨t, h⟩ := k x hx; ⟨t, h.same s⟩
theorem same_new {H : Hp} {p : Addr} {o : HO} (h : H p = none) : Same H (upd H p o) := fun b u e => by
  rw [upd_ne (ne_of_none e h)]
  exact e
/-! ### the built-in names -/
structure Bn (mg : Str → Option Value) : Prop where
  isinstance : mg "isinstance" = none
  int : mg "int" = none
  bool : mg "bool" = none
  list : mg "list" = none
  tuple : mg "tuple" = none
  all : mg "all" = none
  len : mg "len" = none
  range : mg "range" = none
  abs : mg "abs" = none
  str : mg "str" = none
  set : mg "set" = none
  max : mg "max" = none
  zip : mg "zip" = none
  enumerate : mg "enumerate" = none
section
variable {P : Program} {w : World} {K : PySem.W.Frag} {mg : Str → Option Value} {base : Heap}
/-! ### is_integer -/
def spInt : Sp := fun vs H Q _ => ∃ v t, vs = [v] ∧ Kd H v t ∧ Q (.bl (isI v)) H
abbrev sInt : Stmt := top 8
theorem scInt : FnScope ["value"] ["value"] (defScope sInt) := ⟨rfl, rfl, rfl, by decide +kernel, rfl, by decide +kernel, by decide +kernel⟩
theorem ok_int {f : Addr} {fd : FuncData} (F : Fun K "is_integer" "is_integer" sInt f fd) (B : Bn mg) : FnOk P w K mg base CX0 1 f fd ["value"] spInt := by
  refine F.ok scInt (fun vs H Q E h => ?_) (fun cdv A outer s H vs Q E hr h => ?_)
  · obtain ⟨v, t, rfl, _⟩ := h
    rfl
  · obtain ⟨v, t, rfl, k, q⟩ := h
    refine ⟨_, pss_one (ps_ret (pe_and (pe_callB call_isi (by rfl) B.isinstance boot_isinstance (pa_cons (pv 0) (pa_cons (pe_bltn (v := .ty "int") (by rfl) B.int boot_int rfl) pa_nil)))
      (pe_one (pe_not (pe_callB call_isi (by rfl) B.isinstance boot_isinstance (pa_cons (pv 0) (pa_cons (pe_bltn (v := .ty "bool") (by rfl) B.bool boot_bool rfl) pa_nil))))))), ?_⟩
    obtain ⟨b, c, hb, hc, e⟩ := k.int? (K := K)
    refine ⟨_, rfl, _, _, _, _, b, rfl, .ty _, k.ty, hb, b, rfl, ?_⟩
    cases b with
    | true =>
      refine iteT ⟨_, rfl, _, _, _, _, c, rfl, .ty _, k.ty, hc, c, rfl, ?_⟩
      rw [← e] at q
      simpa using q
    | false =>
      refine iteF ?_
      rw [← e] at q
      simpa using q
/-! ### is_list -/
def spIsList : Sp := fun vs H Q _ => ∃ v t, vs = [v] ∧ Kd H v t ∧ ∀ H', Same H H' → Q (.bl (seqT t)) H'
abbrev sIsList : Stmt := top 11
theorem scIsList : FnScope ["value"] ["value"] (defScope sIsList) := ⟨rfl, rfl, rfl, by decide +kernel, rfl, by decide +kernel, by decide +kernel⟩
theorem ok_isList {f : Addr} {fd : FuncData} (F : Fun K "is_list" "is_list" sIsList f fd) (B : Bn mg) : FnOk P w K mg base CX0 1 f fd ["value"] spIsList := by
  refine F.ok scIsList (fun vs H Q E h => ?_) (fun cdv A outer s H vs Q E hr h => ?_)
  · obtain ⟨v, t, rfl, _⟩ := h
    rfl
  · obtain ⟨v, t, rfl, k, q⟩ := h
    refine ⟨_, pss_one (ps_ret (pe_callB call_isiT (by rfl) B.isinstance boot_isinstance (pa_cons (pv 0) (pa_cons (pe_tup (pa_cons (pe_bltn (v := .ty "list") (by rfl) B.list (by decide +kernel) rfl) (pa_cons (pe_bltn (v := .ty "tuple") (by rfl) B.tuple (by decide +kernel) rfl) pa_nil))) pa_nil)))), ?_⟩
    refine ⟨_, rfl, by show 2 ≤ sizeLine; decide, fun p hp => ?_⟩
    exact ⟨_, p, _, _, _, seqT t, rfl, upd_same, .cons (.ty _) (.cons (.ty _) .nil), (k.same (same_new hp)).ty, k.seq?, q _ (same_new hp)⟩
end
end K1

namespace K1
open PySem PySem.Spec PyProof.Rows L2
/-- a def that may be called by its name -/
def Callee (P : Program) (w : World) (K : PySem.W.Frag) (mg : Str → Option Value) (base : Heap) (CX : CXT) (k : Nat) (x : Str) (ps : List Str) (sp : Sp) : Prop :=
  ∃ (f : Addr) (fd : FuncData), mg x = some (.ref f) ∧ PySem.W.keepIn K (.ref f) = true ∧ Binds K fd ps [] ∧ FnOk P w K mg base CX k f fd ps sp
/-- judged: no list and no tuple, or one of these things -/
def Jg (H : Hp) (v : V) : Option (List V) → Prop
  | none => ∃ t, Kd H v t ∧ seqT t = false
  | some xs => ∃ a, v = .ref a ∧ Sq H a xs ∧ AllKd H xs ∧ xs.length ≤ 100
theorem Jg.same {H H' : Hp} {v : V} : ∀ {o : Option (List V)}, Jg H v o → Same H H' → Jg H' v o
  | none, ⟨t, k, e⟩, s => ⟨t, k.same s, e⟩
  | some xs, ⟨a, e, q, k, l⟩, s => ⟨a, e, q.same s, k.same s, l⟩
theorem Jg.kd {H : Hp} {v : V} : ∀ {o : Option (List V)}, Jg H v o → ∃ t, Kd H v t ∧ seqT t = o.isSome
  | none, ⟨t, k, e⟩ => ⟨t, k, e⟩
  | some xs, ⟨a, e, q, k, l⟩ => by
    subst e
    rcases q with q | q
    · exact ⟨_, .lst q, rfl⟩
    · exact ⟨_, .tup q, rfl⟩
def intsB : Option (List V) → Bool
  | none => false
  | some xs => xs.all isI

def ratB : Option (List V) → Bool
  | some [.int p, .int q] => decide (0 < q) && decide (gcdI p q = 1)
  | _ => false
theorem take_more {α : Type} : ∀ {l : List α} {i : Nat} {x : α}, l[i]? = some x → l.take (i + 1) = l.take i ++ [x]
  | [], i, x, h => by simp at h
  | a :: l, 0, x, h => by
    have e : a = x := Option.some.inj h
    subst e
    rfl
  | a :: l, i + 1, x, h => by
    have ih := take_more (l := l) (i := i) (x := x) h
    show a :: l.take (i + 1) = a :: l.take i ++ [x]
    rw [ih]
    rfl
section
variable {P : Program} {w : World} {K : PySem.W.Frag} {mg : Str → Option Value} {base : Heap}
theorem c_int {f : Addr} {fd : FuncData} (F : Fun K "is_integer" "is_integer" sInt f fd) (hm : mg "is_integer" = some (.ref f)) (B : Bn mg) : Callee P w K mg base CX0 1 "is_integer" ["value"] spInt :=
  ⟨f, fd, hm, F.kp, F.binds (ps := ["value"]) fun _ _ _ _ _ _ us hl => match us, hl with | [_], _ => rfl, ok_int F B⟩
theorem c_isList {f : Addr} {fd : FuncData} (F : Fun K "is_list" "is_list" sIsList f fd) (hm : mg "is_list" = some (.ref f)) (B : Bn mg) : Callee P w K mg base CX0 1 "is_list" ["value"] spIsList :=
  ⟨f, fd, hm, F.kp, F.binds (ps := ["value"]) fun _ _ _ _ _ _ us hl => match us, hl with | [_], _ => rfl, ok_isList F B⟩
/-! ### are_integers -/
def spInts : Sp := fun vs H Q _ => ∃ v o, vs = [v] ∧ Jg H v o ∧ ∀ H', Same H H' → Q (.bl (intsB o)) H'
abbrev sInts : Stmt := top 12
theorem scInts : FnScope ["value", "item"] ["value"] (defScope sInts) := ⟨rfl, rfl, rfl, by decide +kernel, rfl, by decide +kernel, by decide +kernel⟩
/-- the comprehension's word -/
def IntsAt (H0 : Hp) (D : Addr) (xs : List V) (i : Nat) (H : Hp) : Prop := Same H0 H ∧ H D = some (.lst ((xs.take i).map fun x => V.bl (isI x)))
theorem ints_step {H0 : Hp} {D : Addr} {xs : List V} {i : Nat} {x : V} {H : Hp} (hD : H0 D = none) (hx : xs[i]? = some x) (p : IntsAt H0 D xs i H) :
    IntsAt H0 D xs (i + 1) (upd H D (.lst ((xs.take i).map (fun x => V.bl (isI x)) ++ [V.bl (isI x)]))) := by
  refine ⟨fun b o e => ?_, ?_⟩
  · rw [upd_ne (ne_of_none e hD)]
    exact p.1 b o e
  · rw [upd_same, take_more hx, List.map_append]
    rfl
theorem len100 {α β : Type} {xs : List α} (h : xs.length ≤ 100) (i : Nat) (f : α → β) : ((xs.take i).map f).length < sizeLine := by
  rw [List.length_map, List.length_take]
  exact small1000 (Nat.le_trans (Nat.min_le_right _ _) (by omega))
theorem all_id {xs : List V} : (xs.map isI).all id = xs.all isI := by
  rw [List.all_map]
  rfl
theorem ok_ints {f : Addr} {fd : FuncData} (F : Fun K "are_integers" "are_integers" sInts f fd) (B : Bn mg) (C1 : Callee P w K mg base CX0 1 "is_integer" ["value"] spInt) (C2 : Callee P w K mg base CX0 1 "is_list" ["value"] spIsList) : FnOk P w K mg base CX0 2 f fd ["value"] spInts := by
  obtain ⟨f1, fd1, m1, k1, b1, G1⟩ := C1
  obtain ⟨f2, fd2, m2, k2, b2, G2⟩ := C2
  refine F.ok scInts (fun vs H Q E h => ?_) (fun cdv A outer s H vs Q E hr h => ?_)
  · obtain ⟨v, o, rfl, _⟩ := h
    rfl
  · obtain ⟨v, o, rfl, j, q⟩ := h
    obtain ⟨t, kd, et⟩ := j.kd
    cases o with
    | none =>
      refine ⟨_, pss_one (ps_ret (pe_and (pe_call G2 hr rfl m2 k2 b2 .nil pass0 (pa_cons (pv 0) pa_nil)) (pe_one (pe_callB (cr_all rfl) (by rfl) B.all boot_all (pa_cons
        (pe_lc (own := [("item", 1)]) (g := gName 1) (tt := tYes) rfl scInts.nd (pi_list (pv 0)) (blkOk_by (N := ["value", "item"]) (sc := defScope sInts) (by decide +kernel)) (fun _ _ _ _ _ => pg_name (i := 1) scInts.nd rfl (Or.inl rfl)) (fun _ _ _ _ _ => pts_nil)
          (fun _ _ _ _ _ => pe_call G1 hr rfl m1 k1 b1 .nil pass0 (pa_cons (pv 1) pa_nil))) pa_nil))))), ?_⟩
      refine ⟨_, rfl, _, t, rfl, kd, fun H1 s1 => ?_⟩
      rw [et]
      exact ⟨_, rfl, iteF (q _ s1)⟩
    | some xs =>
      obtain ⟨a, rfl, hs, hk, hl⟩ := j
      rcases hs with hs | hs
      · refine ⟨_, pss_one (ps_ret (pe_and (pe_call G2 hr rfl m2 k2 b2 .nil pass0 (pa_cons (pv 0) pa_nil)) (pe_one (pe_callB (cr_all rfl) (by rfl) B.all boot_all (pa_cons
          (pe_lc (own := [("item", 1)]) (g := gName 1) (tt := tYes) rfl scInts.nd (pi_list (pv 0)) (blkOk_by (N := ["value", "item"]) (sc := defScope sInts) (by decide +kernel)) (fun _ _ _ _ _ => pg_name (i := 1) scInts.nd rfl (Or.inl rfl)) (fun _ _ _ _ _ => pts_nil)
            (fun _ _ _ _ _ => pe_call G1 hr rfl m1 k1 b1 .nil pass0 (pa_cons (pv 1) pa_nil))) pa_nil))))), ?_⟩
        refine ⟨_, rfl, _, t, rfl, kd, fun H1 s1 => ?_⟩
        rw [et]
        refine ⟨_, rfl, iteT ?_⟩
        refine ⟨_, rfl, a, rfl, ⟨_, SqL.of (s1 _ _ hs)⟩, fun D hD => ?_⟩
        refine lc_list (K := K) (a := a) (xs := xs) (IntsAt H1 D xs) ⟨same_new hD, upd_same⟩ (fun i H' _ p => SqL.of (p.1 _ _ (s1 _ _ hs))) (fun i x H' hx p => ?_) (fun H' p => ?_)
        · obtain ⟨tx, kx⟩ := hk x (List.mem_of_getElem? hx)
          refine ⟨rfl, ?_⟩
          show tCall spInt [] E0 (tCons (tVar 1) tNil) _ H' _
          exact ⟨_, rfl, _, tx, rfl, (kx.same s1).same p.1, _, p.2, len100 hl _ _, ints_step hD hx p⟩
        · have e := p.2
          rw [List.take_length] at e
          refine ⟨D, xs.map isI, rfl, SqL.of (by rw [e, List.map_map]; rfl), ?_⟩
          rw [all_id]
          exact q _ (s1.trans p.1)
      · refine ⟨_, pss_one (ps_ret (pe_and (pe_call G2 hr rfl m2 k2 b2 .nil pass0 (pa_cons (pv 0) pa_nil)) (pe_one (pe_callB (cr_all rfl) (by rfl) B.all boot_all (pa_cons
          (pe_lc (own := [("item", 1)]) (g := gName 1) (tt := tYes) rfl scInts.nd (pi_tup (pv 0)) (blkOk_by (N := ["value", "item"]) (sc := defScope sInts) (by decide +kernel)) (fun _ _ _ _ _ => pg_name (i := 1) scInts.nd rfl (Or.inl rfl)) (fun _ _ _ _ _ => pts_nil)
            (fun _ _ _ _ _ => pe_call G1 hr rfl m1 k1 b1 .nil pass0 (pa_cons (pv 1) pa_nil))) pa_nil))))), ?_⟩
        refine ⟨_, rfl, _, t, rfl, kd, fun H1 s1 => ?_⟩
        rw [et]
        refine ⟨_, rfl, iteT ?_⟩
        refine ⟨_, rfl, a, rfl, ⟨_, SqT.of (s1 _ _ hs)⟩, fun D hD => ?_⟩
        refine lc_tup (K := K) (a := a) (xs := xs) (IntsAt H1 D xs) ⟨same_new hD, upd_same⟩ (fun i H' _ p => SqT.of (p.1 _ _ (s1 _ _ hs))) (fun i x H' hx p => ?_) (fun H' p => ?_)
        · obtain ⟨tx, kx⟩ := hk x (List.mem_of_getElem? hx)
          refine ⟨rfl, ?_⟩
          show tCall spInt [] E0 (tCons (tVar 1) tNil) _ H' _
          exact ⟨_, rfl, _, tx, rfl, (kx.same s1).same p.1, _, p.2, len100 hl _ _, ints_step hD hx p⟩
        · have e := p.2
          rw [List.take_length] at e
          refine ⟨D, xs.map isI, rfl, SqL.of (by rw [e, List.map_map]; rfl), ?_⟩
          rw [all_id]
          exact q _ (s1.trans p.1)
/-! ### is_ratio -/
def spRat : Sp := fun vs H Q _ => ∃ v o, vs = [v] ∧ Jg H v o ∧ ∀ H', Same H H' → Q (.bl (ratB o)) H'
abbrev sRat : Stmt := top 13
theorem scRat : FnScope ["value"] ["value"] (defScope sRat) := ⟨rfl, rfl, rfl, by decide +kernel, rfl, by decide +kernel, by decide +kernel⟩
theorem two_of : ∀ {xs : List V}, xs.all isI = true → xs.length = 2 → ∃ p q : Int, xs = [.int p, .int q]
  | [x, y], h, _ => by
    cases x <;> cases y <;> first | exact ⟨_, _, rfl⟩ | (exact nomatch h)
  | [], _, h => nomatch h
  | [_], _, h => nomatch h
  | _ :: _ :: _ :: _, _, h => by simp at h
theorem ratB_two {xs : List V} (h : ratB (some xs) = true) : ∃ p q : Int, xs = [.int p, .int q] := by
  unfold ratB at h
  split at h
  · rename_i p q e
    exact ⟨p, q, Option.some.inj e⟩
  · cases h
theorem ratB_no {xs : List V} (h : xs.all isI = false) : ratB (some xs) = false := by
  cases e : ratB (some xs) with
  | false => rfl
  | true =>
    obtain ⟨p, q, rfl⟩ := ratB_two e
    cases h
theorem ratB_len {xs : List V} (h : ¬ xs.length = 2) : ratB (some xs) = false := by
  cases e : ratB (some xs) with
  | false => rfl
  | true =>
    obtain ⟨p, q, rfl⟩ := ratB_two e
    exact absurd rfl h
theorem ok_rat {f fg : Addr} {fd : FuncData} (F : Fun K "is_ratio" "is_ratio" sRat f fd) (B : Bn mg) (hg : mg "gcd" = some (.builtin "math.gcd")) (C1 : Callee P w K mg base CX0 2 "are_integers" ["value"] spInts) : FnOk P w K mg base CX0 3 f fd ["value"] spRat := by
  obtain ⟨f1, fd1, m1, k1, b1, G1⟩ := C1
  refine F.ok scRat (fun vs H Q E h => ?_) (fun cdv A outer s H vs Q E hr h => ?_)
  · obtain ⟨v, o, rfl, _⟩ := h
    rfl
  · obtain ⟨v, o, rfl, j, q⟩ := h
    refine ⟨_, pss_cons (ps_if (PW.pt (pw_or (pt_not (pt_val (pe_call G1 hr rfl m1 k1 b1 .nil pass0 (pa_cons (pv 0) pa_nil)))) (pw_or1 (pt_cmpR op_ne (pe_callB call_len_seq (by rfl) B.len PySem.boot_len (pa_cons (pv 0) pa_nil)) pe_int (nomark _))))) (pss_one (ps_ret pe_bl)) pss_nil)
      (pss_one (ps_ret (pe_and (pe_cmpR op_gt (pe_ix ix_seq (pv 0) pe_int (fun _ _ => rfl)) pe_int (nomark _)) (pe_one (pe_cmpR op_eq (pe_callBfun cr_gcd (by rfl) hg (pa_cons (pe_ix ix_seq (pv 0) pe_int (fun _ _ => rfl)) (pa_cons (pe_ix ix_seq (pv 0) pe_int (fun _ _ => rfl)) pa_nil))) pe_int (nomark _)))))), ?_⟩
    refine ⟨_, rfl, _, o, rfl, j, fun H1 s1 => ⟨_, rfl, ?_⟩⟩
    cases o with
    | none => exact iteT (iteT (q _ s1))
    | some xs =>
      cases hi : xs.all isI with
      | false =>
        show if (!intsB (some xs)) = true then _ else _
        have e : intsB (some xs) = false := hi
        rw [e]
        refine iteT (iteT ?_)
        rw [← ratB_no hi]
        exact q _ s1
      | true =>
        obtain ⟨a, rfl, hs, hk, hl⟩ := j
        show if (!intsB (some xs)) = true then _ else _
        have e : intsB (some xs) = true := hi
        rw [e]
        have sq : SqL K H1 a xs ∨ SqT K H1 a xs := hs.elim (fun z => .inl (SqL.of (s1 _ _ z))) (fun z => .inr (SqT.of (s1 _ _ z)))
        refine iteF ⟨_, rfl, a, xs, rfl, sq, rfl, _, rfl, ?_⟩
        by_cases h2 : xs.length = 2
        · obtain ⟨p, r, rfl⟩ := two_of hi h2
          refine iteF ?_
          have ix : ∀ (i : Int) (v : V) (Q : VK), atI [V.int p, V.int r] i = some v → Q v H1 → rIx K (.ref a) (.int i) H1 Q := fun i v Q e h => sq.elim (fun z => .inl ⟨a, _, i, v, rfl, rfl, z, e, h⟩) (fun z => .inr (.inl ⟨a, _, i, v, rfl, rfl, z, e, h⟩))
          refine ⟨_, rfl, ix 1 _ _ rfl ⟨_, _, rfl, rfl, _, rfl, ?_⟩⟩
          by_cases h0 : 0 < r
          · rw [decide_eq_true h0]
            refine iteT ⟨_, rfl, ix 0 _ _ rfl ⟨_, rfl, ix 1 _ _ rfl ⟨_, _, rfl, rfl, ?_⟩⟩⟩
            have q2 := q _ s1
            have e2 : ratB (some [V.int p, V.int r]) = decide (V.int ((Nat.gcd p.natAbs r.natAbs : Nat) : Int) = V.int 1) := by
              show (decide (0 < r) && decide (gcdI p r = 1)) = _
              rw [decide_eq_true h0, Bool.true_and, Bool.eq_iff_iff, decide_eq_true_iff, decide_eq_true_iff]
              unfold gcdI
              constructor
              · intro z; rw [z]; rfl
              · intro z
                have := V.int.inj z
                omega
            rw [e2] at q2
            exact q2
          · rw [decide_eq_false h0]
            refine iteF ?_
            have q2 := q _ s1
            have e2 : ratB (some [V.int p, V.int r]) = false := by
              show (decide (0 < r) && decide (gcdI p r = 1)) = _
              rw [decide_eq_false h0]; rfl
            rw [e2] at q2
            exact q2
        · refine (show if (!decide (V.int xs.length = V.int (2 : Int))) = true then _ else _ from ?_)
          have e2 : decide (V.int xs.length = V.int (2 : Int)) = false := decide_eq_false fun z => h2 (by have := V.int.inj z; omega)
          rw [e2]
          refine iteT ?_
          have q2 := q _ s1
          rw [ratB_len h2] at q2
          exact q2
end
end K1

namespace K1
open PySem PySem.Spec PyProof.Rows L2
/-! ### floor division by any divisor but 0 -/
def CDivWN (_ j : Int) : Prop := j ≠ 0 ∧ j.natAbs.log2 < 9000
theorem op_fdivWN {X : Cx} : OpR X (binaryOp .FloorDiv) (rI CDivWN fun i j => .int (i.fdiv j)) := opI fun _ _ _ _ _ _ _ hc q => floordiv_int hc.1 q (.inl (PyProof.noPylong_of_log2 hc.2))
theorem cdiv_of {i j : Int} {b : Nat} (h : j ≠ 0) (hb : j.natAbs < 2 ^ b) (h0 : 0 < b) (h9 : b ≤ 9000) : CDivWN i j := ⟨h, Nat.lt_of_lt_of_le (PySem.Flt.log2_lt_of h0 hb) h9⟩
def pr (z : Int × Int) : List V := [.int z.1, .int z.2]
def Tup (H : Hp) (t : Addr) (z : Int × Int) : Prop := H t = some (.tup (pr z))
/-- a new tuple of these is handed back -/
def RT (z : Int × Int) (H : Hp) (Q : VK) : Prop := ∀ H' t, Same H H' → H t = none → Tup H' t z → Q (.ref t) H'
def RI (z : Int) (H : Hp) (Q : VK) : Prop := ∀ H', Same H H' → Q (.int z) H'
def RB (b : Bool) (H : Hp) (Q : VK) : Prop := ∀ H', Same H H' → Q (.bl b) H'
/-! ### BadNumber -/
structure BrTxt (K : PySem.W.Frag) (mg : Str → Option Value) (C fI : Addr) : Prop where
  oex : OexC K C
  mgC : mg "BadNumber" = some (.ref C)
  noP : PySem.W.findIn K (.ref C) "part" = some none
  iC : PySem.W.findIn K (.ref C) "__init__" = some (some (.ref fI))
  tI : PySem.W.typeIn K (.ref fI) = some (.type "function")
/-- a BadNumber is raised: its own dict d, new, tells the part -/
def Rz (C : Addr) (z : Str) (H : Hp) (E : XK) : Prop := ∀ d H', Same H H' → H d = none → H' d = some (.xd [(("part" : Str), .str z)]) → E (.ref C) (some d) H'
theorem raised {H H1 : Hp} {C a dx : Addr} {z : Str} {E : XK} (h : Rz C z H E) (s1 : Same H H1) (ha : H1 a = none) (hd : upd H1 a (exo a C none) dx = none) (ne : dx ≠ a) :
    E (.ref C) (some dx) (upd (L2.del (upd (upd (upd H1 a (exo a C none)) dx (exd dx [(("part" : Str), V.str z)])) a (exo a C (some dx))) a) dx (.xd [(("part" : Str), V.str z)])) := by
  have hd1 : H1 dx = none := by
    rw [upd_ne ne] at hd
    exact hd
  refine h dx _ (fun b o e => ?_) (s1.free hd1) upd_same
  have e1 := s1 b o e
  have nb : b ≠ dx := ne_of_none e1 hd1
  have na : b ≠ a := ne_of_none e1 ha
  rw [upd_ne nb, del_ne na, upd_ne na, upd_ne nb, upd_ne na]
  exact e1
theorem Rz.same {C : Addr} {z : Str} {H H1 : Hp} {E : XK} (h : Rz C z H E) (s : Same H H1) : Rz C z H1 E := fun d H' s' n e => h d H' (s.trans s') (s.free n) e
theorem RT.same {z : Int × Int} {H H1 : Hp} {Q : VK} (h : RT z H Q) (s : Same H H1) : RT z H1 Q := fun H' t s' n e => h H' t (s.trans s') (s.free n) e
theorem RI.same {z : Int} {H H1 : Hp} {Q : VK} (h : RI z H Q) (s : Same H H1) : RI z H1 Q := fun H' s' => h H' (s.trans s')
theorem RB.same {z : Bool} {H H1 : Hp} {Q : VK} (h : RB z H Q) (s : Same H H1) : RB z H1 Q := fun H' s' => h H' (s.trans s')
section
variable {P : Program} {w : World} {K : PySem.W.Frag} {mg : Str → Option Value} {base : Heap} {C : Addr}
def spInit (K : PySem.W.Frag) (C : Addr) : Sp := fun vs H Q _ => ∃ (a : Addr) (y : V), vs = [.ref a, y] ∧ OexC K C ∧ PySem.W.findIn K (.ref C) "part" = some none ∧ H a = some (exo a C none) ∧
  ∀ dx, H dx = none → dx ≠ a → Q .non (upd (upd H dx (exd dx [(("part" : Str), y)])) a (exo a C (some dx)))
abbrev sInit : Stmt := inClass (top 3) 0
theorem scInit : FnScope ["self", "part"] ["self", "part"] (defScope sInit) := ⟨rfl, rfl, rfl, by decide +kernel, rfl, by decide +kernel, by decide +kernel⟩
theorem ok_init {f C : Addr} {fd : FuncData} (F : Fun K "__init__" "BadNumber.__init__" sInit f fd) : FnOk P w K mg base CX0 1 f fd ["self", "part"] (spInit K C) := by
  refine F.ok scInit (fun vs H Q E h => ?_) (fun cdv A outer s H vs Q E hr h => ?_)
  · obtain ⟨a, y, rfl, _⟩ := h
    rfl
  · obtain ⟨a, y, rfl, T, no, ha, q⟩ := h
    refine ⟨_, pss_one (ps_ost (pv 0) (pv 1)), ?_⟩
    exact ⟨_, rfl, _, rfl, a, C, rfl, T, no, .inl ⟨ha, q⟩⟩
/-! ### is_within -/
def bv : Option Int → V
  | none => .non
  | some i => .int i
theorem bv_non (o : Option Int) : decide (bv o = V.non) = o.isNone := by
  cases o <;> rfl
def within (v : V) (lo hi : Option Int) : Bool := match v with
  | .int n => (lo.all fun l => decide (l ≤ n)) && hi.all fun m => decide (n ≤ m)
  | _ => false
def spWithin : Sp := fun vs H Q _ => ∃ v t lo hi, vs = [v, bv lo, bv hi] ∧ Kd H v t ∧ Q (.bl (within v lo hi)) H
abbrev sWithin : Stmt := top 9
theorem scWithin : FnScope ["value", "least", "most"] ["value", "least", "most"] (defScope sWithin) := ⟨rfl, rfl, rfl, by decide +kernel, rfl, by decide +kernel, by decide +kernel⟩
theorem ok_within {f : Addr} {fd : FuncData} (F : Fun K "is_within" "is_within" sWithin f fd) (B : Bn mg) (C1 : Callee P w K mg base CX0 1 "is_integer" ["value"] spInt) : FnOk P w K mg base CX0 2 f fd ["value", "least", "most"] spWithin := by
  obtain ⟨f1, fd1, m1, k1, b1, G1⟩ := C1
  refine F.ok scWithin (fun vs H Q E h => ?_) (fun cdv A outer s H vs Q E hr h => ?_)
  · obtain ⟨v, t, lo, hi, rfl, _⟩ := h
    rfl
  · obtain ⟨v, t, lo, hi, rfl, k, q⟩ := h
    refine ⟨_, (pss_cons (ps_if (pt_not (pt_val (pe_call G1 (hr.mono (by decide)) rfl m1 k1 b1 .nil pass0 (pa_cons (pv 0) pa_nil)))) (pss_one (ps_ret pe_bl)) pss_nil) (pss_one (ps_ret (pe_and ((pe_or (pe_cmpR op_isN (pv 1) pe_non (nomark _)) (pe_one (pe_cmpR op_le (pv 1) (pv 0) (nomark _))))) (pe_one ((pe_or (pe_cmpR op_isN (pv 2) pe_non (nomark _)) (pe_one (pe_cmpR op_le (pv 0) (pv 2) (nomark _)))))))))), ?_⟩
    refine ⟨_, rfl, v, t, rfl, k, isI v, rfl, ?_⟩
    cases e : isI v with
    | false =>
      refine iteT ?_
      have : within v lo hi = false := by
        cases v <;> first | rfl | cases e
      rw [this] at q
      exact q
    | true =>
      obtain ⟨n, rfl⟩ : ∃ n, v = .int n := by
        cases v <;> first | exact ⟨_, rfl⟩ | cases e
      refine iteF ⟨_, rfl, rfl, _, rfl, ?_⟩
      rw [bv_non]
      cases lo with
      | none =>
        refine iteT ⟨_, rfl, iteT ?_⟩
        have q : Q (.bl (hi.all fun m => decide (n ≤ m))) H := q
        refine ⟨_, rfl, rfl, _, rfl, ?_⟩
        rw [bv_non]
        cases hi with
        | none => exact iteT q
        | some m => exact iteF ⟨_, rfl, _, rfl, _, _, rfl, rfl, q⟩
      | some l =>
        refine iteF ⟨_, rfl, _, rfl, _, _, rfl, rfl, _, rfl, ?_⟩
        have q : Q (.bl (decide (l ≤ n) && hi.all fun m => decide (n ≤ m))) H := q
        by_cases hl : l ≤ n
        · rw [decide_eq_true hl] at q ⊢
          refine iteT ?_
          refine ⟨_, rfl, rfl, _, rfl, ?_⟩
          rw [bv_non]
          cases hi with
          | none => exact iteT q
          | some m => exact iteF ⟨_, rfl, _, rfl, _, _, rfl, rfl, q⟩
        · rw [decide_eq_false hl] at q ⊢
          exact iteF q
/-! ### lowest -/
def gcdL (ns : List Int) : Nat := ns.foldl (fun g n => Nat.gcd g n.natAbs) 0
def spLow (C : Addr) : Sp := fun vs H Q E => ∃ (v u : V) (t1 t2 : String), vs = [v, u] ∧ Kd H v t1 ∧ Kd H u t2 ∧ (isI v = false → Rz C "number" H E) ∧ (isI v = true → isI u = false → Rz C "by" H E) ∧
  ∀ n d : Int, v = .int n → u = .int d → (d = 0 → Rz C "by" H E) ∧ (d ≠ 0 → d.natAbs < 2 ^ 8000 ∧ RT (low n d) H Q)
abbrev sLow : Stmt := top 18
theorem scLow : FnScope ["number", "by", "divisor"] ["number", "by"] (defScope sLow) := ⟨rfl, rfl, rfl, by decide +kernel, rfl, by decide +kernel, by decide +kernel⟩
theorem lowG_lt {n d : Int} (h : d ≠ 0) (hd : d.natAbs < 2 ^ 8000) : (lowG n d).natAbs < 2 ^ 8000 := by
  rw [lowG_abs]
  exact Nat.lt_of_le_of_lt (Nat.le_of_dvd (Int.natAbs_pos.mpr h) (Nat.gcd_dvd_right _ _)) hd
theorem isI_int {v : V} (h : isI v = true) : ∃ n, v = .int n := by
  cases v <;> first | exact ⟨_, rfl⟩ | cases h
theorem ok_low {f fI : Addr} {fd fdI : FuncData} (F : Fun K "lowest" "lowest" sLow f fd) (hg : mg "gcd" = some (.builtin "math.gcd")) (T : BrTxt K mg C fI) (FI : Fun K "__init__" "BadNumber.__init__" sInit fI fdI) (C1 : Callee P w K mg base CX0 1 "is_integer" ["value"] spInt) : FnOk P w K mg base (L2.CX P w) 3 f fd ["number", "by"] (spLow C) := by
  obtain ⟨f1, fd1, m1, k1, b1, G1⟩ := C1
  have bI := FI.binds (ps := ["self", "part"]) fun _ _ _ _ _ _ us hl => match us, hl with | [_, _], _ => rfl
  have GI : FnOk P w K mg base CX0 1 fI fdI ["self", "part"] (spInit K C) := ok_init FI
  have nd := scLow.nd
  refine F.okX scLow (fun vs H Q E h => ?_) (fun cdv A outer s H vs Q E hr h => ?_)
  · obtain ⟨v, u, t1, t2, rfl, _⟩ := h
    rfl
  · obtain ⟨v, u, t1, t2, rfl, j1, j2, e1, e2, q⟩ := h
    refine ⟨_, (pss_cons (ps_if (pt_not (pt_val (pe_call G1 (hr.mono (by decide)) rfl m1 k1 b1 .nil pass0 (pa_cons (pv 0) pa_nil)))) (pss_one (ps_raise rfl (takes_of rfl rfl rfl rfl) (pmk_oex T.oex T.iC T.tI GI (hr.mono (by decide)) bI .nil pass0 rfl T.mgC (pa_cons pe_str pa_nil)))) pss_nil) (pss_cons (ps_if (PW.pt (pw_or (pt_not (pt_val (pe_call G1 (hr.mono (by decide)) rfl m1 k1 b1 .nil pass0 (pa_cons (pv 1) pa_nil)))) (pw_or1 ((pt_cmpR op_eq (pv 1) (pe_int) (nomark _)))))) (pss_one (ps_raise rfl (takes_of rfl rfl rfl rfl) (pmk_oex T.oex T.iC T.tI GI (hr.mono (by decide)) bI .nil pass0 rfl T.mgC (pa_cons pe_str pa_nil)))) pss_nil) (pss_cons ((ps_set (i := 2) nd rfl (Or.inl rfl) (pe_callBfun cr_gcd (by rfl) hg (pa_cons (pv 0) (pa_cons (pv 1) pa_nil))))) (pss_cons (ps_if (pt_cmpR op_lt (pv 1) pe_int (nomark _)) (pss_one ((ps_set (i := 2) nd rfl (Or.inl rfl) (pe_un un_neg (pv 2))))) pss_nil) (pss_one (ps_ret (pe_tup (pa_cons (pe_op op_fdivWN (pv 0) (pv 2)) (pa_cons (pe_op op_fdivWN (pv 1) (pv 2)) pa_nil))))))))), ?_⟩
    refine ⟨_, rfl, _, t1, rfl, j1, _, rfl, ?_⟩
    cases h1 : isI v with
    | false =>
      refine iteT ⟨by show 1 ≤ 1000; decide, fun a ha => ⟨a, _, rfl, T.oex, T.noP, upd_same, fun dx hdx ne => ⟨rfl, dx, _, upd_same, ?_, ?_, raised (e1 h1) (fun _ _ z => z) ha hdx ne⟩⟩⟩
      · rw [upd_ne ne, upd_same]
      · rw [upd_ne ne] at hdx
        exact hdx
    | true =>
      obtain ⟨n, rfl⟩ := isI_int h1
      refine iteF ⟨_, rfl, _, t2, rfl, j2, _, rfl, ?_⟩
      cases h2 : isI u with
      | false =>
        refine iteT (iteT ⟨by show 1 ≤ 1000; decide, fun a ha => ⟨a, _, rfl, T.oex, T.noP, upd_same, fun dx hdx ne => ⟨rfl, dx, _, upd_same, ?_, ?_, raised (e2 h1 h2) (fun _ _ z => z) ha hdx ne⟩⟩⟩)
        · rw [upd_ne ne, upd_same]
        · rw [upd_ne ne] at hdx
          exact hdx
      | true =>
        obtain ⟨d, rfl⟩ := isI_int h2
        obtain ⟨q0, q⟩ := q n d rfl rfl
        refine iteF ⟨_, rfl, rfl, _, rfl, ?_⟩
        by_cases hd0 : d = 0
        · rw [decide_eq_true (show V.int d = V.int 0 from congrArg V.int hd0)]
          refine iteT ⟨by show 1 ≤ 1000; decide, fun a ha => ⟨a, _, rfl, T.oex, T.noP, upd_same, fun dx hdx ne => ⟨rfl, dx, _, upd_same, ?_, ?_, raised (q0 hd0) (fun _ _ z => z) ha hdx ne⟩⟩⟩
          · rw [upd_ne ne, upd_same]
          · rw [upd_ne ne] at hdx
            exact hdx
        · rw [decide_eq_false (fun z => hd0 (V.int.inj z))]
          obtain ⟨hd, q⟩ := q hd0
          have hG := lowG_ne (n := n) hd0
          have hL := lowG_lt (n := n) hd0 hd
          have fin : ∀ g : Int, g = lowG n d → tRet (tTup (tCons (tOp (rI CDivWN fun i j => .int (i.fdiv j)) (tVar 0) (tVar 2)) (tCons (tOp (rI CDivWN fun i j => .int (i.fdiv j)) (tVar 1) (tVar 2)) tNil))) { nx := fun _ H' => Q .non H', rt := Q } [some (.int n), some (.int d), some (.int g)] H := by
            rintro g rfl
            refine ⟨_, rfl, _, rfl, n, _, rfl, rfl, cdiv_of hG hL (by decide) (by decide), _, rfl, _, rfl, d, _, rfl, rfl, cdiv_of hG hL (by decide) (by decide), by show 2 ≤ sizeLine; decide, fun p hp => ?_⟩
            exact q _ p (same_new hp) hp upd_same
          refine iteF ⟨_, rfl, _, rfl, n, d, rfl, ?_⟩
          refine ⟨_, rfl, d, 0, rfl, rfl, _, rfl, ?_⟩
          by_cases hn : d < 0
          · rw [decide_eq_true hn]
            refine iteT ⟨_, rfl, _, rfl, ?_⟩
            exact fin _ (by unfold lowG; rw [if_pos hn]; rfl)
          · rw [decide_eq_false hn]
            refine iteF ?_
            exact fin _ (by unfold lowG; rw [if_neg hn]; rfl)
end
end K1

namespace K1
open PySem PySem.Spec PyProof.Rows L2
theorem ints_of {xs : List V} (h : intsB (some xs) = true) : ∃ ns : List Int, xs = ns.map V.int := by
  replace h : xs.all isI = true := h
  induction xs with
  | nil => exact ⟨[], rfl⟩
  | cons x xs ih =>
    rw [List.all_cons, Bool.and_eq_true] at h
    obtain ⟨n, rfl⟩ := isI_int h.1
    obtain ⟨ns, rfl⟩ := ih h.2
    exact ⟨n :: ns, rfl⟩
theorem ints_all (ns : List Int) : intsB (some (ns.map V.int)) = true := by
  show (ns.map V.int).all isI = true
  rw [List.all_map]
  exact List.all_eq_true.mpr fun _ _ => rfl
theorem get_ints {ns : List Int} {i : Nat} {x : V} (h : (ns.map V.int)[i]? = some x) : ∃ z, ns[i]? = some z ∧ x = .int z := by
  rw [List.getElem?_map] at h
  cases e : ns[i]? with
  | none =>
    rw [e] at h
    cases h
  | some z =>
    rw [e] at h
    exact ⟨z, rfl, (Option.some.inj h).symm⟩
theorem gcdL_take {ns : List Int} {i : Nat} {z : Int} (h : ns[i]? = some z) : gcdL (ns.take (i + 1)) = Nat.gcd (gcdL (ns.take i)) z.natAbs := by
  rw [take_more h]
  unfold gcdL
  rw [List.foldl_append]
  rfl
theorem yes_of {T N : Hp → Prop} {σ : L2.St} {H : Hp} (h : T H) : tYes σ H fun b H3 => if b = true then T H3 else N H3 := by
  show if true = true then T H else N H
  rw [if_pos rfl]
  exact h
section
variable {P : Program} {w : World} {K : PySem.W.Frag} {mg : Str → Option Value} {base : Heap} {C : Addr}
/-! ### common_divisor -/
def spCd (C : Addr) : Sp := fun vs H Q E => ∃ v o, vs = [v] ∧ Jg H v o ∧ (intsB o = false → Rz C "values" H E) ∧ ∀ ns : List Int, o = some (ns.map V.int) → RI (gcdL ns : Nat) H Q
abbrev sCd : Stmt := top 16
theorem scCd : FnScope ["values", "found", "value"] ["values"] (defScope sCd) := ⟨rfl, rfl, rfl, by decide +kernel, rfl, by decide +kernel, by decide +kernel⟩
theorem ok_cd {f fI : Addr} {fd fdI : FuncData} (F : Fun K "common_divisor" "common_divisor" sCd f fd) (hg : mg "gcd" = some (.builtin "math.gcd")) (T : BrTxt K mg C fI) (FI : Fun K "__init__" "BadNumber.__init__" sInit fI fdI) (C1 : Callee P w K mg base CX0 2 "are_integers" ["value"] spInts) : FnOk P w K mg base (L2.CX P w) 3 f fd ["values"] (spCd C) := by
  obtain ⟨f1, fd1, m1, k1, b1, G1⟩ := C1
  have bI := FI.binds (ps := ["self", "part"]) fun _ _ _ _ _ _ us hl => match us, hl with | [_, _], _ => rfl
  have GI : FnOk P w K mg base CX0 1 fI fdI ["self", "part"] (spInit K C) := ok_init FI
  have nd := scCd.nd
  refine F.okX scCd (fun vs H Q E h => ?_) (fun cdv A outer s H vs Q E hr h => ?_)
  · obtain ⟨v, o, rfl, _⟩ := h
    rfl
  · obtain ⟨v, o, rfl, j, e, q⟩ := h
    cases h1 : intsB o with
    | false =>
      refine ⟨_, pss_cons (ps_if (pt_not (pt_val (pe_call G1 (hr.mono (by decide)) rfl m1 k1 b1 .nil pass0 (pa_cons (pv 0) pa_nil)))) (pss_one (ps_raise rfl (takes_of rfl rfl rfl rfl) (pmk_oex T.oex T.iC T.tI GI (hr.mono (by decide)) bI .nil pass0 rfl T.mgC (pa_cons pe_str pa_nil)))) pss_nil) pss_never, ?_⟩
      refine ⟨_, rfl, _, o, rfl, j, fun H1 s1 => ⟨_, rfl, ?_⟩⟩
      rw [h1]
      refine iteT ⟨by show 1 ≤ 1000; decide, fun a ha => ⟨a, _, rfl, T.oex, T.noP, upd_same, fun dx hdx ne => ⟨rfl, dx, _, upd_same, ?_, ?_, raised (e h1) s1 ha hdx ne⟩⟩⟩
      · rw [upd_ne ne, upd_same]
      · rw [upd_ne ne] at hdx
        exact hdx
    | true =>
      cases o with
      | none => cases h1
      | some xs =>
        obtain ⟨ns, rfl⟩ := ints_of h1
        have q := q ns rfl
        obtain ⟨a, rfl, hs, hk, hl⟩ := j
        rcases hs with hs | hs
        · refine ⟨_, pss_cons (ps_if (pt_not (pt_val (pe_call G1 (hr.mono (by decide)) rfl m1 k1 b1 .nil pass0 (pa_cons (pv 0) pa_nil)))) (pss_one (ps_raise rfl (takes_of rfl rfl rfl rfl) (pmk_oex T.oex T.iC T.tI GI (hr.mono (by decide)) bI .nil pass0 rfl T.mgC (pa_cons pe_str pa_nil)))) pss_nil) (PSs.nox (pss_cons (ps_set (i := 1) nd rfl (Or.inl rfl) pe_int) (pss_cons (ps_for PassesOwn.never rfl (pi_list (pv 0)) (pg_name (i := 2) nd rfl (Or.inl rfl)) (pss_one ((ps_set (i := 1) nd rfl (Or.inl rfl) (pe_callBfun cr_gcd (by rfl) hg (pa_cons (pv 1) (pa_cons (pv 2) pa_nil))))))) (pss_one (ps_ret (pv 1)))))), ?_⟩
          refine ⟨_, rfl, _, some (ns.map V.int), rfl, ⟨a, rfl, .inl hs, hk, hl⟩, fun H1 s1 => ⟨_, rfl, ?_⟩⟩
          rw [h1]
          refine iteF ⟨_, rfl, a, rfl, ⟨_, SqL.of (s1 _ _ hs)⟩, ?_⟩
          refine for_list (xs := ns.map V.int) (fun i σ H' => H' = H1 ∧ ∃ v, σ = [some (.ref a), some (.int (gcdL (ns.take i) : Nat)), v]) ⟨rfl, none, rfl⟩ (fun i σ H' _ p => by rw [p.1]; exact SqL.of (s1 _ _ hs)) ?_ ?_
          · rintro i x σ H' hx ⟨rfl, v, rfl⟩
            obtain ⟨z, hz, rfl⟩ := get_ints hx
            refine ⟨_, rfl, _, rfl, _, _, rfl, ?_⟩
            exact ⟨rfl, some (.int z), by rw [gcdL_take hz]; rfl⟩
          · rintro σ H' ⟨rfl, v, rfl⟩
            refine ⟨_, rfl, ?_⟩
            rw [List.length_map, List.take_length]
            exact q _ s1

        · refine ⟨_, pss_cons (ps_if (pt_not (pt_val (pe_call G1 (hr.mono (by decide)) rfl m1 k1 b1 .nil pass0 (pa_cons (pv 0) pa_nil)))) (pss_one (ps_raise rfl (takes_of rfl rfl rfl rfl) (pmk_oex T.oex T.iC T.tI GI (hr.mono (by decide)) bI .nil pass0 rfl T.mgC (pa_cons pe_str pa_nil)))) pss_nil) (PSs.nox (pss_cons (ps_set (i := 1) nd rfl (Or.inl rfl) pe_int) (pss_cons (ps_for PassesOwn.never rfl (pi_tup (pv 0)) (pg_name (i := 2) nd rfl (Or.inl rfl)) (pss_one ((ps_set (i := 1) nd rfl (Or.inl rfl) (pe_callBfun cr_gcd (by rfl) hg (pa_cons (pv 1) (pa_cons (pv 2) pa_nil))))))) (pss_one (ps_ret (pv 1)))))), ?_⟩
          refine ⟨_, rfl, _, some (ns.map V.int), rfl, ⟨a, rfl, .inr hs, hk, hl⟩, fun H1 s1 => ⟨_, rfl, ?_⟩⟩
          rw [h1]
          refine iteF ⟨_, rfl, a, rfl, ⟨_, SqT.of (s1 _ _ hs)⟩, ?_⟩
          refine for_tup (xs := ns.map V.int) (fun i σ H' => H' = H1 ∧ ∃ v, σ = [some (.ref a), some (.int (gcdL (ns.take i) : Nat)), v]) ⟨rfl, none, rfl⟩ (fun i σ H' _ p => by rw [p.1]; exact SqT.of (s1 _ _ hs)) ?_ ?_
          · rintro i x σ H' hx ⟨rfl, v, rfl⟩
            obtain ⟨z, hz, rfl⟩ := get_ints hx
            refine ⟨_, rfl, _, rfl, _, _, rfl, ?_⟩
            exact ⟨rfl, some (.int z), by rw [gcdL_take hz]; rfl⟩
          · rintro σ H' ⟨rfl, v, rfl⟩
            refine ⟨_, rfl, ?_⟩
            rw [List.length_map, List.take_length]
            exact q _ s1
end
end K1

namespace K1
open PySem PySem.Spec PyProof.Rows L2
def nz (ns : List Int) : List Int := ns.filter (fun n => decide (n ≠ 0))
def signG (ns : List Int) : Int := if (nz ns).headD 0 < 0 then -((gcdL ns : Nat) : Int) else (gcdL ns : Nat)
def primL (ns : List Int) : List Int := if gcdL ns = 0 then ns else ns.map (·.fdiv (signG ns))
theorem gcdL_append (ns : List Int) (z : Int) : gcdL (ns ++ [z]) = Nat.gcd (gcdL ns) z.natAbs := by
  unfold gcdL
  rw [List.foldl_append]
  rfl
theorem fold_dvd : ∀ (ns : List Int) (g : Nat), (ns.foldl (fun g n => Nat.gcd g n.natAbs) g) ∣ g ∧ ∀ n ∈ ns, (ns.foldl (fun g n => Nat.gcd g n.natAbs) g) ∣ n.natAbs
  | [], g => ⟨Nat.dvd_refl _, fun n h => nomatch h⟩
  | z :: ns, g => by
    obtain ⟨h1, h2⟩ := fold_dvd ns (Nat.gcd g z.natAbs)
    refine ⟨Nat.dvd_trans h1 (Nat.gcd_dvd_left _ _), fun n h => ?_⟩
    rcases List.mem_cons.mp h with e | h
    · rw [e]
      exact Nat.dvd_trans h1 (Nat.gcd_dvd_right _ _)
    · exact h2 n h
theorem gcdL_dvd {ns : List Int} {n : Int} (h : n ∈ ns) : gcdL ns ∣ n.natAbs := (fold_dvd ns 0).2 n h
theorem dvd_fold : ∀ (ns : List Int) (g d : Nat), d ∣ g → (∀ n ∈ ns, d ∣ n.natAbs) → d ∣ ns.foldl (fun g n => Nat.gcd g n.natAbs) g
  | [], g, d, h, _ => h
  | z :: ns, g, d, h, k => dvd_fold ns _ d (Nat.dvd_gcd h (k z List.mem_cons_self)) fun n hn => k n (List.mem_cons_of_mem _ hn)
theorem dvd_gcdL {ns : List Int} {d : Nat} (k : ∀ n ∈ ns, d ∣ n.natAbs) : d ∣ gcdL ns := dvd_fold ns 0 d (Nat.dvd_zero _) k
theorem gcdL_zero {ns : List Int} : gcdL ns = 0 ↔ ∀ n ∈ ns, n = 0 := by
  constructor
  · intro h n hn
    have := gcdL_dvd hn
    rw [h] at this
    have := Nat.eq_zero_of_zero_dvd this
    omega
  · intro h
    exact Nat.eq_zero_of_zero_dvd (dvd_gcdL fun n hn => by rw [h n hn]; exact Nat.dvd_refl _)
theorem nz_ne {ns : List Int} (h : gcdL ns ≠ 0) : ∃ z r, nz ns = z :: r ∧ z ≠ 0 ∧ z ∈ ns := by
  cases e : nz ns with
  | nil =>
    exfalso
    refine h (gcdL_zero.mpr fun n hn => ?_)
    refine Classical.byContradiction fun z => ?_
    have : n ∈ nz ns := List.mem_filter.mpr ⟨hn, by simpa using z⟩
    rw [e] at this
    cases this
  | cons z r =>
    have : z ∈ nz ns := by rw [e]; exact List.mem_cons_self
    obtain ⟨h1, h2⟩ := List.mem_filter.mp this
    exact ⟨z, r, rfl, by simpa using h2, h1⟩
theorem signG_abs (ns : List Int) : (signG ns).natAbs = gcdL ns := by
  unfold signG
  split <;> simp
theorem signG_lt {ns : List Int} (h : gcdL ns ≠ 0) (hb : ∀ n ∈ ns, n.natAbs < 2 ^ 8000) : signG ns ≠ 0 ∧ (signG ns).natAbs < 2 ^ 8000 := by
  obtain ⟨z, r, _, hz, hm⟩ := nz_ne h
  have e := signG_abs ns
  refine ⟨fun x => by rw [x] at e; exact h e.symm, ?_⟩
  rw [e]
  exact Nat.lt_of_le_of_lt (Nat.le_of_dvd (Int.natAbs_pos.mpr hz) (gcdL_dvd hm)) (hb z hm)
theorem nz_take {ns : List Int} {i : Nat} {z : Int} (h : ns[i]? = some z) : nz (ns.take (i + 1)) = if z ≠ 0 then nz (ns.take i) ++ [z] else nz (ns.take i) := by
  rw [take_more h]
  unfold nz
  rw [List.filter_append]
  by_cases hz : z = 0
  · rw [if_neg (by simpa using hz)]
    simp [hz]
  · rw [if_pos hz]
    simp [hz]
/-- a tuple of these is handed back -/
def RL (zs : List Int) (H : Hp) (Q : VK) : Prop := ∀ H' t, Same H H' → H' t = some (.tup (zs.map V.int)) → Q (.ref t) H'
section
variable {P : Program} {w : World} {K : PySem.W.Frag} {mg : Str → Option Value} {base : Heap} {C : Addr}
/-! ### primitive -/
def spPr (C : Addr) : Sp := fun vs H Q E => ∃ v o, vs = [v] ∧ Jg H v o ∧ (intsB o = false → Rz C "values" H E) ∧ ∀ ns : List Int, o = some (ns.map V.int) → (∀ n ∈ ns, n.natAbs < 2 ^ 8000) ∧ RL (primL ns) H Q
abbrev sPr : Stmt := top 17
abbrev nPr : List Str := ["values", "divisor", "value"]
theorem scPr : FnScope nPr ["values"] (defScope sPr) := ⟨rfl, rfl, rfl, by decide +kernel, rfl, by decide +kernel, by decide +kernel⟩
theorem ok_pr {f : Addr} {fd : FuncData} (F : Fun K "primitive" "primitive" sPr f fd) (B : Bn mg) (C1 : Callee P w K mg base (L2.CX P w) 3 "common_divisor" ["values"] (spCd C)) : FnOk P w K mg base (L2.CX P w) 4 f fd ["values"] (spPr C) := by
  obtain ⟨f1, fd1, m1, k1, b1, G1⟩ := C1
  have nd := scPr.nd
  refine F.okX scPr (fun vs H Q E h => ?_) (fun cdv A outer s H vs Q E hr h => ?_)
  · obtain ⟨v, o, rfl, _⟩ := h
    rfl
  · obtain ⟨v, o, rfl, j, e, q⟩ := h
    cases h1 : intsB o with
    | false =>
      refine ⟨_, pss_cons (ps_set (i := 1) nd rfl (Or.inr rfl) (pe_call (E := E) G1 hr rfl m1 k1 b1 .nil (passes_call (takes_of rfl rfl rfl rfl) (fun _ _ _ _ h => h)) (pa_cons (pv 0) pa_nil))) pss_never, ?_⟩
      refine ⟨_, rfl, _, o, rfl, j, e, fun ns en => ?_⟩
      rw [en, ints_all] at h1
      cases h1
    | true =>
      cases o with
      | none => cases h1
      | some xs =>
        obtain ⟨ns, rfl⟩ := ints_of h1
        obtain ⟨hb, q⟩ := q ns rfl
        have j0 := j
        obtain ⟨a, rfl, hs, hk, hl⟩ := j
        have hl : ns.length ≤ 100 := by rw [List.length_map] at hl; exact hl
        rcases hs with hs | hs
        · refine ⟨_, pss_cons (ps_set (i := 1) nd rfl (Or.inr rfl) (pe_call (E := E) G1 hr rfl m1 k1 b1 .nil (passes_call (takes_of rfl rfl rfl rfl) (fun _ _ _ _ h => h)) (pa_cons (pv 0) pa_nil))) (PSs.nox (pss_cons (ps_if (pt_cmpR op_eq (pv 1) (pe_int) (nomark _)) (pss_one (ps_ret (pe_callTy call_tuple_of (by rfl) B.tuple (by decide +kernel) (pa_cons (pv 0) pa_nil)))) pss_nil) (pss_cons (ps_if (pt_cmpR op_lt (pe_ix ix_list (pe_lc (own := [("value", 2)]) (g := gName 2) rfl nd (pi_list (pv 0)) (blkOk_by (N := nPr) (sc := defScope sPr) (by decide +kernel)) (fun _ _ _ _ _ => pg_name (i := 2) nd rfl (Or.inl rfl)) (fun _ _ _ _ _ => pts_one (pt_cmpR op_ne (pv 2) pe_int (nomark _))) (fun _ _ _ _ _ => pv 2)) (pe_int) (fun _ _ => rfl)) pe_int (nomark _))
              (pss_one (ps_set (i := 1) nd rfl (Or.inr rfl) (pe_un un_neg (pv 1)))) pss_nil) (pss_one (ps_ret (pe_callTy call_tuple_of (by rfl) B.tuple (by decide +kernel) (pa_cons (pe_lc (own := [("value", 2)]) (g := gName 2) (tt := tYes) rfl nd (pi_list (pv 0)) (blkOk_by (N := nPr) (sc := defScope sPr) (by decide +kernel)) (fun _ _ _ _ _ => pg_name (i := 2) nd rfl (Or.inl rfl)) (fun _ _ _ _ _ => pts_nil) (fun _ _ _ _ _ => pe_op op_fdivWN (pv 2) (pv 1))) pa_nil))))))), ?_⟩
          refine ⟨_, rfl, _, _, rfl, j0, e, fun ms em => ?_⟩
          have em : ns = ms := List.map_inj_right (fun _ _ z => V.int.inj z) |>.mp (Option.some.inj em)
          subst em
          intro H1 s1
          refine ⟨_, rfl, rfl, _, rfl, ?_⟩
          by_cases hz : gcdL ns = 0
          · rw [decide_eq_true (show V.int ((gcdL ns : Nat) : Int) = V.int 0 by rw [hz]; rfl)]
            refine iteT ⟨_, rfl, a, _, rfl, .inl ⟨SqL.of (s1 _ _ hs), fun l hl => q _ l (s1.trans (same_new hl)) (by rw [upd_same]; unfold primL; rw [if_pos hz])⟩⟩
          · rw [decide_eq_false (fun z => hz (by have := V.int.inj z; omega))]
            refine iteF ⟨_, rfl, a, rfl, ⟨_, SqL.of (s1 _ _ hs)⟩, fun D hD => ?_⟩
            refine lc_list (K := K) (a := a) (xs := ns.map V.int) (fun i H' => Same H1 H' ∧ H' D = some (.lst ((nz (ns.take i)).map V.int))) ⟨same_new hD, upd_same⟩ (fun i H' _ p => SqL.of (p.1 _ _ (s1 _ _ hs))) (fun i x H' hx p => ?_) (fun H2 p2 => ?_)
            · obtain ⟨z, hzi, rfl⟩ := get_ints hx
              refine ⟨rfl, _, rfl, rfl, _, rfl, ?_⟩
              by_cases z0 : z = 0
              · rw [decide_eq_true (show V.int z = V.int 0 by rw [z0])]
                refine iteF ⟨p.1, ?_⟩
                rw [nz_take hzi, if_neg (by simpa using z0)]
                exact p.2
              · rw [decide_eq_false (fun e => z0 (V.int.inj e))]
                refine iteT ⟨_, rfl, _, p.2, small1000 ?_, ?_, ?_⟩
                · rw [List.length_map]
                  have := List.length_filter_le (fun n : Int => decide (n ≠ 0)) (ns.take i)
                  rw [List.length_take] at this
                  unfold nz
                  omega
                · intro b o eb
                  rw [upd_ne (ne_of_none eb hD)]
                  exact p.1 b o eb
                · rw [upd_same, nz_take hzi, if_pos z0, List.map_append]
                  rfl
            · obtain ⟨s2, hD2⟩ := p2
              rw [List.length_map, List.take_length] at hD2
              obtain ⟨z, r, hzr, _, _⟩ := nz_ne hz
              refine ⟨D, _, 0, V.int z, rfl, rfl, SqL.of hD2, atI_nat (j := 0) (by rw [hzr]; rfl), ?_⟩
              have s02 := s1.trans s2
              have hd : (nz ns).headD 0 = z := by rw [hzr]; rfl
              obtain ⟨hG, hL⟩ := signG_lt hz hb
              have fin : ∀ g : Int, g = signG ns → tRet (tCB (fun xs H Q => ∃ p ys, xs = [.ref p] ∧ ((SqL K H p ys ∧ ∀ l, H l = none → Q (.ref l) (upd H l (.tup ys))) ∨ (SqT K H p ys ∧ Q (.ref p) H))) (tCons (tLc (iList K (tVar 0)) (gName 2) tYes (tOp (rI CDivWN fun i j => .int (i.fdiv j)) (tVar 2) (tVar 1)) [2]) tNil)) { nx := fun _ H' => Q .non H', rt := Q } [some (.ref a), some (.int g), none] H2 := by
                rintro g rfl
                refine ⟨_, rfl, a, rfl, ⟨_, SqL.of (s02 _ _ hs)⟩, fun D2 hD2 => ?_⟩
                refine lc_list (K := K) (a := a) (xs := ns.map V.int) (fun i H' => Same H2 H' ∧ H' D2 = some (.lst (((ns.take i).map (·.fdiv (signG ns))).map V.int))) ⟨same_new hD2, upd_same⟩ (fun i H' _ p => SqL.of (p.1 _ _ (s02 _ _ hs))) (fun i x H' hx p => ?_) (fun H3 p3 => ?_)
                · obtain ⟨z, hzi, rfl⟩ := get_ints hx
                  refine ⟨rfl, yes_of ?_⟩
                  refine ⟨_, rfl, _, rfl, z, _, rfl, rfl, cdiv_of hG hL (by decide) (by decide), _, p.2, small1000 ?_, ?_, ?_⟩
                  · rw [List.length_map, List.length_map, List.length_take]
                    omega
                  · intro b o eb
                    rw [upd_ne (ne_of_none eb hD2)]
                    exact p.1 b o eb
                  · rw [upd_same, take_more hzi, List.map_append, List.map_append]
                    rfl
                · obtain ⟨s3, h3⟩ := p3
                  rw [List.length_map, List.take_length] at h3
                  refine ⟨D2, _, rfl, .inl ⟨SqL.of h3, fun l hl => ?_⟩⟩
                  refine q _ l ((s02.trans s3).trans (same_new hl)) ?_
                  rw [upd_same]
                  unfold primL
                  rw [if_neg hz]
              refine ⟨_, _, rfl, rfl, _, rfl, ?_⟩
              by_cases hn : z < 0
              · rw [decide_eq_true hn]
                refine iteT ⟨_, rfl, _, rfl, ?_⟩
                exact fin _ (by unfold signG; rw [hd, if_pos hn])
              · rw [decide_eq_false hn]
                refine iteF ?_
                exact fin _ (by unfold signG; rw [hd, if_neg hn])
        · refine ⟨_, pss_cons (ps_set (i := 1) nd rfl (Or.inr rfl) (pe_call (E := E) G1 hr rfl m1 k1 b1 .nil (passes_call (takes_of rfl rfl rfl rfl) (fun _ _ _ _ h => h)) (pa_cons (pv 0) pa_nil))) (PSs.nox (pss_cons (ps_if (pt_cmpR op_eq (pv 1) (pe_int) (nomark _)) (pss_one (ps_ret (pe_callTy call_tuple_of (by rfl) B.tuple (by decide +kernel) (pa_cons (pv 0) pa_nil)))) pss_nil) (pss_cons (ps_if (pt_cmpR op_lt (pe_ix ix_list (pe_lc (own := [("value", 2)]) (g := gName 2) rfl nd (pi_tup (pv 0)) (blkOk_by (N := nPr) (sc := defScope sPr) (by decide +kernel)) (fun _ _ _ _ _ => pg_name (i := 2) nd rfl (Or.inl rfl)) (fun _ _ _ _ _ => pts_one (pt_cmpR op_ne (pv 2) pe_int (nomark _))) (fun _ _ _ _ _ => pv 2)) (pe_int) (fun _ _ => rfl)) pe_int (nomark _))
              (pss_one (ps_set (i := 1) nd rfl (Or.inr rfl) (pe_un un_neg (pv 1)))) pss_nil) (pss_one (ps_ret (pe_callTy call_tuple_of (by rfl) B.tuple (by decide +kernel) (pa_cons (pe_lc (own := [("value", 2)]) (g := gName 2) (tt := tYes) rfl nd (pi_tup (pv 0)) (blkOk_by (N := nPr) (sc := defScope sPr) (by decide +kernel)) (fun _ _ _ _ _ => pg_name (i := 2) nd rfl (Or.inl rfl)) (fun _ _ _ _ _ => pts_nil) (fun _ _ _ _ _ => pe_op op_fdivWN (pv 2) (pv 1))) pa_nil))))))), ?_⟩
          refine ⟨_, rfl, _, _, rfl, j0, e, fun ms em => ?_⟩
          have em : ns = ms := List.map_inj_right (fun _ _ z => V.int.inj z) |>.mp (Option.some.inj em)
          subst em
          intro H1 s1
          refine ⟨_, rfl, rfl, _, rfl, ?_⟩
          by_cases hz : gcdL ns = 0
          · rw [decide_eq_true (show V.int ((gcdL ns : Nat) : Int) = V.int 0 by rw [hz]; rfl)]
            refine iteT ⟨_, rfl, a, _, rfl, .inr ⟨SqT.of (s1 _ _ hs), q _ a s1 (by unfold primL; rw [if_pos hz]; exact s1 _ _ hs)⟩⟩
          · rw [decide_eq_false (fun z => hz (by have := V.int.inj z; omega))]
            refine iteF ⟨_, rfl, a, rfl, ⟨_, SqT.of (s1 _ _ hs)⟩, fun D hD => ?_⟩
            refine lc_tup (K := K) (a := a) (xs := ns.map V.int) (fun i H' => Same H1 H' ∧ H' D = some (.lst ((nz (ns.take i)).map V.int))) ⟨same_new hD, upd_same⟩ (fun i H' _ p => SqT.of (p.1 _ _ (s1 _ _ hs))) (fun i x H' hx p => ?_) (fun H2 p2 => ?_)
            · obtain ⟨z, hzi, rfl⟩ := get_ints hx
              refine ⟨rfl, _, rfl, rfl, _, rfl, ?_⟩
              by_cases z0 : z = 0
              · rw [decide_eq_true (show V.int z = V.int 0 by rw [z0])]
                refine iteF ⟨p.1, ?_⟩
                rw [nz_take hzi, if_neg (by simpa using z0)]
                exact p.2
              · rw [decide_eq_false (fun e => z0 (V.int.inj e))]
                refine iteT ⟨_, rfl, _, p.2, small1000 ?_, ?_, ?_⟩
                · rw [List.length_map]
                  have := List.length_filter_le (fun n : Int => decide (n ≠ 0)) (ns.take i)
                  rw [List.length_take] at this
                  unfold nz
                  omega
                · intro b o eb
                  rw [upd_ne (ne_of_none eb hD)]
                  exact p.1 b o eb
                · rw [upd_same, nz_take hzi, if_pos z0, List.map_append]
                  rfl
            · obtain ⟨s2, hD2⟩ := p2
              rw [List.length_map, List.take_length] at hD2
              obtain ⟨z, r, hzr, _, _⟩ := nz_ne hz
              refine ⟨D, _, 0, V.int z, rfl, rfl, SqL.of hD2, atI_nat (j := 0) (by rw [hzr]; rfl), ?_⟩
              have s02 := s1.trans s2
              have hd : (nz ns).headD 0 = z := by rw [hzr]; rfl
              obtain ⟨hG, hL⟩ := signG_lt hz hb
              have fin : ∀ g : Int, g = signG ns → tRet (tCB (fun xs H Q => ∃ p ys, xs = [.ref p] ∧ ((SqL K H p ys ∧ ∀ l, H l = none → Q (.ref l) (upd H l (.tup ys))) ∨ (SqT K H p ys ∧ Q (.ref p) H))) (tCons (tLc (iTup K (tVar 0)) (gName 2) tYes (tOp (rI CDivWN fun i j => .int (i.fdiv j)) (tVar 2) (tVar 1)) [2]) tNil)) { nx := fun _ H' => Q .non H', rt := Q } [some (.ref a), some (.int g), none] H2 := by
                rintro g rfl
                refine ⟨_, rfl, a, rfl, ⟨_, SqT.of (s02 _ _ hs)⟩, fun D2 hD2 => ?_⟩
                refine lc_tup (K := K) (a := a) (xs := ns.map V.int) (fun i H' => Same H2 H' ∧ H' D2 = some (.lst (((ns.take i).map (·.fdiv (signG ns))).map V.int))) ⟨same_new hD2, upd_same⟩ (fun i H' _ p => SqT.of (p.1 _ _ (s02 _ _ hs))) (fun i x H' hx p => ?_) (fun H3 p3 => ?_)
                · obtain ⟨z, hzi, rfl⟩ := get_ints hx
                  refine ⟨rfl, yes_of ?_⟩
                  refine ⟨_, rfl, _, rfl, z, _, rfl, rfl, cdiv_of hG hL (by decide) (by decide), _, p.2, small1000 ?_, ?_, ?_⟩
                  · rw [List.length_map, List.length_map, List.length_take]
                    omega
                  · intro b o eb
                    rw [upd_ne (ne_of_none eb hD2)]
                    exact p.1 b o eb
                  · rw [upd_same, take_more hzi, List.map_append, List.map_append]
                    rfl
                · obtain ⟨s3, h3⟩ := p3
                  rw [List.length_map, List.take_length] at h3
                  refine ⟨D2, _, rfl, .inl ⟨SqL.of h3, fun l hl => ?_⟩⟩
                  refine q _ l ((s02.trans s3).trans (same_new hl)) ?_
                  rw [upd_same]
                  unfold primL
                  rw [if_neg hz]
              refine ⟨_, _, rfl, rfl, _, rfl, ?_⟩
              by_cases hn : z < 0
              · rw [decide_eq_true hn]
                refine iteT ⟨_, rfl, _, rfl, ?_⟩
                exact fin _ (by unfold signG; rw [hd, if_pos hn])
              · rw [decide_eq_false hn]
                refine iteF ?_
                exact fin _ (by unfold signG; rw [hd, if_neg hn])
end
end K1

namespace K1
open PySem PySem.Spec PyProof.Rows L2
def toI : V → Int
  | .int n => n
  | _ => 0
theorem toI_ints (ns : List Int) : (ns.map V.int).map toI = ns := by
  rw [List.map_map]
  exact List.map_id ns
def primN (ns : List Int) : Bool := decide (0 < (nz ns).length) && (decide (0 < (nz ns).headD 0) && decide (gcdL (nz ns) = 1))
def primB : Option (List V) → Bool
  | none => false
  | some xs => xs.all isI && primN (xs.map toI)
theorem Kd.str? {K : PySem.W.Frag} {H : Hp} {v : V} {t : String} (k : Kd H v t) : PySem.W.kitOne K (.type t) (.type "str") = some (t == "str") := by
  cases k <;> exact kit_ty (by decide +kernel : kitB _ _ = some _)
def LET : Str := "abcdefghijklmnopqrstuvwxyz"
def DIG : Str := "0123456789"
def isLt (c : Nat) : Bool := decide (c ∈ LET.cps.toList)
def isSg (c : Nat) : Bool := decide (c ∈ (LET ++ DIG).cps.toList)
def nameL (cs : List Nat) : Bool := decide (1 ≤ cs.length) && (decide (cs.length ≤ 12) && (isLt (cs.headD 0) && cs.all isSg))
def nmB : V → Bool
  | .str x => nameL x.cps.toList
  | _ => false
section
variable {P : Program} {w : World} {K : PySem.W.Frag} {mg : Str → Option Value} {base : Heap} {C : Addr}
/-! ### is_primitive -/
def spIp : Sp := fun vs H Q _ => ∃ v o, vs = [v] ∧ Jg H v o ∧ RB (primB o) H Q
abbrev sIp : Stmt := top 14
abbrev nIp : List Str := ["value", "heads", "item"]
theorem scIp : FnScope nIp ["value"] (defScope sIp) := ⟨rfl, rfl, rfl, by decide +kernel, rfl, by decide +kernel, by decide +kernel⟩
theorem ok_ip {f : Addr} {fd : FuncData} (F : Fun K "is_primitive" "is_primitive" sIp f fd) (B : Bn mg) (C1 : Callee P w K mg base CX0 2 "are_integers" ["value"] spInts) (C2 : Callee P w K mg base (L2.CX P w) 3 "common_divisor" ["values"] (spCd C)) : FnOk P w K mg base CX0 4 f fd ["value"] spIp := by
  obtain ⟨f1, fd1, m1, k1, b1, G1⟩ := C1
  obtain ⟨f2, fd2, m2, k2, b2, G2⟩ := C2
  have nd := scIp.nd
  refine F.ok scIp (fun vs H Q E h => ?_) (fun cdv A outer s H vs Q E hr h => ?_)
  · obtain ⟨v, o, rfl, _⟩ := h
    rfl
  · obtain ⟨v, o, rfl, j, q⟩ := h
    cases h1 : intsB o with
    | false =>
      refine ⟨_, pss_cons (ps_if (pt_not (pt_val (pe_call G1 (hr.mono (by decide)) rfl m1 k1 b1 .nil pass0 (pa_cons (pv 0) pa_nil)))) (pss_one (ps_ret pe_bl)) pss_nil) pss_never, ?_⟩
      refine ⟨_, rfl, _, o, rfl, j, fun H1 s1 => ⟨_, rfl, ?_⟩⟩
      rw [h1]
      refine iteT ?_
      have e : primB o = false := by
        cases o with
        | none => rfl
        | some xs =>
          have h1 : xs.all isI = false := h1
          show (xs.all isI && _) = false
          rw [h1]
          rfl
      rw [e] at q
      exact q _ s1
    | true =>
      cases o with
      | none => cases h1
      | some xs =>
        obtain ⟨ns, rfl⟩ := ints_of h1
        have j0 := j
        obtain ⟨a, rfl, hs, hk, hl⟩ := j
        have hl : ns.length ≤ 100 := by rw [List.length_map] at hl; exact hl
        have e : primB (some (ns.map V.int)) = primN ns := by
          have h1 : (ns.map V.int).all isI = true := h1
          show ((ns.map V.int).all isI && primN ((ns.map V.int).map toI)) = _
          rw [h1, toI_ints]
          rfl
        rw [e] at q
        rcases hs with hs | hs
        · refine ⟨_, (pss_cons (ps_if (pt_not (pt_val (pe_call G1 (hr.mono (by decide)) rfl m1 k1 b1 .nil pass0 (pa_cons (pv 0) pa_nil)))) (pss_one (ps_ret pe_bl)) pss_nil) (pss_cons (ps_setLc (i := 1) (own := [("item", 2)]) (g := gName 2) rfl nd rfl rfl (sw_true rfl rfl rfl (by decide +kernel)) (pi_list (pv 0)) (blkOk_by (N := nIp) (sc := defScope sIp) (by decide +kernel)) (fun _ _ _ _ _ => pg_name (i := 2) nd rfl (Or.inl rfl)) (fun _ _ _ _ _ => pts_one (pt_cmpR op_ne (pv 2) pe_int (nomark _))) (fun _ _ _ _ _ => pv 2)) (pss_one (ps_ret (pe_and (pe_cmpR op_gt (pe_callB call_len_seq (by rfl) B.len PySem.boot_len (pa_cons (pv 1) pa_nil)) pe_int (nomark _)) (pe_and (pe_cmpR op_gt (pe_ix ix_list (pv 1) (pe_int) (fun _ _ => rfl)) pe_int (nomark _)) (pe_one ((pe_cmpR op_eq ((pe_call (E := E0) G2 (hr.mono (by decide)) rfl m2 k2 b2 .nil passL (pa_cons (pv 1) pa_nil))) (pe_int) (nomark _)))))))))), ?_⟩
          refine ⟨_, rfl, _, some (ns.map V.int), rfl, j0, fun H1 s1 => ⟨_, rfl, ?_⟩⟩
          rw [h1]
          refine iteF ⟨_, rfl, a, rfl, ⟨_, SqL.of (s1 _ _ hs)⟩, fun D hD => ?_⟩
          refine lc_list (K := K) (a := a) (xs := ns.map V.int) (fun i H' => Same H1 H' ∧ H' D = some (.lst ((nz (ns.take i)).map V.int))) ⟨same_new hD, upd_same⟩ (fun i H' _ p => SqL.of (p.1 _ _ (s1 _ _ hs))) (fun i x H' hx p => ?_) (fun H2 p2 => ?_)
          · obtain ⟨z, hzi, rfl⟩ := get_ints hx
            refine ⟨rfl, _, rfl, rfl, _, rfl, ?_⟩
            by_cases z0 : z = 0
            · rw [decide_eq_true (show V.int z = V.int 0 by rw [z0])]
              refine iteF ⟨p.1, ?_⟩
              rw [nz_take hzi, if_neg (by simpa using z0)]
              exact p.2
            · rw [decide_eq_false (fun e => z0 (V.int.inj e))]
              refine iteT ⟨_, rfl, _, p.2, small1000 ?_, ?_, ?_⟩
              · rw [List.length_map]
                have := List.length_filter_le (fun n : Int => decide (n ≠ 0)) (ns.take i)
                rw [List.length_take] at this
                unfold nz
                omega
              · intro b o eb
                rw [upd_ne (ne_of_none eb hD)]
                exact p.1 b o eb
              · rw [upd_same, nz_take hzi, if_pos z0, List.map_append]
                rfl
          · obtain ⟨s2, hD2⟩ := p2
            rw [List.length_map, List.take_length] at hD2
            have s02 := s1.trans s2
            refine ⟨_, rfl, D, _, rfl, .inl (SqL.of hD2), _, _, rfl, rfl, _, rfl, ?_⟩
            have lz : (nz ns).length ≤ 100 := Nat.le_trans (List.length_filter_le _ _) hl
            rw [List.length_map]
            have q : RB (decide (0 < (nz ns).length) && (decide (0 < (nz ns).headD 0) && decide (gcdL (nz ns) = 1))) H Q := q
            cases hn : nz ns with
            | nil =>
              rw [hn] at q
              refine iteF (q _ s02)
            | cons z r =>
              rw [hn] at q hD2 lz
              have q : RB (decide (0 < z) && decide (gcdL (z :: r) = 1)) H Q := q
              rw [decide_eq_true (show (0 : Int) < (((z :: r).length : Nat) : Int) by rw [List.length_cons]; omega)]
              refine iteT ⟨_, rfl, D, _, 0, V.int z, rfl, rfl, SqL.of hD2, atI_nat (j := 0) rfl, _, _, rfl, rfl, _, rfl, ?_⟩
              by_cases hz : 0 < z
              · rw [decide_eq_true hz] at q ⊢
                refine iteT ⟨_, rfl, _, some ((z :: r).map V.int), rfl, ⟨D, rfl, .inl hD2, fun x hx => ?_, by rw [List.length_map]; exact lz⟩, fun e => ?_, fun ms em => ?_⟩
                · obtain ⟨m, _, rfl⟩ := List.mem_map.mp hx
                  exact ⟨_, .int m⟩
                · rw [ints_all] at e
                  cases e
                · have em : z :: r = ms := (List.map_inj_right (fun _ _ z => V.int.inj z)).mp (Option.some.inj em)
                  subst em
                  intro H3 s3
                  refine ⟨rfl, ?_⟩
                  have e2 : decide (V.int ((gcdL (z :: r) : Nat) : Int) = V.int 1) = decide (gcdL (z :: r) = 1) := by
                    rw [Bool.eq_iff_iff, decide_eq_true_iff, decide_eq_true_iff]
                    exact ⟨fun x => by have := V.int.inj x; omega, fun x => by rw [x]; rfl⟩
                  rw [e2]
                  exact q _ (s02.trans s3)
              · rw [decide_eq_false hz] at q ⊢
                exact iteF (q _ s02)
        · refine ⟨_, (pss_cons (ps_if (pt_not (pt_val (pe_call G1 (hr.mono (by decide)) rfl m1 k1 b1 .nil pass0 (pa_cons (pv 0) pa_nil)))) (pss_one (ps_ret pe_bl)) pss_nil) (pss_cons (ps_setLc (i := 1) (own := [("item", 2)]) (g := gName 2) rfl nd rfl rfl (sw_true rfl rfl rfl (by decide +kernel)) (pi_tup (pv 0)) (blkOk_by (N := nIp) (sc := defScope sIp) (by decide +kernel)) (fun _ _ _ _ _ => pg_name (i := 2) nd rfl (Or.inl rfl)) (fun _ _ _ _ _ => pts_one (pt_cmpR op_ne (pv 2) pe_int (nomark _))) (fun _ _ _ _ _ => pv 2)) (pss_one (ps_ret (pe_and (pe_cmpR op_gt (pe_callB call_len_seq (by rfl) B.len PySem.boot_len (pa_cons (pv 1) pa_nil)) pe_int (nomark _)) (pe_and (pe_cmpR op_gt (pe_ix ix_list (pv 1) (pe_int) (fun _ _ => rfl)) pe_int (nomark _)) (pe_one ((pe_cmpR op_eq ((pe_call (E := E0) G2 (hr.mono (by decide)) rfl m2 k2 b2 .nil passL (pa_cons (pv 1) pa_nil))) (pe_int) (nomark _)))))))))), ?_⟩
          refine ⟨_, rfl, _, some (ns.map V.int), rfl, j0, fun H1 s1 => ⟨_, rfl, ?_⟩⟩
          rw [h1]
          refine iteF ⟨_, rfl, a, rfl, ⟨_, SqT.of (s1 _ _ hs)⟩, fun D hD => ?_⟩
          refine lc_tup (K := K) (a := a) (xs := ns.map V.int) (fun i H' => Same H1 H' ∧ H' D = some (.lst ((nz (ns.take i)).map V.int))) ⟨same_new hD, upd_same⟩ (fun i H' _ p => SqT.of (p.1 _ _ (s1 _ _ hs))) (fun i x H' hx p => ?_) (fun H2 p2 => ?_)
          · obtain ⟨z, hzi, rfl⟩ := get_ints hx
            refine ⟨rfl, _, rfl, rfl, _, rfl, ?_⟩
            by_cases z0 : z = 0
            · rw [decide_eq_true (show V.int z = V.int 0 by rw [z0])]
              refine iteF ⟨p.1, ?_⟩
              rw [nz_take hzi, if_neg (by simpa using z0)]
              exact p.2
            · rw [decide_eq_false (fun e => z0 (V.int.inj e))]
              refine iteT ⟨_, rfl, _, p.2, small1000 ?_, ?_, ?_⟩
              · rw [List.length_map]
                have := List.length_filter_le (fun n : Int => decide (n ≠ 0)) (ns.take i)
                rw [List.length_take] at this
                unfold nz
                omega
              · intro b o eb
                rw [upd_ne (ne_of_none eb hD)]
                exact p.1 b o eb
              · rw [upd_same, nz_take hzi, if_pos z0, List.map_append]
                rfl
          · obtain ⟨s2, hD2⟩ := p2
            rw [List.length_map, List.take_length] at hD2
            have s02 := s1.trans s2
            refine ⟨_, rfl, D, _, rfl, .inl (SqL.of hD2), _, _, rfl, rfl, _, rfl, ?_⟩
            have lz : (nz ns).length ≤ 100 := Nat.le_trans (List.length_filter_le _ _) hl
            rw [List.length_map]
            have q : RB (decide (0 < (nz ns).length) && (decide (0 < (nz ns).headD 0) && decide (gcdL (nz ns) = 1))) H Q := q
            cases hn : nz ns with
            | nil =>
              rw [hn] at q
              refine iteF (q _ s02)
            | cons z r =>
              rw [hn] at q hD2 lz
              have q : RB (decide (0 < z) && decide (gcdL (z :: r) = 1)) H Q := q
              rw [decide_eq_true (show (0 : Int) < (((z :: r).length : Nat) : Int) by rw [List.length_cons]; omega)]
              refine iteT ⟨_, rfl, D, _, 0, V.int z, rfl, rfl, SqL.of hD2, atI_nat (j := 0) rfl, _, _, rfl, rfl, _, rfl, ?_⟩
              by_cases hz : 0 < z
              · rw [decide_eq_true hz] at q ⊢
                refine iteT ⟨_, rfl, _, some ((z :: r).map V.int), rfl, ⟨D, rfl, .inl hD2, fun x hx => ?_, by rw [List.length_map]; exact lz⟩, fun e => ?_, fun ms em => ?_⟩
                · obtain ⟨m, _, rfl⟩ := List.mem_map.mp hx
                  exact ⟨_, .int m⟩
                · rw [ints_all] at e
                  cases e
                · have em : z :: r = ms := (List.map_inj_right (fun _ _ z => V.int.inj z)).mp (Option.some.inj em)
                  subst em
                  intro H3 s3
                  refine ⟨rfl, ?_⟩
                  have e2 : decide (V.int ((gcdL (z :: r) : Nat) : Int) = V.int 1) = decide (gcdL (z :: r) = 1) := by
                    rw [Bool.eq_iff_iff, decide_eq_true_iff, decide_eq_true_iff]
                    exact ⟨fun x => by have := V.int.inj x; omega, fun x => by rw [x]; rfl⟩
                  rw [e2]
                  exact q _ (s02.trans s3)
              · rw [decide_eq_false hz] at q ⊢
                exact iteF (q _ s02)
/-! ### first_twice -/
/-- the first that stands twice -/
def TW (ks : List Key) (r : Option Key) : Prop := (r = none ∧ ks.Nodup) ∨ ∃ i k, ks[i]? = some k ∧ k ∈ ks.take i ∧ (ks.take i).Nodup ∧ r = some k
def seenS (ks : List Key) (i : Nat) : Key → Bool := fun k => (ks.take i).any fun j => decide (k = j)
theorem seenS_t {ks : List Key} {i : Nat} {k : Key} : seenS ks i k = true ↔ k ∈ ks.take i := by
  unfold seenS
  rw [List.any_eq_true]
  constructor
  · rintro ⟨j, hj, e⟩
    rw [of_decide_eq_true e]
    exact hj
  · intro h
    exact ⟨k, h, decide_eq_true rfl⟩
def rv : Option Key → V
  | none => .non
  | some k => kV k
theorem get_keys {ks : List Key} {i : Nat} {x : V} (h : (ks.map kV)[i]? = some x) : ∃ k, ks[i]? = some k ∧ x = kV k := by
  rw [List.getElem?_map] at h
  cases e : ks[i]? with
  | none =>
    rw [e] at h
    cases h
  | some z =>
    rw [e] at h
    exact ⟨z, rfl, (Option.some.inj h).symm⟩
def spFt : Sp := fun vs H Q _ => ∃ (a : Addr) (ks : List Key), vs = [.ref a] ∧ Sq H a (ks.map kV) ∧ ks.length ≤ 100 ∧ ∀ H' r, Same H H' → TW ks r → Q (rv r) H'
abbrev sFt : Stmt := top 15
abbrev nFt : List Str := ["values", "seen", "value"]
theorem scFt : FnScope nFt ["values"] (defScope sFt) := ⟨rfl, rfl, rfl, by decide +kernel, rfl, by decide +kernel, by decide +kernel⟩
theorem nodup_snoc {ks : List Key} {k : Key} (h : ks.Nodup) (hk : k ∉ ks) : (ks ++ [k]).Nodup := by
  rw [List.nodup_append]
  exact ⟨h, List.nodup_cons.mpr ⟨List.not_mem_nil, List.nodup_nil⟩, fun a ha b hb => by rw [List.mem_singleton.mp hb]; intro e; exact hk (e ▸ ha)⟩
theorem ok_ft {f : Addr} {fd : FuncData} (F : Fun K "first_twice" "first_twice" sFt f fd) (B : Bn mg) : FnOk P w K mg base CX0 1 f fd ["values"] spFt := by
  have nd := scFt.nd
  refine F.ok scFt (fun vs H Q E h => ?_) (fun cdv A outer s H vs Q E hr h => ?_)
  · obtain ⟨a, ks, rfl, _⟩ := h
    rfl
  · obtain ⟨a, ks, rfl, hs, hl, q⟩ := h
    rcases hs with hs | hs
    · refine ⟨_, (pss_cons ((ps_set (i := 1) nd rfl (Or.inl rfl) (pe_callTy0 cr_set0K (by rfl) B.set (by decide +kernel)))) (pss_cons (ps_for PassesOwn.never rfl (pi_list (pv 0)) (pg_name (i := 2) nd rfl (Or.inl rfl)) (pss_cons (ps_if (pt_cmpR or_sinK (pv 2) (pv 1) rfl) (pss_one (ps_ret (pv 2))) pss_nil) (pss_one (ps_expr (pe_saddK (pv 1) (pa_cons (pv 2) pa_nil)))))) (pss_one (ps_ret pe_non)))), ?_⟩
      refine ⟨rfl, fun p hp => ?_⟩
      have s0 := same_new (o := SetK P w p (fun _ => false) 0) hp
      refine ⟨_, rfl, a, rfl, ⟨_, SqL.of (s0 _ _ hs)⟩, ?_⟩
      refine for_list (xs := ks.map kV) (fun i σ H' => Same H H' ∧ (∃ v, σ = [some (.ref a), some (.ref p), v]) ∧ (ks.take i).Nodup ∧ ∃ n, n ≤ i ∧ H' p = some (SetK P w p (seenS ks i) n))
        ⟨s0, ⟨none, rfl⟩, List.nodup_nil, 0, Nat.le_refl _, upd_same⟩ (fun i σ H' _ p' => SqL.of (p'.1 _ _ hs)) ?_ ?_
      · rintro i x σ H' hx ⟨s1, ⟨v, rfl⟩, hnd, n, hn, hS⟩
        obtain ⟨k, hk, rfl⟩ := get_keys hx
        have hi : i < ks.length := by
          rcases Nat.lt_or_ge i ks.length with z | z
          · exact z
          · rw [List.getElem?_eq_none z] at hk
            cases hk
        refine ⟨_, rfl, _, rfl, k, p, _, n, rfl, rfl, hS, _, rfl, ?_⟩
        by_cases hm : k ∈ ks.take i
        · rw [seenS_t.mpr hm]
          exact iteT ⟨_, rfl, q _ (some k) s1 (.inr ⟨i, k, hk, hm, hnd, rfl⟩)⟩
        · have em : seenS ks i k = false := by
            cases e : seenS ks i k with
            | false => rfl
            | true => exact absurd (seenS_t.mp e) hm
          rw [em]
          refine iteF ⟨_, rfl, ⟨p, _, n, rfl, hS⟩, _, rfl, p, k, _, n, rfl, rfl, hS, Nat.lt_of_le_of_lt (show n + 1 ≤ 100 by omega) (by decide +kernel), ?_⟩
          refine ⟨fun b o eb => ?_, ⟨_, rfl⟩, ?_, if seenS ks i k = true then n else n + 1, ?_, ?_⟩
          · have nb : b ≠ p := ne_of_none eb hp
            rw [upd_ne nb]
            exact s1 b o eb
          · rw [take_more hk]
            exact nodup_snoc hnd hm
          · split <;> omega
          · rw [upd_same]
            have e : seenS ks (i + 1) = fun j => seenS ks i j || decide (j = k) := by
              funext j
              unfold seenS
              rw [take_more hk, List.any_append]
              simp
            rw [e]
            rfl
      · rintro σ H' ⟨s1, ⟨v, rfl⟩, hnd, n, hn, hS⟩
        rw [List.length_map, List.take_length] at hnd
        exact q _ none s1 (.inl ⟨rfl, hnd⟩)
    · refine ⟨_, (pss_cons ((ps_set (i := 1) nd rfl (Or.inl rfl) (pe_callTy0 cr_set0K (by rfl) B.set (by decide +kernel)))) (pss_cons (ps_for PassesOwn.never rfl (pi_tup (pv 0)) (pg_name (i := 2) nd rfl (Or.inl rfl)) (pss_cons (ps_if (pt_cmpR or_sinK (pv 2) (pv 1) rfl) (pss_one (ps_ret (pv 2))) pss_nil) (pss_one (ps_expr (pe_saddK (pv 1) (pa_cons (pv 2) pa_nil)))))) (pss_one (ps_ret pe_non)))), ?_⟩
      refine ⟨rfl, fun p hp => ?_⟩
      have s0 := same_new (o := SetK P w p (fun _ => false) 0) hp
      refine ⟨_, rfl, a, rfl, ⟨_, SqT.of (s0 _ _ hs)⟩, ?_⟩
      refine for_tup (xs := ks.map kV) (fun i σ H' => Same H H' ∧ (∃ v, σ = [some (.ref a), some (.ref p), v]) ∧ (ks.take i).Nodup ∧ ∃ n, n ≤ i ∧ H' p = some (SetK P w p (seenS ks i) n))
        ⟨s0, ⟨none, rfl⟩, List.nodup_nil, 0, Nat.le_refl _, upd_same⟩ (fun i σ H' _ p' => SqT.of (p'.1 _ _ hs)) ?_ ?_
      · rintro i x σ H' hx ⟨s1, ⟨v, rfl⟩, hnd, n, hn, hS⟩
        obtain ⟨k, hk, rfl⟩ := get_keys hx
        have hi : i < ks.length := by
          rcases Nat.lt_or_ge i ks.length with z | z
          · exact z
          · rw [List.getElem?_eq_none z] at hk
            cases hk
        refine ⟨_, rfl, _, rfl, k, p, _, n, rfl, rfl, hS, _, rfl, ?_⟩
        by_cases hm : k ∈ ks.take i
        · rw [seenS_t.mpr hm]
          exact iteT ⟨_, rfl, q _ (some k) s1 (.inr ⟨i, k, hk, hm, hnd, rfl⟩)⟩
        · have em : seenS ks i k = false := by
            cases e : seenS ks i k with
            | false => rfl
            | true => exact absurd (seenS_t.mp e) hm
          rw [em]
          refine iteF ⟨_, rfl, ⟨p, _, n, rfl, hS⟩, _, rfl, p, k, _, n, rfl, rfl, hS, Nat.lt_of_le_of_lt (show n + 1 ≤ 100 by omega) (by decide +kernel), ?_⟩
          refine ⟨fun b o eb => ?_, ⟨_, rfl⟩, ?_, if seenS ks i k = true then n else n + 1, ?_, ?_⟩
          · have nb : b ≠ p := ne_of_none eb hp
            rw [upd_ne nb]
            exact s1 b o eb
          · rw [take_more hk]
            exact nodup_snoc hnd hm
          · split <;> omega
          · rw [upd_same]
            have e : seenS ks (i + 1) = fun j => seenS ks i j || decide (j = k) := by
              funext j
              unfold seenS
              rw [take_more hk, List.any_append]
              simp
            rw [e]
            rfl
      · rintro σ H' ⟨s1, ⟨v, rfl⟩, hnd, n, hn, hS⟩
        rw [List.length_map, List.take_length] at hnd
        exact q _ none s1 (.inl ⟨rfl, hnd⟩)
/-! ### is_name -/
structure NmTxt (mg : Str → Option Value) : Prop where
  let_ : ∃ t, mg "LETTERS" = some (.str LET t)
  dig : ∃ t, mg "DIGITS" = some (.str DIG t)
  lng : ∃ t, mg "LONGEST_NAME" = some (.int 12 t)
def spNm : Sp := fun vs H Q _ => ∃ v t, vs = [v] ∧ Kd H v t ∧ (∀ x, v = .str x → x.length ≤ 5000) ∧ RB (nmB v) H Q
abbrev sNm : Stmt := top 10
abbrev nNm : List Str := ["value", "sign"]
theorem scNm : FnScope nNm ["value"] (defScope sNm) := ⟨rfl, rfl, rfl, by decide +kernel, rfl, by decide +kernel, by decide +kernel⟩
theorem ok_nm {f : Addr} {fd : FuncData} (F : Fun K "is_name" "is_name" sNm f fd) (B : Bn mg) (N : NmTxt mg) : FnOk P w K mg base CX0 1 f fd ["value"] spNm := by
  obtain ⟨⟨tL, hL⟩, ⟨tD, hD⟩, ⟨tG, hG⟩⟩ := N
  have nd := scNm.nd
  refine F.ok scNm (fun vs H Q E h => ?_) (fun cdv A outer s H vs Q E hr h => ?_)
  · obtain ⟨v, t, rfl, _⟩ := h
    rfl
  · obtain ⟨v, t, rfl, k, hx, q⟩ := h
    refine ⟨_, (pss_cons (ps_if (PW.pt (pw_or (pt_not (pt_val (pe_callB (r := rIsi K) call_isi (by rfl) B.isinstance boot_isinstance (pa_cons (pv 0) (pa_cons (pe_bltn (v := .ty "str") (by rfl) B.str (by decide +kernel) rfl) pa_nil))))) (pw_or1 (pt_not (pt_chain op_le op_le pe_int (pe_callB call_len_str (by rfl) B.len PySem.boot_len (pa_cons (pv 0) pa_nil)) (pe_glob (v := .int 12) rfl hG ⟨_, rfl⟩)))))) (pss_one (ps_ret pe_bl)) pss_nil) (pss_one (ps_ret (pe_and (pe_cmpR op_in_sign (pe_ix ix_str (pv 0) pe_int (fun _ _ => rfl)) (pe_glob (v := .str LET) rfl hL ⟨_, rfl⟩) rfl) (pe_one (pe_callB (cr_all rfl) (by rfl) B.all boot_all (pa_cons (pe_lc (own := [("sign", 1)]) (g := gName 1) (tt := tYes) rfl nd (pi_str (pv 0)) (blkOk_by (N := nNm) (sc := defScope sNm) (by decide +kernel)) (fun _ _ _ _ _ => pg_name (i := 1) nd rfl (Or.inl rfl)) (fun _ _ _ _ _ => pts_nil)
          (fun _ _ _ _ _ => pe_cmpR op_in_sign (pv 1) (pe_op op_add_str (pe_glob (v := .str LET) rfl hL ⟨_, rfl⟩) (pe_glob (v := .str DIG) rfl hD ⟨_, rfl⟩)) rfl)) pa_nil))))))), ?_⟩
    refine ⟨_, rfl, _, _, _, _, t == "str", rfl, .ty _, k.ty, k.str?, _, rfl, ?_⟩
    cases k with
    | str x =>
      have hx := hx x rfl
      have ln : x.cps.toList.length = x.length := Array.length_toList
      have q : RB (decide (1 ≤ x.cps.toList.length) && (decide (x.cps.toList.length ≤ 12) && (isLt (x.cps.toList.headD 0) && x.cps.toList.all isSg))) H Q := q
      rw [ln] at q
      have big : x.length ≤ sizeLine := Nat.le_trans hx (by decide)
      refine iteF ⟨_, rfl, x, rfl, big, _, _, rfl, rfl, _, rfl, ?_⟩
      by_cases h1 : 1 ≤ x.length
      · rw [decide_eq_true h1] at q
        rw [decide_eq_true (show (1 : Int) ≤ ((x.length : Nat) : Int) by omega)]
        refine iteT ⟨_, _, rfl, rfl, _, rfl, ?_⟩
        by_cases h2 : x.length ≤ 12
        · rw [decide_eq_true h2] at q
          rw [decide_eq_true (show ((x.length : Nat) : Int) ≤ 12 by omega)]
          obtain ⟨c, cs, hc⟩ : ∃ c cs, x.cps.toList = c :: cs := by
            cases e : x.cps.toList with
            | nil =>
              rw [e] at ln
              have : 0 = x.length := ln
              omega
            | cons c cs => exact ⟨c, cs, rfl⟩
          have q : RB (isLt (x.cps.toList.headD 0) && x.cps.toList.all isSg) H Q := q
          have hh : x.cps.toList.headD 0 = c := by rw [hc]; rfl
          rw [hh] at q
          refine iteF ⟨_, rfl, x, 0, c, rfl, rfl, big, atI_nat (j := 0) (by rw [hc]; rfl), c, LET, rfl, rfl, _, rfl, ?_⟩
          cases h3 : isLt c with
          | false =>
            rw [h3] at q
            have h3 : decide (c ∈ LET.cps.toList) = false := h3
            rw [h3]
            exact iteF (q _ (fun _ _ z => z))
          | true =>
            rw [h3] at q
            have h3 : decide (c ∈ LET.cps.toList) = true := h3
            rw [h3]
            have q : RB (x.cps.toList.all isSg) H Q := q
            refine iteT ⟨_, rfl, x, rfl, fun D hD => ?_⟩
            refine lc_it walk_str (fun i H' => Same H H' ∧ H' D = some (.lst (((x.cps.toList.take i).map isSg).map V.bl))) ⟨same_new hD, upd_same⟩ (fun _ _ _ _ => trivial) (fun i y H' H'' hi p hy => ?_) (fun H2 p2 => ?_)
            · obtain ⟨rfl, c, hc, rfl⟩ := hy
              have hc : x.cps.toList[i]? = some c := by rw [Array.getElem?_toList]; exact hc
              refine ⟨rfl, yes_of ?_⟩
              refine ⟨_, rfl, LET, DIG, rfl, rfl, by decide +kernel, c, _, rfl, rfl, _, p.2, small1000 ?_, ?_, ?_⟩
              · rw [List.length_map, List.length_map, List.length_take]
                omega
              · intro b o eb
                rw [upd_ne (ne_of_none eb hD)]
                exact p.1 b o eb
              · rw [upd_same, take_more hc, List.map_append, List.map_append]
                rfl
            · obtain ⟨s2, h2⟩ := p2
              rw [show x.cps.size = x.cps.toList.length from Array.length_toList.symm, List.take_length] at h2
              refine ⟨D, _, rfl, SqL.of h2, ?_⟩
              have e : (x.cps.toList.map isSg).all id = x.cps.toList.all isSg := by
                rw [List.all_map]
                rfl
              rw [e]
              exact q _ s2
        · rw [decide_eq_false h2] at q
          rw [decide_eq_false (show ¬ ((x.length : Nat) : Int) ≤ 12 by omega)]
          exact iteT (q _ (fun _ _ z => z))
      · rw [decide_eq_false h1] at q
        rw [decide_eq_false (show ¬ (1 : Int) ≤ ((x.length : Nat) : Int) by omega)]
        exact iteF ⟨_, rfl, iteT (q _ (fun _ _ z => z))⟩
    | non => exact iteT (iteT (q _ (fun _ _ z => z)))
    | bl b => exact iteT (iteT (q _ (fun _ _ z => z)))
    | int i => exact iteT (iteT (q _ (fun _ _ z => z)))
    | lst e => exact iteT (iteT (q _ (fun _ _ z => z)))
    | tup e => exact iteT (iteT (q _ (fun _ _ z => z)))
    | dK e => exact iteT (iteT (q _ (fun _ _ z => z)))
end
end K1

namespace K1
open PySem PySem.Spec PyProof.Rows L2
/-! ### powers of wide numbers; texts taken so many times; the signs of a text -/
def CPowW (i j : Int) : Prop := 0 ≤ j ∧ (Builtin.Int.intBits i : Int) * j ≤ 2 ^ 27
theorem op_powW {X : Cx} : OpR X (binaryOp .Pow) (rI CPowW fun i j => .int (i ^ j.toNat)) := opI fun _ _ _ _ _ _ _ hc q => pow_int hc.1 hc.2 q
/-! ### what stands while the cup turns and lambdas are made -/
def Kp (p : Addr) (H H' : Hp) : Prop := ∀ b o, b ≠ p → (∀ ps, o ≠ .tbl ps) → H b = some o → H' b = some o
/-- but at p all stands as it stood -/
def SB (p : Addr) (H H' : Hp) : Prop := ∀ b o, b ≠ p → H b = some o → H' b = some o
theorem SB.refl (p : Addr) (H : Hp) : SB p H H := fun _ _ _ h => h
theorem SB.trans {p : Addr} {H H1 H2 : Hp} (a : SB p H H1) (b : SB p H1 H2) : SB p H H2 := fun c o n h => b c o n (a c o n h)
theorem SB.of {p : Addr} {H H' : Hp} (s : Same H H') : SB p H H' := fun b o _ h => s b o h
theorem SB.set {p : Addr} {H : Hp} {o : HO} : SB p H (upd H p o) := fun b o n h => by
  rw [upd_ne n]
  exact h
theorem Kp.refl (p : Addr) (H : Hp) : Kp p H H := fun _ _ _ _ h => h
theorem Kp.trans {p : Addr} {H H1 H2 : Hp} (a : Kp p H H1) (b : Kp p H1 H2) : Kp p H H2 := fun c o n t h => b c o n t (a c o n t h)
theorem Kp.of {p : Addr} {H H' : Hp} (s : Same H H') : Kp p H H' := fun b o _ _ h => s b o h
theorem Kp.ofS {p : Addr} {H H' : Hp} (s : SB p H H') : Kp p H H' := fun b o n _ h => s b o n h
theorem Kp.ofE {p : Addr} {H H' : Hp} (s : LamX.ExtN H H') : Kp p H H' := fun b o _ t h => s b o h t
/-- the cup at p: it ran out n times at most -/
def Cup (H : Hp) (p : Addr) (n : Nat) : Prop := ∃ a r c : Int, H p = some (.lst [.int a, .int r, .int c]) ∧ 0 ≤ r ∧ r ≤ n ∧ 0 ≤ c ∧ c < 998244353
theorem Cup.same {H H' : Hp} {p : Addr} {n : Nat} (v : Cup H p n) (s : Same H H') : Cup H' p n := let ⟨a, r, c, h, k⟩ := v; ⟨a, r, c, s _ _ h, k⟩
theorem Cup.ext {H H' : Hp} {p : Addr} {n : Nat} (v : Cup H p n) (s : LamX.ExtN H H') : Cup H' p n := let ⟨a, r, c, h, k⟩ := v; ⟨a, r, c, s _ _ h (by intro ps z; cases z), k⟩
theorem Cup.le {H : Hp} {p : Addr} {n m : Nat} (v : Cup H p n) (h : n ≤ m) : Cup H p m := let ⟨a, r, c, e, h1, h2, k⟩ := v; ⟨a, r, c, e, h1, by omega, k⟩
theorem Cup.at {H : Hp} {p : Addr} {n : Nat} (v : Cup H p n) : ∃ a r c : Int, H p = some (.lst [.int a, .int r, .int c]) := let ⟨a, r, c, h, _⟩ := v; ⟨a, r, c, h⟩
theorem cut_ints (ns : List Int) (lo hi : Option Int) : ∃ ms : List Int, cutV (ns.map V.int) lo hi = ms.map V.int ∧ ms.length ≤ (match hi with | none => ns.length | some h => h.toNat + (match lo with | none => 0 | some _ => ns.length)) + ns.length := by
  refine ⟨(ns.drop (HT.sIx (ns.map V.int).length 0 lo)).take (HT.sIx (ns.map V.int).length (ns.map V.int).length hi - HT.sIx (ns.map V.int).length 0 lo), ?_, ?_⟩
  · unfold cutV
    rw [List.map_take, List.map_drop]
  · rw [List.length_take, List.length_drop]
    omega
theorem cup_step {a r : Int} {i : Nat} (h0 : 0 ≤ a) (h : a < 2 ^ (1000 + 21 * i)) (r0 : 0 ≤ r) (hr : r < 2 ^ 997) : 0 ≤ a * 1000409 + r ∧ a * 1000409 + r < 2 ^ (1000 + 21 * (i + 1)) := by
  refine ⟨by omega, ?_⟩
  have e : (2 : Int) ^ (1000 + 21 * (i + 1)) = 2 ^ (1000 + 21 * i) * 2097152 := by
    rw [show 1000 + 21 * (i + 1) = (1000 + 21 * i) + 21 by omega, Int.pow_add]
    rfl
  have e2 : (2 : Int) ^ 997 ≤ 2 ^ (1000 + 21 * i) := by
    have : (2 : Nat) ^ 997 ≤ 2 ^ (1000 + 21 * i) := Nat.pow_le_pow_right (by decide) (by omega)
    exact_mod_cast this
  rw [e]
  omega
section
variable {P : Program} {w : World} {K : PySem.W.Frag} {mg : Str → Option Value} {base : Heap} {C : Addr}
/-! ### _law_cup -/
def spCup (K : PySem.W.Frag) : Sp := fun vs H Q _ => ∃ (a : Addr) (ns : List Int), vs = [.ref a] ∧ SqL K H a (ns.map V.int) ∧ ns.length ≤ 63 ∧ ∀ H' p, Same H H' → H p = none → Cup H' p 0 → Q (.ref p) H'
abbrev sCup : Stmt := top 20
abbrev nCup : List Str := ["_law_script", "_law_number", "_law_cell"]
theorem scCup : FnScope nCup ["_law_script"] (defScope sCup) := ⟨rfl, rfl, rfl, by decide +kernel, rfl, by decide +kernel, by decide +kernel⟩
theorem ok_cup {f : Addr} {fd : FuncData} (F : Fun K "_law_cup" "_law_cup" sCup f fd) (B : Bn mg) : FnOk P w K mg base CX0 1 f fd ["_law_script"] (spCup K) := by
  have nd := scCup.nd
  refine F.ok scCup (fun vs H Q E h => ?_) (fun cdv A outer s H vs Q E hr h => ?_)
  · obtain ⟨a, ns, rfl, _⟩ := h
    rfl
  · obtain ⟨a, ns, rfl, hS, hl, q⟩ := h
    refine ⟨_, (pss_cons ((ps_set (i := 1) nd rfl (Or.inl rfl) (pe_int))) (pss_cons (ps_for PassesOwn.never rfl (pi_list (pe_slice sl_list (pv 0) po_none (po_some pe_int))) (pg_name (i := 2) nd rfl (Or.inl rfl))
        (pss_one ((ps_set (i := 1) nd rfl (Or.inl rfl) (pe_op op_add (pe_op op_mulW (pv 1) pe_int) (pe_op op_mod (pe_op op_add (pe_op op_mul pe_int (pe_callB call_abs (by rfl) B.abs (by decide +kernel) (pa_cons ((pe_callTy call_int1 (by rfl) B.int boot_int (pa_cons (pv 2) pa_nil))) pa_nil))) (pe_callTy call_int1 (by rfl) B.int boot_int (pa_cons (pe_cmpR op_lt (pv 2) pe_int (nomark _)) pa_nil))) (pe_op op_powW (pe_op op_pow pe_int pe_int) pe_int))))))) (pss_one (ps_ret (pe_lst (pa_cons (pv 1) (pa_cons (pe_int) (pa_cons (pe_op op_mod (pe_callTy call_int1 (by rfl) B.int boot_int (pa_cons (pv 1) pa_nil)) pe_int) pa_nil)))))))), ?_⟩
    obtain ⟨ms, em, hm⟩ := cut_ints ns none (some 40)
    have hm : ms.length ≤ 103 := by
      have : ms.length ≤ (40 + 0) + ns.length := hm
      omega
    refine ⟨_, rfl, 40, rfl, a, _, rfl, hS, fun p hp => ?_⟩
    rw [em]
    have s0 := same_new (o := .lst (ms.map V.int)) hp
    refine ⟨p, rfl, ⟨_, SqL.of upd_same⟩, ?_⟩
    refine for_list (xs := ms.map V.int) (fun i σ H' => H' = upd H p (.lst (ms.map V.int)) ∧ ∃ (n : Int) (v : Option V), σ = [some (.ref a), some (.int n), v] ∧ 0 ≤ n ∧ n < 2 ^ (1000 + 21 * i))
      ⟨rfl, 127, none, rfl, by decide, by decide⟩ (fun i σ H' _ p' => by rw [p'.1]; exact SqL.of upd_same) ?_ ?_
    · rintro i x σ H' hx ⟨rfl, n, v, rfl, h0, h1⟩
      obtain ⟨z, hz, rfl⟩ := get_ints hx
      have hi : i < ms.length := by
        rcases Nat.lt_or_ge i ms.length with y | y
        · exact y
        · rw [List.getElem?_eq_none y] at hz
          cases hz
      have hb : n.natAbs < 2 ^ (1000 + 21 * i) := by
        have : ((n.natAbs : Nat) : Int) = n := Int.natAbs_of_nonneg h0
        have h1 : ((n.natAbs : Nat) : Int) < ((2 ^ (1000 + 21 * i) : Nat) : Int) := by
          rw [this]
          exact_mod_cast h1
        exact_mod_cast h1
      have hb : n.natAbs < 2 ^ 4000 := Nat.lt_of_lt_of_le hb (Nat.pow_le_pow_right (by decide) (by omega))
      have big : (10 ^ (Int.toNat 60)) ^ (Int.toNat 5) = (10 : Int) ^ 300 := by decide +kernel
      refine ⟨_, rfl, _, _, rfl, rfl, wide_mul hb (show (1000409 : Int).natAbs < 2 ^ 20 by decide) (by decide) (by decide) (by decide), ?_⟩
      refine ⟨_, rfl, .inl ⟨z, rfl, _, rfl, _, _, rfl, rfl, .inl ⟨by decide, by decide⟩, _, rfl, _, _, rfl, rfl, .inr ⟨_, rfl, _, _, rfl, rfl, ?_⟩⟩⟩
      refine ⟨_, _, rfl, rfl, ⟨by decide, by decide, by decide⟩, _, _, rfl, rfl, ⟨by decide, by decide +kernel⟩, _, _, rfl, rfl, (by decide +kernel : (0 : Int) < (10 ^ (Int.toNat 60)) ^ (Int.toNat 5)), _, _, rfl, rfl, ?_⟩
      have up : ((10 : Int) ^ (Int.toNat 60)) ^ (Int.toNat 5) < 2 ^ 997 := by decide +kernel
      have pos : (0 : Int) < ((10 : Int) ^ (Int.toNat 60)) ^ (Int.toNat 5) := by decide +kernel
      have st := cup_step (r := (2 * (if z < 0 then -z else z) + if decide (z < 0) = true then 1 else 0) % (10 ^ (Int.toNat 60)) ^ (Int.toNat 5)) h0 h1 (Int.emod_nonneg _ (by omega)) (Int.lt_trans (Int.emod_lt_of_pos _ pos) up)
      exact ⟨rfl, _, some (.int z), rfl, st⟩
    · rintro σ H' ⟨rfl, n, v, rfl, h0, h1⟩
      refine ⟨_, rfl, _, rfl, .inl ⟨_, rfl, _, _, rfl, rfl, (by show (0 : Int) < 998244353; decide), by show 3 ≤ sizeLine; decide, fun t ht => ?_⟩⟩
      refine q _ t (s0.trans (same_new ht)) (s0.free ht) ⟨n, 0, n % 998244353, upd_same, by decide, by decide, Int.emod_nonneg _ (by decide), Int.emod_lt_of_pos _ (by decide)⟩
end
end K1

namespace K1
open PySem PySem.Spec PyProof.Rows L2
section
variable {P : Program} {w : World} {K : PySem.W.Frag} {mg : Str → Option Value} {base : Heap} {C : Addr}
/-! ### _law_dip -/
def spDip : Sp := fun vs H Q _ => ∃ (p : Addr) (m : Int) (n : Nat), vs = [.ref p, .int m] ∧ Cup H p n ∧ n < 60000 ∧ 0 < m ∧ m.natAbs < 2 ^ 100 ∧ ∀ H' d, SB p H H' → Cup H' p (n + 1) → 0 ≤ d → d < m → Q (.int d) H'
abbrev sDip : Stmt := top 21
abbrev nDip : List Str := ["_law_cup_here", "_law_many", "_law_digit"]
theorem scDip : FnScope nDip ["_law_cup_here", "_law_many"] (defScope sDip) := ⟨rfl, rfl, rfl, by decide +kernel, rfl, by decide +kernel, by decide +kernel⟩
theorem pw3 (c r : Int) (a : 0 ≤ c) (b : c < 998244353) (h0 : 0 ≤ r) (h1 : r < 60000) : CPow (c * (2 * (r + 1) + 1) + 91411 * (r + 1) + 59) 3 := by
  have c1 : c * (2 * (r + 1) + 1) ≤ 998244353 * 120003 := Int.mul_le_mul (by omega) (by omega) (by omega) (by omega)
  have c0 : 0 ≤ c * (2 * (r + 1) + 1) := Int.mul_nonneg a (by omega)
  exact ⟨by decide, by decide, by omega⟩
theorem ok_dip {f : Addr} {fd : FuncData} (F : Fun K "_law_dip" "_law_dip" sDip f fd) (B : Bn mg) : FnOk P w K mg base CX0 1 f fd ["_law_cup_here", "_law_many"] spDip := by
  have nd := scDip.nd
  refine F.ok scDip (fun vs H Q E h => ?_) (fun cdv A outer s H vs Q E hr h => ?_)
  · obtain ⟨p, m, n, rfl, _⟩ := h
    rfl
  · obtain ⟨p, m, n, rfl, ⟨a, r, c, hp, h0, h1, h2, h3⟩, hn, hm0, hm, q⟩ := h
    refine ⟨_, (pss_cons (ps_if (pt_cmpR op_eq ((pe_ix ix_list (pv 0) (pe_int) (fun _ _ => rfl))) (pe_int) (nomark _))
        (pss_cons (ps_asg (pe_op op_add (pe_ix ix_list (pv 0) (pe_int) (fun _ _ => rfl)) pe_int) (pg_sub (pv 0) pe_int set_list)) (pss_one (ps_asg (pe_op op_pow (pe_op op_add (pe_op op_add (pe_op op_mul (pe_ix ix_list (pv 0) (pe_int) (fun _ _ => rfl)) (pe_op op_add (pe_op op_mul pe_int (pe_ix ix_list (pv 0) (pe_int) (fun _ _ => rfl))) pe_int)) (pe_op op_mul pe_int (pe_ix ix_list (pv 0) (pe_int) (fun _ _ => rfl)))) pe_int) pe_int) (pg_sub (pv 0) pe_int set_list)))) pss_nil) (pss_cons ((ps_set (i := 2) nd rfl (Or.inl rfl) (pe_op op_mod (pe_callTy call_int1 (by rfl) B.int boot_int (pa_cons ((pe_ix ix_list (pv 0) (pe_int) (fun _ _ => rfl))) pa_nil)) (pv 1)))) (pss_cons (ps_asg (pe_op op_fdivWN (pe_callTy call_int1 (by rfl) B.int boot_int (pa_cons ((pe_ix ix_list (pv 0) (pe_int) (fun _ _ => rfl))) pa_nil)) (pv 1)) (pg_sub (pv 0) pe_int set_list)) (pss_one (ps_ret (pv 2)))))), ?_⟩
    have hdm : ∀ x : Int, CDivWN x m := fun x => cdiv_of (by omega) hm (by decide) (by decide)
    refine ⟨_, rfl, p, _, 0, _, rfl, rfl, SqL.of hp, rfl, rfl, _, rfl, ?_⟩
    by_cases hz : a = 0
    · rw [decide_eq_true (show V.int a = V.int 0 by rw [hz])]
      refine iteT ⟨_, rfl, p, _, 1, _, rfl, rfl, SqL.of hp, rfl, _, _, rfl, rfl, _, rfl, p, _, 1, 1, rfl, rfl, hp, rfl, ?_⟩
      have hp1 : (upd H p (.lst [.int a, .int (r + 1), .int c])) p = some (.lst [.int a, .int (r + 1), .int c]) := upd_same
      have s1 : SB p H (upd H p (.lst [.int a, .int (r + 1), .int c])) := SB.set
      have e1 : upd H p (.lst (List.set [V.int a, V.int r, V.int c] 1 (V.int (r + 1)))) = upd H p (.lst [.int a, .int (r + 1), .int c]) := rfl
      rw [e1]
      generalize upd H p (.lst [.int a, .int (r + 1), .int c]) = H1 at hp1 s1
      refine ⟨_, rfl, p, _, 2, _, rfl, rfl, SqL.of hp1, rfl, _, rfl, p, _, 1, _, rfl, rfl, SqL.of hp1, rfl, _, _, rfl, rfl, .inl ⟨by decide, by decide⟩, _, _, rfl, rfl, _, _, rfl, rfl, .inl ⟨by omega, by omega⟩, _, rfl, p, _, 1, _, rfl, rfl, SqL.of hp1, rfl, _, _, rfl, rfl, .inl ⟨by decide, by decide⟩, _, _, rfl, rfl, _, _, rfl, rfl, _, _, rfl, rfl, pw3 c r h2 h3 h0 (by omega), _, rfl, p, _, 0, 0, rfl, rfl, hp1, rfl, ?_⟩
      obtain ⟨N, hN⟩ : ∃ N : Int, N = (c * (2 * (r + 1) + 1) + 91411 * (r + 1) + 59) ^ (3 : Int).toNat := ⟨_, rfl⟩
      have hp2 : (upd H1 p (.lst [.int N, .int (r + 1), .int c])) p = some (.lst [.int N, .int (r + 1), .int c]) := upd_same
      have s2 : SB p H (upd H1 p (.lst [.int N, .int (r + 1), .int c])) := s1.trans SB.set
      have e2 : upd H1 p (.lst (List.set [V.int a, V.int (r + 1), V.int c] 0 ((fun i j : Int => V.int (i ^ j.toNat)) (c * (2 * (r + 1) + 1) + 91411 * (r + 1) + 59) 3))) = upd H1 p (.lst [.int N, .int (r + 1), .int c]) := by rw [hN]; rfl
      rw [e2]
      generalize upd H1 p (.lst [.int N, .int (r + 1), .int c]) = H2 at hp2 s2
      refine ⟨_, rfl, p, _, 0, _, rfl, rfl, SqL.of hp2, rfl, .inl ⟨_, rfl, _, rfl, _, _, rfl, rfl, hm0, ?_⟩⟩
      refine ⟨_, rfl, p, _, 0, _, rfl, rfl, SqL.of hp2, rfl, .inl ⟨_, rfl, _, rfl, _, _, rfl, rfl, hdm _, _, rfl, p, _, 0, 0, rfl, rfl, hp2, rfl, ?_⟩⟩
      exact ⟨_, rfl, q _ _ (s2.trans SB.set) ⟨_, _, _, upd_same, by omega, by omega, h2, h3⟩ (Int.emod_nonneg _ (by omega)) (Int.emod_lt_of_pos _ hm0)⟩
    · rw [decide_eq_false (fun z => hz (V.int.inj z))]
      refine iteF ?_
      refine ⟨_, rfl, p, _, 0, _, rfl, rfl, SqL.of hp, rfl, .inl ⟨_, rfl, _, rfl, _, _, rfl, rfl, hm0, ?_⟩⟩
      refine ⟨_, rfl, p, _, 0, _, rfl, rfl, SqL.of hp, rfl, .inl ⟨_, rfl, _, rfl, _, _, rfl, rfl, hdm _, _, rfl, p, _, 0, 0, rfl, rfl, hp, rfl, ?_⟩⟩
      exact ⟨_, rfl, q _ _ ((SB.refl p H).trans SB.set) ⟨_, _, _, upd_same, h0, by omega, h2, h3⟩ (Int.emod_nonneg _ (by omega)) (Int.emod_lt_of_pos _ hm0)⟩
/-! ### _law_pick -/
def spPick : Sp := fun vs H Q _ => ∃ (p a : Addr) (n : Nat) (xs : List V), vs = [.ref p, .ref a] ∧ Cup H p n ∧ n < 60000 ∧ H a = some (.lst xs) ∧ a ≠ p ∧ 0 < xs.length ∧ xs.length ≤ 1000 ∧ ∀ H' x, SB p H H' → Cup H' p (n + 1) → x ∈ xs → Q x H'
abbrev sPick : Stmt := top 22
theorem scPick : FnScope ["_law_cup_here", "_law_some"] ["_law_cup_here", "_law_some"] (defScope sPick) := ⟨rfl, rfl, rfl, by decide +kernel, rfl, by decide +kernel, by decide +kernel⟩
theorem ok_pick {f : Addr} {fd : FuncData} (F : Fun K "_law_pick" "_law_pick" sPick f fd) (B : Bn mg) (C1 : Callee P w K mg base CX0 1 "_law_dip" ["_law_cup_here", "_law_many"] spDip) : FnOk P w K mg base CX0 2 f fd ["_law_cup_here", "_law_some"] spPick := by
  obtain ⟨f1, fd1, m1, k1, b1, G1⟩ := C1
  refine F.ok scPick (fun vs H Q E h => ?_) (fun cdv A outer s H vs Q E hr h => ?_)
  · obtain ⟨p, a, n, xs, rfl, _⟩ := h
    rfl
  · obtain ⟨p, a, n, xs, rfl, hv, hn, ha, nap, h0, h1, q⟩ := h
    refine ⟨_, pss_one (ps_ret (pe_ix ix_list (pv 1) ((pe_call G1 (hr.mono (by decide)) rfl m1 k1 b1 .nil pass0 (pa_cons (pv 0) (pa_cons ((pe_callB call_len_seq (by rfl) B.len PySem.boot_len (pa_cons (pv 1) pa_nil))) pa_nil)))) (fun _ _ => rfl))), ?_⟩
    refine ⟨_, rfl, _, rfl, _, rfl, a, xs, rfl, .inl (SqL.of ha), p, _, n, rfl, hv, hn, by omega, by rw [Int.natAbs_natCast]; exact Nat.lt_of_le_of_lt h1 (by decide), fun H' d s1 v1 d0 d1 => ?_⟩
    obtain ⟨j, rfl⟩ := Int.eq_ofNat_of_zero_le d0
    have hj : j < xs.length := by omega
    exact ⟨a, xs, _, xs[j], rfl, rfl, SqL.of (s1 _ _ nap ha), atI_nat (List.getElem?_eq_getElem hj), q _ _ s1 v1 (List.getElem_mem hj)⟩
/-! ### _law_integer -/
def spI : Sp := fun vs H Q _ => ∃ (p : Addr) (n : Nat), vs = [.ref p] ∧ Cup H p n ∧ n + 3 < 60000 ∧ ∀ H' z, SB p H H' → Cup H' p (n + 3) → z.natAbs < 10 ^ 28 → Q (.int z) H'
abbrev sI : Stmt := top 23
abbrev nI : List Str := ["_law_cup_here", "_law_small", "_law_great"]
theorem scI : FnScope nI ["_law_cup_here"] (defScope sI) := ⟨rfl, rfl, rfl, by decide +kernel, rfl, by decide +kernel, by decide +kernel⟩
theorem ok_integer {f : Addr} {fd : FuncData} (F : Fun K "_law_integer" "_law_integer" sI f fd) (B : Bn mg) (C1 : Callee P w K mg base CX0 1 "_law_dip" ["_law_cup_here", "_law_many"] spDip) (C2 : Callee P w K mg base CX0 2 "_law_pick" ["_law_cup_here", "_law_some"] spPick) : FnOk P w K mg base CX0 3 f fd ["_law_cup_here"] spI := by
  obtain ⟨f1, fd1, m1, k1, b1, G1⟩ := C1
  obtain ⟨f2, fd2, m2, k2, b2, G2⟩ := C2
  have nd := scI.nd
  refine F.ok scI (fun vs H Q E h => ?_) (fun cdv A outer s H vs Q E hr h => ?_)
  · obtain ⟨p, n, rfl, _⟩ := h
    rfl
  · obtain ⟨p, n, rfl, hv, hn, q⟩ := h
    refine ⟨_, (pss_cons (ps_par (i := 1) (j := 2) rfl nd rfl rfl (by decide) rfl rfl (pa_cons (pe_op op_sub (pe_call G1 (hr.mono (by decide)) rfl m1 k1 b1 .nil pass0 (pa_cons (pv 0) (pa_cons (pe_int) pa_nil))) pe_int) (pa_cons (pe_op op_sub (pe_call G1 (hr.mono (by decide)) rfl m1 k1 b1 .nil pass0 (pa_cons (pv 0) (pa_cons (pe_op op_pow pe_int pe_int) pa_nil))) (pe_op op_mul pe_int (pe_op op_pow pe_int pe_int))) pa_nil)) (by rfl)) (pss_one (ps_ret (pe_call G2 (hr.mono (by decide)) rfl m2 k2 b2 .nil pass0 (pa_cons (pv 0) (pa_cons (pe_lst (pa_cons (pv 1) (pa_cons (pv 1) (pa_cons (pv 2) (pa_cons (pe_int) (pa_cons (pe_int) (pa_cons (pe_un un_neg pe_int) pa_nil))))))) pa_nil)))))), ?_⟩
    refine ⟨_, rfl, p, 60, n, rfl, hv, by omega, by decide, by decide, fun H1 d1 s1 v1 d10 d11 => ?_⟩
    refine ⟨_, _, rfl, rfl, _, rfl, _, _, rfl, rfl, ⟨by decide, by decide, by decide⟩, p, _, n + 1, rfl, v1, by omega, by decide, by decide, fun H2 d2 s2 v2 d20 d21 => ?_⟩
    refine ⟨_, _, rfl, rfl, ⟨by decide, by decide, by decide⟩, _, _, rfl, rfl, .inl ⟨by decide, by decide⟩, _, _, rfl, rfl, _, _, rfl, ?_⟩
    have e1 : ((d1 - 30) : Int).natAbs < 10 ^ 28 := by
      have : (10 : Nat) ^ 28 = 10000000000000000000000000000 := by decide
      omega
    have e2 : (d2 - 5 * 10 ^ (Int.toNat 27) : Int).natAbs < 10 ^ 28 := by
      have h1 : (10 : Nat) ^ 28 = 10000000000000000000000000000 := by decide
      have h2 : (10 : Int) ^ (Int.toNat 27) = 1000000000000000000000000000 := by decide
      have h3 : (10 : Int) ^ (Int.toNat 28) = 10000000000000000000000000000 := by decide
      rw [h3] at d21
      rw [h2]
      omega
    refine ⟨_, rfl, _, rfl, _, rfl, _, rfl, _, rfl, by show 6 ≤ sizeLine; decide, fun l hl => ?_⟩
    have s3 := same_new (o := .lst [V.int (d1 - 30), V.int (d1 - 30), V.int (d2 - 5 * 10 ^ (Int.toNat 27)), V.int 0, V.int 1, V.int (-1)]) hl
    have nlp : l ≠ p := by
      obtain ⟨_, _, _, e⟩ := v2.at
      exact (ne_of_none e hl).symm
    refine ⟨p, l, n + 2, _, rfl, v2.same s3, by omega, upd_same, nlp, by show 0 < 6; decide, by show 6 ≤ 1000; decide, fun H3 x s4 v4 hx => ?_⟩
    obtain ⟨z, rfl, hz⟩ : ∃ z : Int, x = .int z ∧ z.natAbs < 10 ^ 28 := by
      simp only [List.mem_cons, List.not_mem_nil, or_false] at hx
      rcases hx with e | e | e | e | e | e
      · exact ⟨_, e, e1⟩
      · exact ⟨_, e, e1⟩
      · exact ⟨_, e, e2⟩
      · exact ⟨_, e, by decide⟩
      · exact ⟨_, e, by decide⟩
      · exact ⟨_, e, by decide⟩
    exact q _ z ((s1.trans s2).trans ((SB.of s3).trans s4)) v4 hz
/-! ### _law_same -/
def spSame : Sp := fun vs H Q _ => ∃ a : Bool, vs = [.bl a, .bl a] ∧ Q (.bl true) H
abbrev sSame : Stmt := top 25
theorem scSame : FnScope ["_law_told", "_law_due"] ["_law_told", "_law_due"] (defScope sSame) := ⟨rfl, rfl, rfl, by decide +kernel, rfl, by decide +kernel, by decide +kernel⟩
theorem ok_same {f : Addr} {fd : FuncData} (F : Fun K "_law_same" "_law_same" sSame f fd) (B : Bn mg) : FnOk P w K mg base CX0 1 f fd ["_law_told", "_law_due"] spSame := by
  refine F.ok scSame (fun vs H Q E h => ?_) (fun cdv A outer s H vs Q E hr h => ?_)
  · obtain ⟨a, rfl, _⟩ := h
    rfl
  · obtain ⟨a, rfl, q⟩ := h
    refine ⟨_, pss_one (ps_ret (pe_and ((pe_callB (r := rIsi K) call_isi (by rfl) B.isinstance boot_isinstance (pa_cons (pv 0) (pa_cons (pe_bltn (v := .ty "bool") (by rfl) B.bool (by decide +kernel) rfl) pa_nil)))) (pe_one ((pe_cmpR op_eq (pv 0) (pv 1) (nomark _)))))), ?_⟩
    refine ⟨_, rfl, _, _, _, _, true, rfl, .ty _, (Kd.bl a : Kd H _ _).ty, kit_ty (by decide +kernel), _, rfl, iteT ⟨_, rfl, _, rfl, rfl, ?_⟩⟩
    rw [decide_eq_true rfl]
    exact q
end
end K1

namespace K1
open PySem PySem.Spec PyProof.Rows L2
/-- no integer and no name, whatever the cup becomes -/
structure Odd (p : Addr) (H : Hp) (v : V) : Prop where
  no : isI v = false
  kd : ∃ t, ∀ H', Kp p H H' → Kd H' v t
  len : ∀ x, v = .str x → x.length ≤ 5000
  nm : nmB v = false
section
variable {p a : Addr} {H H' : Hp} {v : V} {xs : List V} {t : String}
theorem Kp.tup (k : Kp p H H') (n : a ≠ p) (h : H a = some (.tup xs)) : H' a = some (.tup xs) := k a _ n (by intro ps z; cases z) h
theorem Kp.lst (k : Kp p H H') (n : a ≠ p) (h : H a = some (.lst xs)) : H' a = some (.lst xs) := k a _ n (by intro ps z; cases z) h
theorem Kp.dK {kvs : List (Key × V)} (k : Kp p H H') (n : a ≠ p) (h : H a = some (.dK kvs)) : H' a = some (.dK kvs) := k a _ n (by intro ps z; cases z) h
theorem Odd.kp (b : Odd p H v) (k : Kp p H H') : Odd p H' v := ⟨b.no, let ⟨t, h⟩ := b.kd; ⟨t, fun H2 k2 => h H2 (k.trans k2)⟩, b.len, b.nm⟩
theorem Odd.now (b : Odd p H v) : ∃ t, Kd H v t := let ⟨t, h⟩ := b.kd; ⟨t, h H (Kp.refl p H)⟩
theorem odd_scal (k : ∀ H', Kd H' v t) (h : isI v = false) (l : ∀ x, v = .str x → x.length ≤ 5000) (n : nmB v = false) : Odd p H v := ⟨h, ⟨t, fun H' _ => k H'⟩, l, n⟩
theorem odd_lst (n : a ≠ p) (h : H a = some (.lst xs)) : Odd p H (.ref a) := ⟨rfl, ⟨_, fun H' k => .lst (k.lst n h)⟩, (fun x z => nomatch z), rfl⟩
theorem odd_tup (n : a ≠ p) (h : H a = some (.tup xs)) : Odd p H (.ref a) := ⟨rfl, ⟨_, fun H' k => .tup (k.tup n h)⟩, (fun x z => nomatch z), rfl⟩
theorem odd_dK {kvs : List (Key × V)} (n : a ≠ p) (h : H a = some (.dK kvs)) : Odd p H (.ref a) := ⟨rfl, ⟨_, fun H' k => .dK (k.dK n h)⟩, (fun x z => nomatch z), rfl⟩
theorem let_az : ∀ c ∈ LET.cps.toList, 97 ≤ c ∧ c ≤ 122 := by decide +kernel
theorem odd_num {z : Int} (h : z.natAbs.log2 < 1920) : Odd p H (.str (Str.ofString (toString z))) := by
  refine odd_scal (fun _ => .str _) rfl (fun x e => ?_) ?_
  · cases e
    exact Nat.le_trans (int_text_len_1921 h) (by decide)
  · show nameL (Str.ofString (toString z)).cps.toList = false
    unfold nameL
    cases e : (Str.ofString (toString z)).cps.toList with
    | nil => rfl
    | cons c cs =>
      have hc : isLt c = false := by
        cases e2 : isLt c with
        | false => rfl
        | true =>
          obtain ⟨h1, h2⟩ := let_az c (of_decide_eq_true e2)
          exact absurd (show c ∈ (Str.ofString (toString z)).cps.toList by rw [e]; exact List.mem_cons_self) (int_text_free' c ⟨by omega, by omega⟩ z)
      have : (isLt ((c :: cs).headD 0) && (c :: cs).all isSg) = false := by
        show (isLt c && _) = false
        rw [hc]
        rfl
      rw [this]
      simp
end
section
variable {P : Program} {w : World} {K : PySem.W.Frag} {mg : Str → Option Value} {base : Heap} {C : Addr}
/-! ### _law_value -/
def spV : Sp := fun vs H Q _ => ∃ (p : Addr) (n : Nat), vs = [.ref p] ∧ Cup H p n ∧ n + 4 < 60000 ∧ ∀ H' v, SB p H H' → Cup H' p (n + 4) → Odd p H' v → Q v H'
abbrev sV : Stmt := top 24
abbrev nV : List Str := ["_law_cup_here", "_law_number"]
theorem scV : FnScope nV ["_law_cup_here"] (defScope sV) := ⟨rfl, rfl, rfl, by decide +kernel, rfl, by decide +kernel, by decide +kernel⟩
theorem ok_value {f : Addr} {fd : FuncData} (F : Fun K "_law_value" "_law_value" sV f fd) (B : Bn mg) (C1 : Callee P w K mg base CX0 3 "_law_integer" ["_law_cup_here"] spI) (C2 : Callee P w K mg base CX0 2 "_law_pick" ["_law_cup_here", "_law_some"] spPick) : FnOk P w K mg base CX0 4 f fd ["_law_cup_here"] spV := by
  obtain ⟨f1, fd1, m1, k1, b1, G1⟩ := C1
  obtain ⟨f2, fd2, m2, k2, b2, G2⟩ := C2
  have nd := scV.nd
  refine F.ok scV (fun vs H Q E h => ?_) (fun cdv A outer s H vs Q E hr h => ?_)
  · obtain ⟨p, n, rfl, _⟩ := h
    rfl
  · obtain ⟨p, n, rfl, hv, hn, q⟩ := h
    refine ⟨_, (pss_cons ((ps_set (i := 1) nd rfl (Or.inl rfl) ((pe_call G1 (hr.mono (by decide)) rfl m1 k1 b1 .nil pass0 (pa_cons (pv 0) pa_nil))))) (pss_one (ps_ret (pe_call G2 (hr.mono (by decide)) rfl m2 k2 b2 .nil pass0 (pa_cons (pv 0) (pa_cons (pe_lst (pa_cons (pe_non) (pa_cons (pe_bl) (pa_cons (pe_bl) (pa_cons (pe_callTy call_str_int (by rfl) B.str (by decide +kernel) (pa_cons (pv 1) pa_nil)) (pa_cons (pe_str) (pa_cons (pe_lst (pa_cons (pv 1) pa_nil)) (pa_cons (pe_tup (pa_cons (pv 1) pa_nil)) (pa_cons (pe_dnewK) (pa_cons (pe_disp (pps_cons pe_str (pv 1) pps_nil) (by rfl) (by rfl) (fun z => by cases z) (by decide)) (pa_cons (pe_lst (pa_cons (pv 1) (pa_cons (pe_bl) pa_nil))) (pa_cons (pe_tup (pa_cons (pe_non) pa_nil)) (pa_cons (pe_lst (pa_cons (pe_lst (pa_cons (pv 1) pa_nil)) pa_nil)) pa_nil))))))))))))) pa_nil)))))), ?_⟩
    refine ⟨_, rfl, p, n, rfl, hv, by omega, fun H0 z s0 v0 hz => ?_⟩
    have hlog : z.natAbs.log2 < 1920 := by
      have : z.natAbs < 2 ^ 100 := Nat.lt_trans hz (by decide)
      exact Nat.lt_trans (PySem.Flt.log2_lt_of (by decide) this) (by decide)
    obtain ⟨c1, c2, c3, hp0⟩ := v0.at
    refine ⟨_, rfl, _, rfl, z, rfl, hlog, ?_⟩
    refine ⟨_, rfl, by show 1 ≤ sizeLine; decide, fun t1 n1 => ?_⟩
    have s1 := same_new (o := .lst [V.int z]) n1
    have g1 : upd H0 t1 (.lst [V.int z]) t1 = some (.lst [V.int z]) := upd_same
    have np1 : t1 ≠ p := (ne_of_none hp0 n1).symm
    have hp1 := s1 _ _ hp0
    generalize upd H0 t1 (.lst [V.int z]) = H1 at s1 g1 hp1 ⊢
    refine ⟨_, rfl, by show 1 ≤ sizeLine; decide, fun t2 n2 => ?_⟩
    have s2 := same_new (o := .tup [V.int z]) n2
    have g2 : upd H1 t2 (.tup [V.int z]) t2 = some (.tup [V.int z]) := upd_same
    have np2 : t2 ≠ p := (ne_of_none hp1 n2).symm
    have hp2 := s2 _ _ hp1
    generalize upd H1 t2 (.tup [V.int z]) = H2 at s2 g2 hp2 ⊢
    refine fun t3 n3 => ?_
    have s3 := same_new (o := .dK []) n3
    have g3 : upd H2 t3 (.dK []) t3 = some (.dK []) := upd_same
    have np3 : t3 ≠ p := (ne_of_none hp2 n3).symm
    have hp3 := s3 _ _ hp2
    generalize upd H2 t3 (.dK []) = H3 at s3 g3 hp3 ⊢
    refine fun t4 n4 => ⟨_, rfl, upd_same, [(Sum.inr "a", V.int z)], rfl, by show 1 ≤ 15; decide, ?_⟩
    have u4 : upd (upd H3 t4 (.dK [])) t4 (.dK (mergeK [] [(Sum.inr "a", V.int z)])) = upd H3 t4 (.dK [(Sum.inr "a", V.int z)]) := by
      funext b
      unfold upd
      split <;> rfl
    rw [u4]
    have s4 := same_new (o := .dK [(Sum.inr "a", V.int z)]) n4
    have g4 : upd H3 t4 (.dK [(Sum.inr "a", V.int z)]) t4 = some (.dK [(Sum.inr "a", V.int z)]) := upd_same
    have np4 : t4 ≠ p := (ne_of_none hp3 n4).symm
    have hp4 := s4 _ _ hp3
    generalize upd H3 t4 (.dK [(Sum.inr "a", V.int z)]) = H4 at s4 g4 hp4 ⊢
    refine ⟨_, rfl, by show 2 ≤ sizeLine; decide, fun t5 n5 => ?_⟩
    have s5 := same_new (o := .lst [V.int z, V.bl true]) n5
    have g5 : upd H4 t5 (.lst [V.int z, V.bl true]) t5 = some (.lst [V.int z, V.bl true]) := upd_same
    have np5 : t5 ≠ p := (ne_of_none hp4 n5).symm
    have hp5 := s5 _ _ hp4
    generalize upd H4 t5 (.lst [V.int z, V.bl true]) = H5 at s5 g5 hp5 ⊢
    refine ⟨by show 1 ≤ sizeLine; decide, fun t6 n6 => ?_⟩
    have s6 := same_new (o := .tup [V.non]) n6
    have g6 : upd H5 t6 (.tup [V.non]) t6 = some (.tup [V.non]) := upd_same
    have np6 : t6 ≠ p := (ne_of_none hp5 n6).symm
    have hp6 := s6 _ _ hp5
    generalize upd H5 t6 (.tup [V.non]) = H6 at s6 g6 hp6 ⊢
    refine ⟨_, rfl, by show 1 ≤ sizeLine; decide, fun t7 n7 => ?_⟩
    have s7 := same_new (o := .lst [V.int z]) n7
    have g7 : upd H6 t7 (.lst [V.int z]) t7 = some (.lst [V.int z]) := upd_same
    have np7 : t7 ≠ p := (ne_of_none hp6 n7).symm
    have hp7 := s7 _ _ hp6
    generalize upd H6 t7 (.lst [V.int z]) = H7 at s7 g7 hp7 ⊢
    refine ⟨by show 1 ≤ sizeLine; decide, fun t8 n8 => ?_⟩
    have s8 := same_new (o := .lst [V.ref t7]) n8
    have g8 : upd H7 t8 (.lst [V.ref t7]) t8 = some (.lst [V.ref t7]) := upd_same
    have np8 : t8 ≠ p := (ne_of_none hp7 n8).symm
    have hp8 := s8 _ _ hp7
    generalize upd H7 t8 (.lst [V.ref t7]) = H8 at s8 g8 hp8 ⊢
    have sA : Same H0 H8 := (((((((s1).trans s2).trans s3).trans s4).trans s5).trans s6).trans s7).trans s8
    have z1 := s8 _ _ (s7 _ _ (s6 _ _ (s5 _ _ (s4 _ _ (s3 _ _ (s2 _ _ (g1)))))))
    have z2 := s8 _ _ (s7 _ _ (s6 _ _ (s5 _ _ (s4 _ _ (s3 _ _ (g2))))))
    have z3 := s8 _ _ (s7 _ _ (s6 _ _ (s5 _ _ (s4 _ _ (g3)))))
    have z4 := s8 _ _ (s7 _ _ (s6 _ _ (s5 _ _ (g4))))
    have z5 := s8 _ _ (s7 _ _ (s6 _ _ (g5)))
    have z6 := s8 _ _ (s7 _ _ (g6))
    have z7 := s8 _ _ (g7)
    have z8 := g8
    refine ⟨by show 12 ≤ sizeLine; decide, fun t9 n9 => ?_⟩
    have np9 : t9 ≠ p := (ne_of_none hp8 n9).symm
    have sL := same_new (o := .lst [V.non, V.bl true, V.bl false, V.str (Str.ofString (toString z)), V.str "", V.ref t1, V.ref t2, V.ref t3, V.ref t4, V.ref t5, V.ref t6, V.ref t8]) n9
    have gL : upd H8 t9 (.lst [V.non, V.bl true, V.bl false, V.str (Str.ofString (toString z)), V.str "", V.ref t1, V.ref t2, V.ref t3, V.ref t4, V.ref t5, V.ref t6, V.ref t8]) t9 = some (.lst [V.non, V.bl true, V.bl false, V.str (Str.ofString (toString z)), V.str "", V.ref t1, V.ref t2, V.ref t3, V.ref t4, V.ref t5, V.ref t6, V.ref t8]) := upd_same
    have od : ∀ x ∈ [V.non, V.bl true, V.bl false, V.str (Str.ofString (toString z)), V.str "", V.ref t1, V.ref t2, V.ref t3, V.ref t4, V.ref t5, V.ref t6, V.ref t8], Odd p H8 x := fun x hx => by
      simp only [List.mem_cons, List.not_mem_nil, or_false] at hx
      rcases hx with e | e | e | e | e | e | e | e | e | e | e | e <;> rw [e]
      · exact odd_scal (fun _ => .non) rfl (fun x z => nomatch z) rfl
      · exact odd_scal (fun _ => .bl _) rfl (fun x z => nomatch z) rfl
      · exact odd_scal (fun _ => .bl _) rfl (fun x z => nomatch z) rfl
      · exact odd_num hlog
      · exact odd_scal (fun _ => .str _) rfl (fun x z => by cases z; decide) (by decide +kernel)
      · exact odd_lst np1 z1
      · exact odd_tup np2 z2
      · exact odd_dK np3 z3
      · exact odd_dK np4 z4
      · exact odd_lst np5 z5
      · exact odd_tup np6 z6
      · exact odd_lst np8 z8
    refine ⟨p, t9, n + 3, _, rfl, (v0.same sA).same sL, by omega, gL, np9, by show 0 < 12; decide, by show 12 ≤ 1000; decide, fun H9 x s9 v9 hx => ?_⟩
    exact q _ x (s0.trans ((SB.of (sA.trans sL)).trans s9)) v9 ((od x hx).kp (Kp.ofS ((SB.of sL).trans s9)))
end
end K1

namespace K1
open PySem PySem.Spec PyProof.Rows L2
/-! ### f(k = v, ..) -/
section
variable {X : Cx} {CX : CXT} {k : Nat} {f : Addr} {fd : FuncData} {ps ks : List Str} {sp : Sp} {E : XK} {x : Str} {p pos : Pos} {kws : List Keyword} {tk : TA} {g : List Value → List Value → List Value} {gV : List V → List V → List V}
theorem pe_callK0 (F : FnOk X.prog X.w X.K X.mg X.base CX k f fd ps sp) (hr : Room k X.A) (hg : Gl X x) (hm : X.mg x = some (.ref f)) (hk : PySem.W.keepIn X.K (.ref f) = true) (hb : KBinds X.K fd ps ks g gV) (hx : Passes CX X E)
    (hkw : PK X kws tk) (hall : (backToKw pos (keywordEach kws X.env)).all (·.1.isSome) = true := by rfl) (hks : (backToKw pos (keywordEach kws X.env)).filterMap (·.1) = ks := by rfl)
    (hdb : (x == ("__debug__" : Str)) = false := by decide)
    (hpl : ((backTo pos (starEach [] X.env)).any (·.1) || (backToKw pos (keywordEach kws X.env)).any (·.1.isNone)) = false := by rfl) :
    PE X (.Call (.Name x p) [] kws pos) (tCallK sp gV E tNil tk) := by
  refine ⟨fun pins s σ H Q I h => ?_⟩
  refine wpAny_Call_Name_kw (ld_glob I hg hm ?_ hdb)
  refine PySem.W.callWith_KW0 (h₀ := X.base) I.ok.mod.kin hk hall ?_ hpl
  refine thn (hkw.run pos pins s σ H _ I h) fun ws s2 ⟨zs, H2, I2, rz, q2⟩ => ⟨I2.kIn, ?_⟩
  rw [hks]
  exact run_fnk (us := []) (vs := []) F hr hb hx I2 .nil rz q2
end
def gKw {α : Type} : List α → List α → List α
  | [], ws => ws
  | _, _ => []
def gR3 {α : Type} : List α → List α → List α
  | [], [x, y, z] => [z, y, x]
  | _, _ => []
theorem kb_kw {K : PySem.W.Frag} {x : Str} {st : Stmt} {f : Addr} {fd : FuncData} {ps : List Str} (F : Fun K x x st f fd) (hp : ps ≠ [])
    (h : ∀ (kV doc pm : Value) (an : Option Addr) (cdv ct : Value) (ws : List Value), ws.length = ps.length → bindArgs (PySem.W.fnOf x x (defArgs st) (defBody st) (defScope st) .none kV doc pm an cdv ct) ⟨[], ps.zip ws⟩ = pure (ps.zip ws)) :
    KBinds K fd ps ps gKw gKw where
  to := fun s us ws _ hl => by
    obtain ⟨oc, od, kV, doc, pm, an, cdv, ct, osl, rfl, lk, hcd⟩ := F.ex
    match us, hl with
    | [], hl => exact .of_eq (h kV doc pm an cdv ct ws hl)
    | _ :: _, hl => exact absurd (List.length_eq_zero_iff.mp hl.symm) hp
  rel := fun {vs us zs ws} r z => by
    cases r with
    | nil => exact z
    | cons a r => exact .nil
theorem kb_r3 {K : PySem.W.Frag} {x a b c : Str} {st : Stmt} {f : Addr} {fd : FuncData} (F : Fun K x x st f fd)
    (h : ∀ (kV doc pm : Value) (an : Option Addr) (cdv ct : Value) (u v w : Value), bindArgs (PySem.W.fnOf x x (defArgs st) (defBody st) (defScope st) .none kV doc pm an cdv ct) ⟨[], [(c, u), (b, v), (a, w)]⟩ = pure [(a, w), (b, v), (c, u)]) :
    KBinds K fd [a, b, c] [c, b, a] gR3 gR3 where
  to := fun s us ws _ hl => by
    obtain ⟨oc, od, kV, doc, pm, an, cdv, ct, osl, rfl, lk, hcd⟩ := F.ex
    match us, ws, hl with
    | [], [u, v, w], _ => exact .of_eq (h kV doc pm an cdv ct u v w)
  rel := fun {vs us zs ws} r z => by
    cases r with
    | nil =>
      cases z with
      | nil => exact .nil
      | cons a z =>
        cases z with
        | nil => exact .nil
        | cons b z =>
          cases z with
          | nil => exact .nil
          | cons c z =>
            cases z with
            | nil => exact .cons c (.cons b (.cons a .nil))
            | cons d z => exact .nil
    | cons a r => exact .nil
/-- a def that may be called by its name, its arguments by place or by their names -/
def CalleeK (P : Program) (w : World) (K : PySem.W.Frag) (mg : Str → Option Value) (base : Heap) (CX : CXT) (k : Nat) (x : Str) (ps ks : List Str) (g : List Value → List Value → List Value) (gV : List V → List V → List V) (sp : Sp) : Prop :=
  ∃ (f : Addr) (fd : FuncData), mg x = some (.ref f) ∧ PySem.W.keepIn K (.ref f) = true ∧ Binds K fd ps [] ∧ KBinds K fd ps ks g gV ∧ FnOk P w K mg base CX k f fd ps sp
/-- so many draws later True is handed back -/
def RV (p : Addr) (n : Nat) (H : Hp) (Q : VK) : Prop := ∀ H', SB p H H' → Cup H' p n → Q (.bl true) H'
def spPart (k : Nat) : Sp := fun vs H Q _ => ∃ (p : Addr) (n : Nat), vs = [.ref p] ∧ Cup H p n ∧ n + k < 60000 ∧ RV p (n + k) H Q
theorem jg_ints {H : Hp} {a : Addr} {ns : List Int} (h : Sq H a (ns.map V.int)) (l : ns.length ≤ 100) : Jg H (.ref a) (some (ns.map V.int)) :=
  ⟨a, rfl, h, fun x hx => by obtain ⟨m, _, rfl⟩ := List.mem_map.mp hx; exact ⟨_, .int m⟩, by rw [List.length_map]; exact l⟩
/-- whether a number lies between two bounds, None no bound -/
theorem due_read {σ : L2.St} {H : Hp} {Q : VK} {z : Int} {lo hi : Option Int} {i1 i5 i6 : Nat} (h1 : σ[i1]? = some (some (.int z))) (h5 : σ[i5]? = some (some (bv lo))) (h6 : σ[i6]? = some (some (bv hi))) (q : Q (.bl (within (.int z) lo hi)) H) :
    tAndV (tOrV (tOp (fun x y H Q => y = V.non ∧ Q (V.bl (decide (x = V.non))) H) (tVar i5) (tC .non)) (tOp (rI0 fun i j => V.bl (decide (i ≤ j))) (tVar i5) (tVar i1)))
      (tOrV (tOp (fun x y H Q => y = V.non ∧ Q (V.bl (decide (x = V.non))) H) (tVar i6) (tC .non)) (tOp (rI0 fun i j => V.bl (decide (i ≤ j))) (tVar i1) (tVar i6))) σ H Q := by
  refine ⟨_, h5, rfl, _, rfl, ?_⟩
  rw [bv_non]
  cases lo with
  | none =>
    refine iteT ⟨_, rfl, iteT ?_⟩
    have q : Q (.bl (hi.all fun m => decide (z ≤ m))) H := q
    refine ⟨_, h6, rfl, _, rfl, ?_⟩
    rw [bv_non]
    cases hi with
    | none => exact iteT q
    | some m => exact iteF ⟨_, h1, _, h6, _, _, rfl, rfl, q⟩
  | some l =>
    refine iteF ⟨_, h5, _, h1, _, _, rfl, rfl, _, rfl, ?_⟩
    have q : Q (.bl (decide (l ≤ z) && hi.all fun m => decide (z ≤ m))) H := q
    by_cases hl : l ≤ z
    · rw [decide_eq_true hl] at q ⊢
      refine iteT ?_
      refine ⟨_, h6, rfl, _, rfl, ?_⟩
      rw [bv_non]
      cases hi with
      | none => exact iteT q
      | some m => exact iteF ⟨_, h1, _, h6, _, _, rfl, rfl, q⟩
    · rw [decide_eq_false hl] at q ⊢
      exact iteF q
theorem within_odd {v : V} {lo hi : Option Int} (h : isI v = false) : within v lo hi = false := by
  cases v <;> first | rfl | cases h
theorem cut_in (ns : List Int) (lo hi : Option Int) : ∃ ms : List Int, cutV (ns.map V.int) lo hi = ms.map V.int ∧ ms.length ≤ ns.length := by
  refine ⟨(ns.drop (HT.sIx (ns.map V.int).length 0 lo)).take (HT.sIx (ns.map V.int).length (ns.map V.int).length hi - HT.sIx (ns.map V.int).length 0 lo), ?_, ?_⟩
  · unfold cutV
    rw [List.map_take, List.map_drop]
  · rw [List.length_take, List.length_drop]
    omega
section
variable {P : Program} {w : World} {K : PySem.W.Frag} {mg : Str → Option Value} {base : Heap} {C : Addr}
/-! ### _law_integers_right -/
abbrev sIR : Stmt := top 26
abbrev nIR : List Str := ["_law_cup_here", "_law_number", "_law_odd", "_law_low", "_law_high", "_law_least", "_law_most", "_law_due", "_law_row", "_law_at", "_law_turn"]
theorem scIR : FnScope nIR ["_law_cup_here"] (defScope sIR) := ⟨rfl, rfl, rfl, by decide +kernel, rfl, by decide +kernel, by decide +kernel⟩
theorem ok_ir {f : Addr} {fd : FuncData} (F : Fun K "_law_integers_right" "_law_integers_right" sIR f fd) (B : Bn mg) (C1 : CalleeK P w K mg base CX0 1 "is_integer" ["value"] ["value"] gKw gKw spInt) (C2 : CalleeK P w K mg base CX0 2 "is_within" ["value", "least", "most"] ["most", "least", "value"] gR3 gR3 spWithin) (C3 : CalleeK P w K mg base CX0 2 "are_integers" ["value"] ["value"] gKw gKw spInts)
    (C4 : Callee P w K mg base CX0 3 "_law_integer" ["_law_cup_here"] spI) (C5 : Callee P w K mg base CX0 4 "_law_value" ["_law_cup_here"] spV) (C6 : Callee P w K mg base CX0 1 "_law_dip" ["_law_cup_here", "_law_many"] spDip) (CS : Callee P w K mg base CX0 1 "_law_same" ["_law_told", "_law_due"] spSame) : FnOk P w K mg base CX0 5 f fd ["_law_cup_here"] (spPart 40) := by
  obtain ⟨f1, fd1, m1, k1, b1, kb1, G1⟩ := C1
  obtain ⟨f2, fd2, m2, k2, b2, kb2, G2⟩ := C2
  obtain ⟨f3, fd3, m3, k3, b3, kb3, G3⟩ := C3
  obtain ⟨f4, fd4, m4, k4, b4, G4⟩ := C4
  obtain ⟨f5, fd5, m5, k5, b5, G5⟩ := C5
  obtain ⟨f6, fd6, m6, k6, b6, G6⟩ := C6
  obtain ⟨fS, fdS, mS, kS, bS, GS⟩ := CS
  have nd := scIR.nd
  refine F.ok scIR (fun vs H Q E h => ?_) (fun cdv A outer s H vs Q E hr h => ?_)
  · obtain ⟨p, n, rfl, _⟩ := h
    rfl
  · obtain ⟨p, n, rfl, hv, hn, q⟩ := h
    refine ⟨_, (pss_cons (ps_par (i := 1) (j := 2) rfl nd rfl rfl (by decide) rfl rfl (pa_cons ((pe_call G4 (hr.mono (by decide)) rfl m4 k4 b4 .nil pass0 (pa_cons (pv 0) pa_nil))) (pa_cons ((pe_call G5 (hr.mono (by decide)) rfl m5 k5 b5 .nil pass0 (pa_cons (pv 0) pa_nil))) pa_nil)) (by rfl)) (pss_cons (ps_if (PW.pt (pw_or ((pt_not (pt_val (pe_call GS (hr.mono (by decide)) rfl mS kS bS .nil pass0 (pa_cons ((pe_callK0 G1 (hr.mono (by decide)) rfl m1 k1 kb1 pass0 (pk_cons (pv 1) pk_nil))) (pa_cons (pe_bl) pa_nil)))))) (pw_or ((pt_not (pt_val (pe_call GS (hr.mono (by decide)) rfl mS kS bS .nil pass0 (pa_cons ((pe_call G1 (hr.mono (by decide)) rfl m1 k1 b1 .nil pass0 (pa_cons (pv 2) pa_nil))) (pa_cons (pe_bl) pa_nil)))))) (pw_or1 ((pt_not (pt_val (pe_call GS (hr.mono (by decide)) rfl mS kS bS .nil pass0 (pa_cons ((pe_call G2 (hr.mono (by decide)) rfl m2 k2 b2 .nil pass0 (pa_cons (pv 2) (pa_cons (pe_non) (pa_cons (pe_non) pa_nil))))) (pa_cons (pe_bl) pa_nil)))))))))) (pss_one (ps_ret pe_bl)) pss_nil) (pss_cons (ps_par (i := 3) (j := 4) rfl nd rfl rfl (by decide) rfl rfl (pa_cons (pe_op op_sub (pe_op op_add (pv 1) (pe_call G6 (hr.mono (by decide)) rfl m6 k6 b6 .nil pass0 (pa_cons (pv 0) (pa_cons (pe_int) pa_nil)))) pe_int) (pa_cons (pe_op op_sub (pe_op op_add (pv 1) (pe_call G6 (hr.mono (by decide)) rfl m6 k6 b6 .nil pass0 (pa_cons (pv 0) (pa_cons (pe_int) pa_nil)))) pe_int) pa_nil)) (by rfl)) (pss_cons (ps_for PassesOwn.never rfl (pi_tup (pe_tup (pa_cons (pe_tup (pa_cons (pv 3) (pa_cons (pv 4) pa_nil))) (pa_cons (pe_tup (pa_cons (pe_non) (pa_cons (pv 4) pa_nil))) (pa_cons (pe_tup (pa_cons (pv 3) (pa_cons (pe_non) pa_nil))) (pa_cons (pe_tup (pa_cons (pe_non) (pa_cons (pe_non) pa_nil))) pa_nil)))))) (pg_tup rfl (pgs_cons ((pg_name (i := 5) nd rfl (Or.inl rfl))) (pgs_cons ((pg_name (i := 6) nd rfl (Or.inl rfl))) pgs_nil)))
        (pss_cons ((ps_set (i := 7) nd rfl (Or.inl rfl) ((pe_and ((pe_or (pe_cmpR op_isN (pv 5) pe_non (nomark _)) (pe_one (pe_cmpR op_le (pv 5) (pv 1) (nomark _))))) (pe_one ((pe_or (pe_cmpR op_isN (pv 6) pe_non (nomark _)) (pe_one (pe_cmpR op_le (pv 1) (pv 6) (nomark _)))))))))) (pss_one (ps_if (PW.pt (pw_or ((pt_not (pt_val (pe_call GS (hr.mono (by decide)) rfl mS kS bS .nil pass0 (pa_cons ((pe_call G2 (hr.mono (by decide)) rfl m2 k2 b2 .nil pass0 (pa_cons (pv 1) (pa_cons (pv 5) (pa_cons (pv 6) pa_nil))))) (pa_cons (pv 7) pa_nil)))))) (pw_or1 ((pt_not (pt_val (pe_call GS (hr.mono (by decide)) rfl mS kS bS .nil pass0 (pa_cons ((pe_callK0 G2 (hr.mono (by decide)) rfl m2 k2 kb2 pass0 (pk_cons (pv 6) (pk_cons (pv 5) (pk_cons (pv 1) pk_nil))))) (pa_cons (pv 7) pa_nil))))))))) (pss_one (ps_ret pe_bl)) pss_nil)))) (pss_cons (ps_setLc (i := 8) (own := [("_law_turn", 10)]) (g := gName 10) (tt := tYes) rfl nd rfl rfl (sw_true rfl rfl rfl (by decide +kernel)) (pi_range1 rfl B.range (pa_cons ((pe_call G6 (hr.mono (by decide)) rfl m6 k6 b6 .nil pass0 (pa_cons (pv 0) (pa_cons (pe_int) pa_nil)))) pa_nil)) (blkOk_by (N := nIR) (sc := defScope sIR) (by decide +kernel)) (fun _ _ _ _ _ => pg_name (i := 10) nd rfl (Or.inl rfl)) (fun _ _ _ _ _ => pts_nil) (fun _ _ _ _ _ => (pe_call G4 (hr.mono (by decide)) rfl m4 k4 b4 .nil pass0 (pa_cons (pv 0) pa_nil)))) (pss_cons ((ps_set (i := 9) nd rfl (Or.inl rfl) ((pe_call G6 (hr.mono (by decide)) rfl m6 k6 b6 .nil pass0 (pa_cons (pv 0) (pa_cons (pe_op op_add (pe_callB call_len_seq (by rfl) B.len PySem.boot_len (pa_cons (pv 8) pa_nil)) pe_int) pa_nil)))))) (pss_cons (ps_if (PW.pt (pw_or ((pt_not (pt_val (pe_call GS (hr.mono (by decide)) rfl mS kS bS .nil pass0 (pa_cons ((pe_call G3 (hr.mono (by decide)) rfl m3 k3 b3 .nil pass0 (pa_cons (pv 8) pa_nil))) (pa_cons (pe_bl) pa_nil)))))) (pw_or1 ((pt_not (pt_val (pe_call GS (hr.mono (by decide)) rfl mS kS bS .nil pass0 (pa_cons ((pe_callK0 G3 (hr.mono (by decide)) rfl m3 k3 kb3 pass0 (pk_cons ((pe_callTy call_tuple_of (by rfl) B.tuple (by decide +kernel) (pa_cons (pv 8) pa_nil))) pk_nil))) (pa_cons (pe_bl) pa_nil))))))))) (pss_one (ps_ret pe_bl)) pss_nil) (pss_one (ps_ret (pe_and ((pe_call GS (hr.mono (by decide)) rfl mS kS bS .nil pass0 (pa_cons ((pe_call G3 (hr.mono (by decide)) rfl m3 k3 b3 .nil pass0 (pa_cons (pe_op op_cat (pe_op op_cat (pe_slice sl_list (pv 8) po_none (po_some (pv 9))) (pe_lst (pa_cons (pv 2) pa_nil))) (pe_slice sl_list (pv 8) (po_some (pv 9)) po_none)) pa_nil))) (pa_cons (pe_bl) pa_nil)))) (pe_and ((pe_call GS (hr.mono (by decide)) rfl mS kS bS .nil pass0 (pa_cons ((pe_call G3 (hr.mono (by decide)) rfl m3 k3 b3 .nil pass0 (pa_cons (pe_disp (pps_cons pe_int pe_int pps_nil) (by rfl) (by rfl) (fun z => by cases z) (by decide)) pa_nil))) (pa_cons (pe_bl) pa_nil)))) (pe_one ((pe_call GS (hr.mono (by decide)) rfl mS kS bS .nil pass0 (pa_cons ((pe_call G3 (hr.mono (by decide)) rfl m3 k3 b3 .nil pass0 (pa_cons (pe_str) pa_nil))) (pa_cons (pe_bl) pa_nil)))))))))))))))), ?_⟩
    refine ⟨_, rfl, p, n, rfl, hv, by omega, fun H1 z s1 v1 hz => ?_⟩
    refine ⟨_, rfl, p, n + 3, rfl, v1, by omega, fun H2 x s2 v2 hx => ⟨_, _, rfl, ?_⟩⟩
    obtain ⟨tx, kx⟩ := hx.now
    refine ⟨_, rfl, _, _, rfl, .int z, _, rfl, _, rfl, iteF ?_⟩
    refine ⟨_, rfl, x, tx, rfl, kx, ?_⟩
    rw [hx.no]
    refine ⟨_, rfl, _, rfl, iteF ?_⟩
    refine ⟨_, rfl, x, tx, none, none, rfl, kx, ?_⟩
    rw [within_odd hx.no]
    refine ⟨_, rfl, _, rfl, iteF ?_⟩
    refine ⟨_, rfl, _, rfl, p, 5, n + 7, rfl, v2, by omega, by decide, by decide, fun H3 d1 s3 v3 _ _ => ?_⟩
    refine ⟨_, _, rfl, rfl, _, _, rfl, rfl, _, rfl, _, rfl, p, 5, n + 8, rfl, v3, by omega, by decide, by decide, fun H4 d2 s4 v4 _ _ => ?_⟩
    refine ⟨_, _, rfl, rfl, _, _, rfl, rfl, V.int (z + d1 - 2), V.int (z + d2 - 2), rfl, ?_⟩
    have hx4 := hx.kp (Kp.ofS (s3.trans s4))
    have s04 := (s1.trans s2).trans (s3.trans s4)
    obtain ⟨c1, c2, c3, hp4⟩ := v4.at
    generalize hlo : z + d1 - 2 = lo
    generalize hhi : z + d2 - 2 = hi
    refine ⟨_, rfl, _, rfl, by show 2 ≤ sizeLine; decide, fun t1 n1 => ?_⟩
    have a1 := same_new (o := .tup [V.int lo, V.int hi]) n1
    have g1 : upd H4 t1 (.tup [V.int lo, V.int hi]) t1 = some (.tup [V.int lo, V.int hi]) := upd_same
    generalize upd H4 t1 (.tup [V.int lo, V.int hi]) = H5 at a1 g1 ⊢
    refine ⟨_, rfl, by show 2 ≤ sizeLine; decide, fun t2 n2 => ?_⟩
    have a2 := same_new (o := .tup [V.non, V.int hi]) n2
    have g2 : upd H5 t2 (.tup [V.non, V.int hi]) t2 = some (.tup [V.non, V.int hi]) := upd_same
    generalize upd H5 t2 (.tup [V.non, V.int hi]) = H6 at a2 g2 ⊢
    refine ⟨_, rfl, by show 2 ≤ sizeLine; decide, fun t3 n3 => ?_⟩
    have a3 := same_new (o := .tup [V.int lo, V.non]) n3
    have g3 : upd H6 t3 (.tup [V.int lo, V.non]) t3 = some (.tup [V.int lo, V.non]) := upd_same
    generalize upd H6 t3 (.tup [V.int lo, V.non]) = H7 at a3 g3 ⊢
    refine ⟨by show 2 ≤ sizeLine; decide, fun t4 n4 => ?_⟩
    have a4 := same_new (o := .tup [V.non, V.non]) n4
    have g4 : upd H7 t4 (.tup [V.non, V.non]) t4 = some (.tup [V.non, V.non]) := upd_same
    generalize upd H7 t4 (.tup [V.non, V.non]) = H8 at a4 g4 ⊢
    refine ⟨by show 4 ≤ sizeLine; decide, fun t5 n5 => ?_⟩
    have a5 := same_new (o := .tup [V.ref t1, V.ref t2, V.ref t3, V.ref t4]) n5
    have g5 : upd H8 t5 (.tup [V.ref t1, V.ref t2, V.ref t3, V.ref t4]) t5 = some (.tup [V.ref t1, V.ref t2, V.ref t3, V.ref t4]) := upd_same
    have aA := (((a1.trans a2).trans a3).trans a4).trans a5
    have e1 := a5 _ _ (a4 _ _ (a3 _ _ (a2 _ _ g1)))
    have e2 := a5 _ _ (a4 _ _ (a3 _ _ g2))
    have e3 := a5 _ _ (a4 _ _ g3)
    have e4 := a5 _ _ g4
    generalize upd H8 t5 (.tup [V.ref t1, V.ref t2, V.ref t3, V.ref t4]) = H9 at aA e1 e2 e3 e4 g5 ⊢
    refine ⟨t5, rfl, ⟨_, SqT.of g5⟩, ?_⟩
    refine for_tup (xs := [V.ref t1, V.ref t2, V.ref t3, V.ref t4]) (fun i σ H' => H' = H9 ∧ ∃ b5 b6 b7 : Option V, σ = [some (.ref p), some (.int z), some x, some (.int lo), some (.int hi), b5, b6, b7, none, none, none])
      ⟨rfl, none, none, none, rfl⟩ (fun i σ H' _ p' => by rw [p'.1]; exact SqT.of g5) ?_ ?_
    · rintro i y σ H' hy ⟨rfl, b5, b6, b7, rfl⟩
      obtain ⟨t, l, m, rfl, ht⟩ : ∃ t l m, y = .ref t ∧ H' t = some (.tup [bv l, bv m]) := by
        have := List.mem_of_getElem? hy
        simp only [List.mem_cons, List.not_mem_nil, or_false] at this
        rcases this with e | e | e | e
        · exact ⟨t1, some lo, some hi, e, e1⟩
        · exact ⟨t2, none, some hi, e, e2⟩
        · exact ⟨t3, some lo, none, e, e3⟩
        · exact ⟨t4, none, none, e, e4⟩
      refine ⟨t, _, rfl, SqT.of ht, rfl, _, _, rfl, _, _, rfl, rfl, ?_⟩
      refine due_read (lo := l) (hi := m) rfl rfl rfl ?_
      refine ⟨_, rfl, _, rfl, _, rfl, .int z, _, l, m, rfl, .int z, _, rfl, _, rfl, _, rfl, iteF ?_⟩
      refine ⟨_, rfl, _, rfl, _, rfl, .int z, _, l, m, rfl, .int z, _, rfl, _, rfl, _, rfl, iteF ?_⟩
      exact ⟨rfl, _, _, _, rfl⟩
    · rintro σ H' ⟨rfl, b5, b6, b7, rfl⟩
      have v9 := v4.same aA
      have hx9 := hx4.kp (Kp.of aA)
      have s09 := s04.trans (SB.of aA)
      refine ⟨_, rfl, p, 4, n + 9, rfl, v9, by omega, by decide, by decide, fun H10 d s10 v10 d0 d4 => ?_⟩
      refine ⟨d, rfl, by omega, by omega, fun D hD => ?_⟩
      have hx10 := hx9.kp (Kp.ofS s10)
      have s010 := s09.trans s10
      obtain ⟨c4, c5, c6, hp10⟩ := v10.at
      have nDp : D ≠ p := (ne_of_none hp10 hD).symm
      have sD := same_new (o := .lst []) hD
      refine lc_range (lo := 0) (n := d.toNat) (fun i H' => Cup H' p (n + 10 + 3 * i) ∧ SB p H10 H' ∧ ∃ zs : List Int, zs.length = i ∧ H' D = some (.lst (zs.map V.int)))
        ⟨v10.same sD, SB.of sD, [], rfl, upd_same⟩ (fun i H' hi pv => ?_) (fun H' pv => ?_)
      · obtain ⟨v11, s11, zs, hzs, hD11⟩ := pv
        refine ⟨rfl, yes_of ?_⟩
        refine ⟨_, rfl, p, _, rfl, v11, by omega, fun H2 y s12 v12 hy => ?_⟩
        have hD12 := s12 _ _ nDp hD11
        obtain ⟨b1, b2, b3, b4, b5⟩ := v12
        refine ⟨_, hD12, small1000 (by rw [List.length_map]; omega), ?_, ?_, zs ++ [y], by rw [List.length_append, hzs]; rfl, by rw [upd_same, List.map_append]; rfl⟩
        · refine ⟨b1, b2, b3, by rw [upd_ne nDp.symm]; exact b4, b5.1, ?_, b5.2.2⟩
          have := b5.2.1
          omega
        · intro b o nb hb
          rw [upd_ne (ne_of_none hb hD)]
          exact s12 b o nb (s11 b o nb hb)
      · obtain ⟨v11, s11, zs, hzs, hD11⟩ := pv
        have hx11 := hx10.kp (Kp.ofS s11)
        have s011 := s010.trans s11
        have lz : zs.length ≤ 4 := by omega
        refine ⟨_, rfl, _, rfl, D, _, rfl, .inl (SqL.of hD11), _, _, rfl, rfl, p, _, _, rfl, v11, by omega, by omega, ?_, fun H12 e s12 v12 e0 e1 => ?_⟩
        · rw [List.length_map]
          exact Nat.lt_of_le_of_lt (show _ ≤ 5 by omega) (by decide)
        have hD12 := s12 _ _ nDp hD11
        have hx12 := hx11.kp (Kp.ofS s12)
        have s012 := s011.trans s12
        obtain ⟨ty, ky⟩ := hx12.kd
        refine ⟨_, rfl, .ref D, _, rfl, jg_ints (.inl hD12) (by omega), fun H13 s13 => ?_⟩
        rw [ints_all]
        refine ⟨_, rfl, _, rfl, iteF ?_⟩
        have hD13 := s13 _ _ hD12
        refine ⟨_, rfl, D, _, rfl, .inl ⟨SqL.of hD13, fun l hl => ?_⟩⟩
        have s14 := same_new (o := .tup (zs.map V.int)) hl
        refine ⟨_, _, rfl, jg_ints (.inr upd_same) (by omega), fun H15 s15 => ?_⟩
        rw [ints_all]
        refine ⟨_, rfl, _, rfl, iteF ?_⟩
        have sT := (s13.trans s14).trans s15
        have hD15 := sT _ _ hD12
        clear s13 s14 s15 hD13 hl hD11
        -- the last three
        obtain ⟨as, ea, la⟩ := cut_in zs none (some e)
        obtain ⟨bs, eb, lb⟩ := cut_in zs (some e) none
        refine ⟨_, rfl, _, rfl, e, rfl, D, _, rfl, SqL.of hD15, fun l1 m1' => ?_⟩
        rw [ea]
        have u1 := same_new (o := .lst (as.map V.int)) m1'
        have w1 : upd H15 l1 (.lst (as.map V.int)) l1 = some (.lst (as.map V.int)) := upd_same
        generalize upd H15 l1 (.lst (as.map V.int)) = H16 at u1 w1 ⊢
        refine ⟨_, rfl, by show 1 ≤ sizeLine; decide, fun l2 m2' => ?_⟩
        have u2 := same_new (o := .lst [x]) m2'
        have w2 : upd H16 l2 (.lst [x]) l2 = some (.lst [x]) := upd_same
        generalize upd H16 l2 (.lst [x]) = H17 at u2 w2 ⊢
        refine ⟨l1, l2, _, _, rfl, rfl, u2 _ _ w1, w2, ?_, fun l3 m3' => ?_⟩
        · rw [List.length_map]
          exact Nat.le_trans (show _ ≤ 5 by show as.length + 1 ≤ 5; omega) (by decide)
        have u3 := same_new (o := .lst (as.map V.int ++ [x])) m3'
        have w3 : upd H17 l3 (.lst (as.map V.int ++ [x])) l3 = some (.lst (as.map V.int ++ [x])) := upd_same
        generalize upd H17 l3 (.lst (as.map V.int ++ [x])) = H18 at u3 w3 ⊢
        have uA := (u1.trans u2).trans u3
        refine ⟨_, rfl, _, rfl, e, rfl, D, _, rfl, SqL.of (uA _ _ hD15), fun l4 m4' => ?_⟩
        rw [eb]
        have u4 := same_new (o := .lst (bs.map V.int)) m4'
        have w4 : upd H18 l4 (.lst (bs.map V.int)) l4 = some (.lst (bs.map V.int)) := upd_same
        generalize upd H18 l4 (.lst (bs.map V.int)) = H19 at u4 w4 ⊢
        refine ⟨l3, l4, _, _, rfl, rfl, u4 _ _ w3, w4, ?_, fun l5 m5' => ?_⟩
        · rw [List.length_append, List.length_map, List.length_map]
          exact Nat.le_trans (show _ ≤ 9 by show as.length + 1 + bs.length ≤ 9; omega) (by decide)
        have u5 := same_new (o := .lst (as.map V.int ++ [x] ++ bs.map V.int)) m5'
        have w5 : upd H19 l5 (.lst (as.map V.int ++ [x] ++ bs.map V.int)) l5 = some (.lst (as.map V.int ++ [x] ++ bs.map V.int)) := upd_same
        generalize upd H19 l5 (.lst (as.map V.int ++ [x] ++ bs.map V.int)) = H20 at u5 w5 ⊢
        have uB := ((uA.trans u4).trans u5)
        have sB := SB.of (p := p) (sT.trans uB)
        refine ⟨_, some (as.map V.int ++ [x] ++ bs.map V.int), rfl, ⟨l5, rfl, .inl w5, fun y hy => ?_, ?_⟩, fun H21 u6 => ?_⟩
        · rcases List.mem_append.mp hy with hy | hy
          · rcases List.mem_append.mp hy with hy | hy
            · obtain ⟨m, _, rfl⟩ := List.mem_map.mp hy
              exact ⟨_, .int m⟩
            · rw [List.mem_singleton.mp hy]
              exact ⟨_, ky H20 (Kp.ofS sB)⟩
          · obtain ⟨m, _, rfl⟩ := List.mem_map.mp hy
            exact ⟨_, .int m⟩
        · rw [List.length_append, List.length_append, List.length_map, List.length_map]
          show as.length + 1 + bs.length ≤ 100
          omega
        have eI : intsB (some (as.map V.int ++ [x] ++ bs.map V.int)) = false := by
          show (as.map V.int ++ [x] ++ bs.map V.int).all isI = false
          rw [List.all_append, List.all_append]
          simp [hx.no]
        rw [eI]
        refine ⟨_, rfl, _, rfl, iteT ?_⟩
        refine fun l6 m6' => ⟨upd_same, [(Sum.inl 0, V.int 1)], rfl, by show 1 ≤ 15; decide, ?_⟩
        have u7 : Same H21 (upd (upd H21 l6 (.dK [])) l6 (.dK (mergeK [] [(Sum.inl 0, V.int 1)]))) := fun b o hb => by
          rw [upd_ne (ne_of_none hb m6'), upd_ne (ne_of_none hb m6')]
          exact hb
        refine ⟨_, none, rfl, ⟨_, .dK upd_same, rfl⟩, fun H22 u8 => ?_⟩
        refine ⟨_, rfl, _, rfl, iteT ?_⟩
        refine ⟨_, none, rfl, ⟨_, .str _, rfl⟩, fun H23 u9 => ?_⟩
        refine ⟨_, rfl, ?_⟩
        obtain ⟨b1, b2, b3, b4, b5⟩ := v12
        have uC := (uB.trans u6).trans ((u7.trans u8).trans u9)
        exact q _ (s012.trans ((SB.of sT).trans (SB.of uC))) ((Cup.le ⟨b1, b2, b3, b4, b5⟩ (by omega)).same (sT.trans uC))
end
end K1

namespace K1
open PySem PySem.Spec PyProof.Rows L2
theorem op_repS {X : Cx} : OpR X (binaryOp .Mult) (fun x y H Q => ∃ z n, x = .str z ∧ y = .int n ∧ MulOk z n ∧ Q (.str (Txt.mul z n)) H) := by
  intro pins s σ H x y v u Q I rx ry h
  obtain ⟨i, j, rfl, rfl, hz, q⟩ := h
  obtain ⟨t, rfl⟩ := rx
  obtain ⟨t', rfl⟩ := ry
  exact PySem.SB.mul hz (fun t' tk => ⟨.str (Txt.mul i j), H, I.tok _, ⟨_, rfl⟩, q⟩)
/-- the signs of a text, each a text -/
def sg (cs : List Nat) : List V := cs.map fun c => V.str ⟨#[c]⟩
theorem call_listS {X : Cx} (hc : X.calm = true) : CallR X (.type "list") (fun xs H Q => ∃ x, xs = [.str x] ∧ x.length ≤ sizeLine ∧ ∀ l, H l = none → Q (.ref l) (upd H l (.lst (sg x.cps.toList)))) := by
  intro pins s σ H xs us Q I r h
  obtain ⟨x, rfl, hx, q⟩ := h
  obtain ⟨u, rfl, t, rfl⟩ := vals1 r
  refine call_list_str (I.ok.hd hc) x t (fun h' tk acc c' hk e' hi => ?_) hx
  refine ⟨.ref s.heap.objs.size, upd H s.heap.objs.size (.lst (sg x.cps.toList)), I.laid hk (Nat.le_refl _) (show ObjOk X.prog X.w _ _ _ (.lst (sg x.cps.toList)) from ⟨?_, acc.toList, c', ?_, ?_⟩), rfl, q _ (I.hok.fresh (Nat.le_refl _))⟩
  · unfold sg
    rw [List.length_map, Array.length_toList]
    exact hx
  · refine vals_of_at ?_ (fun j y u h1 h2 => ?_)
    · unfold sg
      rw [List.length_map, Array.length_toList, Array.length_toList, hi.1]
    · obtain ⟨c, t2, h3, rfl⟩ := hi.2 j u (by rw [← h2, Array.getElem?_toList])
      unfold sg at h1
      rw [List.getElem?_map, Array.getElem?_toList, h3] at h1
      cases h1
      exact ⟨t2, rfl⟩
  · rw [Array.toArray_toList]; exact e'
/-! ### names -/
theorem str_app (a b : Str) : (a ++ b).cps.toList = a.cps.toList ++ b.cps.toList := by
  show (a.cps ++ b.cps).toList = _
  exact Array.toList_append
theorem str_len (a : Str) : a.length = a.cps.toList.length := Array.length_toList.symm
theorem let_sg : ∀ c ∈ LET.cps.toList, isLt c = true ∧ isSg c = true := by decide +kernel
def SGN : Str := "abcdefghijklmnopqrstuvwxyz0123456789"
theorem sgn_sg : ∀ c ∈ SGN.cps.toList, isSg c = true := by decide +kernel
/-- a letter, then letters and digits, so many -/
def Nm (x : Str) (n : Nat) : Prop := ∃ c cs, x.cps.toList = c :: cs ∧ isLt c = true ∧ isSg c = true ∧ cs.all isSg = true ∧ cs.length + 1 = n
theorem Nm.len {x : Str} {n : Nat} (h : Nm x n) : x.length = n := by
  obtain ⟨c, cs, e, _, _, _, l⟩ := h
  rw [str_len, e]
  exact l
theorem Nm.ok {x : Str} {n : Nat} (h : Nm x n) (hn : n ≤ 12) : nmB (.str x) = true := by
  obtain ⟨c, cs, e, h1, h2, h3, l⟩ := h
  show nameL x.cps.toList = true
  unfold nameL
  rw [e]
  show (decide (1 ≤ cs.length + 1) && (decide (cs.length + 1 ≤ 12) && (isLt c && (isSg c && cs.all isSg)))) = true
  rw [decide_eq_true (by omega), decide_eq_true (by omega), h1, h2, h3]
  rfl
theorem Nm.snoc {x y : Str} {n m : Nat} (h : Nm x n) (hy : y.cps.toList.all isSg = true) (hm : y.length = m) : Nm (x ++ y) (n + m) := by
  obtain ⟨c, cs, e, h1, h2, h3, l⟩ := h
  refine ⟨c, cs ++ y.cps.toList, by rw [str_app, e]; rfl, h1, h2, by rw [List.all_append, h3, hy]; rfl, ?_⟩
  rw [List.length_append, ← str_len, hm]
  omega
theorem nm_long {x : Str} (h : 12 < x.length) : nmB (.str x) = false := by
  show nameL x.cps.toList = false
  unfold nameL
  rw [← str_len, decide_eq_false (show ¬ x.length ≤ 12 by omega)]
  simp
theorem nm_sign {x : Str} {c : Nat} (h : c ∈ x.cps.toList) (hc : isSg c = false) : nmB (.str x) = false := by
  have e : x.cps.toList.all isSg = false := by
    cases e : x.cps.toList.all isSg with
    | false => rfl
    | true =>
      have := List.all_eq_true.mp e c h
      rw [hc] at this
      cases this
  show nameL x.cps.toList = false
  unfold nameL
  rw [e]
  simp
theorem nm_head {x : Str} {c : Nat} {cs : List Nat} (h : x.cps.toList = c :: cs) (hc : isLt c = false) : nmB (.str x) = false := by
  show nameL x.cps.toList = false
  unfold nameL
  rw [h]
  show (_ && (_ && (isLt c && _))) = false
  rw [hc]
  simp
def ZS : Str := "z"
theorem zs_ok : ∀ k : Fin 14, MulOk ZS ((k.val : Nat) : Int) ∧ (Txt.mul ZS ((k.val : Nat) : Int)).length = k.val ∧ (Txt.mul ZS ((k.val : Nat) : Int)).cps.toList.all isSg = true := by
  unfold MulOk
  decide +kernel
theorem zs_mul {n : Int} (h0 : 0 ≤ n) (h : n ≤ 13) : MulOk ZS n ∧ (Txt.mul ZS n).length = n.toNat ∧ (Txt.mul ZS n).cps.toList.all isSg = true := by
  obtain ⟨k, rfl⟩ := Int.eq_ofNat_of_zero_le h0
  exact zs_ok ⟨k, by omega⟩
theorem cutS_len (z : Str) (lo hi : Option Int) : (cutS z lo hi).length ≤ z.length := by
  rw [str_len]
  show (((z.cps.toList.drop _).take _).toArray).toList.length ≤ _
  rw [List.toList_toArray, List.length_take, List.length_drop, ← str_len]
  omega
section
variable {P : Program} {w : World} {K : PySem.W.Frag} {mg : Str → Option Value} {base : Heap} {C : Addr}
/-! ### _law_names_right -/
abbrev sNR : Stmt := top 27
abbrev nNR : List Str := ["_law_cup_here", "_law_letters", "_law_signs", "_law_name", "_law_turn", "_law_at", "_law_odd"]
theorem scNR : FnScope nNR ["_law_cup_here"] (defScope sNR) := ⟨rfl, rfl, rfl, by decide +kernel, rfl, by decide +kernel, by decide +kernel⟩
theorem ok_nr {f : Addr} {fd : FuncData} (F : Fun K "_law_names_right" "_law_names_right" sNR f fd) (B : Bn mg) (C1 : CalleeK P w K mg base CX0 1 "is_name" ["value"] ["value"] gKw gKw spNm)
    (C2 : Callee P w K mg base CX0 2 "_law_pick" ["_law_cup_here", "_law_some"] spPick) (C5 : Callee P w K mg base CX0 4 "_law_value" ["_law_cup_here"] spV) (C6 : Callee P w K mg base CX0 1 "_law_dip" ["_law_cup_here", "_law_many"] spDip) (CS : Callee P w K mg base CX0 1 "_law_same" ["_law_told", "_law_due"] spSame) : FnOk P w K mg base CX0 5 f fd ["_law_cup_here"] (spPart 40) := by
  obtain ⟨f1, fd1, m1, k1, b1, kb1, G1⟩ := C1
  obtain ⟨f2, fd2, m2, k2, b2, G2⟩ := C2
  obtain ⟨f5, fd5, m5, k5, b5, G5⟩ := C5
  obtain ⟨f6, fd6, m6, k6, b6, G6⟩ := C6
  obtain ⟨fS, fdS, mS, kS, bS, GS⟩ := CS
  have nd := scNR.nd
  refine F.ok scNR (fun vs H Q E h => ?_) (fun cdv A outer s H vs Q E hr h => ?_)
  · obtain ⟨p, n, rfl, _⟩ := h
    rfl
  · obtain ⟨p, n, rfl, hv, hn, q⟩ := h
    refine ⟨_, (pss_cons (ps_asg (pe_tup (pa_cons (pe_str) (pa_cons (pe_str) pa_nil))) (pg_tup rfl (pgs_cons ((pg_name (i := 1) nd rfl (Or.inl rfl))) (pgs_cons ((pg_name (i := 2) nd rfl (Or.inl rfl))) pgs_nil)))) (pss_cons ((ps_set (i := 3) nd rfl (Or.inl rfl) ((pe_call G2 (hr.mono (by decide)) rfl m2 k2 b2 .nil pass0 (pa_cons (pv 0) (pa_cons (pe_callTy (call_listS rfl) (by rfl) B.list (by decide +kernel) (pa_cons (pv 1) pa_nil)) pa_nil)))))) (pss_cons (ps_for PassesOwn.never rfl (pi_range1 rfl B.range (pa_cons ((pe_call G6 (hr.mono (by decide)) rfl m6 k6 b6 .nil pass0 (pa_cons (pv 0) (pa_cons (pe_int) pa_nil)))) pa_nil)) (pg_name (i := 4) nd rfl (Or.inl rfl))
        (pss_one ((ps_set (i := 3) nd rfl (Or.inl rfl) (pe_op op_add_str (pv 3) (pe_call G2 (hr.mono (by decide)) rfl m2 k2 b2 .nil pass0 (pa_cons (pv 0) (pa_cons (pe_callTy (call_listS rfl) (by rfl) B.list (by decide +kernel) (pa_cons (pv 2) pa_nil)) pa_nil)))))))) (pss_cons (ps_par (i := 5) (j := 6) rfl nd rfl rfl (by decide) rfl rfl (pa_cons ((pe_call G6 (hr.mono (by decide)) rfl m6 k6 b6 .nil pass0 (pa_cons (pv 0) (pa_cons (pe_op op_add (pe_callB call_len_str (by rfl) B.len PySem.boot_len (pa_cons (pv 3) pa_nil)) pe_int) pa_nil)))) (pa_cons ((pe_call G2 (hr.mono (by decide)) rfl m2 k2 b2 .nil pass0 (pa_cons (pv 0) (pa_cons (pe_lst (pa_cons (pe_str) (pa_cons (pe_str) (pa_cons (pe_str) (pa_cons (pe_str) (pa_cons (pe_str) (pa_cons (pe_str) (pa_cons (pe_str) (pa_cons (pe_str) (pa_cons (pe_str) (pa_cons (pe_str) (pa_cons (pe_str) pa_nil)))))))))))) pa_nil)))) pa_nil)) (by rfl)) (pss_cons (ps_if (PW.pt (pw_or ((pt_not (pt_val (pe_call GS (hr.mono (by decide)) rfl mS kS bS .nil pass0 (pa_cons ((pe_callK0 G1 (hr.mono (by decide)) rfl m1 k1 kb1 pass0 (pk_cons (pv 3) pk_nil))) (pa_cons (pe_bl) pa_nil)))))) (pw_or1 ((pt_not (pt_val (pe_call GS (hr.mono (by decide)) rfl mS kS bS .nil pass0 (pa_cons ((pe_call G1 (hr.mono (by decide)) rfl m1 k1 b1 .nil pass0 (pa_cons (pe_op op_add_str (pe_op op_add_str (pe_slice sl_str (pv 3) po_none (po_some (pv 5))) (pv 6)) (pe_slice sl_str (pv 3) (po_some (pv 5)) po_none)) pa_nil))) (pa_cons (pe_bl) pa_nil))))))))) (pss_one (ps_ret pe_bl)) pss_nil) (pss_cons (ps_if (PW.pt (pw_or ((pt_not (pt_val (pe_call GS (hr.mono (by decide)) rfl mS kS bS .nil pass0 (pa_cons ((pe_call G1 (hr.mono (by decide)) rfl m1 k1 b1 .nil pass0 (pa_cons (pe_op op_add_str pe_str (pe_slice sl_str (pv 3) po_none (po_some pe_int))) pa_nil))) (pa_cons (pe_bl) pa_nil)))))) (pw_or1 ((pt_not (pt_val (pe_call GS (hr.mono (by decide)) rfl mS kS bS .nil pass0 (pa_cons ((pe_call G1 (hr.mono (by decide)) rfl m1 k1 b1 .nil pass0 (pa_cons (pe_op op_add_str (pv 3) (pe_op op_repS pe_str (pe_op op_sub pe_int (pe_callB call_len_str (by rfl) B.len PySem.boot_len (pa_cons (pv 3) pa_nil))))) pa_nil))) (pa_cons (pe_bl) pa_nil))))))))) (pss_one (ps_ret pe_bl)) pss_nil) (pss_one (ps_ret (pe_and ((pe_call GS (hr.mono (by decide)) rfl mS kS bS .nil pass0 (pa_cons ((pe_call G1 (hr.mono (by decide)) rfl m1 k1 b1 .nil pass0 (pa_cons (pe_op op_add_str (pv 3) (pe_op op_repS pe_str (pe_op op_sub pe_int (pe_callB call_len_str (by rfl) B.len PySem.boot_len (pa_cons (pv 3) pa_nil))))) pa_nil))) (pa_cons (pe_bl) pa_nil)))) (pe_and (pe_not (pe_call G1 (hr.mono (by decide)) rfl m1 k1 b1 .nil pass0 (pa_cons (pe_str) pa_nil))) (pe_one (pe_not (pe_call G1 (hr.mono (by decide)) rfl m1 k1 b1 .nil pass0 (pa_cons ((pe_call G5 (hr.mono (by decide)) rfl m5 k5 b5 .nil pass0 (pa_cons (pv 0) pa_nil))) pa_nil)))))))))))))), ?_⟩
    refine ⟨by show 2 ≤ sizeLine; decide, fun t0 n0 => ⟨t0, _, rfl, SqT.of upd_same, rfl, _, _, rfl, _, _, rfl, rfl, ?_⟩⟩
    have s0 := same_new (o := .tup [V.str LET, V.str SGN]) n0
    have v0 := hv.same s0
    have e0 : upd H t0 (.tup [V.str "abcdefghijklmnopqrstuvwxyz", V.str "abcdefghijklmnopqrstuvwxyz0123456789"]) = upd H t0 (.tup [V.str LET, V.str SGN]) := rfl
    rw [e0]
    generalize upd H t0 (.tup [V.str LET, V.str SGN]) = H0 at s0 v0 ⊢
    clear e0
    have pick1 : ∀ {H : Hp} {m : Nat} {Q : VK} {x : Str}, Cup H p m → m < 59999 → x.length ≤ 100 → 0 < x.length → (∀ H' c, SB p H H' → Cup H' p (m + 1) → c ∈ x.cps.toList → Q (.str ⟨#[c]⟩) H') → ∀ l, H l = none → spPick [.ref p, .ref l] (upd H l (.lst (sg x.cps.toList))) Q E0 := fun {H m Q x} v hm hx hx0 k l hl => by
      obtain ⟨_, _, _, e⟩ := v.at
      have hlen : (sg x.cps.toList).length = x.length := by
        unfold sg
        rw [List.length_map, ← str_len]
      refine ⟨p, l, m, sg x.cps.toList, rfl, v.same (same_new hl), by omega, upd_same, (ne_of_none e hl).symm, by omega, by omega, fun H' y s1 v1 hy => ?_⟩
      unfold sg at hy
      obtain ⟨c, hc, rfl⟩ := List.mem_map.mp hy
      exact k H' c ((SB.of (same_new hl)).trans s1) v1 hc
    refine ⟨_, rfl, _, rfl, LET, rfl, by decide, pick1 v0 (by omega) (by decide) (by decide) fun H1 c s1 v1 hc => ?_⟩
    have nm1 : Nm ⟨#[c]⟩ 1 := ⟨c, [], rfl, (let_sg c hc).1, (let_sg c hc).2, rfl, rfl⟩
    have s01 := (SB.of (p := p) s0).trans s1
    refine ⟨_, rfl, p, 12, n + 1, rfl, v1, by omega, by decide, by decide, fun H2 d s2 v2 d0 d1 => ?_⟩
    have s02 := s01.trans s2
    refine ⟨d, rfl, by omega, by omega, ?_⟩
    refine for_range (lo := 0) (n := d.toNat) (fun i σ H' => ∃ (y : Str) (v4 : Option V), σ = [some (.ref p), some (.str LET), some (.str SGN), some (.str y), v4, none, none] ∧ Nm y (1 + i) ∧ SB p H H' ∧ Cup H' p (n + 2 + i))
      ⟨⟨#[c]⟩, none, rfl, nm1, s02, v2⟩ ?_ ?_
    · rintro i σ H3 hi ⟨y, v4, rfl, nmy, s3, v3⟩
      have ly := nmy.len
      refine ⟨_, rfl, _, rfl, _, rfl, SGN, rfl, by decide, pick1 v3 (by omega) (by decide) (by decide) fun H4 c s4 v4 hc => ?_⟩
      refine ⟨_, _, rfl, rfl, ?_, ?_⟩
      · show y.length + 1 ≤ sizeLine
        exact Nat.le_trans (show _ ≤ 100 by omega) (by decide)
      · refine ⟨_, _, rfl, nmy.snoc (y := ⟨#[c]⟩) (m := 1) ?_ rfl, s3.trans s4, v4⟩
        show (isSg c && true) = true
        rw [sgn_sg c hc]
        rfl
    · rintro σ H3 ⟨y, v4, rfl, nmy, s3, v3⟩
      have ly := nmy.len
      have lyy : y.length ≤ sizeLine := Nat.le_trans (show _ ≤ 100 by omega) (by decide)
      refine ⟨_, rfl, _, rfl, y, rfl, lyy, _, _, rfl, rfl, p, _, _, rfl, v3, by omega, by omega, ?_, fun H4 e s4 v4 e0 e1 => ?_⟩
      · exact Nat.lt_of_le_of_lt (show _ ≤ 100 by omega) (by decide)
      refine ⟨_, rfl, by show 11 ≤ sizeLine; decide, fun l hl => ?_⟩
      obtain ⟨_, _, _, hp4⟩ := v4.at
      have sl := same_new (o := .lst [V.str "A", V.str " ", V.str "_", V.str "-", V.str ".", V.str "\n", V.str "Z", V.str "#", V.str "{", V.str "/", V.str ":"]) hl
      refine ⟨p, l, _, _, rfl, v4.same sl, by omega, upd_same, (ne_of_none hp4 hl).symm, by show 0 < 11; decide, by show 11 ≤ 1000; decide, fun H5 x s5 v5 hx => ⟨_, _, rfl, ?_⟩⟩
      obtain ⟨o, c, rfl, ho, hc⟩ : ∃ (o : Str) (c : Nat), x = .str o ∧ o.cps.toList = [c] ∧ isSg c = false := by
        simp only [List.mem_cons, List.not_mem_nil, or_false] at hx
        rcases hx with e | e | e | e | e | e | e | e | e | e | e
        · exact ⟨_, 65, e, by decide +kernel, by decide +kernel⟩
        · exact ⟨_, 32, e, by decide +kernel, by decide +kernel⟩
        · exact ⟨_, 95, e, by decide +kernel, by decide +kernel⟩
        · exact ⟨_, 45, e, by decide +kernel, by decide +kernel⟩
        · exact ⟨_, 46, e, by decide +kernel, by decide +kernel⟩
        · exact ⟨_, 10, e, by decide +kernel, by decide +kernel⟩
        · exact ⟨_, 90, e, by decide +kernel, by decide +kernel⟩
        · exact ⟨_, 35, e, by decide +kernel, by decide +kernel⟩
        · exact ⟨_, 123, e, by decide +kernel, by decide +kernel⟩
        · exact ⟨_, 47, e, by decide +kernel, by decide +kernel⟩
        · exact ⟨_, 58, e, by decide +kernel, by decide +kernel⟩
      have lo : o.length = 1 := by rw [str_len, ho]; rfl
      have s05 := (s3.trans s4).trans ((SB.of sl).trans s5)
      have big : ∀ {k : Nat}, k ≤ 100 → k ≤ sizeLine := fun h => Nat.le_trans h (by decide)
      have lap : ∀ a b : Str, (a ++ b).length = a.length + b.length := fun a b => by rw [str_len, str_app, List.length_append, ← str_len, ← str_len]
      -- the name itself
      refine ⟨_, rfl, _, _, rfl, .str y, (fun x z => by cases z; omega), fun H6 s6 => ?_⟩
      rw [nmy.ok (by omega)]
      refine ⟨_, rfl, _, rfl, iteF ?_⟩
      -- a sign more
      have c1 := cutS_len y none (some e)
      have c2 := cutS_len y (some e) none
      refine ⟨_, rfl, _, rfl, e, rfl, y, rfl, lyy, _, rfl, _, _, rfl, rfl, big (by omega), _, rfl, _, rfl, e, rfl, y, rfl, lyy, _, _, rfl, rfl, big (by rw [lap]; omega), ?_⟩
      refine ⟨_, _, rfl, .str _, (fun x z => by cases z; rw [lap, lap]; omega), fun H7 s7 => ?_⟩
      rw [nm_sign (c := c) (by rw [str_app, str_app, ho]; simp) hc]
      refine ⟨_, rfl, _, rfl, iteF ?_⟩
      -- a figure ahead
      have c3 := cutS_len y none (some 4)
      refine ⟨_, rfl, 4, rfl, y, rfl, lyy, _, _, rfl, rfl, big (by show 1 + _ ≤ 100; omega), ?_⟩
      refine ⟨_, _, rfl, .str _, (fun x z => by cases z; rw [lap]; show 1 + _ ≤ 5000; omega), fun H8 s8 => ?_⟩
      rw [nm_head (c := 52) (cs := (cutS y none (some 4)).cps.toList) (by rw [str_app]; rfl) (by decide +kernel)]
      refine ⟨_, rfl, _, rfl, iteF ?_⟩
      -- too long
      obtain ⟨m1, m2, m3⟩ := zs_mul (n := 13 - (y.length : Int)) (by omega) (by omega)
      refine ⟨_, rfl, _, rfl, y, rfl, lyy, _, _, rfl, rfl, ZS, _, rfl, rfl, m1, _, _, rfl, rfl, big (by rw [m2]; omega), ?_⟩
      refine ⟨_, _, rfl, .str _, (fun x z => by cases z; rw [lap, m2]; omega), fun H9 s9 => ?_⟩
      rw [nm_long (by rw [lap, m2]; omega)]
      refine ⟨_, rfl, _, rfl, iteF ?_⟩
      -- as long as may be
      obtain ⟨m1, m2, m3⟩ := zs_mul (n := 12 - (y.length : Int)) (by omega) (by omega)
      refine ⟨_, rfl, _, rfl, y, rfl, lyy, _, _, rfl, rfl, ZS, _, rfl, rfl, m1, _, _, rfl, rfl, big (by rw [m2]; omega), ?_⟩
      refine ⟨_, _, rfl, .str _, (fun x z => by cases z; rw [lap, m2]; omega), fun H10 s10 => ?_⟩
      rw [(nmy.snoc m3 m2).ok (by omega)]
      refine ⟨_, rfl, _, rfl, iteT ?_⟩
      -- no sign
      refine ⟨_, _, rfl, .str _, (fun x z => by cases z; decide), fun H11 s11 => ?_⟩
      rw [show nmB (.str "") = false by decide +kernel]
      refine ⟨_, rfl, _, rfl, iteT ?_⟩
      have sA := ((s6.trans s7).trans (s8.trans s9)).trans (s10.trans s11)
      refine ⟨_, rfl, p, _, rfl, v5.same sA, by omega, fun H12 z s12 v12 hz => ?_⟩
      obtain ⟨t, k⟩ := hz.now
      refine ⟨_, _, rfl, k, hz.len, fun H13 s13 => ?_⟩
      rw [hz.nm]
      refine ⟨_, rfl, ?_⟩
      exact q _ (s05.trans ((SB.of sA).trans (s12.trans (SB.of s13)))) ((v12.same s13).le (by omega))
end
end K1

namespace K1
open PySem PySem.Spec PyProof.Rows L2
def bad (k : Int) (ns : List Int) : List Int := ns.filter fun n => decide (n.fdiv k * k ≠ n)
def dvB (k : Int) (ns : List Int) : Bool := (bad k ns).isEmpty
theorem bad_take {k : Int} {ns : List Int} {i : Nat} {z : Int} (h : ns[i]? = some z) : bad k (ns.take (i + 1)) = if z.fdiv k * k ≠ z then bad k (ns.take i) ++ [z] else bad k (ns.take i) := by
  rw [take_more h]
  unfold bad
  rw [List.filter_append]
  by_cases hz : z.fdiv k * k = z
  · rw [if_neg (by simpa using hz)]
    simp [hz]
  · rw [if_pos hz]
    simp [hz]
theorem fdiv_dvd {n k : Int} (h : k ≠ 0) : n.fdiv k * k = n ↔ k ∣ n := by
  constructor
  · intro e
    exact ⟨n.fdiv k, by rw [Int.mul_comm]; exact e.symm⟩
  · rintro ⟨c, rfl⟩
    rw [Int.mul_fdiv_cancel_left c h, Int.mul_comm]
theorem dvB_iff {k : Int} {ns : List Int} (h : k ≠ 0) : dvB k ns = true ↔ ∀ n ∈ ns, k ∣ n := by
  unfold dvB bad
  rw [List.isEmpty_iff, List.filter_eq_nil_iff]
  constructor
  · intro e n hn
    have := e n hn
    rw [decide_eq_true_eq] at this
    exact (fdiv_dvd h).mp (Classical.byContradiction this)
  · intro e n hn
    rw [decide_eq_true_eq]
    intro z
    exact z ((fdiv_dvd h).mpr (e n hn))
theorem dp_ints {K : PySem.W.Frag} {H : Hp} : ∀ ns : List Int, DpAll K H (ns.map V.int) (ns.map PyData.int)
  | [] => .nil
  | n :: ns => .cons (.int n) (dp_ints ns)
/-- what divides all of some, of 1 to m -/
def divs (ns : List Int) (m : Nat) : List Int := ((List.range m).map fun j : Nat => (1 + (j : Int))).filter (dvB · ns)
theorem divs_more {ns : List Int} {m : Nat} : divs ns (m + 1) = if dvB (1 + (m : Int)) ns = true then divs ns m ++ [1 + (m : Int)] else divs ns m := by
  unfold divs
  rw [List.range_succ, List.map_append, List.filter_append]
  cases e : dvB (1 + (m : Int)) ns with
  | true =>
    rw [if_pos rfl]
    simp [e]
  | false =>
    rw [if_neg (by simp)]
    simp [e]
theorem divs_len {ns : List Int} {m : Nat} : (divs ns m).length ≤ m := by
  unfold divs
  refine Nat.le_trans (List.length_filter_le _ _) ?_
  rw [List.length_map, List.length_range]
  exact Nat.le_refl _
theorem mem_divs {ns : List Int} {m : Nat} {k : Int} : k ∈ divs ns m ↔ 1 ≤ k ∧ k ≤ m ∧ ∀ n ∈ ns, k ∣ n := by
  unfold divs
  rw [List.mem_filter, List.mem_map]
  constructor
  · rintro ⟨⟨j, hj, rfl⟩, h⟩
    have := List.mem_range.mp hj
    exact ⟨by omega, by omega, (dvB_iff (by omega)).mp h⟩
  · rintro ⟨h1, h2, h⟩
    exact ⟨⟨(k - 1).toNat, List.mem_range.mpr (by omega), (by show 1 + (((k - 1).toNat : Nat) : Int) = k; omega)⟩, (dvB_iff (by omega)).mpr h⟩
/-- the greatest that divides all -/
theorem measure_eq {ns : List Int} {M m : Int} (h1 : M ∈ ns.map (fun n => if n < 0 then -n else n) ++ [0]) (h2 : ∀ x ∈ ns.map (fun n => if n < 0 then -n else n) ++ [0], x ≤ M) (h3 : m ∈ divs ns M.toNat ++ [0]) (h4 : ∀ x ∈ divs ns M.toNat ++ [0], x ≤ m) : m = (gcdL ns : Nat) := by
  have m0 : 0 ≤ m := h4 0 (by simp)
  have M0 : 0 ≤ M := h2 0 (by simp)
  have le : m ≤ (gcdL ns : Nat) := by
    rcases List.mem_append.mp h3 with h | h
    · obtain ⟨a, b, c⟩ := mem_divs.mp h
      have d : m.toNat ∣ gcdL ns := dvd_gcdL fun n hn => by
        have := c n hn
        rw [← Int.natAbs_dvd_natAbs] at this
        rw [show m.toNat = m.natAbs by omega]
        exact this
      by_cases g : gcdL ns = 0
      · have z := gcdL_zero.mp g
        have : M ≤ 0 := by
          rcases List.mem_append.mp h1 with h | h
          · obtain ⟨n, hn, e⟩ := List.mem_map.mp h
            rw [z n hn] at e
            simp at e
            omega
          · rw [List.mem_singleton.mp h]
            omega
        omega
      · have := Nat.le_of_dvd (by omega) d
        omega
    · rw [List.mem_singleton.mp h]
      omega
  have ge : ((gcdL ns : Nat) : Int) ≤ m := by
    by_cases g : gcdL ns = 0
    · rw [g]
      exact m0
    · obtain ⟨z, r, _, z0, hz⟩ := nz_ne g
      refine h4 _ (List.mem_append_left _ (mem_divs.mpr ⟨by omega, ?_, fun n hn => Int.ofNat_dvd_left.mpr (gcdL_dvd hn)⟩))
      have d := Nat.le_of_dvd (Int.natAbs_pos.mpr z0) (gcdL_dvd hz)
      have := h2 (if z < 0 then -z else z) (List.mem_append_left _ (List.mem_map.mpr ⟨z, hz, rfl⟩))
      split at this <;> omega
  omega
section
variable {P : Program} {w : World} {K : PySem.W.Frag} {mg : Str → Option Value} {base : Heap} {C : Addr}
/-! ### _law_divides -/
def spDv : Sp := fun vs H Q _ => ∃ (k : Int) (a : Addr) (ns : List Int), vs = [.int k, .ref a] ∧ 0 < k ∧ k ≤ 1000 ∧ H a = some (.lst (ns.map V.int)) ∧ ns.length ≤ 100 ∧ RB (dvB k ns) H Q
abbrev sDv : Stmt := top 28
abbrev nDv : List Str := ["_law_part_here", "_law_numbers", "_law_number"]
theorem scDv : FnScope nDv ["_law_part_here", "_law_numbers"] (defScope sDv) := ⟨rfl, rfl, rfl, by decide +kernel, rfl, by decide +kernel, by decide +kernel⟩
theorem ok_dv {f : Addr} {fd : FuncData} (F : Fun K "_law_divides" "_law_divides" sDv f fd) (B : Bn mg) : FnOk P w K mg base CX0 1 f fd ["_law_part_here", "_law_numbers"] spDv := by
  have nd := scDv.nd
  refine F.ok scDv (fun vs H Q E h => ?_) (fun cdv A outer s H vs Q E hr h => ?_)
  · obtain ⟨k, a, ns, rfl, _⟩ := h
    rfl
  · obtain ⟨k, a, ns, rfl, k0, k1, ha, hl, q⟩ := h
    refine ⟨_, pss_one (ps_ret (pe_cmpR (op_eqD hr.units) (pe_lc (own := [("_law_number", 2)]) (g := gName 2) rfl nd (pi_list (pv 1)) (blkOk_by (N := nDv) (sc := defScope sDv) (by decide +kernel)) (fun _ _ _ _ _ => pg_name (i := 2) nd rfl (Or.inl rfl)) (fun _ _ _ _ _ => pts_one (pt_cmpR op_ne (pe_op op_mul (pe_op op_fdivWN (pv 2) (pv 0)) (pv 0)) (pv 2) (nomark _))) (fun _ _ _ _ _ => pv 2)) (pe_lst pa_nil) (nomark _))), ?_⟩
    refine ⟨_, rfl, a, rfl, ⟨_, SqL.of ha⟩, fun D hD => ?_⟩
    refine lc_list (K := K) (a := a) (xs := ns.map V.int) (fun i H' => Same H H' ∧ H' D = some (.lst ((bad k (ns.take i)).map V.int))) ⟨same_new hD, upd_same⟩ (fun i H' _ p => SqL.of (p.1 _ _ ha)) (fun i x H' hx p => ?_) (fun H2 p2 => ?_)
    · obtain ⟨z, hzi, rfl⟩ := get_ints hx
      refine ⟨rfl, _, rfl, _, rfl, _, _, rfl, rfl, cdiv_of (b := 64) (by omega) (by omega) (by decide) (by decide), _, rfl, _, _, rfl, rfl, .inr ⟨by omega, by omega⟩, _, rfl, rfl, _, rfl, ?_⟩
      by_cases z0 : z.fdiv k * k = z
      · rw [decide_eq_true (show (fun i j => V.int (i * j)) (z.fdiv k) k = V.int z from congrArg V.int z0)]
        refine iteF ⟨p.1, ?_⟩
        rw [bad_take hzi, if_neg (by simpa using z0)]
        exact p.2
      · rw [decide_eq_false (fun e => z0 (V.int.inj e))]
        refine iteT ⟨_, rfl, _, p.2, small1000 ?_, ?_, ?_⟩
        · rw [List.length_map]
          have := List.length_filter_le (fun n => decide (n.fdiv k * k ≠ n)) (ns.take i)
          rw [List.length_take] at this
          unfold bad
          omega
        · intro b o eb
          rw [upd_ne (ne_of_none eb hD)]
          exact p.1 b o eb
        · rw [upd_same, bad_take hzi, if_pos z0, List.map_append]
          rfl
    · obtain ⟨s2, hD2⟩ := p2
      rw [List.length_map, List.take_length] at hD2
      refine ⟨Nat.zero_le _, fun l hl' => ?_⟩
      have s3 := same_new (o := .lst []) hl'
      refine ⟨.list ((bad k ns).map PyData.int), .list [], .lst (SqL.of (s3 _ _ hD2)) (dp_ints _), .lst (SqL.of upd_same) .nil, PySem.W.ke_shaped_ints _, by decide, ?_⟩
      have e : PyData.eqv (.list ((bad k ns).map PyData.int)) (.list []) = dvB k ns := by
        unfold dvB
        cases bad k ns <;> rfl
      rw [e]
      exact q _ (s2.trans s3)
/-! ### _law_measure -/
def spMe : Sp := fun vs H Q _ => ∃ (a : Addr) (ns : List Int), vs = [.ref a] ∧ H a = some (.lst (ns.map V.int)) ∧ ns.length ≤ 100 ∧ (∀ n ∈ ns, n.natAbs ≤ 900) ∧ RI (gcdL ns : Nat) H Q
abbrev sMe : Stmt := top 29
abbrev nMe : List Str := ["_law_numbers", "_law_most", "_law_number", "_law_part_here"]
theorem scMe : FnScope nMe ["_law_numbers"] (defScope sMe) := ⟨rfl, rfl, rfl, by decide +kernel, rfl, by decide +kernel, by decide +kernel⟩
theorem ok_me {f : Addr} {fd : FuncData} (F : Fun K "_law_measure" "_law_measure" sMe f fd) (B : Bn mg) (C1 : Callee P w K mg base CX0 1 "_law_divides" ["_law_part_here", "_law_numbers"] spDv) : FnOk P w K mg base CX0 2 f fd ["_law_numbers"] spMe := by
  obtain ⟨f1, fd1, m1, k1, b1, G1⟩ := C1
  have nd := scMe.nd
  refine F.ok scMe (fun vs H Q E h => ?_) (fun cdv A outer s H vs Q E hr h => ?_)
  · obtain ⟨a, ns, rfl, _⟩ := h
    rfl
  · obtain ⟨a, ns, rfl, ha, hl, hb, q⟩ := h
    refine ⟨_, (pss_cons ((ps_set (i := 1) nd rfl (Or.inl rfl) ((pe_callB (cr_max rfl) (by rfl) B.max (by decide +kernel) (pa_cons (pe_op op_cat (pe_lc (own := [("_law_number", 2)]) (g := gName 2) (tt := tYes) rfl nd (pi_list (pv 0)) (blkOk_by (N := nMe) (sc := defScope sMe) (by decide +kernel)) (fun _ _ _ _ _ => pg_name (i := 2) nd rfl (Or.inl rfl)) (fun _ _ _ _ _ => pts_nil) (fun _ _ _ _ _ => (pe_callB call_abs (by rfl) B.abs (by decide +kernel) (pa_cons (pv 2) pa_nil)))) (pe_lst (pa_cons (pe_int) pa_nil))) pa_nil))))) (pss_one (ps_ret (pe_callB (cr_max rfl) (by rfl) B.max (by decide +kernel) (pa_cons (pe_op op_cat (pe_lc (own := [("_law_part_here", 3)]) (g := gName 3) rfl nd (pi_range2 rfl B.range (pa_cons (pe_int) (pa_cons (pe_op op_add (pv 1) pe_int) pa_nil))) (blkOk_by (N := nMe) (sc := defScope sMe) (by decide +kernel)) (fun _ _ _ _ _ => pg_name (i := 3) nd rfl (Or.inl rfl)) (fun _ _ _ _ _ => pts_one (pt_val (pe_call G1 (hr.mono (by decide)) rfl m1 k1 b1 .nil pass0 (pa_cons (pv 3) (pa_cons (pv 0) pa_nil))))) (fun _ _ _ _ _ => pv 3)) (pe_lst (pa_cons (pe_int) pa_nil))) pa_nil))))), ?_⟩
    let ab : Int → Int := fun n => if n < 0 then -n else n
    refine ⟨_, rfl, a, rfl, ⟨_, SqL.of ha⟩, fun D hD => ?_⟩
    refine lc_list (K := K) (a := a) (xs := ns.map V.int) (fun i H' => Same H H' ∧ H' D = some (.lst (((ns.take i).map ab).map V.int))) ⟨same_new hD, upd_same⟩ (fun i H' _ p => SqL.of (p.1 _ _ ha)) (fun i x H' hx p => ?_) (fun H2 p2 => ?_)
    · obtain ⟨z, hzi, rfl⟩ := get_ints hx
      refine ⟨rfl, yes_of ?_⟩
      refine ⟨_, rfl, z, rfl, _, p.2, small1000 ?_, ?_, ?_⟩
      · rw [List.length_map, List.length_map, List.length_take]
        omega
      · intro b o eb
        rw [upd_ne (ne_of_none eb hD)]
        exact p.1 b o eb
      · rw [upd_same, take_more hzi, List.map_append, List.map_append]
        rfl
    · obtain ⟨s2, hD2⟩ := p2
      rw [List.length_map, List.take_length] at hD2
      refine ⟨by show 1 ≤ sizeLine; decide, fun l hl' => ?_⟩
      have s3 := same_new (o := .lst [V.int 0]) hl'
      refine ⟨D, l, _, _, rfl, rfl, s3 _ _ hD2, upd_same, ?_, fun l2 hl2 => ?_⟩
      · rw [List.length_map, List.length_map]
        exact Nat.le_trans (show _ ≤ 101 by show ns.length + 1 ≤ 101; omega) (by decide)
      have e1 : (ns.map ab).map V.int ++ [V.int 0] = (ns.map ab ++ [0]).map V.int := by rw [List.map_append]; rfl
      rw [e1]
      have s4 := same_new (o := .lst ((ns.map ab ++ [0]).map V.int)) hl2
      refine ⟨l2, _, rfl, SqL.of upd_same, by rw [List.length_append]; exact Nat.succ_pos _, fun M hM hM2 => ?_⟩
      have sA := (s2.trans s3).trans s4
      generalize upd (upd H2 l (.lst [V.int 0])) l2 (.lst ((ns.map ab ++ [0]).map V.int)) = H4 at sA
      have M0 : 0 ≤ M := hM2 0 (by simp)
      have M1 : M ≤ 900 := by
        rcases List.mem_append.mp hM with h | h
        · obtain ⟨n, hn, rfl⟩ := List.mem_map.mp h
          have := hb n hn
          show (if n < 0 then -n else n) ≤ 900
          split <;> omega
        · rw [List.mem_singleton.mp h]
          omega
      refine ⟨_, rfl, _, _, rfl, rfl, 1, M + 1, rfl, ⟨by decide, by decide, by omega, by omega⟩, fun D2 hD2 => ?_⟩
      have en : (M + 1 - 1).toNat = M.toNat := by congr 1; omega
      rw [en]
      refine lc_range (lo := 1) (n := M.toNat) (fun i H' => Same H4 H' ∧ H' D2 = some (.lst ((divs ns i).map V.int))) ⟨same_new hD2, upd_same⟩ (fun i H' hi p => ?_) (fun H5 p5 => ?_)
      · refine ⟨rfl, _, rfl, _, rfl, 1 + (i : Int), a, ns, rfl, by omega, by omega, p.1 _ _ (sA _ _ ha), hl, fun H6 s6 => ⟨_, rfl, ?_⟩⟩
        cases e : dvB (1 + (i : Int)) ns with
        | true =>
          refine iteT ⟨_, rfl, _, s6 _ _ p.2, small1000 ?_, ?_, ?_⟩
          · rw [List.length_map]
            have := divs_len (ns := ns) (m := i)
            omega
          · intro b o eb
            rw [upd_ne (ne_of_none eb hD2)]
            exact s6 _ _ (p.1 b o eb)
          · rw [upd_same, divs_more, if_pos e, List.map_append]
            rfl
        | false =>
          refine iteF ⟨p.1.trans s6, ?_⟩
          rw [divs_more, if_neg (by rw [e]; exact Bool.false_ne_true)]
          exact s6 _ _ p.2
      · obtain ⟨s5, hD5⟩ := p5
        refine ⟨by show 1 ≤ sizeLine; decide, fun l3 hl3 => ?_⟩
        have s6 := same_new (o := .lst [V.int 0]) hl3
        refine ⟨D2, l3, _, _, rfl, rfl, s6 _ _ hD5, upd_same, ?_, fun l4 hl4 => ?_⟩
        · rw [List.length_map]
          have := divs_len (ns := ns) (m := M.toNat)
          exact Nat.le_trans (show _ ≤ 1000 by show _ + 1 ≤ 1000; omega) (by decide)
        have e2 : (divs ns M.toNat).map V.int ++ [V.int 0] = (divs ns M.toNat ++ [0]).map V.int := by rw [List.map_append]; rfl
        rw [e2]
        have s7 := same_new (o := .lst ((divs ns M.toNat ++ [0]).map V.int)) hl4
        refine ⟨l4, _, rfl, SqL.of upd_same, by rw [List.length_append]; exact Nat.succ_pos _, fun m hm hm2 => ?_⟩
        rw [measure_eq hM hM2 hm hm2]
        exact q _ (sA.trans ((s5.trans s6).trans s7))
end
end K1

namespace K1
open PySem PySem.Spec PyProof.Rows L2
theorem tNext_eq {D : Ends} {σ : L2.St} {H : Hp} : tNext D σ H = D.nx σ H := rfl
theorem and_join {ta tb : TE} {g : TG} {u : TS} {D : Ends} {σ : L2.St} {H : Hp} {P : V → Hp → Prop} (rest : ∀ v H', P v H' → g v σ H' (u D)) (h : (∀ v H', P v H' → g v σ H' (u D)) → tSeq (tAsg (tAndV ta tb) g) u D σ H) : tSeq (tAsg (tAndV ta tb) g) u D σ H := h rest
theorem if_join {tb : TT} {t1 t2 : TS} {u : TS} {D : Ends} {σ : L2.St} {H : Hp} {P : L2.St → Hp → Prop} (rest : ∀ σ' H', P σ' H' → u D σ' H') (h : (∀ σ' H', P σ' H' → u D σ' H') → tSeq (tIfS tb t1 t2) u D σ H) : tSeq (tIfS tb t1 t2) u D σ H := h rest
/-- no ratio, whatever the cup becomes -/
def Bad (p : Addr) (H : Hp) (v : V) : Prop := ∃ o, ratB o = false ∧ ∀ H', Kp p H H' → Jg H' v o
section
variable {p a : Addr} {H H' : Hp} {v : V} {xs : List V}
theorem Bad.kp (b : Bad p H v) (k : Kp p H H') : Bad p H' v := let ⟨o, e, h⟩ := b; ⟨o, e, fun H2 k2 => h H2 (k.trans k2)⟩
theorem bad_scal {t : String} (k : ∀ H', Kd H' v t) (e : seqT t = false) : Bad p H v := ⟨none, rfl, fun H' _ => ⟨t, k H', e⟩⟩
theorem bad_tup (n : a ≠ p) (h : H a = some (.tup xs)) (hk : ∀ H', AllKd H' xs) (hl : xs.length ≤ 100) (e : ratB (some xs) = false) : Bad p H (.ref a) := ⟨some xs, e, fun H' k => ⟨a, rfl, .inr (k.tup n h), hk H', hl⟩⟩
theorem bad_dK {kvs : List (Key × V)} (n : a ≠ p) (h : H a = some (.dK kvs)) : Bad p H (.ref a) := ⟨none, rfl, fun H' k => ⟨_, .dK (k.dK n h), rfl⟩⟩
theorem kd1 {H : Hp} {xs : List V} (h : ∀ x ∈ xs, ∃ t, ∀ H, Kd H x t) : AllKd H xs := fun x hx => let ⟨t, k⟩ := h x hx; ⟨t, k H⟩
theorem kd2 {a b : Int} : AllKd H [V.int a, V.int b] := fun x hx => by
  simp only [List.mem_cons, List.not_mem_nil, or_false] at hx
  rcases hx with e | e
  · exact ⟨_, by rw [e]; exact .int _⟩
  · exact ⟨_, by rw [e]; exact .int _⟩
theorem jg_t {a b : Int} {t : Addr} (h : H t = some (.tup [.int a, .int b])) : Jg H (.ref t) (some [.int a, .int b]) := ⟨t, rfl, .inr h, kd2, by show 2 ≤ 100; decide⟩
theorem jg_l {a b : Int} {t : Addr} (h : H t = some (.lst [.int a, .int b])) : Jg H (.ref t) (some [.int a, .int b]) := ⟨t, rfl, .inl h, kd2, by show 2 ≤ 100; decide⟩
end
theorem gcdL_two (a b : Int) : gcdL [a, b] = gcdI a b := by
  show Nat.gcd (Nat.gcd 0 a.natAbs) b.natAbs = Nat.gcd a.natAbs b.natAbs
  rw [Nat.gcd_zero_left]
theorem prod_lt {a b : Int} (h1 : a.natAbs ≤ 20) (h2 : b.natAbs ≤ 30) : (a * b).natAbs ≤ 600 := by
  rw [Int.natAbs_mul]
  exact Nat.mul_le_mul h1 h2
section
variable {P : Program} {w : World} {K : PySem.W.Frag} {mg : Str → Option Value} {base : Heap} {C : Addr}
/-! ### _law_ratios_right -/
abbrev sRR : Stmt := top 31
abbrev nRR : List Str := ["_law_cup_here", "_law_shared", "_law_one", "_law_other", "_law_due", "_law_told", "_law_odd"]
theorem scRR : FnScope nRR ["_law_cup_here"] (defScope sRR) := ⟨rfl, rfl, rfl, by decide +kernel, rfl, by decide +kernel, by decide +kernel⟩
theorem ok_rr {f : Addr} {fd : FuncData} (F : Fun K "_law_ratios_right" "_law_ratios_right" sRR f fd) (B : Bn mg) (C1 : CalleeK P w K mg base CX0 3 "is_ratio" ["value"] ["value"] gKw gKw spRat) (C2 : Callee P w K mg base CX0 2 "_law_pick" ["_law_cup_here", "_law_some"] spPick)
    (C3 : CalleeK P w K mg base (L2.CX P w) 3 "lowest" ["number", "by"] ["number", "by"] gKw gKw (spLow C)) (C4 : Callee P w K mg base CX0 2 "_law_measure" ["_law_numbers"] spMe) (C6 : Callee P w K mg base CX0 1 "_law_dip" ["_law_cup_here", "_law_many"] spDip) (CS : Callee P w K mg base CX0 1 "_law_same" ["_law_told", "_law_due"] spSame) : FnOk P w K mg base CX0 5 f fd ["_law_cup_here"] (spPart 40) := by
  obtain ⟨f1, fd1, m1, k1, b1, kb1, G1⟩ := C1
  obtain ⟨f2, fd2, m2, k2, b2, G2⟩ := C2
  obtain ⟨f3, fd3, m3, k3, b3, kb3, G3⟩ := C3
  obtain ⟨f4, fd4, m4, k4, b4, G4⟩ := C4
  obtain ⟨f6, fd6, m6, k6, b6, G6⟩ := C6
  obtain ⟨fS, fdS, mS, kS, bS, GS⟩ := CS
  have nd := scRR.nd
  refine F.ok scRR (fun vs H Q E h => ?_) (fun cdv A outer s H vs Q E hr h => ?_)
  · obtain ⟨p, n, rfl, _⟩ := h
    rfl
  · obtain ⟨p, n, rfl, hv, hn, q⟩ := h
    refine ⟨_, (pss_cons (ps_par3 (i := 1) (j := 2) (l := 3) rfl nd rfl rfl rfl (by decide) (by decide) (by decide) rfl rfl rfl (pa_cons ((pe_call G6 (hr.mono (by decide)) rfl m6 k6 b6 .nil pass0 (pa_cons (pv 0) (pa_cons (pe_int) pa_nil)))) (pa_cons (pe_op op_sub (pe_call G6 (hr.mono (by decide)) rfl m6 k6 b6 .nil pass0 (pa_cons (pv 0) (pa_cons (pe_int) pa_nil))) pe_int) (pa_cons (pe_op op_sub (pe_call G6 (hr.mono (by decide)) rfl m6 k6 b6 .nil pass0 (pa_cons (pv 0) (pa_cons (pe_int) pa_nil))) pe_int) pa_nil))) (by rfl)) (pss_cons (ps_par (i := 2) (j := 3) rfl nd rfl rfl (by decide) rfl rfl (pa_cons (pe_op op_mul (pv 2) (pv 1)) (pa_cons (pe_op op_mul (pv 3) (pv 1)) pa_nil)) (by rfl)) (pss_cons ((ps_set (i := 4) nd rfl (Or.inl rfl) ((pe_and (pe_cmpR op_gt (pv 3) pe_int (nomark _)) (pe_one ((pe_cmpR op_eq ((pe_call G4 (hr.mono (by decide)) rfl m4 k4 b4 .nil pass0 (pa_cons (pe_lst (pa_cons (pv 2) (pa_cons (pv 3) pa_nil))) pa_nil))) (pe_int) (nomark _)))))))) (pss_cons (ps_if (PW.pt (pw_or ((pt_not (pt_val (pe_call GS (hr.mono (by decide)) rfl mS kS bS .nil pass0 (pa_cons ((pe_call G1 (hr.mono (by decide)) rfl m1 k1 b1 .nil pass0 (pa_cons (pe_tup (pa_cons (pv 2) (pa_cons (pv 3) pa_nil))) pa_nil))) (pa_cons (pv 4) pa_nil)))))) (pw_or1 ((pt_not (pt_val (pe_call GS (hr.mono (by decide)) rfl mS kS bS .nil pass0 (pa_cons ((pe_callK0 G1 (hr.mono (by decide)) rfl m1 k1 kb1 pass0 (pk_cons (pe_lst (pa_cons (pv 2) (pa_cons (pv 3) pa_nil))) pk_nil))) (pa_cons (pv 4) pa_nil))))))))) (pss_one (ps_ret pe_bl)) pss_nil) (pss_cons (ps_if (pt_cmpR op_ne (pv 3) (pe_int) (nomark _))
        (pss_cons ((ps_set (i := 5) nd rfl (Or.inl rfl) ((pe_callK0 (E := E0) G3 (hr.mono (by decide)) rfl m3 k3 kb3 passL (pk_cons (pv 2) (pk_cons (pv 3) pk_nil)))))) (pss_one (ps_if (PW.pt (pw_or (pt_not (pt_val (pe_callB (r := rIsi K) call_isi (by rfl) B.isinstance boot_isinstance (pa_cons (pv 5) (pa_cons (pe_bltn (v := .ty "tuple") (by rfl) B.tuple (by decide +kernel) rfl) pa_nil))))) (pw_or (pt_not (pt_val (pe_call G1 (hr.mono (by decide)) rfl m1 k1 b1 .nil pass0 (pa_cons (pv 5) pa_nil)))) (pw_or1 ((pt_cmpR op_ne (pe_op op_mul (pe_ix ix_tup (pv 5) (pe_int) (fun _ _ => rfl)) (pv 3)) (pe_op op_mul (pe_ix ix_tup (pv 5) (pe_int) (fun _ _ => rfl)) (pv 2)) (nomark _))))))) (pss_one (ps_ret pe_bl)) pss_nil))) pss_nil) (pss_cons ((ps_set (i := 6) nd rfl (Or.inl rfl) ((pe_call G2 (hr.mono (by decide)) rfl m2 k2 b2 .nil pass0 (pa_cons (pv 0) (pa_cons (pe_lst (pa_cons (pe_tup (pa_cons (pe_int) (pa_cons (pe_bl) pa_nil))) (pa_cons (pe_tup (pa_cons (pe_bl) (pa_cons (pe_int) pa_nil))) (pa_cons (pe_tup (pa_cons (pe_int) pa_nil)) (pa_cons (pe_tup (pa_cons (pe_int) (pa_cons (pe_int) (pa_cons (pe_int) pa_nil)))) (pa_cons (pe_str) (pa_cons (pe_non) (pa_cons (pe_tup (pa_cons (pe_int) (pa_cons (pe_int) pa_nil))) (pa_cons (pe_tup (pa_cons (pe_int) (pa_cons (pe_int) pa_nil))) (pa_cons (pe_tup (pa_cons (pe_int) (pa_cons (pe_un un_neg pe_int) pa_nil))) (pa_cons (pe_disp (pps_cons pe_int pe_int pps_nil) (by rfl) (by rfl) (fun z => by cases z) (by decide)) (pa_cons (pe_tup (pa_cons (pe_int) (pa_cons (pe_non) pa_nil))) (pa_cons (pe_tup pa_nil) pa_nil))))))))))))) pa_nil)))))) (pss_one (ps_ret (pe_and ((pe_call GS (hr.mono (by decide)) rfl mS kS bS .nil pass0 (pa_cons ((pe_call G1 (hr.mono (by decide)) rfl m1 k1 b1 .nil pass0 (pa_cons (pv 6) pa_nil))) (pa_cons (pe_bl) pa_nil)))) (pe_and ((pe_call G1 (hr.mono (by decide)) rfl m1 k1 b1 .nil pass0 (pa_cons (pe_tup (pa_cons (pe_int) (pa_cons (pe_int) pa_nil))) pa_nil))) (pe_one ((pe_call G1 (hr.mono (by decide)) rfl m1 k1 b1 .nil pass0 (pa_cons (pe_tup (pa_cons (pe_un un_neg pe_int) (pa_cons (pe_op op_pow pe_int pe_int) pa_nil))) pa_nil)))))))))))))), ?_⟩
    refine ⟨_, rfl, p, 30, n, rfl, hv, by omega, by decide, by decide, fun H1 d1 s1 v1 a10 a11 => ?_⟩
    refine ⟨_, rfl, p, 41, n + 1, rfl, v1, by omega, by decide, by decide, fun H2 d2 s2 v2 a20 a21 => ⟨_, _, rfl, rfl, ?_⟩⟩
    refine ⟨_, rfl, p, 41, n + 2, rfl, v2, by omega, by decide, by decide, fun H3 d3 s3 v3 a30 a31 => ⟨_, _, rfl, rfl, _, _, _, rfl, ?_⟩⟩
    have s03 := (s1.trans s2).trans s3
    have bx := prod_lt (a := d2 - 20) (b := d1) (by omega) (by omega)
    have by_ := prod_lt (a := d3 - 20) (b := d1) (by omega) (by omega)
    refine ⟨_, rfl, _, rfl, _, _, rfl, rfl, .inl ⟨by omega, by omega⟩, _, rfl, _, rfl, _, _, rfl, rfl, .inl ⟨by omega, by omega⟩, V.int ((d2 - 20) * d1), V.int ((d3 - 20) * d1), rfl, ?_⟩
    generalize (d2 - 20) * d1 = x at bx ⊢
    generalize (d3 - 20) * d1 = y at by_ ⊢
    dsimp only
    refine and_join (P := fun v H' => v = .bl (decide (0 < y) && decide (gcdI x y = 1)) ∧ Same H3 H') ?_ (fun rest => ?_)
    · rintro v H4 ⟨rfl, s4⟩
      refine ⟨_, rfl, _, rfl, by show 2 ≤ sizeLine; decide, fun t0 n0 => ?_⟩
      have s5 := same_new (o := .tup [V.int x, V.int y]) n0
      have g5 : upd H4 t0 (.tup [V.int x, V.int y]) t0 = some (.tup [V.int x, V.int y]) := upd_same
      refine ⟨_, some [V.int x, V.int y], rfl, jg_t g5, fun H6 s6 => ?_⟩
      refine ⟨_, rfl, _, rfl, _, rfl, iteF ?_⟩
      refine ⟨_, rfl, _, rfl, by show 2 ≤ sizeLine; decide, fun l0 m0 => ?_⟩
      have s7 := same_new (o := .lst [V.int x, V.int y]) m0
      refine ⟨_, some [V.int x, V.int y], rfl, jg_l upd_same, fun H8 s8 => ?_⟩
      refine ⟨_, rfl, _, rfl, _, rfl, iteF ?_⟩
      have s38 := (s4.trans s5).trans (s6.trans (s7.trans s8))
      have v8 := v3.same s38
      have s08 := s03.trans (SB.of s38)
      clear s4 s5 s6 s7 s8 g5 n0 m0
      rw [tNext_eq]
      dsimp only
      refine if_join (P := fun σ' H' => Same H8 H' ∧ ∃ v5, σ' = [some (.ref p), some (.int d1), some (.int x), some (.int y), some (.bl (decide (0 < y) && decide (gcdI x y = 1))), v5, none]) ?_ (fun rest => ?_)
      · rintro σ' H9 ⟨s9, v5, rfl⟩
        have v9 := v8.same s9
        have s09 := s08.trans (SB.of s9)
        obtain ⟨c1, c2, c3, hp0⟩ := v9.at
        refine ⟨_, rfl, ?_⟩
        refine ⟨by show 2 ≤ sizeLine; decide, fun t1 n1 => ?_⟩
        have s1 := same_new (o := .tup [V.int 1, V.bl true]) n1
        have g1 : upd H9 t1 (.tup [V.int 1, V.bl true]) t1 = some (.tup [V.int 1, V.bl true]) := upd_same
        have np1 : t1 ≠ p := (ne_of_none hp0 n1).symm
        have hp1 := s1 _ _ hp0
        generalize upd H9 t1 (.tup [V.int 1, V.bl true]) = J1 at s1 g1 hp1 ⊢
        refine ⟨by show 2 ≤ sizeLine; decide, fun t2 n2 => ?_⟩
        have s2 := same_new (o := .tup [V.bl false, V.int 1]) n2
        have g2 : upd J1 t2 (.tup [V.bl false, V.int 1]) t2 = some (.tup [V.bl false, V.int 1]) := upd_same
        have np2 : t2 ≠ p := (ne_of_none hp1 n2).symm
        have hp2 := s2 _ _ hp1
        generalize upd J1 t2 (.tup [V.bl false, V.int 1]) = J2 at s2 g2 hp2 ⊢
        refine ⟨by show 1 ≤ sizeLine; decide, fun t3 n3 => ?_⟩
        have s3 := same_new (o := .tup [V.int 1]) n3
        have g3 : upd J2 t3 (.tup [V.int 1]) t3 = some (.tup [V.int 1]) := upd_same
        have np3 : t3 ≠ p := (ne_of_none hp2 n3).symm
        have hp3 := s3 _ _ hp2
        generalize upd J2 t3 (.tup [V.int 1]) = J3 at s3 g3 hp3 ⊢
        refine ⟨by show 3 ≤ sizeLine; decide, fun t4 n4 => ?_⟩
        have s4 := same_new (o := .tup [V.int 1, V.int 2, V.int 3]) n4
        have g4 : upd J3 t4 (.tup [V.int 1, V.int 2, V.int 3]) t4 = some (.tup [V.int 1, V.int 2, V.int 3]) := upd_same
        have np4 : t4 ≠ p := (ne_of_none hp3 n4).symm
        have hp4 := s4 _ _ hp3
        generalize upd J3 t4 (.tup [V.int 1, V.int 2, V.int 3]) = J4 at s4 g4 hp4 ⊢
        refine ⟨by show 2 ≤ sizeLine; decide, fun t5 n5 => ?_⟩
        have s5 := same_new (o := .tup [V.int 1, V.int 0]) n5
        have g5 : upd J4 t5 (.tup [V.int 1, V.int 0]) t5 = some (.tup [V.int 1, V.int 0]) := upd_same
        have np5 : t5 ≠ p := (ne_of_none hp4 n5).symm
        have hp5 := s5 _ _ hp4
        generalize upd J4 t5 (.tup [V.int 1, V.int 0]) = J5 at s5 g5 hp5 ⊢
        refine ⟨by show 2 ≤ sizeLine; decide, fun t6 n6 => ?_⟩
        have s6 := same_new (o := .tup [V.int 0, V.int 2]) n6
        have g6 : upd J5 t6 (.tup [V.int 0, V.int 2]) t6 = some (.tup [V.int 0, V.int 2]) := upd_same
        have np6 : t6 ≠ p := (ne_of_none hp5 n6).symm
        have hp6 := s6 _ _ hp5
        generalize upd J5 t6 (.tup [V.int 0, V.int 2]) = J6 at s6 g6 hp6 ⊢
        refine ⟨_, rfl, by show 2 ≤ sizeLine; decide, fun t7 n7 => ?_⟩
        have s7 := same_new (o := .tup [V.int 2, V.int (-3)]) n7
        have g7 : upd J6 t7 (.tup [V.int 2, V.int (-3)]) t7 = some (.tup [V.int 2, V.int (-3)]) := upd_same
        have np7 : t7 ≠ p := (ne_of_none hp6 n7).symm
        have hp7 := s7 _ _ hp6
        generalize upd J6 t7 (.tup [V.int 2, V.int (-3)]) = J7 at s7 g7 hp7 ⊢
        refine fun t8 n8 => ⟨upd_same, [(Sum.inl 1, V.int 2)], rfl, by show 1 ≤ 15; decide, ?_⟩
        have u8 : upd (upd J7 t8 (.dK [])) t8 (.dK (mergeK [] [(Sum.inl 1, V.int 2)])) = upd J7 t8 (.dK [(Sum.inl 1, V.int 2)]) := by
          funext b
          unfold upd
          split <;> rfl
        rw [u8]
        have s8 := same_new (o := .dK [(Sum.inl 1, V.int 2)]) n8
        have g8 : upd J7 t8 (.dK [(Sum.inl 1, V.int 2)]) t8 = some (.dK [(Sum.inl 1, V.int 2)]) := upd_same
        have np8 : t8 ≠ p := (ne_of_none hp7 n8).symm
        have hp8 := s8 _ _ hp7
        generalize upd J7 t8 (.dK [(Sum.inl 1, V.int 2)]) = J8 at s8 g8 hp8 ⊢
        refine ⟨by show 2 ≤ sizeLine; decide, fun t9 n9 => ?_⟩
        have s9 := same_new (o := .tup [V.int 1, V.non]) n9
        have g9 : upd J8 t9 (.tup [V.int 1, V.non]) t9 = some (.tup [V.int 1, V.non]) := upd_same
        have np9 : t9 ≠ p := (ne_of_none hp8 n9).symm
        have hp9 := s9 _ _ hp8
        generalize upd J8 t9 (.tup [V.int 1, V.non]) = J9 at s9 g9 hp9 ⊢
        refine ⟨Nat.zero_le _, fun t10 n10 => ?_⟩
        have s10 := same_new (o := .tup []) n10
        have g10 : upd J9 t10 (.tup []) t10 = some (.tup []) := upd_same
        have np10 : t10 ≠ p := (ne_of_none hp9 n10).symm
        have hp10 := s10 _ _ hp9
        generalize upd J9 t10 (.tup []) = J10 at s10 g10 hp10 ⊢
        have sA : Same H9 J10 := (((((((((s1).trans s2).trans s3).trans s4).trans s5).trans s6).trans s7).trans s8).trans s9).trans s10
        have z1 := s10 _ _ (s9 _ _ (s8 _ _ (s7 _ _ (s6 _ _ (s5 _ _ (s4 _ _ (s3 _ _ (s2 _ _ (g1)))))))))
        have z2 := s10 _ _ (s9 _ _ (s8 _ _ (s7 _ _ (s6 _ _ (s5 _ _ (s4 _ _ (s3 _ _ (g2))))))))
        have z3 := s10 _ _ (s9 _ _ (s8 _ _ (s7 _ _ (s6 _ _ (s5 _ _ (s4 _ _ (g3)))))))
        have z4 := s10 _ _ (s9 _ _ (s8 _ _ (s7 _ _ (s6 _ _ (s5 _ _ (g4))))))
        have z5 := s10 _ _ (s9 _ _ (s8 _ _ (s7 _ _ (s6 _ _ (g5)))))
        have z6 := s10 _ _ (s9 _ _ (s8 _ _ (s7 _ _ (g6))))
        have z7 := s10 _ _ (s9 _ _ (s8 _ _ (g7)))
        have z8 := s10 _ _ (s9 _ _ (g8))
        have z9 := s10 _ _ (g9)
        have z10 := g10
        have od : ∀ x ∈ [V.ref t1, V.ref t2, V.ref t3, V.ref t4, V.str "12", V.non, V.ref t5, V.ref t6, V.ref t7, V.ref t8, V.ref t9, V.ref t10], Bad p J10 x := fun x hx => by
          simp only [List.mem_cons, List.not_mem_nil, or_false] at hx
          rcases hx with e | e | e | e | e | e | e | e | e | e | e | e <;> rw [e]
          · exact bad_tup np1 z1 (fun H' => kd1 (by intro x hx; simp only [List.mem_cons, List.not_mem_nil, or_false] at hx; rcases hx with e | e <;> rw [e] <;> first | exact ⟨_, fun H => .int _⟩ | exact ⟨_, fun H => .bl _⟩)) (by show 2 ≤ 100; decide) rfl
          · exact bad_tup np2 z2 (fun H' => kd1 (by intro x hx; simp only [List.mem_cons, List.not_mem_nil, or_false] at hx; rcases hx with e | e <;> rw [e] <;> first | exact ⟨_, fun H => .int _⟩ | exact ⟨_, fun H => .bl _⟩)) (by show 2 ≤ 100; decide) rfl
          · exact bad_tup np3 z3 (fun H' => kd1 (by intro x hx; rw [List.mem_singleton.mp hx]; exact ⟨_, fun H => .int _⟩)) (by show 1 ≤ 100; decide) rfl
          · exact bad_tup np4 z4 (fun H' => kd1 (by intro x hx; simp only [List.mem_cons, List.not_mem_nil, or_false] at hx; rcases hx with e | e | e <;> rw [e] <;> exact ⟨_, fun H => .int _⟩)) (by show 3 ≤ 100; decide) rfl
          · exact bad_scal (fun _ => .str _) rfl
          · exact bad_scal (fun _ => .non) rfl
          · exact bad_tup np5 z5 (fun H' => kd2) (by show 2 ≤ 100; decide) (by decide +kernel)
          · exact bad_tup np6 z6 (fun H' => kd2) (by show 2 ≤ 100; decide) (by decide +kernel)
          · exact bad_tup np7 z7 (fun H' => kd2) (by show 2 ≤ 100; decide) (by decide +kernel)
          · exact bad_dK np8 z8
          · exact bad_tup np9 z9 (fun H' => kd1 (by intro x hx; simp only [List.mem_cons, List.not_mem_nil, or_false] at hx; rcases hx with e | e <;> rw [e] <;> first | exact ⟨_, fun H => .int _⟩ | exact ⟨_, fun H => .non⟩)) (by show 2 ≤ 100; decide) rfl
          · exact bad_tup np10 z10 (fun H' => kd1 (by intro x hx; cases hx)) (Nat.zero_le _) rfl
        refine ⟨by show 12 ≤ sizeLine; decide, fun t11 n11 => ?_⟩
        have np11 : t11 ≠ p := (ne_of_none hp10 n11).symm
        have sL := same_new (o := .lst [V.ref t1, V.ref t2, V.ref t3, V.ref t4, V.str "12", V.non, V.ref t5, V.ref t6, V.ref t7, V.ref t8, V.ref t9, V.ref t10]) n11
        have gL : upd J10 t11 (.lst [V.ref t1, V.ref t2, V.ref t3, V.ref t4, V.str "12", V.non, V.ref t5, V.ref t6, V.ref t7, V.ref t8, V.ref t9, V.ref t10]) t11 = some (.lst [V.ref t1, V.ref t2, V.ref t3, V.ref t4, V.str "12", V.non, V.ref t5, V.ref t6, V.ref t7, V.ref t8, V.ref t9, V.ref t10]) := upd_same
        refine ⟨p, t11, _, _, rfl, (v9.same sA).same sL, by omega, gL, np11, by show 0 < 12; decide, by show 12 ≤ 1000; decide, fun K1 z sK vK hz => ?_⟩
        obtain ⟨o, eo, jo⟩ := od z hz
        have sLK : SB p J10 K1 := (SB.of sL).trans sK
        have s0K := s09.trans ((SB.of sA).trans sLK)
        refine ⟨_, rfl, _, o, rfl, jo K1 (Kp.ofS sLK), fun K2 r2 => ?_⟩
        rw [eo]
        refine ⟨_, rfl, _, rfl, iteT ?_⟩
        refine ⟨by show 2 ≤ sizeLine; decide, fun t12 n12 => ?_⟩
        have r3 := same_new (o := .tup [V.int 0, V.int 1]) n12
        refine ⟨_, some [V.int 0, V.int 1], rfl, jg_t upd_same, fun K4 r4 => ?_⟩
        rw [show ratB (some [V.int 0, V.int 1]) = true by decide +kernel]
        refine ⟨_, rfl, iteT ?_⟩
        refine ⟨_, rfl, _, _, rfl, rfl, ⟨by decide, by decide, by decide⟩, by show 2 ≤ sizeLine; decide, fun t13 n13 => ?_⟩
        have r5 := same_new (o := .tup [V.int (-7), V.int (10 ^ (Int.toNat 20))]) n13
        refine ⟨_, some [V.int (-7), V.int (10 ^ (Int.toNat 20))], rfl, jg_t upd_same, fun K6 r6 => ?_⟩
        rw [show ratB (some [V.int (-7), V.int (10 ^ (Int.toNat 20))]) = true by decide +kernel]
        have rA := (r2.trans r3).trans (r4.trans (r5.trans r6))
        exact q _ (s0K.trans (SB.of rA)) ((vK.same rA).le (by omega))
      · refine ⟨_, rfl, rfl, _, rfl, ?_⟩
        by_cases h0 : y = 0
        · rw [decide_eq_true (show V.int y = V.int 0 by rw [h0])]
          exact iteF (rest _ _ ⟨fun _ _ z => z, none, rfl⟩)
        · rw [decide_eq_false (fun z => h0 (V.int.inj z))]
          refine iteT ⟨_, rfl, _, rfl, _, _, _, _, rfl, .int x, .int y, (fun z => by cases z), (fun _ z => by cases z), fun a b e1 e2 => ?_⟩
          cases e1
          cases e2
          refine ⟨fun z => absurd z h0, fun _ => ⟨Nat.lt_of_le_of_lt by_ (Nat.lt_of_lt_of_le (show 600 < 2 ^ 10 by decide) (Nat.pow_le_pow_right (by decide) (by decide))), fun H9 t s9 _ ht => ?_⟩⟩
          have lw := low_le (n := x) h0
          have cr := low_cross (n := x) h0
          have gg := low_gcd (n := x) h0
          have pp := low_pos (n := x) h0
          have ht : H9 t = some (.tup [V.int (low x y).1, V.int (low x y).2]) := ht
          refine ⟨_, rfl, _, _, _, _, true, rfl, .ty _, (Kd.tup ht).ty, kit_ty (by decide +kernel), _, rfl, iteF ?_⟩
          refine ⟨_, rfl, _, some [V.int (low x y).1, V.int (low x y).2], rfl, jg_t ht, fun H10 s10 => ?_⟩
          have er : ratB (some [V.int (low x y).1, V.int (low x y).2]) = true := by
            show (decide (0 < (low x y).2) && decide (gcdI (low x y).1 (low x y).2 = 1)) = true
            rw [decide_eq_true pp, decide_eq_true gg]
            rfl
          rw [er]
          refine ⟨_, rfl, iteF ?_⟩
          have hq := SqT.of (K := K) (s10 _ _ ht)
          refine ⟨_, rfl, t, _, 0, _, rfl, rfl, hq, rfl, _, rfl, _, _, rfl, rfl, .inl ⟨by omega, by omega⟩, _, rfl, t, _, 1, _, rfl, rfl, hq, rfl, _, rfl, _, _, rfl, rfl, .inl ⟨by omega, by omega⟩, rfl, _, rfl, ?_⟩
          rw [decide_eq_true (show (fun i j => V.int (i * j)) (low x y).1 y = (fun i j => V.int (i * j)) (low x y).2 x from congrArg V.int (by rw [cr, Int.mul_comm]))]
          exact iteF (rest _ _ ⟨s9.trans s10, some (.ref t), rfl⟩)
    · refine ⟨_, rfl, _, _, rfl, rfl, _, rfl, ?_⟩
      by_cases h0 : 0 < y
      · rw [decide_eq_true h0] at rest ⊢
        refine iteT ⟨_, rfl, _, rfl, by show 2 ≤ sizeLine; decide, fun l hl => ?_⟩
        have sl := same_new (o := .lst [V.int x, V.int y]) hl
        refine ⟨l, [x, y], rfl, upd_same, by show 2 ≤ 100; decide, fun m hm => ?_, fun H4 s4 => ?_⟩
        · simp only [List.mem_cons, List.not_mem_nil, or_false] at hm
          rcases hm with e | e <;> rw [e] <;> omega
        · refine ⟨rfl, ?_⟩
          rw [gcdL_two]
          have e : decide (V.int ((gcdI x y : Nat) : Int) = V.int 1) = (true && decide (gcdI x y = 1)) := by
            rw [Bool.true_and, Bool.eq_iff_iff, decide_eq_true_iff, decide_eq_true_iff]
            exact ⟨fun z => by have := V.int.inj z; omega, fun z => by rw [z]; rfl⟩
          rw [e]
          exact rest _ _ ⟨rfl, sl.trans s4⟩
      · rw [decide_eq_false h0] at rest ⊢
        exact iteF (rest _ _ ⟨rfl, fun _ _ z => z⟩)
end
end K1

namespace K1
open PySem PySem.Spec PyProof.Rows L2
theorem gName_eq {i : Nat} {x : V} {σ : L2.St} {H : Hp} {N : L2.St → Hp → Prop} : gName i x σ H N = N (σ.set i (some x)) H := rfl
/-- of some numbers the first that stands twice, its place -/
def FI (ns : List Int) (r : Option Int) : Prop := (r = none ∧ ns.Nodup) ∨ ∃ i k, ns[i]? = some k ∧ k ∈ ns.take i ∧ (ns.take i).Nodup ∧ r = some k
theorem nd_map {f : Int → Key} (hf : ∀ a b, f a = f b → a = b) {ns : List Int} (h : ns.Nodup) : (ns.map f).Nodup := by
  unfold List.Nodup at h ⊢
  rw [List.pairwise_map]
  exact h.imp fun ne e => ne (hf _ _ e)
theorem fi_tw {f : Int → Key} (hf : ∀ a b, f a = f b → a = b) {ns : List Int} {r : Option Int} (h : FI ns r) : TW (ns.map f) (r.map f) := by
  rcases h with ⟨rfl, h⟩ | ⟨i, k, h1, h2, h3, rfl⟩
  · exact .inl ⟨rfl, nd_map hf h⟩
  · refine .inr ⟨i, f k, by rw [List.getElem?_map, h1]; rfl, ?_, ?_, rfl⟩
    · rw [← List.map_take]
      exact List.mem_map.mpr ⟨k, h2, rfl⟩
    · rw [← List.map_take]
      exact nd_map hf h3
theorem take_nd {α : Type} {ks : List α} {i j : Nat} (h : (ks.take j).Nodup) (hij : i ≤ j) : (ks.take i).Nodup := by
  rw [show ks.take i = (ks.take j).take i by rw [List.take_take, Nat.min_eq_left hij]]
  exact (List.take_sublist _ _).nodup h
theorem two_no {ks : List Key} {i j : Nat} {k : Key} (h1 : ks[i]? = some k) (h2 : k ∈ ks.take i) (h : (ks.take j).Nodup) (hij : i < j) : False := by
  have := take_nd h (show i + 1 ≤ j by omega)
  rw [take_more h1, List.nodup_append] at this
  exact this.2.2 k h2 k (List.mem_singleton.mpr rfl) rfl
theorem tw_one {ks : List Key} {r r' : Option Key} (h : TW ks r) (h' : TW ks r') : r = r' := by
  rcases h with ⟨rfl, h⟩ | ⟨i, k, h1, h2, h3, rfl⟩ <;> rcases h' with ⟨rfl, h'⟩ | ⟨i', k', h1', h2', h3', rfl⟩
  · rfl
  · exfalso
    have hi : i' < ks.length := by
      rcases Nat.lt_or_ge i' ks.length with z | z
      · exact z
      · rw [List.getElem?_eq_none z] at h1'
        cases h1'
    exact two_no (j := ks.length) h1' h2' (by rw [List.take_length]; exact h) hi
  · exfalso
    have hi : i < ks.length := by
      rcases Nat.lt_or_ge i ks.length with z | z
      · exact z
      · rw [List.getElem?_eq_none z] at h1
        cases h1
    exact two_no (j := ks.length) h1 h2 (by rw [List.take_length]; exact h') hi
  · rcases Nat.lt_trichotomy i i' with z | z | z
    · exact (two_no h1 h2 h3' z).elim
    · subst z
      rw [h1] at h1'
      exact h1'
    · exact (two_no h1' h2' h3 z).elim
/-- what has been found of the first i -/
def AG (ns : List Int) (i : Nat) (as : List Int) : Prop := as.length ≤ i ∧ ((as = [] ∧ (ns.take i).Nodup) ∨ ∃ j k r, as = k :: r ∧ ns[j]? = some k ∧ k ∈ ns.take j ∧ (ns.take j).Nodup)
theorem ag_fi {ns as : List Int} (h : AG ns ns.length as) : FI ns as.head? := by
  rcases h.2 with ⟨rfl, hh⟩ | ⟨j, k, r, rfl, h1, h2, h3⟩
  · rw [List.take_length] at hh
    exact .inl ⟨rfl, hh⟩
  · exact .inr ⟨j, k, h1, h2, h3, rfl⟩
theorem ag_no {ns as : List Int} {i : Nat} {z : Int} (h : AG ns i as) (hz : ns[i]? = some z) (hm : z ∉ ns.take i) : AG ns (i + 1) as := by
  refine ⟨by have := h.1; omega, ?_⟩
  rcases h.2 with ⟨rfl, hh⟩ | hh
  · refine .inl ⟨rfl, ?_⟩
    rw [take_more hz, List.nodup_append]
    exact ⟨hh, List.nodup_cons.mpr ⟨List.not_mem_nil, List.nodup_nil⟩, fun a ha b hb => by rw [List.mem_singleton.mp hb]; intro e; exact hm (e ▸ ha)⟩
  · exact .inr hh
theorem ag_yes {ns as : List Int} {i : Nat} {z : Int} (h : AG ns i as) (hz : ns[i]? = some z) (hm : z ∈ ns.take i) : AG ns (i + 1) (as ++ [z]) := by
  refine ⟨by rw [List.length_append]; have := h.1; simp; omega, ?_⟩
  rcases h.2 with ⟨rfl, hh⟩ | ⟨j, k, r, rfl, hh⟩
  · exact .inr ⟨i, z, [], rfl, hz, hm, hh⟩
  · exact .inr ⟨j, k, r ++ [z], rfl, hh⟩
theorem inV_ints {z : Int} {ns : List Int} : inV (.int z) (ns.map V.int) = decide (z ∈ ns) := by
  unfold inV
  rw [List.any_map, Bool.eq_iff_iff, List.any_eq_true, decide_eq_true_iff]
  constructor
  · rintro ⟨y, hy, e⟩
    have e : (y == z) = true := e
    rw [← eq_of_beq e]
    exact hy
  · intro h
    exact ⟨z, h, (by show (z == z) = true; exact beq_self_eq_true _)⟩
theorem flat_ints (ns : List Int) : (ns.map V.int).all flatV = true := by
  rw [List.all_map]
  exact List.all_eq_true.mpr fun _ _ => rfl
theorem cut_take {ns : List Int} {i : Nat} (h : i ≤ ns.length) : cutV (ns.map V.int) none (some ((i : Nat) : Int)) = (ns.take i).map V.int := by
  unfold cutV
  rw [HT.sIx_none, HT.sIx_nat, List.length_map, Nat.min_eq_left h, List.drop_zero, Nat.sub_zero, List.map_take]
theorem first_at {ns : List Int} {k : Int} (h : k ∈ ns) : ∃ j : Nat, ns[j]? = some k ∧ ∀ m : Nat, m < j → ns[m]? ≠ some k := by
  induction ns with
  | nil => cases h
  | cons z ns ih =>
    by_cases e : z = k
    · exact ⟨0, by rw [e]; rfl, fun m hm => absurd hm (Nat.not_lt_zero m)⟩
    · rcases List.mem_cons.mp h with h | h
      · exact absurd h.symm e
      · obtain ⟨j, h1, h2⟩ := ih h
        refine ⟨j + 1, h1, fun m hm => ?_⟩
        cases m with
        | zero => exact fun z => e (Option.some.inj z)
        | succ m => exact h2 m (by omega)
def tx (n : Int) : Str := "d" ++ Str.ofString (toString n)
def txK (n : Int) : Key := if 0 ≤ n ∧ n < 9 then .inr (tx n) else .inl n
theorem tx_fin : ∀ a b : Fin 9, tx ((a.val : Nat) : Int) = tx ((b.val : Nat) : Int) → a = b := by decide +kernel
theorem txK_inj (a b : Int) (h : txK a = txK b) : a = b := by
  unfold txK at h
  by_cases ha : 0 ≤ a ∧ a < 9
  · by_cases hb : 0 ≤ b ∧ b < 9
    · rw [if_pos ha, if_pos hb] at h
      obtain ⟨x, rfl⟩ := Int.eq_ofNat_of_zero_le ha.1
      obtain ⟨y, rfl⟩ := Int.eq_ofNat_of_zero_le hb.1
      have := tx_fin ⟨x, by omega⟩ ⟨y, by omega⟩ (Sum.inr.inj h)
      have := congrArg Fin.val this
      show ((x : Nat) : Int) = y
      have : x = y := this
      rw [this]
    · rw [if_pos ha, if_neg hb] at h
      cases h
  · by_cases hb : 0 ≤ b ∧ b < 9
    · rw [if_neg ha, if_pos hb] at h
      cases h
    · rw [if_neg ha, if_neg hb] at h
      exact Sum.inl.inj h
theorem tx_map {ns : List Int} (h : ∀ n ∈ ns, 0 ≤ n ∧ n < 9) : (ns.map fun n => V.str (tx n)) = (ns.map txK).map kV := by
  rw [List.map_map]
  refine List.map_congr_left fun n hn => ?_
  show V.str (tx n) = kV (txK n)
  unfold txK
  rw [if_pos (h n hn)]
  rfl
theorem in_map (ns : List Int) : ns.map V.int = (ns.map (Sum.inl : Int → Key)).map kV := by
  rw [List.map_map]
  rfl
section
variable {P : Program} {w : World} {K : PySem.W.Frag} {mg : Str → Option Value} {base : Heap} {C : Addr}
/-! ### _law_twice_right -/
abbrev sTR : Stmt := top 32
abbrev nTR : List Str := ["_law_cup_here", "_law_row", "_law_again", "_law_texts", "_law_turn", "_law_at", "_law_each"]
theorem scTR : FnScope nTR ["_law_cup_here"] (defScope sTR) := ⟨rfl, rfl, rfl, by decide +kernel, rfl, by decide +kernel, by decide +kernel⟩
theorem ok_tr {f : Addr} {fd : FuncData} (F : Fun K "_law_twice_right" "_law_twice_right" sTR f fd) (B : Bn mg) (C1 : CalleeK P w K mg base CX0 1 "first_twice" ["values"] ["values"] gKw gKw spFt) (C6 : Callee P w K mg base CX0 1 "_law_dip" ["_law_cup_here", "_law_many"] spDip) : FnOk P w K mg base CX0 5 f fd ["_law_cup_here"] (spPart 40) := by
  obtain ⟨f1, fd1, m1, k1, b1, kb1, G1⟩ := C1
  obtain ⟨f6, fd6, m6, k6, b6, G6⟩ := C6
  have nd := scTR.nd
  refine F.ok scTR (fun vs H Q E h => ?_) (fun cdv A outer s H vs Q E hr h => ?_)
  · obtain ⟨p, n, rfl, _⟩ := h
    rfl
  · obtain ⟨p, n, rfl, hv, hn, q⟩ := h
    refine ⟨_, (pss_cons (ps_set (i := 1) nd rfl (Or.inr rfl) (pe_lc (own := [("_law_turn", 4)]) (g := gName 4) (tt := tYes) rfl nd (pi_range1 rfl B.range (pa_cons ((pe_call G6 (hr.mono (by decide)) rfl m6 k6 b6 .nil pass0 (pa_cons (pv 0) (pa_cons (pe_int) pa_nil)))) pa_nil)) (blkOk_by (N := nTR) (sc := defScope sTR) (by decide +kernel)) (fun _ _ _ _ _ => pg_name (i := 4) nd rfl (Or.inl rfl)) (fun _ _ _ _ _ => pts_nil) (fun _ _ _ _ _ => (pe_call G6 (hr.mono (by decide)) rfl m6 k6 b6 .nil pass0 (pa_cons (pv 0) (pa_cons (pe_int) pa_nil)))))) (pss_cons (ps_setLc (i := 2) (own := [("_law_at", 5), ("_law_each", 6)]) (g := gTup K 2 (gCons (gName 5) (gCons (gName 6) gNil))) rfl nd rfl rfl (sw_true rfl rfl rfl (by decide +kernel)) (pi_enum (by rfl) B.enumerate (pa_cons (pv 1) pa_nil)) (blkOk_by (N := nTR) (sc := defScope sTR) (by decide +kernel)) (fun _ _ _ _ _ => pg_tup rfl (pgs_cons (pg_name (i := 5) nd rfl (Or.inl rfl)) (pgs_cons (pg_name (i := 6) nd rfl (Or.inl rfl)) pgs_nil))) (fun _ _ _ _ _ => pts_one (pt_cmpR (r := rIn K false) op_in_seq (pv 6) (pe_slice (r := rSlL K) sl_list (pv 1) po_none (po_some (pv 5))) rfl)) (fun _ _ _ _ _ => pv 6)) (pss_cons (ps_if (pt_cmpR op_ne ((pe_callK0 G1 (hr.mono (by decide)) rfl m1 k1 kb1 pass0 (pk_cons (pv 1) pk_nil))) (pe_ifExp (pt_cmpR (op_neD hr.units) (pv 2) (pe_lst pa_nil) (nomark _)) (pe_ix ix_list (pv 2) (pe_int) (fun _ _ => rfl)) pe_non) (nomark _)) (pss_one (ps_ret pe_bl)) pss_nil) (pss_cons (ps_setLc (i := 3) (own := [("_law_each", 6)]) (g := gName 6) (tt := tYes) rfl nd rfl rfl (sw_true rfl rfl rfl (by decide +kernel)) (pi_list (pv 1)) (blkOk_by (N := nTR) (sc := defScope sTR) (by decide +kernel)) (fun _ _ _ _ _ => pg_name (i := 6) nd rfl (Or.inl rfl)) (fun _ _ _ _ _ => pts_nil) (fun _ _ _ _ _ => pe_op op_add_str pe_str (pe_callTy call_str_int (by rfl) B.str (by decide +kernel) (pa_cons (pv 6) pa_nil)))) (pss_one (ps_ret (pe_cmpR op_eq ((pe_call G1 (hr.mono (by decide)) rfl m1 k1 b1 .nil pass0 (pa_cons ((pe_callTy call_tuple_of (by rfl) B.tuple (by decide +kernel) (pa_cons (pv 3) pa_nil))) pa_nil))) (pe_ifExp (pt_cmpR (op_neD hr.units) (pv 2) (pe_lst pa_nil) (nomark _)) (pe_ix ix_list (pv 3) (pe_bm PySem.F.plainAttrs_list PySem.F.slot_list_index PySem.F.type_list_index mt_index (pv 1) (pa_cons ((pe_ix ix_list (pv 2) (pe_int) (fun _ _ => rfl))) pa_nil)) (fun _ _ => rfl)) pe_non) (nomark _)))))))), ?_⟩
    refine ⟨_, rfl, p, 6, n, rfl, hv, by omega, by decide, by decide, fun H1 d s1 v1 d0 d6 => ?_⟩
    refine ⟨d, rfl, by omega, by omega, fun D hD => ?_⟩
    obtain ⟨_, _, _, hp1⟩ := v1.at
    have nDp : D ≠ p := (ne_of_none hp1 hD).symm
    have sD := same_new (o := .lst []) hD
    refine lc_range (lo := 0) (n := d.toNat) (fun i H' => Cup H' p (n + 1 + i) ∧ SB p H1 H' ∧ ∃ zs : List Int, zs.length = i ∧ H' D = some (.lst (zs.map V.int)) ∧ ∀ z ∈ zs, 0 ≤ z ∧ z < 9)
      ⟨v1.same sD, SB.of sD, [], rfl, upd_same, fun z hz => nomatch hz⟩ (fun i H' hi pv => ?_) (fun H4 pv => ?_)
    · obtain ⟨v2, s2, zs, hzs, hD2, hz⟩ := pv
      refine ⟨rfl, yes_of ?_⟩
      refine ⟨_, rfl, p, 9, _, rfl, v2, by omega, by decide, by decide, fun H3 y s3 v3 y0 y9 => ?_⟩
      have hD3 := s3 _ _ nDp hD2
      obtain ⟨b1, b2, b3, b4, b5⟩ := v3
      refine ⟨_, hD3, small1000 (by rw [List.length_map]; omega), ?_, ?_, zs ++ [y], by rw [List.length_append, hzs]; rfl, by rw [upd_same, List.map_append]; rfl, fun z h => ?_⟩
      · refine ⟨b1, b2, b3, by rw [upd_ne nDp.symm]; exact b4, b5.1, ?_, b5.2.2⟩
        have := b5.2.1
        omega
      · intro b o nb hb
        rw [upd_ne (ne_of_none hb hD)]
        exact s3 b o nb (s2 b o nb hb)
      · rcases List.mem_append.mp h with h | h
        · exact hz z h
        · rw [List.mem_singleton.mp h]
          exact ⟨y0, y9⟩
    · obtain ⟨v4, s4, ns, hns, hD4, hz⟩ := pv
      have s04 := s1.trans s4
      have ln : ns.length ≤ 6 := by omega
      refine ⟨_, rfl, D, _, rfl, SqL.of hD4, fun D2 hD2 => ?_⟩
      refine lc_it (walk_enum (K := K) (a := D) (xs := ns.map V.int)) (fun i H' => Same H4 H' ∧ ∃ as : List Int, AG ns i as ∧ H' D2 = some (.lst (as.map V.int)))
        ⟨same_new hD2, [], ⟨Nat.le_refl _, .inl ⟨rfl, List.nodup_nil⟩⟩, upd_same⟩ (fun i H' _ pv => SqL.of (pv.1 _ _ hD4)) (fun i x H' H'' hi pv hy => ?_) (fun H5 pv => ?_)
      · obtain ⟨s5, as, ha, hA⟩ := pv
        obtain ⟨T, x1, x2, rfl, hT, rfl, e1, e2⟩ := hy
        cases e1
        obtain ⟨z, hzi, rfl⟩ := get_ints e2
        have sT := same_new (o := .tup [V.int ((i : Nat) : Int), V.int z]) hT
        rw [List.length_map] at hi
        refine ⟨T, _, rfl, SqT.of upd_same, rfl, _, _, rfl, _, _, rfl, rfl, rfl, ?_⟩
        refine ⟨_, rfl, _, rfl, _, rfl, ((i : Nat) : Int), rfl, D, _, rfl, SqL.of (sT _ _ (s5 _ _ hD4)), fun l hl => ?_⟩
        rw [cut_take (Nat.le_of_lt hi)]
        have sl := same_new (o := .lst ((ns.take i).map V.int)) hl
        refine ⟨l, _, rfl, .inl (SqL.of upd_same), rfl, flat_ints _, _, rfl, ?_⟩
        have e3 : inV (V.int z) ((ns.take i).map V.int) = decide (z ∈ ns.take i) := inV_ints
        show if inV (V.int z) ((ns.take i).map V.int) = true then _ else _
        rw [e3]
        have s6 := s5.trans (sT.trans sl)
        by_cases hm : z ∈ ns.take i
        · rw [decide_eq_true hm]
          refine iteT ⟨_, rfl, _, sl _ _ (sT _ _ hA), small1000 (by rw [List.length_map]; have := ha.1; omega), ?_, as ++ [z], ag_yes ha hzi hm, by rw [upd_same, List.map_append]; rfl⟩
          intro b o hb
          rw [upd_ne (ne_of_none hb hD2)]
          exact s6 b o hb
        · rw [decide_eq_false hm]
          exact iteF ⟨s6, as, ag_no ha hzi hm, sl _ _ (sT _ _ hA)⟩
      · obtain ⟨s5, as, ha, hA⟩ := pv
        rw [List.length_map] at ha
        have hD5 := s5 _ _ hD4
        have fi := ag_fi ha
        have v5 := v4.same s5
        have s05 := s04.trans (SB.of s5)
        rw [gName_eq]
        dsimp only
        have lim : ns.length ≤ 100 := by omega
        refine if_join (P := fun σ' H' => Same H5 H' ∧ σ' = [some (.ref p), some (.ref D), some (.ref D2), none, none, none, none]) ?_ (fun rest => ?_)
        · rintro σ' H6 ⟨s6, rfl⟩
          have hD6 := s6 _ _ hD5
          have hA6 := s6 _ _ hA
          refine ⟨_, rfl, D, rfl, ⟨_, SqL.of hD6⟩, fun D3 hD3 => ?_⟩
          refine lc_list (K := K) (a := D) (xs := ns.map V.int) (fun i H' => Same H6 H' ∧ H' D3 = some (.lst ((ns.take i).map fun n => V.str (tx n)))) ⟨same_new hD3, upd_same⟩ (fun i H' _ p => SqL.of (p.1 _ _ hD6)) (fun i x H' hx p => ?_) (fun H7 p7 => ?_)
          · obtain ⟨z, hzi, rfl⟩ := get_ints hx
            obtain ⟨z0, z9⟩ := hz z (List.mem_of_getElem? hzi)
            have hlog : z.natAbs.log2 < 1920 := Nat.lt_of_lt_of_le (PySem.Flt.log2_lt_of (k := 4) (by decide) (by show z.natAbs < 16; omega)) (by decide)
            refine ⟨rfl, yes_of ?_⟩
            refine ⟨_, rfl, z, rfl, hlog, _, _, rfl, rfl, ?_, _, p.2, small1000 ?_, ?_, ?_⟩
            · have := int_text_len_1921 hlog
              exact Nat.le_trans (show _ ≤ 5000 by show 1 + _ ≤ 5000; omega) (by decide)
            · rw [List.length_map, List.length_take]
              omega
            · intro b o eb
              rw [upd_ne (ne_of_none eb hD3)]
              exact p.1 b o eb
            · rw [upd_same, take_more hzi, List.map_append]
              rfl
          · obtain ⟨s7, h7⟩ := p7
            rw [List.length_map, List.take_length, tx_map hz] at h7
            refine ⟨_, rfl, D3, _, rfl, .inl ⟨SqL.of h7, fun l hl => ?_⟩⟩
            have s8 := same_new (o := .tup ((ns.map txK).map kV)) hl
            refine ⟨l, ns.map txK, rfl, .inr upd_same, by rw [List.length_map]; exact lim, fun H9 r s9 tw => ?_⟩
            have s79 := (s7.trans s8).trans s9
            have er : r = as.head?.map txK := tw_one tw (fi_tw txK_inj fi)
            have hA9 := s79 _ _ hA6
            have hD9 := s79 _ _ hD6
            have h9 := s9 _ _ (s8 _ _ h7)
            have sA := (s6.trans s79)
            refine ⟨_, rfl, Nat.zero_le _, fun l2 hl2 => ?_⟩
            have s10 := same_new (o := .lst []) hl2
            refine ⟨.list (as.map PyData.int), .list [], .lst (SqL.of (s10 _ _ hA9)) (dp_ints _), .lst (SqL.of upd_same) .nil, PySem.W.ke_shaped_ints _, by decide, _, rfl, ?_⟩
            have hA10 := s10 _ _ hA9
            have hD10 := s10 _ _ hD9
            have h10 := s10 _ _ h9
            have sB := SB.of (p := p) (sA.trans s10)
            have fin := q _ (s05.trans sB) ((v5.same (sA.trans s10)).le (by omega))
            generalize upd H9 l2 (.lst []) = H10 at hA10 hD10 h10 fin ⊢
            cases as with
            | nil =>
              have er : r = none := er
              subst er
              refine iteF ⟨rfl, ?_⟩
              exact fin
            | cons k rest' =>
              have er : r = some (txK k) := er
              subst er
              obtain ⟨i, k', r', e1, e2, e3, _⟩ : ∃ j k' r, k :: rest' = k' :: r ∧ ns[j]? = some k' ∧ k' ∈ ns.take j ∧ (ns.take j).Nodup := by
                rcases ha.2 with ⟨e, _⟩ | h
                · cases e
                · exact h
              cases e1
              have hk : k ∈ ns := List.mem_of_getElem? e2
              obtain ⟨j, hj1, hj2⟩ := first_at hk
              refine iteT ⟨_, rfl, _, rfl, .inl ⟨rfl, _, SqL.of hD10⟩, _, rfl, D2, _, 0, _, rfl, rfl, SqL.of hA10, atI_nat (j := 0) rfl, ?_⟩
              refine ⟨D, _, V.int k, j, V.int k, rfl, rfl, SqL.of hD10, rfl, flat_ints _, by rw [List.getElem?_map, hj1]; rfl, by show (k == k) = true; exact beq_self_eq_true _, fun m z' hm hm2 => ?_, ?_⟩
              · obtain ⟨z, hz1, rfl⟩ := get_ints hm2
                show (z == k) = false
                cases e : z == k with
                | false => rfl
                | true =>
                  rw [eq_of_beq e] at hz1
                  exact absurd hz1 (hj2 m hm)
              · refine ⟨D3, _, _, kV (txK k), rfl, rfl, SqL.of h10, atI_nat (by rw [List.getElem?_map, List.getElem?_map, hj1]; rfl), ?_⟩
                have ek : kV (txK k) = .str (tx k) := by
                  unfold txK
                  rw [if_pos (hz k hk)]
                  rfl
                show rEq (kV (txK k)) (kV (txK k)) _ _
                rw [ek]
                refine ⟨rfl, ?_⟩
                rw [decide_eq_true rfl]
                exact fin
        · refine ⟨_, rfl, D, ns.map Sum.inl, rfl, .inl (by rw [hD5, in_map]), by rw [List.length_map]; exact lim, fun H6 r s6 tw => ?_⟩
          have er : r = as.head?.map Sum.inl := tw_one tw (fi_tw (fun _ _ e => Sum.inl.inj e) fi)
          have hA6 := s6 _ _ hA
          refine ⟨_, rfl, Nat.zero_le _, fun l hl => ?_⟩
          have s7 := same_new (o := .lst []) hl
          refine ⟨.list (as.map PyData.int), .list [], .lst (SqL.of (s7 _ _ hA6)) (dp_ints _), .lst (SqL.of upd_same) .nil, PySem.W.ke_shaped_ints _, by decide, _, rfl, ?_⟩
          have hA7 := s7 _ _ hA6
          have s67 := s6.trans s7
          generalize upd H6 l (.lst []) = H7 at hA7 s67 ⊢
          cases as with
          | nil =>
            have er : r = none := er
            subst er
            refine iteF ⟨rfl, _, rfl, ?_⟩
            exact iteF (rest _ _ ⟨s67, rfl⟩)
          | cons k rest' =>
            have er : r = some (Sum.inl k) := er
            subst er
            refine iteT ⟨_, rfl, D2, _, 0, _, rfl, rfl, SqL.of hA7, atI_nat (j := 0) rfl, rfl, _, rfl, ?_⟩
            have e : (!decide (rv (some (Sum.inl k)) = V.int k)) = false := by
              rw [decide_eq_true (show rv (some (Sum.inl k)) = V.int k from rfl)]
              rfl
            rw [e]
            exact iteF (rest _ _ ⟨s67, rfl⟩)
end
end K1

namespace K1
open PySem PySem.Spec PyProof.Rows L2
/-- a tuple at a and a list at b, walked side by side -/
def ItzM (K : PySem.W.Frag) (a b : Addr) : It :=
  ⟨fun i H => ∃ (xs ys : List V) (x y : V), (SqT K H a xs ∧ xs[i]? = some x) ∧ SqL K H b ys ∧ ys[i]? = some y,
    fun i H v H' => ∃ T x y, v = .ref T ∧ (H T = none ∧ H' = upd H T (.tup [x, y])) ∧ (∀ l, SqT K H a l → l[i]? = some x) ∧ ∀ l, SqL K H b l → l[i]? = some y,
    fun i H => ∃ xs ys : List V, (SqT K H a xs ∧ SqL K H b ys) ∧ i = xs.length ∧ i = ys.length⟩
def ZMst (z TI TO i1 i2 a b : Addr) (i : Nat) (h : Heap) : Prop := IsZip h z TI TO .none ∧ IsPair h TI (.ref i1) (.ref i2) ∧ (∃ x y, IsPair h TO x y) ∧ h.IsTupleIter i1 a i ∧ h.IsListIter i2 b i
theorem sep_of {z TI TO i1 i2 a b : Addr} (D : ZipApart z TI TO i1 i2 a b) : ZipSep2 z TI TO i1 i2 [i1, a] [i2, b] where
  TIz := D.TIz
  TOz := D.TOz
  TITO := D.TITO
  TIi1 := D.TIi1
  mem1 := by simp
  zf1 := by simp [D.i1z.symm, D.l1z.symm]
  Tf1 := by simp [D.TOi1, D.l1TO.symm]
  TIi2 := D.TIi2
  mem2 := by simp
  zf2 := by simp [D.i2z.symm, D.l2z.symm]
  Tf2 := by simp [D.TOi2, D.l2TO.symm]
  sep1_2 := by simp [D.i12, D.l2i1.symm]
  sep2_1 := by simp [D.i12.symm, D.l1i2.symm]
theorem turn_zipM {P : Program} {w : World} {K : PySem.W.Frag} {elts : List Expr} {kk : Nat} {tpos : Pos} {a b z TI TO i1 i2 : Addr} (D : ZipApart z TI TO i1 i2 a b) :
    Turn P w K (.Tuple elts kk tpos) (ItzM K a b) [z, TI, TO, i1, i2] z (ZMst z TI TO i1 i2 a b) where
  mem := List.mem_cons_self
  obj := fun i h st c hc => by
    obtain ⟨u1, u2, ⟨x, y, u3⟩, ⟨o1, e1, _, d1⟩, ⟨o2, e2, _, d2⟩⟩ := st
    simp only [List.mem_cons, List.not_mem_nil, or_false] at hc
    rcases hc with q | q | q | q | q <;> subst q
    · exact ⟨_, u1, fun v k => by cases k⟩
    · exact ⟨_, u2, fun v k => by cases k⟩
    · exact ⟨_, u3, fun v k => by cases k⟩
    · exact ⟨o1, e1, fun v k => by rw [d1] at k; cases k⟩
    · exact ⟨o2, e2, fun v k => by rw [d2] at k; cases k⟩
  keep := fun i h h' st kp => by
    obtain ⟨u1, u2, ⟨x, y, u3⟩, u4, u5⟩ := st
    have at_ : ∀ c, c ∈ [z, TI, TO, i1, i2] → ∀ o, h.get? c = some o → h'.get? c = some o := kp
    exact ⟨at_ z (by simp) _ u1, at_ TI (by simp) _ u2, ⟨x, y, at_ TO (by simp) _ u3⟩, u4.at fun o => at_ i1 (by simp) o, u5.at fun o => at_ i2 (by simp) o⟩
  item := by
    intro X e1 e2 e3 hc i pins s σ H E I hf st go
    subst e1 e2 e3
    obtain ⟨u1, u2, ⟨x0, y0, u3⟩, u4, u5⟩ := st
    obtain ⟨xs, ys, x, y, ⟨qx, hx⟩, qy, hy⟩ := go
    obtain ⟨us, rx, px, _⟩ := I.tuple qx
    obtain ⟨ws, ry, py, _⟩ := I.list qy
    obtain ⟨u, hu, ru⟩ := rx.get hx
    obtain ⟨v, hv, rv⟩ := ry.get hy
    have hd : X.A.handled = none := I.ok.hd hc
    have ui : us.toArray[i]? = some u := by rw [List.getElem?_toArray]; exact hu
    have wi : ws.toArray[i]? = some v := by rw [List.getElem?_toArray]; exact hv
    have li : i < us.toArray.size := by
      rcases Nat.lt_or_ge i us.toArray.size with q | q
      · exact q
      · rw [Array.getElem?_eq_none q] at ui
        cases ui
    have lj : i < ws.toArray.size := by
      rcases Nat.lt_or_ge i ws.toArray.size with q | q
      · exact q
      · rw [Array.getElem?_eq_none q] at wi
        cases wi
    have zlt := Heap.lt_size u1
    refine wpAny_pyNext_zipD2_item (sep_of D) (Draws.tuple (A := X.A.in1) hd i1 a D.l1i1 us.toArray) (Draws.list (A := X.A.in1) hd i2 b D.l2i2 ws.toArray) u1 u2 u3 ⟨u4, px⟩ ⟨u5, py.isList⟩ li lj fun y1 y2 h1 tk g1 g2 w1 w2 w3 w4 w5 w6 w7 => ?_
    rw [ui] at g1
    rw [wi] at g2
    cases g1
    cases g2
    refine ⟨_, rfl, wpAny_letOwnedTupleGo_zip (s := { s with heap := h1, toks := tk }) w1 fun h2 w8 sb => ?_⟩
    have w9 : h2.get? s.heap.objs.size = some { cls := .type "tuple", data := .seq #[u, v] } := (sb.2 _ (Nat.ne_of_gt zlt)).trans w5
    have old : ∀ c o, c ∉ [z, TI, TO, i1, i2] → s.heap.get? c = some o → h2.get? c = some o := fun c o nb q => by
      simp only [List.mem_cons, List.not_mem_nil, or_false, not_or] at nb
      exact (sb.2 c nb.1).trans (w7 c o nb.1 nb.2.2.1 nb.2.2.2.1 nb.2.2.2.2 q)
    have I1 : Inv X pins σ (upd H s.heap.objs.size (.tup [x, y])) { s with heap := h2, toks := tk } :=
      I.turnedNew (t' := tk) (ch := [z, TI, TO, i1, i2]) old hf (Nat.le_refl _) (show ObjOk X.prog X.w (upd H s.heap.objs.size (.tup [x, y])) h2 s.heap.objs.size (.tup [x, y]) from ⟨by show 2 ≤ sizeLine; decide, [u, v], .cons ru (.cons rv .nil), ⟨_, w9, rfl, _, rfl⟩⟩)
    refine ⟨.ref s.heap.objs.size, _, I1, rfl, ⟨_, x, y, rfl, ⟨I.hok.fresh (Nat.le_refl _), rfl⟩, fun l hl => by rw [I.tuple_inj hl qx]; exact hx, fun l hl => by rw [I.list_inj hl qy]; exact hy⟩, ⟨w8, ?_, ⟨u, v, ?_⟩, ?_, ?_⟩, fun c hcm => ?_⟩
    · exact (sb.2 _ D.TIz).trans (w7 _ _ D.TIz D.TITO D.TIi1 D.TIi2 u2)
    · exact (sb.2 _ D.TOz).trans w2
    · exact w3.1.at fun o q => (sb.2 _ D.i1z).trans q
    · exact w4.1.at fun o q => (sb.2 _ D.i2z).trans q
    · have lt : c < s.heap.objs.size := by
        simp only [List.mem_cons, List.not_mem_nil, or_false] at hcm
        rcases hcm with q | q | q | q | q <;> subst q
        · exact zlt
        · exact Heap.lt_size u2
        · exact Heap.lt_size u3
        · obtain ⟨_, k, _⟩ := u4
          exact Heap.lt_size k
        · obtain ⟨_, k, _⟩ := u5
          exact Heap.lt_size k
      rw [upd_ne (Nat.ne_of_lt lt)]
      exact (hf c hcm).1
  done := by
    intro X e1 e2 e3 hc i pins s σ H E I hf st stop
    subst e1 e2 e3
    obtain ⟨u1, u2, ⟨x0, y0, u3⟩, u4, u5⟩ := st
    obtain ⟨xs, ys, ⟨qx, qy⟩, l1, l2⟩ := stop
    obtain ⟨us, rx, px, _⟩ := I.tuple qx
    obtain ⟨ws, ry, py, _⟩ := I.list qy
    have hd : X.A.handled = none := I.ok.hd hc
    have k1 := rx.length
    have k2 := ry.length
    refine wpAny_pyNext_zipD2_end (sep_of D) (Draws.tuple (A := X.A.in1) hd i1 a D.l1i1 us.toArray) (Draws.list (A := X.A.in1) hd i2 b D.l2i2 ws.toArray) u1 u2 u3 ⟨u4, px⟩ ⟨u5, py.isList⟩ (by rw [List.size_toArray]; omega) (by rw [List.size_toArray]; omega) (.inl (by rw [List.size_toArray]; omega)) fun h1 tk kp => ⟨rfl, I.turnedL (t' := tk) (ch := [z, TI, TO, i1, i2]) (fun c o nb q => ?_) hf⟩
    simp only [List.mem_cons, List.not_mem_nil, or_false, not_or] at nb
    exact kp c o nb.1 nb.2.2.1 nb.2.2.2.1 nb.2.2.2.2 q
  self := fun A i s Q E st h => wpAny_pyIter_zip st.1 h
def iZipM (K : PySem.W.Frag) (ta : TA) : TI := fun σ H R => ta σ H fun vs H1 => ∃ a b xs ys, vs = [.ref a, .ref b] ∧ (SqT K H1 a xs ∧ SqL K H1 b ys) ∧ R (ItzM K a b) H1
theorem pi_zipM {X : Cx} {e e2 : Expr} {ta : TA} {p pos tpos : Pos} {elts : List Expr} {kk : Nat} (hg : Gl X "zip") (hm : X.mg "zip" = none) (ha : PA X [e, e2] ta)
    (h1 : starEach [e, e2] X.env = (false, eval e X.env) :: starEach [e2] X.env := by rfl) (h2 : (backTo pos (starEach [e2] X.env)).any (·.1) = false := by rfl) : PI X (.Tuple elts kk tpos) (.Call (.Name "zip" p) [e, e2] [] pos) (iZipM X.K ta) := by
  refine ⟨fun pins s σ H R I h => ?_⟩
  refine Call_ (ld_blt I hg hm boot_zip (callWith_type1 (thn (ha.run pos pins s σ H _ I h) fun us s1 ⟨vs, H1, I1, r1, q1⟩ => ?_) h1 h2))
  obtain ⟨a, b, xs, ys, ex, ⟨qx, qy⟩, q⟩ := q1
  subst ex
  obtain ⟨u1, u2, rfl, ra, rb⟩ := vals2 r1
  obtain rfl : u1 = Value.ref a := ra
  obtain rfl : u2 = Value.ref b := rb
  obtain ⟨us, _, px, _⟩ := I1.tuple qx
  obtain ⟨ws, _, py, _⟩ := I1.list qy
  have lta : a < s1.heap.objs.size := by
    obtain ⟨o, ho, _⟩ := id px
    exact Heap.lt_size ho
  refine zip_begins2 (begins_tuple a us.toArray) (begins_list b ws.toArray) px py.isList fun h' w1 w2 w3 w4 w5 w6 w7 => wpAny_pyIter_zip w1 ?_
  refine ⟨s1.heap.objs.size + 4, [s1.heap.objs.size + 4, s1.heap.objs.size + 2, s1.heap.objs.size + 3, s1.heap.objs.size, s1.heap.objs.size + 1], _, _, H1, rfl, I1.kept (t' := s1.toks) w7, turn_zipM (PySem.W.ktu_apart s1.heap.objs.size a b lta py.lt), ⟨w1, w2, ⟨_, _, w3⟩, ⟨_, w4, rfl, rfl⟩, ⟨_, w5, rfl, rfl⟩⟩, fun c hcm => ?_, q⟩
  have le : s1.heap.objs.size ≤ c := by
    simp only [List.mem_cons, List.not_mem_nil, or_false] at hcm
    rcases hcm with k | k | k | k | k <;> rw [k]
    · exact Nat.le_add_right _ _
    · exact Nat.le_add_right _ _
    · exact Nat.le_add_right _ _
    · exact Nat.le_refl _
    · exact Nat.le_add_right _ _
  exact I1.fpOk le (I1.hok.fresh le)
/-- the walk of both, as long as one another -/
theorem walk_zipM {K : PySem.W.Frag} {a b : Addr} {xs ys : List V} (hl : xs.length = ys.length) : Walk (ItzM K a b) xs.length (fun H => SqT K H a xs ∧ SqL K H b ys) (YPair (fun i => xs[i]?) (fun i => ys[i]?)) := by
  refine ⟨fun i _ hi k => ⟨xs, ys, xs[i], ys[i]'(by omega), ⟨k.1, List.getElem?_eq_getElem hi⟩, k.2, List.getElem?_eq_getElem _⟩, fun _ k => ⟨xs, ys, k, rfl, hl⟩, fun i H v H' _ k y => ?_⟩
  obtain ⟨T, x, z, g1, ⟨g2, g3⟩, g4, g5⟩ := y
  exact ⟨T, x, z, g1, g2, g3, g4 xs k.1, g5 ys k.2⟩
end K1

namespace K1
open PySem PySem.Spec PyProof.Rows L2
/-! ### of divisors -/
theorem gcdL_rev (ns : List Int) : gcdL ns.reverse = gcdL ns := Nat.dvd_antisymm (dvd_gcdL fun n h => gcdL_dvd (List.mem_reverse.mpr h)) (dvd_gcdL fun n h => gcdL_dvd (List.mem_reverse.mp h))
theorem gcdL_nz (ns : List Int) : gcdL (nz ns) = gcdL ns := by
  refine Nat.dvd_antisymm (dvd_gcdL fun n h => ?_) (dvd_gcdL fun n h => gcdL_dvd (List.mem_filter.mp h).1)
  by_cases z : n = 0
  · rw [z]
    exact Nat.dvd_zero _
  · exact gcdL_dvd (List.mem_filter.mpr ⟨h, by simpa using z⟩)
theorem fold_mul (G : Int) : ∀ (ns : List Int) (g : Nat), (ns.map (G * ·)).foldl (fun g n => Nat.gcd g n.natAbs) (G.natAbs * g) = G.natAbs * ns.foldl (fun g n => Nat.gcd g n.natAbs) g
  | [], g => rfl
  | n :: ns, g => by
    show (ns.map (G * ·)).foldl _ (Nat.gcd (G.natAbs * g) (G * n).natAbs) = G.natAbs * ns.foldl _ (Nat.gcd g n.natAbs)
    rw [Int.natAbs_mul, Nat.gcd_mul_left]
    exact fold_mul G ns _
theorem gcdL_mul (G : Int) (ns : List Int) : gcdL (ns.map (G * ·)) = G.natAbs * gcdL ns := by
  have := fold_mul G ns 0
  rw [Nat.mul_zero] at this
  exact this
def fst (ns : List Int) : Int := (nz ns).headD 0
theorem fst_mem {ns : List Int} (h : gcdL ns ≠ 0) : fst ns ≠ 0 ∧ fst ns ∈ ns := by
  obtain ⟨z, r, e, z0, hz⟩ := nz_ne h
  unfold fst
  rw [e]
  exact ⟨z0, hz⟩
theorem fst_zero {ns : List Int} : fst ns = 0 ↔ gcdL ns = 0 := by
  constructor
  · intro h
    exact Classical.byContradiction fun g => (fst_mem g).1 h
  · intro h
    have : nz ns = [] := by
      unfold nz
      rw [List.filter_eq_nil_iff]
      intro n hn
      rw [gcdL_zero.mp h n hn]
      decide
    unfold fst
    rw [this]
    rfl
/-- each is the sign and the divisor times its part -/
theorem quot {ns : List Int} (g : gcdL ns ≠ 0) {n : Int} (h : n ∈ ns) : n = signG ns * n.fdiv (signG ns) := by
  have d : signG ns ∣ n := by
    rw [← Int.natAbs_dvd_natAbs, signG_abs]
    exact gcdL_dvd h
  obtain ⟨c, e⟩ := d
  have s0 : signG ns ≠ 0 := fun z => g (by rw [← signG_abs, z]; rfl)
  have e2 : n.fdiv (signG ns) = c := by
    conv => lhs; lhs; rw [e]
    exact Int.mul_fdiv_cancel_left c s0
  rw [e2]
  exact e
theorem sign_pos {ns : List Int} (h : 0 < fst ns) : signG ns = (gcdL ns : Nat) := by
  unfold signG
  exact if_neg (show ¬ fst ns < 0 by omega)
theorem sign_neg {ns : List Int} (h : fst ns < 0) : signG ns = -((gcdL ns : Nat) : Int) := by
  unfold signG
  exact if_pos h
theorem back {ns : List Int} {i : Nat} {t n : Int} (h1 : (primL ns)[i]? = some t) (h2 : ns[i]? = some n) : t * ((gcdL ns : Nat) : Int) * (if decide (0 < fst ns) = true then 1 else -1) = n := by
  by_cases g : gcdL ns = 0
  · have z := gcdL_zero.mp g n (List.mem_of_getElem? h2)
    rw [g, z]
    simp
  · unfold primL at h1
    rw [if_neg g, List.getElem?_map, h2] at h1
    cases h1
    have e := quot g (List.mem_of_getElem? h2)
    obtain ⟨f0, _⟩ := fst_mem g
    show n.fdiv (signG ns) * ((gcdL ns : Nat) : Int) * _ = n
    by_cases p : 0 < fst ns
    · rw [if_pos (decide_eq_true p), Int.mul_one]
      rw [sign_pos p] at e ⊢
      rw [Int.mul_comm]
      exact e.symm
    · rw [if_neg (by simpa using p)]
      rw [sign_neg (show fst ns < 0 by omega)] at e ⊢
      generalize n.fdiv (-((gcdL ns : Nat) : Int)) = c at e ⊢
      rw [e]
      grind
theorem primL_len (ns : List Int) : (primL ns).length = ns.length := by
  unfold primL
  split
  · rfl
  · rw [List.length_map]
theorem primL_zero {ns : List Int} (h : fst ns = 0) : primL ns = ns := by
  unfold primL
  rw [if_pos (fst_zero.mp h)]
theorem primN_row (ns : List Int) : primN ns = (decide (((gcdL ns : Nat) : Int) = 1) && decide (0 < fst ns)) := by
  unfold primN
  rw [gcdL_nz]
  show (decide (0 < (nz ns).length) && (decide (0 < fst ns) && decide (gcdL ns = 1))) = _
  have e : decide (gcdL ns = 1) = decide (((gcdL ns : Nat) : Int) = 1) := by
    rw [Bool.eq_iff_iff, decide_eq_true_iff, decide_eq_true_iff]
    omega
  rw [e]
  by_cases p : 0 < fst ns
  · have : 0 < (nz ns).length := by
      cases k : nz ns with
      | nil =>
        unfold fst at p
        rw [k] at p
        exact absurd p (by decide)
      | cons => exact Nat.succ_pos _
    rw [decide_eq_true this, decide_eq_true p]
    simp
  · rw [decide_eq_false p]
    simp
theorem nz_prim {ns : List Int} (g : gcdL ns ≠ 0) : nz (ns.map (·.fdiv (signG ns))) = (nz ns).map (·.fdiv (signG ns)) := by
  unfold nz
  rw [List.filter_map]
  congr 1
  refine List.filter_congr fun n hn => ?_
  have e := quot g hn
  have s0 : signG ns ≠ 0 := fun z => g (by rw [← signG_abs, z]; rfl)
  show decide (n.fdiv (signG ns) ≠ 0) = decide (n ≠ 0)
  rw [Bool.eq_iff_iff, decide_eq_true_iff, decide_eq_true_iff]
  constructor
  · intro h k
    rw [k] at h
    exact h (Int.zero_fdiv _)
  · intro h k
    rw [k, Int.mul_zero] at e
    exact h e
theorem primN_told (ns : List Int) : primN (primL ns) = !decide (fst ns = 0) := by
  by_cases g : gcdL ns = 0
  · have f := fst_zero.mpr g
    rw [primL_zero f, primN_row, f]
    simp
  · obtain ⟨f0, fm⟩ := fst_mem g
    rw [decide_eq_false f0, primN_row]
    have e : primL ns = ns.map (·.fdiv (signG ns)) := by
      unfold primL
      rw [if_neg g]
    have e1 : ns = (primL ns).map (signG ns * ·) := by
      rw [e, List.map_map]
      conv => lhs; rw [← List.map_id ns]
      exact List.map_congr_left fun n hn => quot g hn
    have g1 : gcdL (primL ns) = 1 := by
      have k := gcdL_mul (signG ns) (primL ns)
      rw [← e1, signG_abs] at k
      have : gcdL ns * 1 = gcdL ns * gcdL (primL ns) := by omega
      exact (Nat.eq_of_mul_eq_mul_left (Nat.pos_of_ne_zero g) this).symm
    have f1 : fst (primL ns) = (fst ns).fdiv (signG ns) := by
      unfold fst
      rw [e, nz_prim g]
      obtain ⟨z, r, k, _⟩ := nz_ne g
      rw [k]
      rfl
    have p : 0 < fst (primL ns) := by
      rw [f1]
      have q := quot g fm
      generalize hc : (fst ns).fdiv (signG ns) = c at q ⊢
      have gp : (0 : Int) < (gcdL ns : Nat) := by omega
      by_cases k : 0 < fst ns
      · rw [sign_pos k] at q
        rw [q] at k
        exact Int.pos_of_mul_pos_of_pos' k gp
      · have k : fst ns < 0 := by omega
        rw [sign_neg k] at q
        have : 0 < ((gcdL ns : Nat) : Int) * c := by
          have : -((gcdL ns : Nat) : Int) * c = -(((gcdL ns : Nat) : Int) * c) := Int.neg_mul _ _
          omega
        exact Int.pos_of_mul_pos_of_pos' this gp
    rw [g1, decide_eq_true p]
    rfl
theorem nz_mul {G : Int} (hG : G ≠ 0) (ns : List Int) : nz (ns.map (G * ·)) = (nz ns).map (G * ·) := by
  unfold nz
  rw [List.filter_map]
  congr 1
  refine List.filter_congr fun n hn => ?_
  show decide (G * n ≠ 0) = decide (n ≠ 0)
  rw [Bool.eq_iff_iff, decide_eq_true_iff, decide_eq_true_iff]
  constructor
  · intro h k
    rw [k, Int.mul_zero] at h
    exact h rfl
  · intro h k
    exact h ((Int.mul_eq_zero.mp k).resolve_left hG)
theorem primL_neg {G : Int} (hG : 0 < G) (ns : List Int) : primL (ns.map (-G * ·)) = primL ns := by
  have hn : -G ≠ 0 := by omega
  by_cases g : gcdL ns = 0
  · have z := gcdL_zero.mp g
    have e : ns.map (-G * ·) = ns := by
      conv => rhs; rw [← List.map_id ns]
      exact List.map_congr_left fun n hn => by rw [z n hn]; simp
    rw [e]
  · have g2 : gcdL (ns.map (-G * ·)) ≠ 0 := by
      rw [gcdL_mul]
      exact Nat.mul_ne_zero (by omega) g
    obtain ⟨f0, _⟩ := fst_mem g
    have ef : fst (ns.map (-G * ·)) = -G * fst ns := by
      unfold fst
      rw [nz_mul hn]
      obtain ⟨z, r, k, _⟩ := nz_ne g
      rw [k]
      rfl
    have eg : ((gcdL (ns.map (-G * ·)) : Nat) : Int) = G * (gcdL ns : Nat) := by
      rw [gcdL_mul, Int.natAbs_neg, Int.natCast_mul, Int.natAbs_of_nonneg (by omega)]
    have es : signG (ns.map (-G * ·)) = -G * signG ns := by
      by_cases p : 0 < fst ns
      · have k : fst (ns.map (-G * ·)) < 0 := by
          rw [ef, Int.neg_mul]
          have := Int.mul_pos hG p
          omega
        rw [sign_neg k, sign_pos p, eg, Int.neg_mul]
      · have p : fst ns < 0 := by omega
        have k : 0 < fst (ns.map (-G * ·)) := by
          rw [ef]
          exact Int.mul_pos_of_neg_of_neg (by omega) p
        rw [sign_pos k, sign_neg p, eg, Int.neg_mul, Int.mul_neg, Int.neg_neg]
    have s0 : signG ns ≠ 0 := fun z => g (by rw [← signG_abs, z]; rfl)
    unfold primL
    rw [if_neg g, if_neg g2, List.map_map, es]
    refine List.map_congr_left fun n hm => ?_
    show (-G * n).fdiv (-G * signG ns) = n.fdiv (signG ns)
    have e := quot g hm
    generalize n.fdiv (signG ns) = c at e ⊢
    rw [e, ← Int.mul_assoc]
    exact Int.mul_fdiv_cancel_left c (Int.mul_ne_zero hn s0)
end K1

namespace K1
open PySem PySem.Spec PyProof.Rows L2
/-- no primitive row, whatever the cup becomes -/
def NoP (p : Addr) (H : Hp) (v : V) : Prop := ∃ o, primB o = false ∧ ∀ H', Kp p H H' → Jg H' v o
section
variable {p a : Addr} {H H' : Hp} {v : V} {xs : List V}
theorem NoP.kp (b : NoP p H v) (k : Kp p H H') : NoP p H' v := let ⟨o, e, h⟩ := b; ⟨o, e, fun H2 k2 => h H2 (k.trans k2)⟩
theorem nop_scal {t : String} (k : ∀ H', Kd H' v t) (e : seqT t = false) : NoP p H v := ⟨none, rfl, fun H' _ => ⟨t, k H', e⟩⟩
theorem nop_lst (n : a ≠ p) (h : H a = some (.lst xs)) (hk : ∀ x ∈ xs, ∃ t, ∀ H, Kd H x t) (hl : xs.length ≤ 100) (e : primB (some xs) = false) : NoP p H (.ref a) := ⟨some xs, e, fun H' k => ⟨a, rfl, .inl (k.lst n h), kd1 hk, hl⟩⟩
theorem nop_tup (n : a ≠ p) (h : H a = some (.tup xs)) (hk : ∀ H', Kp p H H' → AllKd H' xs) (hl : xs.length ≤ 100) (e : primB (some xs) = false) : NoP p H (.ref a) := ⟨some xs, e, fun H' k => ⟨a, rfl, .inr (k.tup n h), hk H' k, hl⟩⟩
theorem nop_dK {kvs : List (Key × V)} (n : a ≠ p) (h : H a = some (.dK kvs)) : NoP p H (.ref a) := ⟨none, rfl, fun H' k => ⟨_, .dK (k.dK n h), rfl⟩⟩
end
theorem gcdL_le {ns : List Int} {m : Nat} (h : ∀ n ∈ ns, n.natAbs ≤ m) : gcdL ns ≤ m := by
  by_cases g : gcdL ns = 0
  · omega
  · obtain ⟨z, r, _, z0, hz⟩ := nz_ne g
    exact Nat.le_trans (Nat.le_of_dvd (Int.natAbs_pos.mpr z0) (gcdL_dvd hz)) (h z hz)
theorem eqv_ints : ∀ ns : List Int, PyData.eqvAll (ns.map PyData.int) (ns.map PyData.int) = true
  | [] => by simp [PyData.eqvAll]
  | n :: ns => by
    have := eqv_ints ns
    simp [PyData.eqvAll, PyData.eqv, this]
theorem eqv_tup (ns : List Int) : PyData.eqv (.tuple (ns.map PyData.int)) (.tuple (ns.map PyData.int)) = true := by
  have := eqv_ints ns
  simp [PyData.eqv, this]
theorem sh_tup (ns : List Int) : SeqAt.shaped (.tuple (ns.map PyData.int)) = true := PySem.W.ke_shaped_ints ns
theorem dp_tup {K : PySem.W.Frag} {H : Hp} {t : Addr} {ns : List Int} (h : H t = some (.tup (ns.map V.int))) : Dp K H (.ref t) (.tuple (ns.map PyData.int)) := .tup (SqT.of h) (dp_ints ns)
theorem ne_tup {K : PySem.W.Frag} {H : Hp} {Q : VK} {t s : Addr} {ns : List Int} (h1 : H t = some (.tup (ns.map V.int))) (h2 : H s = some (.tup (ns.map V.int))) (q : Q (.bl false) H) : rNeD K (.ref t) (.ref s) H Q := by
  refine ⟨_, _, dp_tup h1, dp_tup h2, sh_tup ns, sh_tup ns, ?_⟩
  rw [eqv_tup]
  exact q
theorem primB_ints (ns : List Int) : primB (some (ns.map V.int)) = primN ns := by
  have h1 : (ns.map V.int).all isI = true := ints_all ns
  show ((ns.map V.int).all isI && primN ((ns.map V.int).map toI)) = _
  rw [h1, toI_ints]
  rfl
theorem cd_use {C : Addr} {H : Hp} {Q : VK} {a : Addr} {ns : List Int} (h : Sq H a (ns.map V.int)) (l : ns.length ≤ 100) (q : RI (gcdL ns : Nat) H Q) : spCd C [.ref a] H Q E0 :=
  ⟨_, _, rfl, jg_ints h l, (fun e => by rw [ints_all] at e; cases e), fun ms em => by
    have em : ns = ms := (List.map_inj_right (fun _ _ z => V.int.inj z)).mp (Option.some.inj em)
    subst em
    exact q⟩
theorem pr_use {C : Addr} {H : Hp} {Q : VK} {a : Addr} {ns : List Int} (h : Sq H a (ns.map V.int)) (l : ns.length ≤ 100) (hb : ∀ n ∈ ns, n.natAbs < 2 ^ 8000) (q : RL (primL ns) H Q) : spPr C [.ref a] H Q E0 :=
  ⟨_, _, rfl, jg_ints h l, (fun e => by rw [ints_all] at e; cases e), fun ms em => by
    have em : ns = ms := (List.map_inj_right (fun _ _ z => V.int.inj z)).mp (Option.some.inj em)
    subst em
    exact ⟨hb, q⟩⟩
theorem ip_use {H : Hp} {Q : VK} {a : Addr} {ns : List Int} (h : Sq H a (ns.map V.int)) (l : ns.length ≤ 100) (q : RB (primN ns) H Q) : spIp [.ref a] H Q E0 :=
  ⟨_, _, rfl, jg_ints h l, by rw [primB_ints]; exact q⟩
theorem dec_i {a b : Int} : decide (V.int a = V.int b) = decide (a = b) := by
  rw [Bool.eq_iff_iff, decide_eq_true_iff, decide_eq_true_iff]
  exact ⟨fun z => V.int.inj z, fun z => by rw [z]⟩
theorem head_cat (ns : List Int) : atI ((nz ns).map V.int ++ [V.int 0]) ((0 : Nat) : Int) = some (V.int (fst ns)) := by
  refine atI_nat ?_
  unfold fst
  cases nz ns <;> rfl
section
variable {P : Program} {w : World} {K : PySem.W.Frag} {mg : Str → Option Value} {base : Heap} {C : Addr}
/-! ### _law_divisors_right -/
abbrev sDR : Stmt := top 30
abbrev nDR : List Str := ["_law_cup_here", "_law_shared", "_law_row", "_law_found", "_law_due", "_law_told", "_law_first", "_law_great", "_law_odd", "_law_turn", "_law_number", "_law_one", "_law_other"]
theorem scDR : FnScope nDR ["_law_cup_here"] (defScope sDR) := ⟨rfl, rfl, rfl, by decide +kernel, rfl, by decide +kernel, by decide +kernel⟩
theorem ok_dr {f : Addr} {fd : FuncData} (F : Fun K "_law_divisors_right" "_law_divisors_right" sDR f fd) (B : Bn mg) (C1 : CalleeK P w K mg base (L2.CX P w) 3 "common_divisor" ["values"] ["values"] gKw gKw (spCd C)) (C2 : Callee P w K mg base CX0 1 "is_integer" ["value"] spInt) (C3 : CalleeK P w K mg base (L2.CX P w) 4 "primitive" ["values"] ["values"] gKw gKw (spPr C))
    (C4 : Callee P w K mg base CX0 2 "_law_measure" ["_law_numbers"] spMe) (C5 : Callee P w K mg base CX0 2 "_law_pick" ["_law_cup_here", "_law_some"] spPick) (C6 : Callee P w K mg base CX0 1 "_law_dip" ["_law_cup_here", "_law_many"] spDip) (C7 : CalleeK P w K mg base CX0 4 "is_primitive" ["value"] ["value"] gKw gKw spIp) (CS : Callee P w K mg base CX0 1 "_law_same" ["_law_told", "_law_due"] spSame) : FnOk P w K mg base CX0 6 f fd ["_law_cup_here"] (spPart 40) := by
  obtain ⟨f1, fd1, m1, k1, b1, kb1, G1⟩ := C1
  obtain ⟨f2, fd2, m2, k2, b2, G2⟩ := C2
  obtain ⟨f3, fd3, m3, k3, b3, kb3, G3⟩ := C3
  obtain ⟨f4, fd4, m4, k4, b4, G4⟩ := C4
  obtain ⟨f5, fd5, m5, k5, b5, G5⟩ := C5
  obtain ⟨f6, fd6, m6, k6, b6, G6⟩ := C6
  obtain ⟨f7, fd7, m7, k7, b7, kb7, G7⟩ := C7
  obtain ⟨fS, fdS, mS, kS, bS, GS⟩ := CS
  have nd := scDR.nd
  refine F.ok scDR (fun vs H Q E h => ?_) (fun cdv A outer s H vs Q E hr h => ?_)
  · obtain ⟨p, n, rfl, _⟩ := h
    rfl
  · obtain ⟨p, n, rfl, hv, hn, q⟩ := h
    refine ⟨_, (pss_cons (ps_set (i := 1) nd rfl (Or.inr rfl) (pe_call G6 (hr.mono (by decide)) rfl m6 k6 b6 .nil pass0 (pa_cons (pv 0) (pa_cons (pe_int) pa_nil)))) (pss_cons (ps_setLc (i := 2) (own := [("_law_turn", 9)]) (g := gName 9) (tt := tYes) rfl nd rfl rfl (sw_true rfl rfl rfl (by decide +kernel)) (pi_range1 rfl B.range (pa_cons ((pe_call G6 (hr.mono (by decide)) rfl m6 k6 b6 .nil pass0 (pa_cons (pv 0) (pa_cons (pe_int) pa_nil)))) pa_nil)) (blkOk_by (N := nDR) (sc := defScope sDR) (by decide +kernel)) (fun _ _ _ _ _ => pg_name (i := 9) nd rfl (Or.inl rfl)) (fun _ _ _ _ _ => pts_nil) (fun _ _ _ _ _ => pe_op op_mul (pe_op op_sub (pe_call G6 (hr.mono (by decide)) rfl m6 k6 b6 .nil pass0 (pa_cons (pv 0) (pa_cons (pe_int) pa_nil))) pe_int) (pv 1))) (pss_cons (ps_asg (pe_tup (pa_cons ((pe_callK0 (E := E0) G1 (hr.mono (by decide)) rfl m1 k1 kb1 passL (pk_cons (pv 2) pk_nil))) (pa_cons ((pe_call G4 (hr.mono (by decide)) rfl m4 k4 b4 .nil pass0 (pa_cons (pv 2) pa_nil))) pa_nil))) (pg_tup rfl (pgs_cons (pg_name (i := 3) nd rfl (Or.inl rfl)) (pgs_cons (pg_name (i := 4) nd rfl (Or.inr rfl)) pgs_nil)))) (pss_cons (ps_if (PW.pt (pw_or ((pt_cmpR op_ne (pv 3) (pv 4) (nomark _))) (pw_or ((pt_cmpR op_ne ((pe_call (E := E0) G1 (hr.mono (by decide)) rfl m1 k1 b1 .nil passL (pa_cons ((pe_callTy call_tuple_of (by rfl) B.tuple (by decide +kernel) (pa_cons (pe_revL (pv 2)) pa_nil))) pa_nil))) (pv 4) (nomark _))) (pw_or1 (pt_not (pt_val (pe_call G2 (hr.mono (by decide)) rfl m2 k2 b2 .nil pass0 (pa_cons (pv 3) pa_nil)))))))) (pss_one (ps_ret pe_bl)) pss_nil) (pss_cons (ps_asg (pe_tup (pa_cons ((pe_callK0 (E := E0) G3 (hr.mono (by decide)) rfl m3 k3 kb3 passL (pk_cons (pv 2) pk_nil))) (pa_cons ((pe_ix ix_list (pe_op op_cat (pe_lc (own := [("_law_number", 10)]) (g := gName 10) rfl nd (pi_list (pv 2)) (blkOk_by (N := nDR) (sc := defScope sDR) (by decide +kernel)) (fun _ _ _ _ _ => pg_name (i := 10) nd rfl (Or.inl rfl)) (fun _ _ _ _ _ => pts_one (pt_cmpR op_ne (pv 10) (pe_int) (nomark _))) (fun _ _ _ _ _ => pv 10)) (pe_lst (pa_cons (pe_int) pa_nil))) (pe_int) (fun _ _ => rfl))) pa_nil))) (pg_tup rfl (pgs_cons (pg_name (i := 5) nd rfl (Or.inl rfl)) (pgs_cons (pg_name (i := 6) nd rfl (Or.inr rfl)) pgs_nil)))) (pss_cons (ps_if (PW.pt (pw_or (pt_not (pt_val (pe_callB (r := rIsi K) call_isi (by rfl) B.isinstance boot_isinstance (pa_cons (pv 5) (pa_cons (pe_bltn (v := .ty "tuple") (by rfl) B.tuple (by decide +kernel) rfl) pa_nil))))) (pw_or ((pt_cmpR (op_neD hr.units) (pe_lc (own := [("_law_one", 11), ("_law_other", 12)]) (g := gTup K 2 (gCons (gName 11) (gCons (gName 12) gNil))) rfl nd (pi_zipM (by rfl) B.zip (pa_cons (pv 5) (pa_cons (pv 2) pa_nil))) (blkOk_by (N := nDR) (sc := defScope sDR) (by decide +kernel)) (fun _ _ _ _ _ => pg_tup rfl (pgs_cons (pg_name (i := 11) nd rfl (Or.inl rfl)) (pgs_cons (pg_name (i := 12) nd rfl (Or.inl rfl)) pgs_nil)))
          (fun _ _ _ _ _ => pts_one (pt_cmpR op_ne (pe_op op_mul (pe_op op_mul (pv 11) (pv 4)) (pe_ifExp (pt_cmpR op_gt (pv 6) pe_int (nomark _)) pe_int (pe_un un_neg pe_int))) (pv 12) (nomark _))) (fun _ _ _ _ _ => pe_int)) (pe_lst pa_nil) (nomark _))) (pw_or1 ((pt_cmpR op_ne ((pe_callB call_len_seq (by rfl) B.len PySem.boot_len (pa_cons (pv 5) pa_nil))) ((pe_callB call_len_seq (by rfl) B.len PySem.boot_len (pa_cons (pv 2) pa_nil))) (nomark _))))))) (pss_one (ps_ret pe_bl)) pss_nil) (pss_cons (ps_if (PW.pt (pw_and ((pt_cmpR op_eq (pv 6) (pe_int) (nomark _))) (pw_and1 ((pt_cmpR (op_neD hr.units) (pv 5) ((pe_callTy call_tuple_of (by rfl) B.tuple (by decide +kernel) (pa_cons (pv 2) pa_nil))) (nomark _)))))) (pss_one (ps_ret pe_bl)) pss_nil) (pss_cons (ps_if (PW.pt (pw_or ((pt_not (pt_val (pe_call GS (hr.mono (by decide)) rfl mS kS bS .nil pass0 (pa_cons ((pe_call G7 (hr.mono (by decide)) rfl m7 k7 b7 .nil pass0 (pa_cons (pv 5) pa_nil))) (pa_cons (pe_cmpR op_ne (pv 6) pe_int (nomark _)) pa_nil)))))) (pw_or1 ((pt_not (pt_val (pe_call GS (hr.mono (by decide)) rfl mS kS bS .nil pass0 (pa_cons ((pe_callK0 G7 (hr.mono (by decide)) rfl m7 k7 kb7 pass0 (pk_cons (pv 2) pk_nil))) (pa_cons ((pe_and ((pe_cmpR op_eq (pv 4) (pe_int) (nomark _))) (pe_one (pe_cmpR op_gt (pv 6) pe_int (nomark _))))) pa_nil))))))))) (pss_one (ps_ret pe_bl)) pss_nil) (pss_cons (ps_set (i := 7) nd rfl (Or.inr rfl) (pe_op op_add (pe_op op_pow pe_int pe_int) (pe_call G6 (hr.mono (by decide)) rfl m6 k6 b6 .nil pass0 (pa_cons (pv 0) (pa_cons (pe_op op_pow pe_int pe_int) pa_nil))))) (pss_cons (ps_if (PW.pt (pw_or ((pt_cmpR op_ne ((pe_call (E := E0) G1 (hr.mono (by decide)) rfl m1 k1 b1 .nil passL (pa_cons (pe_lc (own := [("_law_number", 10)]) (g := gName 10) (tt := tYes) rfl nd (pi_list (pv 2)) (blkOk_by (N := nDR) (sc := defScope sDR) (by decide +kernel)) (fun _ _ _ _ _ => pg_name (i := 10) nd rfl (Or.inl rfl)) (fun _ _ _ _ _ => pts_nil) (fun _ _ _ _ _ => pe_op op_mul (pv 7) (pv 10))) pa_nil))) (pe_op op_mul (pv 7) (pv 4)) (nomark _))) (pw_or1 ((pt_cmpR (op_neD hr.units) ((pe_call (E := E0) G3 (hr.mono (by decide)) rfl m3 k3 b3 .nil passL (pa_cons (pe_lc (own := [("_law_number", 10)]) (g := gName 10) (tt := tYes) rfl nd (pi_list (pv 2)) (blkOk_by (N := nDR) (sc := defScope sDR) (by decide +kernel)) (fun _ _ _ _ _ => pg_name (i := 10) nd rfl (Or.inl rfl)) (fun _ _ _ _ _ => pts_nil) (fun _ _ _ _ _ => pe_op op_mul (pe_un un_neg (pv 7)) (pv 10))) pa_nil))) (pv 5) (nomark _)))))) (pss_one (ps_ret pe_bl)) pss_nil) (pss_cons ((ps_set (i := 8) nd rfl (Or.inl rfl) ((pe_call G5 (hr.mono (by decide)) rfl m5 k5 b5 .nil pass0 (pa_cons (pv 0) (pa_cons (pe_lst (pa_cons (pe_non) (pa_cons (pe_str) (pa_cons (pe_disp (pps_cons pe_int pe_int pps_nil) (by rfl) (by rfl) (fun z => by cases z) (by decide)) (pa_cons (pe_lst (pa_cons (pe_bl) pa_nil)) (pa_cons (pe_lst (pa_cons (pe_int) (pa_cons (pe_bl) pa_nil))) (pa_cons (pe_lst (pa_cons (pe_non) pa_nil)) (pa_cons (pe_lst (pa_cons (pe_str) pa_nil)) (pa_cons (pe_int) (pa_cons (pe_tup (pa_cons (pe_tup (pa_cons (pe_int) pa_nil)) pa_nil)) (pa_cons (pe_lst pa_nil) (pa_cons (pe_lst (pa_cons (pe_int) pa_nil)) (pa_cons (pe_tup (pa_cons (pe_int) (pa_cons (pe_int) pa_nil))) (pa_cons (pe_lst (pa_cons (pe_int) (pa_cons (pe_int) pa_nil))) (pa_cons (pe_lst (pa_cons (pe_un un_neg pe_int) (pa_cons (pe_int) pa_nil))) (pa_cons (pe_lst (pa_cons (pe_int) (pa_cons (pe_un un_neg pe_int) (pa_cons (pe_int) pa_nil)))) pa_nil)))))))))))))))) pa_nil)))))) (pss_one (ps_ret (pe_and ((pe_call GS (hr.mono (by decide)) rfl mS kS bS .nil pass0 (pa_cons ((pe_call G7 (hr.mono (by decide)) rfl m7 k7 b7 .nil pass0 (pa_cons (pv 8) pa_nil))) (pa_cons (pe_bl) pa_nil)))) (pe_and ((pe_call GS (hr.mono (by decide)) rfl mS kS bS .nil pass0 (pa_cons ((pe_call G7 (hr.mono (by decide)) rfl m7 k7 b7 .nil pass0 (pa_cons (pe_lst (pa_cons (pe_int) (pa_cons (pe_int) pa_nil))) pa_nil))) (pa_cons (pe_bl) pa_nil)))) (pe_and ((pe_cmpR op_eq ((pe_call (E := E0) G1 (hr.mono (by decide)) rfl m1 k1 b1 .nil passL (pa_cons (pe_tup pa_nil) pa_nil))) (pe_int) (nomark _))) (pe_one ((pe_cmpR (op_eqD hr.units) ((pe_call (E := E0) G3 (hr.mono (by decide)) rfl m3 k3 b3 .nil passL (pa_cons (pe_lst pa_nil) pa_nil))) (pe_tup pa_nil) (nomark _)))))))))))))))))))), ?_⟩
    refine ⟨_, rfl, p, 12, n, rfl, hv, by omega, by decide, by decide, fun H1 d1 s1 v1 a0 a1 => ?_⟩
    refine ⟨_, rfl, p, 5, n + 1, rfl, v1, by omega, by decide, by decide, fun H2 d2 s2 v2 b0 b1 => ⟨d2, rfl, by omega, by omega, fun D hD => ?_⟩⟩
    obtain ⟨_, _, _, hp2⟩ := v2.at
    have nDp : D ≠ p := (ne_of_none hp2 hD).symm
    have sD := same_new (o := .lst []) hD
    refine lc_range (lo := 0) (n := d2.toNat) (fun i H' => Cup H' p (n + 2 + i) ∧ SB p H2 H' ∧ ∃ zs : List Int, zs.length = i ∧ H' D = some (.lst (zs.map V.int)) ∧ ∀ z ∈ zs, z.natAbs ≤ 600)
      ⟨v2.same sD, SB.of sD, [], rfl, upd_same, fun z hz => nomatch hz⟩ (fun i H' hi pv => ?_) (fun H4 pv => ?_)
    · obtain ⟨v3, s3, zs, hzs, hD3, hz⟩ := pv
      refine ⟨rfl, yes_of ?_⟩
      refine ⟨_, rfl, p, 13, _, rfl, v3, by omega, by decide, by decide, fun H3 y s4 v4 y0 y1 => ?_⟩
      have hD4 := s4 _ _ nDp hD3
      obtain ⟨c1, c2, c3, c4, c5⟩ := v4
      have bz := prod_lt (a := y - 6) (b := d1) (by omega) (by omega)
      refine ⟨_, _, rfl, rfl, _, rfl, _, _, rfl, rfl, .inl ⟨by omega, by omega⟩, _, hD4, small1000 (by rw [List.length_map]; omega), ?_, ?_, zs ++ [(y - 6) * d1], by rw [List.length_append, hzs]; rfl, by rw [upd_same, List.map_append]; rfl, fun z h => ?_⟩
      · refine ⟨c1, c2, c3, by rw [upd_ne nDp.symm]; exact c4, c5.1, ?_, c5.2.2⟩
        have := c5.2.1
        omega
      · intro b o nb hb
        rw [upd_ne (ne_of_none hb hD)]
        exact s4 b o nb (s3 b o nb hb)
      · rcases List.mem_append.mp h with h | h
        · exact hz z h
        · rw [List.mem_singleton.mp h]
          exact bz
    obtain ⟨v4, s4, ns, hns, hD4, hz⟩ := pv
    have s04 := (s1.trans s2).trans s4
    have ln : ns.length ≤ 5 := by omega
    have lm : ns.length ≤ 100 := by omega
    have wide : ∀ {k : Nat} {z : Int}, z.natAbs ≤ k → k < 2 ^ 100 → z.natAbs < 2 ^ 8000 := fun h1 h2 => Nat.lt_of_le_of_lt h1 (Nat.lt_of_lt_of_le h2 (Nat.pow_le_pow_right (by decide) (by decide)))
    have gle : gcdL ns ≤ 600 := gcdL_le hz
    clear s1 s2 s4 hD sD hns v1 v2 hp2
    -- found, due
    refine ⟨_, rfl, cd_use (.inl hD4) lm fun H5 s5 => ?_⟩
    refine ⟨_, rfl, D, ns, rfl, s5 _ _ hD4, lm, fun z h => Nat.le_trans (hz z h) (by decide), fun H6 s6 => ?_⟩
    refine ⟨by show 2 ≤ sizeLine; decide, fun t0 n0 => ⟨t0, _, rfl, SqT.of upd_same, rfl, _, _, rfl, _, _, rfl, rfl, ?_⟩⟩
    have s7 := (s5.trans s6).trans (same_new (o := .tup [V.int ((gcdL ns : Nat) : Int), V.int ((gcdL ns : Nat) : Int)]) n0)
    have hD7 := s7 _ _ hD4
    generalize upd H6 t0 (.tup [V.int ((gcdL ns : Nat) : Int), V.int ((gcdL ns : Nat) : Int)]) = H7 at s7 hD7 ⊢
    clear s5 s6 n0
    -- as it must be, from behind, an integer
    refine ⟨_, rfl, _, rfl, rfl, _, rfl, ?_⟩
    rw [decide_eq_true (rfl : V.int ((gcdL ns : Nat) : Int) = V.int ((gcdL ns : Nat) : Int))]
    refine iteF ⟨_, rfl, D, _, rfl, SqL.of hD7, fun l hl => ?_⟩
    have er : (ns.map V.int).reverse = ns.reverse.map V.int := List.map_reverse.symm
    rw [er]
    have s8 := same_new (o := .lst (ns.reverse.map V.int)) hl
    refine ⟨l, _, rfl, .inl ⟨SqL.of upd_same, fun l2 hl2 => ?_⟩⟩
    have s9 := same_new (o := .tup (ns.reverse.map V.int)) hl2
    refine cd_use (.inr upd_same) (by rw [List.length_reverse]; exact lm) fun H8 s10 => ?_
    rw [gcdL_rev]
    refine ⟨_, rfl, rfl, _, rfl, ?_⟩
    rw [decide_eq_true (rfl : V.int ((gcdL ns : Nat) : Int) = V.int ((gcdL ns : Nat) : Int))]
    refine iteF ⟨_, rfl, _, _, rfl, .int _, _, rfl, iteF ?_⟩
    have s48 := s7.trans ((s8.trans s9).trans s10)
    have hD8 := s48 _ _ hD4
    clear s7 s8 s9 s10 hl hl2 hD7
    -- told, first
    refine ⟨_, rfl, pr_use (.inl hD8) lm (fun z h => wide (hz z h) (by decide)) fun H9 t s9 ht => ?_⟩
    have hD9 := s9 _ _ hD8
    refine ⟨_, rfl, D, rfl, ⟨_, SqL.of hD9⟩, fun D2 hD2 => ?_⟩
    refine lc_list (K := K) (a := D) (xs := ns.map V.int) (fun i H' => Same H9 H' ∧ H' D2 = some (.lst ((nz (ns.take i)).map V.int))) ⟨same_new hD2, upd_same⟩ (fun i H' _ p => SqL.of (p.1 _ _ hD9)) (fun i x H' hx p => ?_) (fun H10 p2 => ?_)
    · obtain ⟨z, hzi, rfl⟩ := get_ints hx
      refine ⟨rfl, _, rfl, rfl, _, rfl, ?_⟩
      by_cases z0 : z = 0
      · rw [decide_eq_true (show V.int z = V.int 0 by rw [z0])]
        refine iteF ⟨p.1, ?_⟩
        rw [nz_take hzi, if_neg (by simpa using z0)]
        exact p.2
      · rw [decide_eq_false (fun e => z0 (V.int.inj e))]
        refine iteT ⟨_, rfl, _, p.2, small1000 ?_, ?_, ?_⟩
        · rw [List.length_map]
          have := List.length_filter_le (fun n : Int => decide (n ≠ 0)) (ns.take i)
          rw [List.length_take] at this
          unfold nz
          omega
        · intro b o eb
          rw [upd_ne (ne_of_none eb hD2)]
          exact p.1 b o eb
        · rw [upd_same, nz_take hzi, if_pos z0, List.map_append]
          rfl
    obtain ⟨s10, hA⟩ := p2
    rw [List.length_map, List.take_length] at hA
    refine ⟨by show 1 ≤ sizeLine; decide, fun l hl => ?_⟩
    have s11 := same_new (o := .lst [V.int 0]) hl
    refine ⟨D2, l, _, _, rfl, rfl, s11 _ _ hA, upd_same, ?_, fun l2 hl2 => ?_⟩
    · rw [List.length_map]
      have : (nz ns).length ≤ ns.length := List.length_filter_le _ _
      exact Nat.le_trans (show _ ≤ 6 by show _ + 1 ≤ 6; omega) (by decide)
    have s12 := same_new (o := .lst ((nz ns).map V.int ++ [V.int 0])) hl2
    refine ⟨l2, _, ((0 : Nat) : Int), V.int (fst ns), rfl, rfl, SqL.of upd_same, head_cat ns, ?_⟩
    have s9A := (s10.trans s11).trans s12
    generalize upd (upd H10 l (.lst [V.int 0])) l2 (.lst ((nz ns).map V.int ++ [V.int 0])) = H11 at s9A ⊢
    refine ⟨by show 2 ≤ sizeLine; decide, fun t1 n1 => ⟨t1, _, rfl, SqT.of upd_same, rfl, _, _, rfl, _, _, rfl, rfl, ?_⟩⟩
    have s9B := s9A.trans (same_new (o := .tup [V.ref t, V.int (fst ns)]) n1)
    generalize upd H11 t1 (.tup [V.ref t, V.int (fst ns)]) = H12 at s9B ⊢
    have ht12 := s9B _ _ ht
    have s412 := (s48.trans s9).trans s9B
    have hD12 := s412 _ _ hD4
    clear s10 s11 s12 hl hl2 n1 hA s9A s9B s9 hD9 hD8 ht s48
    generalize hf : fst ns = fs at *
    -- told times due
    refine ⟨_, rfl, _, _, _, _, true, rfl, .ty _, (Kd.tup ht12).ty, kit_ty (by decide +kernel), _, rfl, iteF ?_⟩
    refine ⟨_, rfl, _, rfl, t, D, _, _, rfl, ⟨SqT.of ht12, SqL.of hD12⟩, fun D3 hD3 => ?_⟩
    have len2 : ((primL ns).map V.int).length = (ns.map V.int).length := by rw [List.length_map, List.length_map, primL_len]
    refine lc_it (walk_zipM (K := K) (a := t) (b := D) (xs := (primL ns).map V.int) (ys := ns.map V.int) len2) (fun i H' => Same H12 H' ∧ H' D3 = some (.lst [])) ⟨same_new hD3, upd_same⟩ (fun i H' _ pv => ⟨SqT.of (pv.1 _ _ ht12), SqL.of (pv.1 _ _ hD12)⟩) (fun i x H' H'' hi pv hy => ?_) (fun H13 pv => ?_)
    · obtain ⟨T, x1, x2, rfl, hT, rfl, e1, e2⟩ := hy
      obtain ⟨u, hu, rfl⟩ := get_ints e1
      obtain ⟨v, hv', rfl⟩ := get_ints e2
      have sT := same_new (o := .tup [V.int u, V.int v]) hT
      have bk := back hu hv'
      rw [hf] at bk
      refine ⟨T, _, rfl, SqT.of upd_same, rfl, _, _, rfl, _, _, rfl, rfl, rfl, ?_⟩
      refine ⟨_, rfl, _, rfl, _, _, rfl, rfl, .inr ⟨by omega, by omega⟩, _, rfl, _, _, rfl, rfl, _, rfl, ?_⟩
      by_cases pf : 0 < fs
      · rw [decide_eq_true pf] at bk ⊢
        rw [if_pos rfl] at bk
        refine iteT ⟨_, _, rfl, rfl, .inr ⟨by decide, by decide⟩, _, rfl, rfl, _, rfl, ?_⟩
        rw [decide_eq_true (show (fun i j => V.int (i * j)) (u * ((gcdL ns : Nat) : Int)) 1 = V.int v from congrArg V.int bk)]
        exact iteF ⟨pv.1.trans sT, sT _ _ pv.2⟩
      · rw [decide_eq_false pf] at bk ⊢
        rw [if_neg Bool.false_ne_true] at bk
        refine iteF ⟨_, rfl, _, _, rfl, rfl, .inr ⟨by decide, by decide⟩, _, rfl, rfl, _, rfl, ?_⟩
        rw [decide_eq_true (show (fun i j => V.int (i * j)) (u * ((gcdL ns : Nat) : Int)) (-1) = V.int v from congrArg V.int bk)]
        exact iteF ⟨pv.1.trans sT, sT _ _ pv.2⟩
    obtain ⟨s13, hE⟩ := pv
    refine ⟨Nat.zero_le _, fun l hl => ?_⟩
    have s14 := s13.trans (same_new (o := .lst []) hl)
    refine ⟨.list [], .list [], .lst (SqL.of (same_new hl _ _ hE)) .nil, .lst (SqL.of upd_same) .nil, by decide, by decide, _, rfl, iteF ?_⟩
    generalize upd H13 l (.lst []) = H14 at s14 ⊢
    have ht14 := s14 _ _ ht12
    have hD14 := s14 _ _ hD12
    refine ⟨_, rfl, t, _, rfl, .inr (SqT.of ht14), _, rfl, D, _, rfl, .inl (SqL.of hD14), rfl, _, rfl, ?_⟩
    rw [len2, decide_eq_true rfl]
    refine iteF ?_
    have s414 := s412.trans s14
    clear s13 s14 hE hl hD3 ht12 hD12 s412
    -- all 0
    rw [tNext_eq]
    dsimp only
    refine if_join (P := fun σ' H' => Same H14 H' ∧ σ' = [some (.ref p), some (.int d1), some (.ref D), some (.int ((gcdL ns : Nat) : Int)), some (.int ((gcdL ns : Nat) : Int)), some (.ref t), some (.int fs), none, none, none, none, none, none]) ?_ (fun rest => ?_)
    · rintro σ' H15 ⟨s15, rfl⟩
      have ht15 := s15 _ _ ht14
      have hD15 := s15 _ _ hD14
      refine if_join (P := fun σ' H' => Same H15 H' ∧ σ' = [some (.ref p), some (.int d1), some (.ref D), some (.int ((gcdL ns : Nat) : Int)), some (.int ((gcdL ns : Nat) : Int)), some (.ref t), some (.int fs), none, none, none, none, none, none]) ?_ (fun rest => ?_)
      · rintro σ' H17 ⟨s17, rfl⟩
        have ht17 := s17 _ _ ht15
        have hD17 := s17 _ _ hD15
        have s417 := s414.trans (s15.trans s17)
        have v17 := v4.same s417
        have s017 := s04.trans (SB.of s417)
        clear ht15 hD15 ht14 hD14 s17 s15 s414 v4 s04
        -- great
        refine ⟨_, _, rfl, rfl, ⟨by decide, by decide, by decide⟩, _, rfl, _, _, rfl, rfl, ⟨by decide, by decide, by decide⟩, p, _, _, rfl, v17, by omega, by decide +kernel, by decide +kernel, fun H18 e s18 v18 e0 e1 => ⟨_, _, rfl, rfl, ?_⟩⟩
        have ht18 := s18 _ _ (by obtain ⟨_, _, _, k⟩ := v17.at; exact ne_of ht17 k (by intro z; cases z)) ht17
        have hD18 := s18 _ _ nDp hD17
        have s018 := s017.trans s18
        have b1 : (10 : Int) ^ (Int.toNat 17) = 100000000000000000 := by decide
        rw [b1] at e1
        obtain ⟨G, hG⟩ : ∃ G : Int, G = (10 : Int) ^ (Int.toNat 17) + e := ⟨_, rfl⟩
        have G0 : 0 < G := by rw [hG, b1]; omega
        have G1 : G < 200000000000000000 := by rw [hG, b1]; omega
        have eG : (fun i j => V.int (i + j)) ((10 : Int) ^ (Int.toNat 17)) e = V.int G := by rw [hG]
        show gName 7 ((fun i j => V.int (i + j)) ((10 : Int) ^ (Int.toNat 17)) e) _ _ _
        rw [eG]
        clear hG eG e0 e1
        refine ⟨_, rfl, D, rfl, ⟨_, SqL.of hD18⟩, fun D4 hD4' => ?_⟩
        refine lc_list (K := K) (a := D) (xs := ns.map V.int) (fun i H' => Same H18 H' ∧ H' D4 = some (.lst (((ns.take i).map (G * ·)).map V.int))) ⟨same_new hD4', upd_same⟩ (fun i H' _ p => SqL.of (p.1 _ _ hD18)) (fun i x H' hx p => ?_) (fun H19 p2 => ?_)
        · obtain ⟨z, hzi, rfl⟩ := get_ints hx
          refine ⟨rfl, yes_of ?_⟩
          refine ⟨_, rfl, _, rfl, _, _, rfl, rfl, .inl ⟨by omega, by omega⟩, _, p.2, small1000 ?_, ?_, ?_⟩
          · rw [List.length_map, List.length_map, List.length_take]
            omega
          · intro b o eb
            rw [upd_ne (ne_of_none eb hD4')]
            exact p.1 b o eb
          · rw [upd_same, take_more hzi, List.map_append, List.map_append]
            rfl
        obtain ⟨s19, hA⟩ := p2
        rw [List.length_map, List.take_length] at hA
        refine cd_use (.inl hA) (by rw [List.length_map]; exact lm) fun H20 s20 => ?_
        refine ⟨_, rfl, _, rfl, _, _, rfl, rfl, .inl ⟨by omega, by omega⟩, rfl, _, rfl, ?_⟩
        have em : ((gcdL (ns.map (G * ·)) : Nat) : Int) = G * ((gcdL ns : Nat) : Int) := by
          rw [gcdL_mul, Int.natCast_mul, Int.natAbs_of_nonneg (by omega)]
        rw [decide_eq_true (show V.int ((gcdL (ns.map (G * ·)) : Nat) : Int) = (fun i j => V.int (i * j)) G ((gcdL ns : Nat) : Int) from congrArg V.int em)]
        have s1820 := s19.trans s20
        have hD20 := s1820 _ _ hD18
        refine iteF ⟨_, rfl, D, rfl, ⟨_, SqL.of hD20⟩, fun D5 hD5 => ?_⟩
        refine lc_list (K := K) (a := D) (xs := ns.map V.int) (fun i H' => Same H20 H' ∧ H' D5 = some (.lst (((ns.take i).map (-G * ·)).map V.int))) ⟨same_new hD5, upd_same⟩ (fun i H' _ p => SqL.of (p.1 _ _ hD20)) (fun i x H' hx p => ?_) (fun H21 p2 => ?_)
        · obtain ⟨z, hzi, rfl⟩ := get_ints hx
          refine ⟨rfl, yes_of ?_⟩
          refine ⟨_, rfl, _, rfl, _, rfl, _, _, rfl, rfl, .inl ⟨by omega, by omega⟩, _, p.2, small1000 ?_, ?_, ?_⟩
          · rw [List.length_map, List.length_map, List.length_take]
            omega
          · intro b o eb
            rw [upd_ne (ne_of_none eb hD5)]
            exact p.1 b o eb
          · rw [upd_same, take_more hzi, List.map_append, List.map_append]
            rfl
        obtain ⟨s21, hB⟩ := p2
        rw [List.length_map, List.take_length] at hB
        refine pr_use (.inl hB) (by rw [List.length_map]; exact lm) (fun z h => ?_) fun H22 t2 s22 ht2 => ?_
        · obtain ⟨y, hy, rfl⟩ := List.mem_map.mp h
          have b2 := hz y hy
          show (-G * y).natAbs < 2 ^ 8000
          refine wide (k := 200000000000000000 * 600) ?_ (by decide)
          rw [Int.natAbs_mul, Int.natAbs_neg]
          exact Nat.mul_le_mul (by omega) b2
        rw [primL_neg G0] at ht2
        have s1822 := s1820.trans (s21.trans s22)
        refine ⟨_, rfl, ne_tup ht2 (s1822 _ _ ht18) ⟨_, rfl, iteF ?_⟩⟩
        have v22 := v18.same s1822
        have s022 := s018.trans (SB.of s1822)
        obtain ⟨_, _, _, hp0⟩ := v22.at
        clear s19 s20 s21 s22 hA hB hD20 ht2 hD4' hD5 s1820
        -- no primitive ones
        refine ⟨_, rfl, ?_⟩
        refine fun q1 n1 => ⟨upd_same, [(Sum.inl 1, V.int 1)], rfl, by show 1 ≤ 15; decide, ?_⟩
        have u1 : upd (upd H22 q1 (.dK [])) q1 (.dK (mergeK [] [(Sum.inl 1, V.int 1)])) = upd H22 q1 (.dK [(Sum.inl 1, V.int 1)]) := by
          funext b
          unfold upd
          split <;> rfl
        rw [u1]
        have s1 := same_new (o := .dK [(Sum.inl 1, V.int 1)]) n1
        have g1 : upd H22 q1 (.dK [(Sum.inl 1, V.int 1)]) q1 = some (.dK [(Sum.inl 1, V.int 1)]) := upd_same
        have np1 : q1 ≠ p := (ne_of_none hp0 n1).symm
        have hp1 := s1 _ _ hp0
        generalize upd H22 q1 (.dK [(Sum.inl 1, V.int 1)]) = M1 at s1 g1 hp1 ⊢
        refine ⟨by show 1 ≤ sizeLine; decide, fun q2 n2 => ?_⟩
        have s2 := same_new (o := .lst [V.bl true]) n2
        have g2 : upd M1 q2 (.lst [V.bl true]) q2 = some (.lst [V.bl true]) := upd_same
        have np2 : q2 ≠ p := (ne_of_none hp1 n2).symm
        have hp2 := s2 _ _ hp1
        generalize upd M1 q2 (.lst [V.bl true]) = M2 at s2 g2 hp2 ⊢
        refine ⟨by show 2 ≤ sizeLine; decide, fun q3 n3 => ?_⟩
        have s3 := same_new (o := .lst [V.int 1, V.bl true]) n3
        have g3 : upd M2 q3 (.lst [V.int 1, V.bl true]) q3 = some (.lst [V.int 1, V.bl true]) := upd_same
        have np3 : q3 ≠ p := (ne_of_none hp2 n3).symm
        have hp3 := s3 _ _ hp2
        generalize upd M2 q3 (.lst [V.int 1, V.bl true]) = M3 at s3 g3 hp3 ⊢
        refine ⟨by show 1 ≤ sizeLine; decide, fun q4 n4 => ?_⟩
        have s4 := same_new (o := .lst [V.non]) n4
        have g4 : upd M3 q4 (.lst [V.non]) q4 = some (.lst [V.non]) := upd_same
        have np4 : q4 ≠ p := (ne_of_none hp3 n4).symm
        have hp4 := s4 _ _ hp3
        generalize upd M3 q4 (.lst [V.non]) = M4 at s4 g4 hp4 ⊢
        refine ⟨by show 1 ≤ sizeLine; decide, fun q5 n5 => ?_⟩
        have s5 := same_new (o := .lst [V.str "1"]) n5
        have g5 : upd M4 q5 (.lst [V.str "1"]) q5 = some (.lst [V.str "1"]) := upd_same
        have np5 : q5 ≠ p := (ne_of_none hp4 n5).symm
        have hp5 := s5 _ _ hp4
        generalize upd M4 q5 (.lst [V.str "1"]) = M5 at s5 g5 hp5 ⊢
        refine ⟨by show 1 ≤ sizeLine; decide, fun q6 n6 => ?_⟩
        have s6 := same_new (o := .tup [V.int 1]) n6
        have g6 : upd M5 q6 (.tup [V.int 1]) q6 = some (.tup [V.int 1]) := upd_same
        have np6 : q6 ≠ p := (ne_of_none hp5 n6).symm
        have hp6 := s6 _ _ hp5
        generalize upd M5 q6 (.tup [V.int 1]) = M6 at s6 g6 hp6 ⊢
        refine ⟨by show 1 ≤ sizeLine; decide, fun q7 n7 => ?_⟩
        have s7 := same_new (o := .tup [V.ref q6]) n7
        have g7 : upd M6 q7 (.tup [V.ref q6]) q7 = some (.tup [V.ref q6]) := upd_same
        have np7 : q7 ≠ p := (ne_of_none hp6 n7).symm
        have hp7 := s7 _ _ hp6
        generalize upd M6 q7 (.tup [V.ref q6]) = M7 at s7 g7 hp7 ⊢
        refine ⟨Nat.zero_le _, fun q8 n8 => ?_⟩
        have s8 := same_new (o := .lst []) n8
        have g8 : upd M7 q8 (.lst []) q8 = some (.lst []) := upd_same
        have np8 : q8 ≠ p := (ne_of_none hp7 n8).symm
        have hp8 := s8 _ _ hp7
        generalize upd M7 q8 (.lst []) = M8 at s8 g8 hp8 ⊢
        refine ⟨by show 1 ≤ sizeLine; decide, fun q9 n9 => ?_⟩
        have s9 := same_new (o := .lst [V.int 0]) n9
        have g9 : upd M8 q9 (.lst [V.int 0]) q9 = some (.lst [V.int 0]) := upd_same
        have np9 : q9 ≠ p := (ne_of_none hp8 n9).symm
        have hp9 := s9 _ _ hp8
        generalize upd M8 q9 (.lst [V.int 0]) = M9 at s9 g9 hp9 ⊢
        refine ⟨by show 2 ≤ sizeLine; decide, fun q10 n10 => ?_⟩
        have s10 := same_new (o := .tup [V.int 0, V.int 0]) n10
        have g10 : upd M9 q10 (.tup [V.int 0, V.int 0]) q10 = some (.tup [V.int 0, V.int 0]) := upd_same
        have np10 : q10 ≠ p := (ne_of_none hp9 n10).symm
        have hp10 := s10 _ _ hp9
        generalize upd M9 q10 (.tup [V.int 0, V.int 0]) = M10 at s10 g10 hp10 ⊢
        refine ⟨by show 2 ≤ sizeLine; decide, fun q11 n11 => ?_⟩
        have s11 := same_new (o := .lst [V.int 2, V.int 4]) n11
        have g11 : upd M10 q11 (.lst [V.int 2, V.int 4]) q11 = some (.lst [V.int 2, V.int 4]) := upd_same
        have np11 : q11 ≠ p := (ne_of_none hp10 n11).symm
        have hp11 := s11 _ _ hp10
        generalize upd M10 q11 (.lst [V.int 2, V.int 4]) = M11 at s11 g11 hp11 ⊢
        refine ⟨_, rfl, by show 2 ≤ sizeLine; decide, fun q12 n12 => ?_⟩
        have s12 := same_new (o := .lst [V.int (-1), V.int 2]) n12
        have g12 : upd M11 q12 (.lst [V.int (-1), V.int 2]) q12 = some (.lst [V.int (-1), V.int 2]) := upd_same
        have np12 : q12 ≠ p := (ne_of_none hp11 n12).symm
        have hp12 := s12 _ _ hp11
        generalize upd M11 q12 (.lst [V.int (-1), V.int 2]) = M12 at s12 g12 hp12 ⊢
        refine ⟨_, rfl, by show 3 ≤ sizeLine; decide, fun q13 n13 => ?_⟩
        have s13 := same_new (o := .lst [V.int 0, V.int (-3), V.int 2]) n13
        have g13 : upd M12 q13 (.lst [V.int 0, V.int (-3), V.int 2]) q13 = some (.lst [V.int 0, V.int (-3), V.int 2]) := upd_same
        have np13 : q13 ≠ p := (ne_of_none hp12 n13).symm
        have hp13 := s13 _ _ hp12
        generalize upd M12 q13 (.lst [V.int 0, V.int (-3), V.int 2]) = M13 at s13 g13 hp13 ⊢
        have sA : Same H22 M13 := ((((((((((((s1).trans s2).trans s3).trans s4).trans s5).trans s6).trans s7).trans s8).trans s9).trans s10).trans s11).trans s12).trans s13
        have z1 := s13 _ _ (s12 _ _ (s11 _ _ (s10 _ _ (s9 _ _ (s8 _ _ (s7 _ _ (s6 _ _ (s5 _ _ (s4 _ _ (s3 _ _ (s2 _ _ (g1))))))))))))
        have z2 := s13 _ _ (s12 _ _ (s11 _ _ (s10 _ _ (s9 _ _ (s8 _ _ (s7 _ _ (s6 _ _ (s5 _ _ (s4 _ _ (s3 _ _ (g2)))))))))))
        have z3 := s13 _ _ (s12 _ _ (s11 _ _ (s10 _ _ (s9 _ _ (s8 _ _ (s7 _ _ (s6 _ _ (s5 _ _ (s4 _ _ (g3))))))))))
        have z4 := s13 _ _ (s12 _ _ (s11 _ _ (s10 _ _ (s9 _ _ (s8 _ _ (s7 _ _ (s6 _ _ (s5 _ _ (g4)))))))))
        have z5 := s13 _ _ (s12 _ _ (s11 _ _ (s10 _ _ (s9 _ _ (s8 _ _ (s7 _ _ (s6 _ _ (g5))))))))
        have z6 := s13 _ _ (s12 _ _ (s11 _ _ (s10 _ _ (s9 _ _ (s8 _ _ (s7 _ _ (g6)))))))
        have z7 := s13 _ _ (s12 _ _ (s11 _ _ (s10 _ _ (s9 _ _ (s8 _ _ (g7))))))
        have z8 := s13 _ _ (s12 _ _ (s11 _ _ (s10 _ _ (s9 _ _ (g8)))))
        have z9 := s13 _ _ (s12 _ _ (s11 _ _ (s10 _ _ (g9))))
        have z10 := s13 _ _ (s12 _ _ (s11 _ _ (g10)))
        have z11 := s13 _ _ (s12 _ _ (g11))
        have z12 := s13 _ _ (g12)
        have z13 := g13
        have one : ∀ {x y : V}, x ∈ [y] → x = y := fun h => List.mem_singleton.mp h
        have two : ∀ {x y z : V}, x ∈ [y, z] → x = y ∨ x = z := fun h => by simpa using h
        have od : ∀ x ∈ [V.non, V.str "1", V.ref q1, V.ref q2, V.ref q3, V.ref q4, V.ref q5, V.int 1, V.ref q7, V.ref q8, V.ref q9, V.ref q10, V.ref q11, V.ref q12, V.ref q13], NoP p M13 x := fun x hx => by
          simp only [List.mem_cons, List.not_mem_nil, or_false] at hx
          rcases hx with e | e | e | e | e | e | e | e | e | e | e | e | e | e | e <;> rw [e]
          · exact nop_scal (fun _ => .non) rfl
          · exact nop_scal (fun _ => .str _) rfl
          · exact nop_dK np1 z1
          · exact nop_lst np2 z2 (fun x hx => by rw [one hx]; exact ⟨_, fun H => .bl _⟩) (by show 1 ≤ 100; decide) rfl
          · exact nop_lst np3 z3 (fun x hx => by rcases two hx with k | k <;> rw [k] <;> first | exact ⟨_, fun H => .int _⟩ | exact ⟨_, fun H => .bl _⟩) (by show 2 ≤ 100; decide) rfl
          · exact nop_lst np4 z4 (fun x hx => by rw [one hx]; exact ⟨_, fun H => .non⟩) (by show 1 ≤ 100; decide) rfl
          · exact nop_lst np5 z5 (fun x hx => by rw [one hx]; exact ⟨_, fun H => .str _⟩) (by show 1 ≤ 100; decide) rfl
          · exact nop_scal (fun _ => .int _) rfl
          · exact nop_tup np7 z7 (fun H' k x hx => by rw [one hx]; exact ⟨_, .tup (k.tup np6 z6)⟩) (by show 1 ≤ 100; decide) rfl
          · exact nop_lst np8 z8 (fun x hx => by cases hx) (Nat.zero_le _) (by decide +kernel)
          · exact nop_lst np9 z9 (fun x hx => by rw [one hx]; exact ⟨_, fun H => .int _⟩) (by show 1 ≤ 100; decide) (by decide +kernel)
          · exact nop_tup np10 z10 (fun H' k x hx => by rcases two hx with k | k <;> rw [k] <;> exact ⟨_, .int _⟩) (by show 2 ≤ 100; decide) (by decide +kernel)
          · exact nop_lst np11 z11 (fun x hx => by rcases two hx with k | k <;> rw [k] <;> exact ⟨_, fun H => .int _⟩) (by show 2 ≤ 100; decide) (by decide +kernel)
          · exact nop_lst np12 z12 (fun x hx => by rcases two hx with k | k <;> rw [k] <;> exact ⟨_, fun H => .int _⟩) (by show 2 ≤ 100; decide) (by decide +kernel)
          · exact nop_lst np13 z13 (fun x hx => by simp only [List.mem_cons, List.not_mem_nil, or_false] at hx; rcases hx with k | k | k <;> rw [k] <;> exact ⟨_, fun H => .int _⟩) (by show 3 ≤ 100; decide) (by decide +kernel)
        refine ⟨by show 15 ≤ sizeLine; decide, fun q14 n14 => ?_⟩
        have np14 : q14 ≠ p := (ne_of_none hp13 n14).symm
        have sL := same_new (o := .lst [V.non, V.str "1", V.ref q1, V.ref q2, V.ref q3, V.ref q4, V.ref q5, V.int 1, V.ref q7, V.ref q8, V.ref q9, V.ref q10, V.ref q11, V.ref q12, V.ref q13]) n14
        refine ⟨p, q14, _, _, rfl, (v22.same sA).same sL, by omega, upd_same, np14, by show 0 < 15; decide, by show 15 ≤ 1000; decide, fun N1 z sK vK hzz => ?_⟩
        obtain ⟨o, eo, jo⟩ := od z hzz
        have sLK : SB p M13 N1 := (SB.of sL).trans sK
        have s0K := s022.trans ((SB.of sA).trans sLK)
        refine ⟨_, rfl, _, o, rfl, jo N1 (Kp.ofS sLK), fun N2 r2 => ?_⟩
        rw [eo]
        refine ⟨_, rfl, _, rfl, iteT ?_⟩
        refine ⟨by show 2 ≤ sizeLine; decide, fun l3 m3' => ?_⟩
        have r3 := same_new (o := .lst ([0, 1].map V.int)) m3'
        refine ip_use (ns := [0, 1]) (.inl upd_same) (by decide) fun N4 r4 => ?_
        rw [show primN [0, 1] = true by decide +kernel]
        refine ⟨_, rfl, _, rfl, iteT ?_⟩
        refine ⟨Nat.zero_le _, fun l5 m5' => ?_⟩
        have r5 := same_new (o := .tup []) m5'
        refine cd_use (ns := []) (.inr upd_same) (by decide) fun N6 r6 => ?_
        refine ⟨rfl, _, rfl, iteT ?_⟩
        refine ⟨Nat.zero_le _, fun l7 m7' => ?_⟩
        have r7 := same_new (o := .lst []) m7'
        refine pr_use (ns := []) (.inl upd_same) (by decide) (fun z h => nomatch h) fun N8 t3 r8 ht3 => ?_
        refine ⟨Nat.zero_le _, fun l9 m9' => ?_⟩
        have r9 := same_new (o := .tup []) m9'
        refine ⟨.tuple [], .tuple [], .tup (SqT.of (r9 _ _ ht3)) .nil, .tup (SqT.of upd_same) .nil, by decide, by decide, ?_⟩
        have rA := ((r2.trans r3).trans (r4.trans r5)).trans ((r6.trans r7).trans (r8.trans r9))
        exact q _ (s0K.trans (SB.of rA)) ((vK.same rA).le (by omega))
      · refine ⟨_, rfl, ip_use (.inr ht15) (by rw [primL_len]; exact lm) fun H16 s16 => ?_⟩
        rw [primN_told, hf]
        refine ⟨_, rfl, rfl, ?_⟩
        rw [dec_i]
        refine ⟨_, rfl, _, rfl, iteF ?_⟩
        refine ⟨_, rfl, ip_use (.inl (s16 _ _ hD15)) lm fun H17 s17 => ?_⟩
        rw [primN_row, hf]
        refine ⟨_, rfl, rfl, _, rfl, ?_⟩
        rw [dec_i]
        cases e : decide (((gcdL ns : Nat) : Int) = 1) with
        | false => exact iteF ⟨_, rfl, _, rfl, iteF (rest _ _ ⟨s16.trans s17, rfl⟩)⟩
        | true => exact iteT ⟨_, rfl, _, _, rfl, rfl, decide (0 < fs), rfl, _, rfl, iteF (rest _ _ ⟨s16.trans s17, rfl⟩)⟩
    · refine ⟨_, rfl, rfl, _, rfl, ?_⟩
      rw [dec_i]
      by_cases f0 : fs = 0
      · rw [decide_eq_true f0]
        refine iteT ⟨_, rfl, _, rfl, D, _, rfl, .inl ⟨SqL.of hD14, fun l hl => ?_⟩⟩
        have sl := same_new (o := .tup (ns.map V.int)) hl
        have ez : primL ns = ns := primL_zero (by rw [hf]; exact f0)
        refine ne_tup (by rw [ez] at ht14; exact sl _ _ ht14) upd_same ⟨_, rfl, iteF ?_⟩
        exact rest _ _ ⟨sl, rfl⟩
      · rw [decide_eq_false f0]
        exact iteF (rest _ _ ⟨fun _ _ z => z, rfl⟩)
end
end K1

namespace K1
open PySem PySem.Spec PyProof.Rows L2
/-! ### an exception that was caught and is kept by a name -/
/-- the exception object at a, of the class cls, its own dict d -/
def Held (cls : Value) (d : Option Addr) (a : Addr) : HO := .ext fun h => ∃ (ob : Obj) (fv : Array Value), h.get? a = some ob ∧ Zc cls d ob ∧ ob.data = .fields fv
section
variable {X : Cx} {pins : List (Addr × Obj)} {σ : L2.St} {H : Hp} {s : Shared} {a : Addr} {ob : Obj} {fv : Array Value} {cls : Value} {d : Option Addr}
/-- a pinned exception that is newer than the frame is tracked from here on -/
theorem track (I : Inv X ((a, ob) :: pins) σ H s) (hz : Zc cls d ob) (hd : ob.data = .fields fv) (n0 : X.s_0.heap.get? a = none) (np : ∀ p ∈ X.pn ++ pins, p.1 ≠ a) : Inv X pins σ (upd H a (Held cls d a)) s := by
  obtain ⟨ha, hn, hL, hF, _⟩ := I.pin (a, ob) (List.mem_append_right _ List.mem_cons_self)
  have ha : s.heap.get? a = some ob := ha
  have hn : H a = none := hn
  have hL : a ≠ X.env.locals := hL
  have new : ObjOk X.prog X.w (upd H a (Held cls d a)) s.heap a (Held cls d a) := ⟨⟨ob, fv, ha, hz, hd⟩, ⟨ob, ha⟩, fun _ _ ⟨o, v, e, r⟩ k => ⟨o, v, k o e, r⟩⟩
  have old : ∀ b o, X.s_0.heap.get? b = some o → b ≠ a := fun b o e z => by
    rw [z, n0] at e
    cases e
  have tr : ∀ b o, H b = some o → upd H a (Held cls d a) b = some o := fun b o e => by
    rw [upd_ne (ne_of_none e hn)]
    exact e
  have B := I.base
  refine ⟨I.ok, I.os, I.bare, ⟨B.keep, B.slot, fun b o e n x => ?_, B.there, fun b xs e => tr _ _ (B.tups b xs e), fun b o u e => tr _ _ (B.frzs b o u e), fun b ps e => ?_⟩, I.loc, I.cell, ?_, fun x c e => ?_, fun p hp => ?_, HOk.laidN I.hok (fun _ _ q => q) hn new, I.len⟩
  · rw [upd_ne (old b o e)]
    exact B.free b o e n x
  · obtain ⟨m, q⟩ := B.tbls b ps e
    exact ⟨m, tr _ _ q⟩
  · rw [upd_ne hL.symm]
    exact I.free
  · have nc : c ≠ a := fun z => by
      obtain ⟨v, o, q, q2⟩ := I.cell x c e
      rw [z, ha] at q
      cases q
      rw [hd] at q2
      cases q2
    rw [upd_ne nc]
    exact I.freeC x c e
  · have hp2 : p ∈ X.pn ++ ((a, ob) :: pins) := by
      rcases List.mem_append.mp hp with z | z
      · exact List.mem_append_left _ z
      · exact List.mem_append_right _ (List.mem_cons_of_mem _ z)
    obtain ⟨e1, e2, e3⟩ := I.pin p hp2
    exact ⟨e1, by rw [upd_ne (np p hp)]; exact e2, e3⟩
/-- isinstance(e, C) of a kept exception of just this class, and its field -/
theorem held_at (I : Inv X pins σ H s) (e : H a = some (Held cls d a)) : ∃ ob fv, s.heap.get? a = some ob ∧ Zc cls d ob ∧ ob.data = .fields fv := by
  have z : ObjOk X.prog X.w H s.heap a (.ext fun h => ∃ (ob : Obj) (fv : Array Value), h.get? a = some ob ∧ Zc cls d ob ∧ ob.data = .fields fv) := I.hok a _ e
  exact z.1
end
/-! ### try: .. except C as n: y = n -/
/-- what the clause wishes of what its body raises: it is C's, and behind it y (slot j) keeps it -/
def wKeep (K : PySem.W.Frag) (c : Value) (i j m : Nat) (D : Ends) : WX := fun cls d σ H =>
  PySem.W.exmOne K cls c = some true ∧ ∀ a, H a = none → σ.length = m → D.nx (((σ.set i (some (.ref a))).set j (some (.ref a))).set i none) (upd H a (Held cls d a))
section
variable {X : Cx} {x n y : Str} {c : Value} {i j : Nat} {body : List Stmt} {np px py ap hp tp : Pos} {tb : WX → TS}
theorem ps_try_keep (stk : X.stack = X.env :: X.outer) (fra : X.env.frame = some X.env.locals) (noex : X.ex = []) (nod : X.N.Nodup) (atI : X.N[i]? = some n) (atJ : X.N[j]? = some y) (kn : X.env.kindOf n = some .local) (ly : Loc X.env.scope y) (fy : X.fn y = true ∨ X.env.scope.names.lookup y = some .local) (nm : Names X x c)
    (hi : i < X.N.length) (d1 : (n == ("__debug__" : Str)) = false) (d2 : (n == ("__classdict__" : Str)) = false)
    (run : ∀ (W : WX) (pn : List (Addr × Obj)) (xe : Value → Shared → Prop), Takes (X.tr pn xe) W → PassesOwn (model X.prog X.w) X.A X.env xe → PSs (X.tr pn xe) body (tb W)) :
    PS X (.Try body [.ExceptHandler (some (.Name x np)) (some n) [.Assign [.Name y py] (.Name n px) ap] hp] [] [] tp) (fun D σ H => tb (wKeep X.K c i j X.N.length D) D σ H) := by
  refine ⟨fun pins s σ H D I wish => ?_⟩
  have good := I.ok
  have lone : Loc X.env.scope n := .inl kn
  have frames : X.A.frames = some (X.env :: X.outer) := by rw [good.frames, stk]
  refine wpAny_Try_except (wpAny_mono ((run (wKeep X.K c i j X.N.length D) (X.pn ++ pins) (fun e z => wpAny (model X.prog X.w) X.A (noteFrame e X.env) (fun _ z2 => wpAny (model X.prog X.w) X.A (setFlight e none)
      (fun _ z3 => wpAny (model X.prog X.w) X.A (handleBy e X.env [.ExceptHandler (some (.Name x np)) (some n) [.Assign [.Name y py] (.Name n px) ap] hp]) (SP X pins D) X.xe z3) X.xe z2) X.xe z) (fun u sT air => ?_) PassesOwn.looking).run [] s σ H D (I.toTry _) wish) (fun fl sE hE => ?_) (fun _ _ z => z))
  · obtain ⟨a, B, sG, pG, σG, HG, cls, d, rfl, JG, ground, slots, sky, free, hos, bare, ematch, keep⟩ := air
    have J : Inv X pins σG HG sG := JG.ofTry good
    rw [show (X.tr (X.pn ++ pins) _).stack = X.env :: X.outer from stk] at sky
    show wpAny (model X.prog X.w) X.A (noteFrame (.ref a) X.env) _ _ _
    refine Sky.land Zc.steady frames fra sky fun hA flA upA => ?_
    have JA : Inv X pins σG HG { sT with heap := hA } := J.landed ground flA.1 (slots.trans upA) hos bare
    obtain ⟨oA, vA, gA, zA, dA⟩ := flA.there
    have away : a ∉ frs (X.env :: X.outer) := fun hm => by
      obtain ⟨_, oz, ez, nf⟩ := flA.2.2.1.mem hm
      rw [gA] at ez
      cases ez
      exact nf _ dA
    have noL : a ≠ X.env.locals := fun z => away (List.mem_filterMap.mpr ⟨X.env, List.mem_cons_self, by rw [fra, z]⟩)
    have noF : a ∉ X.fs := fun hm => by
      obtain ⟨e, he, q⟩ := List.mem_filterMap.mp hm
      exact away (List.mem_filterMap.mpr ⟨e, List.mem_cons_of_mem _ he, q⟩)
    have SA := JA.suite gA dA free noL noF
    have Bnone : B.get? a = none := flA.2.1
    have offB : ∀ b o, sG.heap.get? b = some o → b ∉ frs X.stack → b ≠ a := fun b o e nf z => by
      have q := ground b o e nf
      rw [z, Bnone] at q
      cases q
    have off0 : X.s_0.heap.get? a = none := by
      cases e : X.s_0.heap.get? a with
      | none => rfl
      | some o =>
        obtain ⟨o2, q⟩ := J.base.there a o e (by rw [noex]; exact fun z => nomatch z)
        exact absurd rfl (offB a o2 q (by rw [stk]; exact away))
    have offP : ∀ p ∈ X.pn ++ pins, p.1 ≠ a := fun p hp => by
      obtain ⟨q, _, nl, nf, _⟩ := J.pin p hp
      refine offB p.1 _ q fun hm => ?_
      rw [stk] at hm
      obtain ⟨e, he, qe⟩ := List.mem_filterMap.mp hm
      rcases List.mem_cons.mp he with z | z
      · rw [z, fra] at qe
        exact nl (Option.some.inj qe).symm
      · exact nf (List.mem_filterMap.mpr ⟨e, z, qe⟩)
    -- the clause takes it
    refine wpAny_handleBy_cons (codeAny_handlers_test ?_) (by intro q; cases q)
    have look : PySem.W.Looks (model X.prog X.w) hA (typeOf (.ref a)) cls := fun _ _ _ _ k q => wpAny_typeOf_ref (k _ _ gA) (by rw [zA.1]; exact q)
    have answer := PySem.W.exm_one (M := model X.prog X.w) JA.kIn look ematch
    have named : ∀ {Q E : Value → Shared → Prop}, Q c { sT with heap := hA } → wpAny (model X.prog X.w) (X.A.mark (some (.ref a))) (eval (.Name x np) X.env) Q E { sT with heap := hA } := fun {Q E} q => by
      obtain ⟨g1, g2, g3 | ⟨g3, g4, g5⟩⟩ := nm
      · exact ld_glob (X := X.suite a ((a, oA) :: (X.pn ++ pins))) SA g1 g3 q g2
      · exact ld_blt (X := X.suite a ((a, oA) :: (X.pn ++ pins))) SA g1 g3 g4 q g5 g2
    refine named (answer.here ?_)
    refine codeAny_handlers_suite_as (HandSPX.lands_againZ flA fun hB flB upB => ?_)
    have JB : Inv X pins σG HG { sT with heap := hB } := J.landed ground flB.1 ((slots.trans upA).trans upB) hos bare
    obtain ⟨oB, vB, gB, zB, dB⟩ := flB.there
    have SB' := JB.suite gB dB free noL noF
    refine store_ok (X := X.suite a ((a, oB) :: (X.pn ++ pins))) (v := .ref a) SB' nod atI lone rfl (fun s5 S5 => ?_) (.inr kn)
    have vis : Vis X.env.scope n := .inl kn
    have suite : PSs (X.suite a ((a, oB) :: (X.pn ++ pins))) [.Assign [.Name y py] (.Name n px) ap] (tAsg (tVar i) (gName j)) := pss_one (ps_set nod atJ ly (pe_var atI vis d1 d2) rfl fy)
    have inI : (σG.set i (some (V.ref a)))[i]? = some (some (V.ref a)) := List.getElem?_set_self (by rw [J.len]; exact hi)
    refine wpAny_mono (suite.run [] s5 _ HG { nx := fun σ' H' => σ' = (σG.set i (some (V.ref a))).set j (some (V.ref a)) ∧ H' = HG, rt := fun _ _ => False } S5 ⟨_, inI, rfl, rfl⟩) (fun fl s6 h6 => ?_) (fun _ _ z => False.elim z)
    cases fl with
    | next =>
      obtain ⟨σ6, H6, S6, e1, e2⟩ := h6
      rw [e1, e2] at S6
      have K6 : Inv X ((a, oB) :: pins) ((σG.set i (some (V.ref a))).set j (some (V.ref a))) HG s6 := ⟨good, S6.os, S6.bare, S6.base, S6.loc, S6.cell, S6.free, S6.freeC, fun p hp => S6.pin p (by
        rw [List.append_nil]
        rcases List.mem_append.mp hp with z | z
        · exact List.mem_cons_of_mem _ (List.mem_append_left _ z)
        · rcases List.mem_cons.mp z with z | z
          · rw [z]
            exact List.mem_cons_self
          · exact List.mem_cons_of_mem _ (List.mem_append_right _ z)), S6.hok, S6.len⟩
      exact gone_ok K6 nod atI kn fun s7 K7 => ⟨_, _, track K7 zB dB off0 offP, keep a free J.len⟩
    | brk =>
      obtain ⟨_, _, _, z⟩ := h6
      exact z.elim
    | cont =>
      obtain ⟨_, _, _, z⟩ := h6
      exact z.elim
    | ret u =>
      obtain ⟨_, _, _, _, _, z⟩ := h6
      exact z.elim
  · cases fl with
    | next =>
      obtain ⟨_, _, J, q⟩ := hE
      exact wpAny_execs_nil ⟨_, _, J.ofTry good, q⟩
    | brk =>
      obtain ⟨_, _, J, q⟩ := hE
      exact ⟨_, _, J.ofTry good, q⟩
    | cont =>
      obtain ⟨_, _, J, q⟩ := hE
      exact ⟨_, _, J.ofTry good, q⟩
    | ret u =>
      obtain ⟨_, _, _, J, r, q⟩ := hE
      exact ⟨_, _, _, J.ofTry good, r, q⟩
end
end K1

namespace K1
open PySem PySem.Spec PyProof.Rows L2
theorem any_cls {K : PySem.W.Frag} {C : Addr} (h : PySem.W.hasDictIn K C = true) : (PySem.W.clsIn K C).isSome = true := by
  unfold PySem.W.hasDictIn at h
  cases e : PySem.W.clsIn K C with
  | some c => rfl
  | none =>
    rw [e] at h
    cases h
section
variable {X : Cx} {C : Addr}
/-- a kept exception of the class at C, with its fields -/
def Kept (C : Addr) (fs : List (Str × V)) (a : Addr) (H : Hp) : Prop := ∃ dd : Addr, H a = some (Held (.ref C) (some dd) a) ∧ H dd = some (.xd fs)
theorem kept_inst {pins : List (Addr × Obj)} {σ : L2.St} {H : Hp} {s : Shared} {a : Addr} {fs : List (Str × V)} (I : Inv X pins σ H s) (k : Kept C fs a H) :
    ∃ (ob : Obj) (mA : Str → Option Value) (od : Obj), PySem.W.InstAt s.heap a ob C (some od) ∧ (∀ f, RelO (fs.lookup f) (mA f)) ∧ ∀ n, PySem.W.lookIn n od = some (mA n) := by
  obtain ⟨dd, h1, h2⟩ := k
  obtain ⟨ob, fv, g, z, dt⟩ := held_at I h1
  have q : ObjOk X.prog X.w H s.heap dd (.xd fs) := I.hok dd _ h2
  obtain ⟨mA, ns, rel⟩ := q
  obtain ⟨od, go, lo⟩ := lookIn_ns ns
  exact ⟨ob, mA, od, ⟨g, z.1, by unfold PySem.W.notCls; rw [dt] <;> rfl, by rw [z.2]; exact go⟩, rel, lo⟩
def rIsH (C : Addr) : List V → Hp → VK → Prop := fun xs H Q => ∃ (a : Addr) (fs : List (Str × V)), xs = [.ref a, .ref C] ∧ Kept C fs a H ∧ Q (.bl true) H
theorem call_isH (E : ExcC X.K C) : CallR X (.builtin "isinstance") (rIsH C) := by
  intro pins s σ H xs us Q I r h
  obtain ⟨a, fs, rfl, k, q⟩ := h
  obtain ⟨u1, u2, rfl, r1, r2⟩ := vals2 r
  obtain rfl : u1 = Value.ref a := r1
  obtain rfl : u2 = Value.ref C := r2
  obtain ⟨ob, mA, od, J, _⟩ := kept_inst I k
  have one : PySem.W.kitOne X.K (.ref C) (.ref C) = some true := by
    unfold PySem.W.kitOne
    rw [if_pos (beq_self_eq_true _)]
  exact PySem.W.kia_one (PySem.W.kitx_exc (any_cls E.hd) E.hg E.hk E.hs E.ha E.hn E.ht E.hm) I.kIn J one (fun z => nomatch z) fun tk => ⟨.bl true, H, I.tok tk, rfl, q⟩
def tHf (C : Addr) (f : Str) (te : TE) : TE := fun σ H Q => te σ H fun x H1 => ∃ (a : Addr) (fs : List (Str × V)) (v : V), x = .ref a ∧ Kept C fs a H1 ∧ fs.lookup f = some v ∧ Q v H1
theorem pe_hf {e : Expr} {te : TE} {pos : Pos} {n : Str} (T : XfC X.K C) (no : PySem.W.findIn X.K (.ref C) n = some none) (he : PE X e te) (hb : attributeBase e n X.env (eval e X.env) = eval e X.env := by rfl) : PE X (.Attribute e n pos) (tHf C n te) := by
  refine ⟨fun pins s σ H Q I h => attr_of hb (thn (he.run pins s σ H _ I h) fun u s1 hh => ?_)⟩
  obtain ⟨x, H1, I1, rx, a, fs, v, rfl, k, l, q⟩ := hh
  obtain rfl : u = Value.ref a := rx
  obtain ⟨ob, mA, od, J, rel, lo⟩ := kept_inst I1 k
  obtain ⟨w, hw, rw'⟩ := RelO.some_of (v := v) (o := mA n) (by rw [← l]; exact rel n)
  exact HandSPX.exc_get I1.kIn J T.ga T.gg T.exC (PySem.W.findObj_own T.hdC no rfl (by rw [lo, hw])) (handed_of rw') ⟨v, H1, I1.tok _, rw', q⟩
end
/-! ### _law_part -/
abbrev sPart : Stmt := top 33
abbrev nPart : List Str := ["_law_ask", "_law_caught", "error"]
theorem scPart : FnScope nPart ["_law_ask"] (defScope sPart) := ⟨rfl, rfl, rfl, by decide +kernel, rfl, by decide +kernel, by decide +kernel⟩
/-- what asks raises a BadNumber, its part is handed back; or nothing, and None is -/
def TPart (C : Addr) : (XK → Hp → VK → Prop) → Hp → VK → Prop := fun tl H Q => ∀ N : VK, (∀ v H', Q .non H' → N v H') → tl (fun cls d H' => cls = .ref C ∧ ∃ (dd : Addr) (z : Str), d = some dd ∧ H' dd = some (.xd [(("part" : Str), .str z)]) ∧ ∀ H'', Same H' H'' → Q (.str z) H'') H N
/-- what the top has written of SeenError (at CS) beside BadNumber (at C) -/
structure SeTxt (K : PySem.W.Frag) (mg : Str → Option Value) (CS C : Addr) : Prop where
  mgS : mg "SeenError" = some (.ref CS)
  sub : PySem.W.exmOne K (.ref C) (.ref CS) = some true
  ex : ExcC K C
  xf : XfC K C
theorem set_one {σ : L2.St} {x : Option V} {y : V} (h : σ.length = 3) : (((σ.set 2 x).set 1 (some y)).set 2 none)[1]? = some (some y) := by
  match σ, h with
  | [a, b, c], _ => rfl
theorem heard_gives {X : Cx} {CS C fI g : Addr} {cdg : Value} {q : Str} (B : Bn X.mg) (T : BrTxt X.K X.mg C fI) (S : SeTxt X.K X.mg CS C) : LamX.GivesTo X nPart "_law_part" (defScope sPart) g cdg (defBody sPart) "_law_ask" q (TPart C) := by
  intro f c' s H Q tl act hc h
  have nd := scPart.nd
  refine ⟨_, (pss_cons (ps_set (i := 1) nd rfl (Or.inl rfl) pe_non) (pss_cons (ps_try_keep (i := 2) (j := 1) (c := .ref CS) (tb := fun W D σ H => ∃ Ech : XK, (∀ cls d σ' H', Ech cls d H' → W cls d σ' H') ∧ σ[0]? = some (some (.ref f)) ∧ H c' = some (LamX.CodeO c' q) ∧ tl Ech H (fun _ H' => D.nx σ H'))
      rfl rfl rfl nd rfl rfl rfl (Or.inl rfl) (Or.inr rfl) ⟨rfl, by decide, Or.inl S.mgS⟩ (by show 2 < 3; decide) (by decide) (by decide) (fun W pn xe tk _ => ⟨fun pins s' σ H' D I h' => ?_⟩)) (pss_one (ps_ret (pe_ifExp (pt_cmpR op_isN (pv 1) pe_non (nomark _)) pe_non (pe_ifExp (pt_val (pe_callB (r := rIsH C) (call_isH S.ex) (by rfl) B.isinstance boot_isinstance (pa_cons (pv 1) (pa_cons (pe_glob (v := .ref C) rfl T.mgC rfl) pa_nil)))) (pe_hf S.xf T.noP (pv 1)) pe_bl)))))), ?_⟩
  · obtain ⟨Ech, hW, h1, h2, h3⟩ := h'
    exact (pss_one (ps_expr (act W pn xe Ech _ _ tk hW))).run pins s' σ H' D I ⟨h1, h2, h3⟩
  · refine ⟨_, ?_, rfl, hc, h _ (fun v H' k => ?_)⟩
    · rintro cls d σ' H' ⟨rfl, dd, z, rfl, hd, q⟩
      refine ⟨S.sub, fun a ha hl => ?_⟩
      have hl : σ'.length = 3 := hl
      have nda : dd ≠ a := ne_of_none hd ha
      have k : Kept C [(("part" : Str), V.str z)] a (upd H' a (Held (.ref C) (some dd) a)) := ⟨dd, upd_same, by rw [upd_ne nda]; exact hd⟩
      refine ⟨_, set_one hl, rfl, _, rfl, iteF ?_⟩
      refine ⟨_, set_one hl, a, _, rfl, k, _, rfl, iteT ⟨_, set_one hl, a, _, _, rfl, k, ?_, q _ (same_new ha)⟩⟩
      rfl
    · refine ⟨_, rfl, rfl, _, rfl, iteT k⟩
end K1

namespace K1
open PySem PySem.Spec PyProof.Rows L2
theorem lam_passes {X : Cx} {A : Around} {outer : List Env} {s : Shared} {H : Hp} {E : XK} {scope : Scope} {f c' : Addr} : Passes (L2.CX X.prog X.w) (LamX.lamCx X A outer s H E scope f c') E :=
  passes_call (X := LamX.lamCx X A outer s H E scope f c') (takes_of rfl rfl rfl rfl) (fun _ _ _ _ h => h)
theorem codeO_no {c : Addr} {q : Str} {xs : List V} : LamX.CodeO c q ≠ .lst xs := fun z => by
  unfold LamX.CodeO at z
  cases z
theorem tabs_sb {T : List (Addr × Str)} {H H' : Hp} {p : Addr} {n : Nat} (t : LamX.Tabs T H) (v : Cup H p n) (s : SB p H H') : LamX.Tabs T H' := fun x hx => by
  obtain ⟨_, _, _, hp⟩ := v.at
  obtain ⟨ps, h1, h2, h3⟩ := t x hx
  refine ⟨ps, s _ _ (ne_of h1 hp (by intro z; cases z)) h1, h2, fun pos cv hc => ?_⟩
  obtain ⟨c, e1, e2⟩ := h3 pos cv hc
  exact ⟨c, e1, s _ _ (ne_of e2 hp codeO_no) e2⟩
theorem tabs_upd {T : List (Addr × Str)} {H : Hp} {l : Addr} {xs : List V} {o : HO} (t : LamX.Tabs T H) (hl : H l = some (.lst xs)) : LamX.Tabs T (upd H l o) := fun x hx => by
  obtain ⟨ps, h1, h2, h3⟩ := t x hx
  refine ⟨ps, by rw [upd_ne (ne_of h1 hl (by intro z; cases z))]; exact h1, h2, fun pos cv hc => ?_⟩
  obtain ⟨c, e1, e2⟩ := h3 pos cv hc
  exact ⟨c, e1, by rw [upd_ne (ne_of e2 hl codeO_no)]; exact e2⟩
theorem kp_upd {H H' : Hp} {p l : Addr} {o : HO} (k : Kp p H H') (l0 : ∀ b o, b ≠ p → (∀ ps, o ≠ .tbl ps) → H b = some o → b ≠ l) : Kp p H (upd H' l o) := fun b u h1 h2 h3 => by
  rw [upd_ne (l0 b u h1 h2 h3)]
  exact k b u h1 h2 h3
/-- no integers, whatever the cup becomes -/
def NoI (p : Addr) (H : Hp) (v : V) : Prop := ∃ o, intsB o = false ∧ ∀ H', Kp p H H' → Jg H' v o
theorem NoI.kp {p : Addr} {H H' : Hp} {v : V} (b : NoI p H v) (k : Kp p H H') : NoI p H' v := let ⟨o, e, h⟩ := b; ⟨o, e, fun H2 k2 => h H2 (k.trans k2)⟩
abbrev sLaw : Stmt := top 34
abbrev nLaw : List Str := ["_law_script", "_law_cup_here", "_law_turn", "_law_odd", "_law_also", "_law_none", "_law_heard"]
theorem scLaw : FnScope nLaw ["_law_script"] (defScope sLaw) := ⟨rfl, rfl, rfl, by decide +kernel, rfl, by decide +kernel, by decide +kernel⟩
/-- how the lambdas' code objects are called -/
def qL : Str := (envOfC "law" (defScope sLaw) 0 0 (.ref 0)).qual ++ "<lambda>"
def spLaw (K : PySem.W.Frag) (Pt : Addr) : Sp := fun vs H Q _ => ∃ (a : Addr) (ns : List Int), vs = [.ref a] ∧ SqL K H a (ns.map V.int) ∧ ns.length ≤ 63 ∧ LamX.Tabs [(Pt, qL)] H ∧ ∀ H', Q (.bl true) H'
theorem low_use {C : Addr} {H : Hp} {Q : VK} {E : XK} {a b : Int} (h0 : b ≠ 0) (h : b.natAbs < 2 ^ 8000) (q : RT (low a b) H Q) : spLow C [.int a, .int b] H Q E :=
  ⟨_, _, _, _, rfl, .int a, .int b, (fun e => by cases e), (fun _ e => by cases e), fun n d e1 e2 => by
    cases e1
    cases e2
    exact ⟨fun z => absurd z h0, fun _ => ⟨h, q⟩⟩⟩
section
variable {P : Program} {w : World} {K : PySem.W.Frag} {mg : Str → Option Value} {base : Heap} {C CS fI : Addr}
theorem ok_law {f c Pt g : Addr} {fdH : FuncData} {oc kV doc pm ct : Value} {od an : Option Addr} {osl : Array (Option Value)}
    (lk : K.lookup f = some ⟨oc, od, .func (PySem.W.fnOf "law" "law" (defArgs sLaw) (defBody sLaw) (defScope sLaw) .none kV doc pm an (.ref c) ct), osl⟩) (hcd : PySem.W.codeIn K (.ref c) "law" = true)
    (TB : LamX.TabB base mg c Pt) (B : Bn mg) (T : BrTxt K mg C fI) (S : SeTxt K mg CS C) (FH : Fun K "_law_part" "_law_part" sPart g fdH) (mH : mg "_law_part" = some (.ref g))
    (C1 : CalleeK P w K mg base (L2.CX P w) 3 "common_divisor" ["values"] ["values"] gKw gKw (spCd C)) (C2 : CalleeK P w K mg base (L2.CX P w) 4 "primitive" ["values"] ["values"] gKw gKw (spPr C)) (C3 : CalleeK P w K mg base (L2.CX P w) 3 "lowest" ["number", "by"] ["number", "by"] gKw gKw (spLow C))
    (C4 : Callee P w K mg base CX0 1 "_law_cup" ["_law_script"] (spCup K)) (C5 : Callee P w K mg base CX0 2 "_law_pick" ["_law_cup_here", "_law_some"] spPick) (C6 : Callee P w K mg base CX0 4 "_law_value" ["_law_cup_here"] spV)
    (C7 : Callee P w K mg base CX0 5 "_law_integers_right" ["_law_cup_here"] (spPart 40)) (C8 : Callee P w K mg base CX0 5 "_law_names_right" ["_law_cup_here"] (spPart 40)) (C9 : Callee P w K mg base CX0 5 "_law_ratios_right" ["_law_cup_here"] (spPart 40)) (C10 : Callee P w K mg base CX0 5 "_law_twice_right" ["_law_cup_here"] (spPart 40)) (C11 : Callee P w K mg base CX0 6 "_law_divisors_right" ["_law_cup_here"] (spPart 40)) :
    FnOk P w K mg base CX0 9 f (PySem.W.fnOf "law" "law" (defArgs sLaw) (defBody sLaw) (defScope sLaw) .none kV doc pm an (.ref c) ct) ["_law_script"] (spLaw K Pt) := by
  obtain ⟨f1, fd1, m1, k1, b1, kb1, G1⟩ := C1
  obtain ⟨f2, fd2, m2, k2, b2, kb2, G2⟩ := C2
  obtain ⟨f3, fd3, m3, k3, b3, kb3, G3⟩ := C3
  obtain ⟨f4, fd4, m4, k4, b4, G4⟩ := C4
  obtain ⟨f5, fd5, m5, k5, b5, G5⟩ := C5
  obtain ⟨f6, fd6, m6, k6, b6, G6⟩ := C6
  obtain ⟨f7, fd7, m7, k7, b7, G7⟩ := C7
  obtain ⟨f8, fd8, m8, k8, b8, G8⟩ := C8
  obtain ⟨f9, fd9, m9, k9, b9, G9⟩ := C9
  obtain ⟨f10, fd10, m10, k10, b10, G10⟩ := C10
  obtain ⟨f11, fd11, m11, k11, b11, G11⟩ := C11
  obtain ⟨ocH, odH, kVH, docH, pmH, anH, cdvH, ctH, oslH, rfl, lkH, hcH⟩ := FH.ex
  have bH := FH.binds (ps := ["_law_ask"]) fun _ _ _ _ _ _ us hl => match us, hl with | [_], _ => rfl
  have nd := scLaw.nd
  refine fn_of lk hcd scLaw (fun vs H Q E h => ?_) fun A outer s H vs Q E hr h => ?_
  · obtain ⟨a, ns, rfl, _⟩ := h
    rfl
  suffices hh : ∃ t, PSs (cxOf CX0 P w K mg base nLaw "law" (defScope sLaw) f (.ref c) A outer s H E).nox (defBody sLaw) t ∧ t { nx := fun _ H' => Q .non H', rt := Q } (L2.start nLaw vs) H from let ⟨t, h1, h2⟩ := hh; ⟨t, h1.nox, h2⟩
  obtain ⟨sa, ns, rfl, hS, hl, hT, q⟩ := h
  have hmT : (Pt, qL) ∈ [(Pt, qL)] := List.mem_singleton.mpr rfl
  have hU : ∀ x ∈ [(Pt, qL)], x.1 = Pt → x.2 = qL := fun x hx _ => by rw [List.mem_singleton.mp hx]
  refine ⟨_, (pss_cons ((ps_set (i := 1) nd rfl (Or.inl rfl) ((pe_call G4 (hr.mono (by decide)) rfl m4 k4 b4 .nil pass0 (pa_cons (pv 0) pa_nil))))) (pss_cons (ps_for PassesOwn.never rfl (pi_range1 rfl B.range (pa_cons (pe_int) pa_nil)) (pg_name (i := 2) nd rfl (Or.inl rfl))
      (pss_cons (ps_if (PW.pt (pw_or (pt_not (pt_val (pe_call G7 (hr.mono (by decide)) rfl m7 k7 b7 .nil pass0 (pa_cons (pv 1) pa_nil)))) (pw_or (pt_not (pt_val (pe_call G8 (hr.mono (by decide)) rfl m8 k8 b8 .nil pass0 (pa_cons (pv 1) pa_nil)))) (pw_or (pt_not (pt_val (pe_call G9 (hr.mono (by decide)) rfl m9 k9 b9 .nil pass0 (pa_cons (pv 1) pa_nil)))) (pw_or1 (pt_not (pt_val (pe_call G10 (hr.mono (by decide)) rfl m10 k10 b10 .nil pass0 (pa_cons (pv 1) pa_nil))))))))) (pss_one (ps_ret pe_bl)) pss_nil) (pss_one (ps_if (pt_not (pt_val (pe_call G11 (hr.mono (by decide)) rfl m11 k11 b11 .nil pass0 (pa_cons (pv 1) pa_nil)))) (pss_one (ps_ret pe_bl)) pss_nil)))) (pss_cons (ps_asg (pe_tup (pa_cons ((pe_call G6 (hr.mono (by decide)) rfl m6 k6 b6 .nil pass0 (pa_cons (pv 1) pa_nil))) (pa_cons ((pe_call G6 (hr.mono (by decide)) rfl m6 k6 b6 .nil pass0 (pa_cons (pv 1) pa_nil))) pa_nil))) (pg_tup rfl (pgs_cons (pg_name (i := 3) nd rfl (Or.inr rfl)) (pgs_cons (pg_name (i := 4) nd rfl (Or.inr rfl)) pgs_nil)))) (pss_cons (ps_set (i := 5) nd rfl (Or.inr rfl) (pe_call G5 (hr.mono (by decide)) rfl m5 k5 b5 .nil pass0 (pa_cons (pv 1) (pa_cons (pe_lst (pa_cons (pe_non) (pa_cons (pe_int) (pa_cons (pe_str) (pa_cons (pe_lst (pa_cons (pe_non) pa_nil)) (pa_cons (pe_lst (pa_cons (pe_bl) pa_nil)) (pa_cons (pe_lst (pa_cons (pe_int) (pa_cons (pe_str) pa_nil))) (pa_cons (pe_dnewK) (pa_cons (pe_tup (pa_cons (pe_int) (pa_cons (pe_tup (pa_cons (pe_int) pa_nil)) pa_nil))) pa_nil))))))))) pa_nil)))) (pss_cons ((ps_set (i := 6) nd rfl (Or.inl rfl) (pe_lst (pa_cons ((LamX.pe_lamcall (T := [(Pt, qL)]) (TT := TPart C) (Ng := nPart) (a := "_law_ask") (k := 4) rfl mH FH.kp lkH hcH bH scPart rfl (Or.inl rfl) (heard_gives B T S) TB rfl hmT hU (hr.mono (by decide)) (LamX.lamS_by (by show LamX.lamSB (defScope sLaw) _ = true; decide +kernel)) rfl (fun _ _ _ _ _ => rfl) (fun A outer s H E f c hr => pe_call (E := E) G1 (hr.mono (by decide)) rfl m1 k1 b1 .nil lam_passes (pa_cons (pv 5) pa_nil)))) pa_nil)))) (pss_cons (ps_expr (pe_bm PySem.F.plainAttrs_list PySem.F.slot_list_append PySem.F.type_list_append mt_append (pv 6) (pa_cons ((LamX.pe_lamcall (T := [(Pt, qL)]) (TT := TPart C) (Ng := nPart) (a := "_law_ask") (k := 4) rfl mH FH.kp lkH hcH bH scPart rfl (Or.inl rfl) (heard_gives B T S) TB rfl hmT hU (hr.mono (by decide)) (LamX.lamS_by (by show LamX.lamSB (defScope sLaw) _ = true; decide +kernel)) rfl (fun _ _ _ _ _ => rfl) (fun A outer s H E f c hr => pe_call (E := E) G2 (hr.mono (by decide)) rfl m2 k2 b2 .nil lam_passes (pa_cons (pv 5) pa_nil)))) pa_nil))) (pss_cons (ps_expr (pe_bm PySem.F.plainAttrs_list PySem.F.slot_list_append PySem.F.type_list_append mt_append (pv 6) (pa_cons ((LamX.pe_lamcall (T := [(Pt, qL)]) (TT := TPart C) (Ng := nPart) (a := "_law_ask") (k := 4) rfl mH FH.kp lkH hcH bH scPart rfl (Or.inl rfl) (heard_gives B T S) TB rfl hmT hU (hr.mono (by decide)) (LamX.lamS_by (by show LamX.lamSB (defScope sLaw) _ = true; decide +kernel)) rfl (fun _ _ _ _ _ => rfl) (fun A outer s H E f c hr => pe_call (E := E) G3 (hr.mono (by decide)) rfl m3 k3 b3 .nil lam_passes (pa_cons (pv 3) (pa_cons (pe_int) pa_nil))))) pa_nil))) (pss_cons (ps_expr (pe_bm PySem.F.plainAttrs_list PySem.F.slot_list_append PySem.F.type_list_append mt_append (pv 6) (pa_cons ((LamX.pe_lamcall (T := [(Pt, qL)]) (TT := TPart C) (Ng := nPart) (a := "_law_ask") (k := 4) rfl mH FH.kp lkH hcH bH scPart rfl (Or.inl rfl) (heard_gives B T S) TB rfl hmT hU (hr.mono (by decide)) (LamX.lamS_by (by show LamX.lamSB (defScope sLaw) _ = true; decide +kernel)) rfl (fun _ _ _ _ _ => rfl) (fun A outer s H E f c hr => pe_call (E := E) G3 (hr.mono (by decide)) rfl m3 k3 b3 .nil lam_passes (pa_cons (pe_int) (pa_cons (pv 4) pa_nil))))) pa_nil))) (pss_cons (ps_expr (pe_bm PySem.F.plainAttrs_list PySem.F.slot_list_append PySem.F.type_list_append mt_append (pv 6) (pa_cons ((LamX.pe_lamcall (T := [(Pt, qL)]) (TT := TPart C) (Ng := nPart) (a := "_law_ask") (k := 4) rfl mH FH.kp lkH hcH bH scPart rfl (Or.inl rfl) (heard_gives B T S) TB rfl hmT hU (hr.mono (by decide)) (LamX.lamS_by (by show LamX.lamSB (defScope sLaw) _ = true; decide +kernel)) rfl (fun _ _ _ _ _ => rfl) (fun A outer s H E f c hr => pe_call (E := E) G3 (hr.mono (by decide)) rfl m3 k3 b3 .nil lam_passes (pa_cons (pe_int) (pa_cons (pe_int) pa_nil))))) pa_nil))) (pss_cons (ps_expr (pe_bm PySem.F.plainAttrs_list PySem.F.slot_list_append PySem.F.type_list_append mt_append (pv 6) (pa_cons ((LamX.pe_lamcall (T := [(Pt, qL)]) (TT := TPart C) (Ng := nPart) (a := "_law_ask") (k := 4) rfl mH FH.kp lkH hcH bH scPart rfl (Or.inl rfl) (heard_gives B T S) TB rfl hmT hU (hr.mono (by decide)) (LamX.lamS_by (by show LamX.lamSB (defScope sLaw) _ = true; decide +kernel)) rfl (fun _ _ _ _ _ => rfl) (fun A outer s H E f c hr => pe_call (E := E) G3 (hr.mono (by decide)) rfl m3 k3 b3 .nil lam_passes (pa_cons (pe_int) (pa_cons (pe_un un_neg pe_int) pa_nil))))) pa_nil))) (pss_one (ps_ret (pe_and ((pe_cmpR (op_eqD hr.units) (pv 6) (pe_lst (pa_cons (pe_str) (pa_cons (pe_str) (pa_cons (pe_str) (pa_cons (pe_str) (pa_cons (pe_str) (pa_cons (pe_non) pa_nil))))))) (nomark _))) (pe_one ((pe_cmpR (op_eqD hr.units) ((pe_call (E := E0) G3 (hr.mono (by decide)) rfl m3 k3 b3 .nil passL (pa_cons (pe_int) (pa_cons (pe_un un_neg pe_int) pa_nil)))) (pe_tup (pa_cons (pe_int) (pa_cons (pe_int) pa_nil))) (nomark _))))))))))))))))), ?_⟩
  refine ⟨_, rfl, sa, ns, rfl, hS, hl, fun H1 p s1 _ v1 => ?_⟩
  have T1 := hT.ext s1
  refine ⟨3, rfl, by decide, by decide, ?_⟩
  refine for_range (lo := 0) (n := 3) (fun i σ H' => (∃ v2 : Option V, σ = [some (.ref sa), some (.ref p), v2, none, none, none, none]) ∧ Cup H' p (200 * i) ∧ LamX.Tabs [(Pt, qL)] H') ⟨⟨none, rfl⟩, v1, T1⟩ ?_ ?_
  · rintro i σ H2 hi ⟨⟨v2, rfl⟩, v, TT⟩
    refine ⟨_, rfl, p, _, rfl, v, by omega, fun H3 s3 v3 => ⟨_, rfl, iteF ?_⟩⟩
    have T3 := tabs_sb TT v s3
    refine ⟨_, rfl, p, _, rfl, v3, by omega, fun H4 s4 v4 => ⟨_, rfl, iteF ?_⟩⟩
    have T4 := tabs_sb T3 v3 s4
    refine ⟨_, rfl, p, _, rfl, v4, by omega, fun H5 s5 v5 => ⟨_, rfl, iteF ?_⟩⟩
    have T5 := tabs_sb T4 v4 s5
    refine ⟨_, rfl, p, _, rfl, v5, by omega, fun H6 s6 v6 => ⟨_, rfl, iteF ?_⟩⟩
    have T6 := tabs_sb T5 v5 s6
    refine ⟨_, rfl, p, _, rfl, v6, by omega, fun H7 s7 v7 => ⟨_, rfl, iteF ?_⟩⟩
    exact ⟨⟨_, rfl⟩, v7.le (by omega), tabs_sb T6 v6 s7⟩
  rintro σ H2 ⟨⟨v2, rfl⟩, v, TT⟩
  refine ⟨_, rfl, p, _, rfl, v, by omega, fun H3 x s3 v3 hx => ?_⟩
  have T3 := tabs_sb TT v s3
  refine ⟨_, rfl, p, _, rfl, v3, by omega, fun H4 y s4 v4 hy => ?_⟩
  have T4 := tabs_sb T3 v3 s4
  have hx4 := hx.kp (Kp.ofS s4)
  refine ⟨by show 2 ≤ sizeLine; decide, fun r hr' => ⟨r, _, rfl, SqT.of upd_same, rfl, _, _, rfl, _, _, rfl, rfl, ?_⟩⟩
  have s5 := same_new (o := .tup [x, y]) hr'
  have v5 := v4.same s5
  have T5 := T4.ext s5
  have hx5 := hx4.kp (Kp.of s5)
  have hy5 := hy.kp (Kp.of s5)
  generalize upd H4 r (.tup [x, y]) = H5 at v5 T5 hx5 hy5 s5 ⊢
  obtain ⟨_, _, _, hp0⟩ := v5.at
  clear s3 s4 hx hy hx4 v3 v4 T3 T4 TT v T1 v1 s1 hr'
  refine ⟨_, rfl, ?_⟩
  refine ⟨by show 1 ≤ sizeLine; decide, fun t1 n1 => ?_⟩
  have s1 := same_new (o := .lst [V.non]) n1
  have g1 : upd H5 t1 (.lst [V.non]) t1 = some (.lst [V.non]) := upd_same
  have np1 : t1 ≠ p := (ne_of_none hp0 n1).symm
  have hp1 := s1 _ _ hp0
  generalize upd H5 t1 (.lst [V.non]) = M1 at s1 g1 hp1 ⊢
  refine ⟨by show 1 ≤ sizeLine; decide, fun t2 n2 => ?_⟩
  have s2 := same_new (o := .lst [V.bl true]) n2
  have g2 : upd M1 t2 (.lst [V.bl true]) t2 = some (.lst [V.bl true]) := upd_same
  have np2 : t2 ≠ p := (ne_of_none hp1 n2).symm
  have hp2 := s2 _ _ hp1
  generalize upd M1 t2 (.lst [V.bl true]) = M2 at s2 g2 hp2 ⊢
  refine ⟨by show 2 ≤ sizeLine; decide, fun t3 n3 => ?_⟩
  have s3 := same_new (o := .lst [V.int 1, V.str "2"]) n3
  have g3 : upd M2 t3 (.lst [V.int 1, V.str "2"]) t3 = some (.lst [V.int 1, V.str "2"]) := upd_same
  have np3 : t3 ≠ p := (ne_of_none hp2 n3).symm
  have hp3 := s3 _ _ hp2
  generalize upd M2 t3 (.lst [V.int 1, V.str "2"]) = M3 at s3 g3 hp3 ⊢
  refine fun t4 n4 => ?_
  have s4 := same_new (o := .dK []) n4
  have g4 : upd M3 t4 (.dK []) t4 = some (.dK []) := upd_same
  have np4 : t4 ≠ p := (ne_of_none hp3 n4).symm
  have hp4 := s4 _ _ hp3
  generalize upd M3 t4 (.dK []) = M4 at s4 g4 hp4 ⊢
  refine ⟨by show 1 ≤ sizeLine; decide, fun t5 n5 => ?_⟩
  have s5 := same_new (o := .tup [V.int 2]) n5
  have g5 : upd M4 t5 (.tup [V.int 2]) t5 = some (.tup [V.int 2]) := upd_same
  have np5 : t5 ≠ p := (ne_of_none hp4 n5).symm
  have hp5 := s5 _ _ hp4
  generalize upd M4 t5 (.tup [V.int 2]) = M5 at s5 g5 hp5 ⊢
  refine ⟨by show 2 ≤ sizeLine; decide, fun t6 n6 => ?_⟩
  have s6 := same_new (o := .tup [V.int 1, V.ref t5]) n6
  have g6 : upd M5 t6 (.tup [V.int 1, V.ref t5]) t6 = some (.tup [V.int 1, V.ref t5]) := upd_same
  have np6 : t6 ≠ p := (ne_of_none hp5 n6).symm
  have hp6 := s6 _ _ hp5
  generalize upd M5 t6 (.tup [V.int 1, V.ref t5]) = M6 at s6 g6 hp6 ⊢
  have sA : Same H5 M6 := (((((s1).trans s2).trans s3).trans s4).trans s5).trans s6
  have z1 := s6 _ _ (s5 _ _ (s4 _ _ (s3 _ _ (s2 _ _ (g1)))))
  have z2 := s6 _ _ (s5 _ _ (s4 _ _ (s3 _ _ (g2))))
  have z3 := s6 _ _ (s5 _ _ (s4 _ _ (g3)))
  have z4 := s6 _ _ (s5 _ _ (g4))
  have z5 := s6 _ _ (g5)
  have z6 := g6
  have one : ∀ {x y : V}, x ∈ [y] → x = y := fun h => List.mem_singleton.mp h
  have two : ∀ {x y z : V}, x ∈ [y, z] → x = y ∨ x = z := fun h => by simpa using h
  have od : ∀ x ∈ [V.non, V.int 5, V.str "12", V.ref t1, V.ref t2, V.ref t3, V.ref t4, V.ref t6], NoI p M6 x := fun x hx => by
    simp only [List.mem_cons, List.not_mem_nil, or_false] at hx
    rcases hx with e | e | e | e | e | e | e | e <;> rw [e]
    · exact ⟨none, rfl, fun H' _ => ⟨_, .non, rfl⟩⟩
    · exact ⟨none, rfl, fun H' _ => ⟨_, .int 5, rfl⟩⟩
    · exact ⟨none, rfl, fun H' _ => ⟨_, .str _, rfl⟩⟩
    · exact ⟨some _, rfl, fun H' k => ⟨t1, rfl, .inl (k.lst np1 z1), fun x hx => by rw [one hx]; exact ⟨_, .non⟩, by show 1 ≤ 100; decide⟩⟩
    · exact ⟨some _, rfl, fun H' k => ⟨t2, rfl, .inl (k.lst np2 z2), fun x hx => by rw [one hx]; exact ⟨_, .bl _⟩, by show 1 ≤ 100; decide⟩⟩
    · exact ⟨some _, rfl, fun H' k => ⟨t3, rfl, .inl (k.lst np3 z3), fun x hx => by rcases two hx with h | h <;> rw [h] <;> first | exact ⟨_, .int _⟩ | exact ⟨_, .str _⟩, by show 2 ≤ 100; decide⟩⟩
    · exact ⟨none, rfl, fun H' k => ⟨_, .dK (k.dK np4 z4), rfl⟩⟩
    · exact ⟨some _, rfl, fun H' k => ⟨t6, rfl, .inr (k.tup np6 z6), fun x hx => by rcases two hx with h | h <;> rw [h] <;> first | exact ⟨_, .int _⟩ | exact ⟨_, .tup (k.tup np5 z5)⟩, by show 2 ≤ 100; decide⟩⟩
  refine ⟨by show 8 ≤ sizeLine; decide, fun t7 n7 => ?_⟩
  have np7 : t7 ≠ p := (ne_of_none hp6 n7).symm
  have sL := same_new (o := .lst [V.non, V.int 5, V.str "12", V.ref t1, V.ref t2, V.ref t3, V.ref t4, V.ref t6]) n7
  refine ⟨p, t7, _, _, rfl, (v5.same sA).same sL, by omega, upd_same, np7, by show 0 < 8; decide, by show 8 ≤ 1000; decide, fun H6 z sK vK hzz => ?_⟩
  obtain ⟨o, eo, jo⟩ := (od z hzz).kp (Kp.ofS ((SB.of sL).trans sK))
  have sLK := (SB.of (p := p) (sA.trans sL)).trans sK
  have T6 := tabs_sb T5 v5 sLK
  have hx6 := hx5.kp (Kp.ofS sLK)
  have hy6 := hy5.kp (Kp.ofS sLK)
  clear sK sL sA od one two z1 z2 z3 z4 z5 z6 n7 s1 s2 s3 s4 s5 s6 sLK v5 T5 hx5 hy5
  obtain ⟨tx, kx⟩ := hx6.kd
  obtain ⟨ty, ky⟩ := hy6.kd
  -- common_divisor
  refine ⟨T6, fun J1 x1 U1 N hN => ⟨_, rfl, z, o, rfl, jo _ (Kp.ofE x1), fun _ => fun d J2 s2 _ hd => ⟨rfl, d, _, rfl, hd, fun J3 s3 => ?_⟩, fun ms em => by rw [em, ints_all] at eo; cases eo⟩⟩
  have kA : Kp p H6 J3 := (Kp.ofE x1).trans (Kp.of (s2.trans s3))
  have vA := (vK.ext x1).same (s2.trans s3)
  have TA := U1.ext (s2.trans s3)
  clear x1 U1 s2 s3 hd
  refine ⟨by show 1 ≤ sizeLine; decide, fun l hl => ?_⟩
  have sl := same_new (o := .lst [V.str "values"]) hl
  have gl : upd J3 l (.lst [V.str "values"]) l = some (.lst [V.str "values"]) := upd_same
  have nlp : l ≠ p := by
    obtain ⟨_, _, _, e⟩ := vA.at
    exact (ne_of_none e hl).symm
  have l0 : ∀ b o, b ≠ p → (∀ ps, o ≠ .tbl ps) → H6 b = some o → b ≠ l := fun b o h1 h2 h3 => ne_of_none (kA b o h1 h2 h3) hl
  have kA := kA.trans (Kp.of sl)
  have vA := vA.same sl
  have TA := TA.ext sl
  generalize upd J3 l (.lst [V.str "values"]) = J4 at gl kA vA TA ⊢
  clear sl hl
  refine ⟨_, rfl, .inl ⟨rfl, _, SqL.of gl⟩, TA, fun J1 x1 U1 N hN => ⟨_, rfl, z, o, rfl, jo _ (kA.trans (Kp.ofE x1)), fun _ => fun d J2 s2 _ hd => ⟨rfl, d, _, rfl, hd, fun J3 s3 => ?_⟩, fun ms em => by rw [em, ints_all] at eo; cases eo⟩⟩
  have gl1 := x1 _ _ gl (by intro ps z; cases z)
  have sX := s2.trans s3
  have gl2 := sX _ _ gl1
  have kB := (kA.trans (Kp.ofE x1)).trans (Kp.of sX)
  have vA := (vA.ext x1).same sX
  have TA := U1.ext sX
  refine ⟨l, _, _, rfl, rfl, gl2, small1000 (by show 1 ≤ 1000; decide), ?_⟩
  have gl : upd J3 l (.lst ([V.str "values"] ++ [V.str "values"])) l = some (.lst [V.str "values", V.str "values"]) := upd_same
  have kA := kp_upd (o := .lst ([V.str "values"] ++ [V.str "values"])) kB l0
  have vA : Cup (upd J3 l (.lst ([V.str "values"] ++ [V.str "values"]))) p (200 * 3 + 4 + 4 + 1) := by
    obtain ⟨c1, c2, c3, c4, c5⟩ := vA
    exact ⟨c1, c2, c3, by rw [upd_ne nlp.symm]; exact c4, c5⟩
  have TA := tabs_upd (o := .lst ([V.str "values"] ++ [V.str "values"])) TA gl2
  generalize upd J3 l (.lst ([V.str "values"] ++ [V.str "values"])) = J4 at gl kA vA TA ⊢
  clear gl1 gl2 kB sX
  refine ⟨_, rfl, .inl ⟨rfl, _, SqL.of gl⟩, TA, fun J1 x1 U1 N hN => ⟨_, rfl, x, .int 0, tx, _, rfl, kx _ (kA.trans (Kp.ofE x1)), .int 0, (fun _ => fun d J2 s2 _ hd => ⟨rfl, d, _, rfl, hd, fun J3 s3 => ?_⟩), (fun e => by rw [hx6.no] at e; cases e), fun a b e1 e2 => by have e0 := hx6.no; rw [e1] at e0; cases e0⟩⟩
  have gl1 := x1 _ _ gl (by intro ps z; cases z)
  have sX := s2.trans s3
  have gl2 := sX _ _ gl1
  have kB := (kA.trans (Kp.ofE x1)).trans (Kp.of sX)
  have vA := (vA.ext x1).same sX
  have TA := U1.ext sX
  refine ⟨l, _, _, rfl, rfl, gl2, small1000 (by show 2 ≤ 1000; decide), ?_⟩
  have gl : upd J3 l (.lst ([V.str "values", V.str "values"] ++ [V.str "number"])) l = some (.lst [V.str "values", V.str "values", V.str "number"]) := upd_same
  have kA := kp_upd (o := .lst ([V.str "values", V.str "values"] ++ [V.str "number"])) kB l0
  have vA : Cup (upd J3 l (.lst ([V.str "values", V.str "values"] ++ [V.str "number"]))) p (200 * 3 + 4 + 4 + 1) := by
    obtain ⟨c1, c2, c3, c4, c5⟩ := vA
    exact ⟨c1, c2, c3, by rw [upd_ne nlp.symm]; exact c4, c5⟩
  have TA := tabs_upd (o := .lst ([V.str "values", V.str "values"] ++ [V.str "number"])) TA gl2
  generalize upd J3 l (.lst ([V.str "values", V.str "values"] ++ [V.str "number"])) = J4 at gl kA vA TA ⊢
  clear gl1 gl2 kB sX
  refine ⟨_, rfl, .inl ⟨rfl, _, SqL.of gl⟩, TA, fun J1 x1 U1 N hN => ⟨_, rfl, .int 4, y, _, ty, rfl, .int 4, ky _ (kA.trans (Kp.ofE x1)), (fun e => by cases e), (fun _ _ => fun d J2 s2 _ hd => ⟨rfl, d, _, rfl, hd, fun J3 s3 => ?_⟩), fun a b e1 e2 => by have e0 := hy6.no; rw [e2] at e0; cases e0⟩⟩
  have gl1 := x1 _ _ gl (by intro ps z; cases z)
  have sX := s2.trans s3
  have gl2 := sX _ _ gl1
  have kB := (kA.trans (Kp.ofE x1)).trans (Kp.of sX)
  have vA := (vA.ext x1).same sX
  have TA := U1.ext sX
  refine ⟨l, _, _, rfl, rfl, gl2, small1000 (by show 3 ≤ 1000; decide), ?_⟩
  have gl : upd J3 l (.lst ([V.str "values", V.str "values", V.str "number"] ++ [V.str "by"])) l = some (.lst [V.str "values", V.str "values", V.str "number", V.str "by"]) := upd_same
  have kA := kp_upd (o := .lst ([V.str "values", V.str "values", V.str "number"] ++ [V.str "by"])) kB l0
  have vA : Cup (upd J3 l (.lst ([V.str "values", V.str "values", V.str "number"] ++ [V.str "by"]))) p (200 * 3 + 4 + 4 + 1) := by
    obtain ⟨c1, c2, c3, c4, c5⟩ := vA
    exact ⟨c1, c2, c3, by rw [upd_ne nlp.symm]; exact c4, c5⟩
  have TA := tabs_upd (o := .lst ([V.str "values", V.str "values", V.str "number"] ++ [V.str "by"])) TA gl2
  generalize upd J3 l (.lst ([V.str "values", V.str "values", V.str "number"] ++ [V.str "by"])) = J4 at gl kA vA TA ⊢
  clear gl1 gl2 kB sX
  refine ⟨_, rfl, .inl ⟨rfl, _, SqL.of gl⟩, TA, fun J1 x1 U1 N hN => ⟨.int 4, .int 0, _, _, rfl, .int 4, .int 0, (fun e => by cases e), (fun _ e => by cases e), fun a b e1 e2 => ⟨fun _ => fun d J2 s2 _ hd => ⟨rfl, d, _, rfl, hd, fun J3 s3 => ?_⟩, fun e => by cases e2; exact absurd rfl e⟩⟩⟩
  have gl1 := x1 _ _ gl (by intro ps z; cases z)
  have sX := s2.trans s3
  have gl2 := sX _ _ gl1
  have kB := (kA.trans (Kp.ofE x1)).trans (Kp.of sX)
  have vA := (vA.ext x1).same sX
  have TA := U1.ext sX
  refine ⟨l, _, _, rfl, rfl, gl2, small1000 (by show 4 ≤ 1000; decide), ?_⟩
  have gl : upd J3 l (.lst ([V.str "values", V.str "values", V.str "number", V.str "by"] ++ [V.str "by"])) l = some (.lst [V.str "values", V.str "values", V.str "number", V.str "by", V.str "by"]) := upd_same
  have kA := kp_upd (o := .lst ([V.str "values", V.str "values", V.str "number", V.str "by"] ++ [V.str "by"])) kB l0
  have vA : Cup (upd J3 l (.lst ([V.str "values", V.str "values", V.str "number", V.str "by"] ++ [V.str "by"]))) p (200 * 3 + 4 + 4 + 1) := by
    obtain ⟨c1, c2, c3, c4, c5⟩ := vA
    exact ⟨c1, c2, c3, by rw [upd_ne nlp.symm]; exact c4, c5⟩
  have TA := tabs_upd (o := .lst ([V.str "values", V.str "values", V.str "number", V.str "by"] ++ [V.str "by"])) TA gl2
  generalize upd J3 l (.lst ([V.str "values", V.str "values", V.str "number", V.str "by"] ++ [V.str "by"])) = J4 at gl kA vA TA ⊢
  clear gl1 gl2 kB sX
  refine ⟨_, rfl, .inl ⟨rfl, _, SqL.of gl⟩, TA, fun J1 x1 U1 N hN => ⟨_, rfl, low_use (by decide) (by decide +kernel) fun J3 t s2 _ _ => hN _ _ ?_⟩⟩
  have gl1 := x1 _ _ gl (by intro ps z; cases z)
  have sX := s2
  have gl2 := sX _ _ gl1
  have kB := (kA.trans (Kp.ofE x1)).trans (Kp.of sX)
  have vA := (vA.ext x1).same sX
  have TA := U1.ext sX
  refine ⟨l, _, _, rfl, rfl, gl2, small1000 (by show 5 ≤ 1000; decide), ?_⟩
  have gl : upd J3 l (.lst ([V.str "values", V.str "values", V.str "number", V.str "by", V.str "by"] ++ [V.non])) l = some (.lst [V.str "values", V.str "values", V.str "number", V.str "by", V.str "by", V.non]) := upd_same
  have kA := kp_upd (o := .lst ([V.str "values", V.str "values", V.str "number", V.str "by", V.str "by"] ++ [V.non])) kB l0
  have vA : Cup (upd J3 l (.lst ([V.str "values", V.str "values", V.str "number", V.str "by", V.str "by"] ++ [V.non]))) p (200 * 3 + 4 + 4 + 1) := by
    obtain ⟨c1, c2, c3, c4, c5⟩ := vA
    exact ⟨c1, c2, c3, by rw [upd_ne nlp.symm]; exact c4, c5⟩
  have TA := tabs_upd (o := .lst ([V.str "values", V.str "values", V.str "number", V.str "by", V.str "by"] ++ [V.non])) TA gl2
  generalize upd J3 l (.lst ([V.str "values", V.str "values", V.str "number", V.str "by", V.str "by"] ++ [V.non])) = J4 at gl kA vA TA ⊢
  clear gl1 gl2 kB sX
  refine ⟨_, rfl, by show 6 ≤ sizeLine; decide, fun m hm => ?_⟩
  have sm := same_new (o := .lst [V.str "values", V.str "values", V.str "number", V.str "by", V.str "by", V.non]) hm
  refine ⟨.list [.str "values", .str "values", .str "number", .str "by", .str "by", .none], .list [.str "values", .str "values", .str "number", .str "by", .str "by", .none], .lst (SqL.of (sm _ _ gl)) (.cons (.str _) (.cons (.str _) (.cons (.str _) (.cons (.str _) (.cons (.str _) (.cons .non .nil)))))), .lst (SqL.of upd_same) (.cons (.str _) (.cons (.str _) (.cons (.str _) (.cons (.str _) (.cons (.str _) (.cons .non .nil)))))), by decide +kernel, by decide +kernel, ?_⟩
  rw [show PyData.eqv (.list [.str "values", .str "values", .str "number", .str "by", .str "by", .none]) (.list [.str "values", .str "values", .str "number", .str "by", .str "by", .none]) = true by decide +kernel]
  refine ⟨_, rfl, iteT ?_⟩
  refine ⟨_, rfl, low_use (by decide) (by decide +kernel) fun J5 t s5 _ ht => ?_⟩
  refine ⟨by show 2 ≤ sizeLine; decide, fun w hw => ?_⟩
  have s6 := same_new (o := .tup [V.int 0, V.int 1]) hw
  have ht : J5 t = some (.tup [V.int 0, V.int 1]) := by
    have k : low 0 (-5) = (0, 1) := by decide +kernel
    have ht : J5 t = some (.tup (pr (low 0 (-5)))) := ht
    rw [k] at ht
    exact ht
  refine ⟨.tuple [.int 0, .int 1], .tuple [.int 0, .int 1], .tup (SqT.of (s6 _ _ ht)) (.cons (.int _) (.cons (.int _) .nil)), .tup (SqT.of upd_same) (.cons (.int _) (.cons (.int _) .nil)), by decide, by decide, ?_⟩
  rw [show PyData.eqv (.tuple [.int 0, .int 1]) (.tuple [.int 0, .int 1]) = true by decide +kernel]
  exact q _
end
end K1

namespace K1
open PySem PySem.Spec PyProof.Rows L2
theorem all_mk {l : PySem.W.OpenLaw} {w : World} {K : PySem.W.Frag} {h : Heap} {mg : Str → Option Value} {fa : Addr} {f8 f9 f10 f11 f12 f13 f14 f15 f16 f17 f18 f20 f21 f22 f23 f24 f25 f26 f27 f28 f29 f30 f31 f32 f33 f34 C CS fI c34 Pt : Addr} {od8 an8 od9 an9 od10 an10 od11 an11 od12 an12 od13 an13 od14 an14 od15 an15 od16 an16 od17 an17 od18 an18 od20 an20 od21 an21 od22 an22 od23 an23 od24 an24 od25 an25 od26 an26 od27 an27 od28 an28 od29 an29 od30 an30 od31 an31 od32 an32 od33 an33 od34 an34 odI anI : Option Addr} {sl8 sl9 sl10 sl11 sl12 sl13 sl14 sl15 sl16 sl17 sl18 sl20 sl21 sl22 sl23 sl24 sl25 sl26 sl27 sl28 sl29 sl30 sl31 sl32 sl33 sl34 slI : Array (Option Value)} {oc8 kV8 dc8 pm8 cv8 ct8 oc9 kV9 dc9 pm9 cv9 ct9 oc10 kV10 dc10 pm10 cv10 ct10 oc11 kV11 dc11 pm11 cv11 ct11 oc12 kV12 dc12 pm12 cv12 ct12 oc13 kV13 dc13 pm13 cv13 ct13 oc14 kV14 dc14 pm14 cv14 ct14 oc15 kV15 dc15 pm15 cv15 ct15 oc16 kV16 dc16 pm16 cv16 ct16 oc17 kV17 dc17 pm17 cv17 ct17 oc18 kV18 dc18 pm18 cv18 ct18 oc20 kV20 dc20 pm20 cv20 ct20 oc21 kV21 dc21 pm21 cv21 ct21 oc22 kV22 dc22 pm22 cv22 ct22 oc23 kV23 dc23 pm23 cv23 ct23 oc24 kV24 dc24 pm24 cv24 ct24 oc25 kV25 dc25 pm25 cv25 ct25 oc26 kV26 dc26 pm26 cv26 ct26 oc27 kV27 dc27 pm27 cv27 ct27 oc28 kV28 dc28 pm28 cv28 ct28 oc29 kV29 dc29 pm29 cv29 ct29 oc30 kV30 dc30 pm30 cv30 ct30 oc31 kV31 dc31 pm31 cv31 ct31 oc32 kV32 dc32 pm32 cv32 ct32 oc33 kV33 dc33 pm33 cv33 ct33 oc34 kV34 dc34 pm34 ct34 ocI kVI dcI pmI cvI ctI : Value} {nm qn : Str} {N : Addr} {bs : List Value} {sn : List Str} {sub : List Value} {ab : Bool} {col : Option Bool} {dd : Option Addr} {m0 m1 m2 m3 m5 : Option Value} {tL tD tG : Tok}
    (X : K.In h) (G : h.Ns mainGlobals mg) (hfa : mg "law" = some (.ref fa)) (tab : h.get? Pt = some { cls := .none, data := .fields #[] })
    (a8 : PySem.W.nsIn K mainGlobals "is_integer" = some (some (.ref f8)))
    (l8 : K.lookup f8 = some ⟨oc8, od8, .func (PySem.W.fnOf "is_integer" "is_integer" (defArgs sInt) (defBody sInt) (defScope sInt) .none kV8 dc8 pm8 an8 cv8 ct8), sl8⟩)
    (c8 : PySem.W.codeIn K cv8 "is_integer" = true)
    (k8 : PySem.W.keepIn K (.ref f8) = true)
    (a9 : PySem.W.nsIn K mainGlobals "is_within" = some (some (.ref f9)))
    (l9 : K.lookup f9 = some ⟨oc9, od9, .func (PySem.W.fnOf "is_within" "is_within" (defArgs sWithin) (defBody sWithin) (defScope sWithin) .none kV9 dc9 pm9 an9 cv9 ct9), sl9⟩)
    (c9 : PySem.W.codeIn K cv9 "is_within" = true)
    (k9 : PySem.W.keepIn K (.ref f9) = true)
    (a10 : PySem.W.nsIn K mainGlobals "is_name" = some (some (.ref f10)))
    (l10 : K.lookup f10 = some ⟨oc10, od10, .func (PySem.W.fnOf "is_name" "is_name" (defArgs sNm) (defBody sNm) (defScope sNm) .none kV10 dc10 pm10 an10 cv10 ct10), sl10⟩)
    (c10 : PySem.W.codeIn K cv10 "is_name" = true)
    (k10 : PySem.W.keepIn K (.ref f10) = true)
    (a11 : PySem.W.nsIn K mainGlobals "is_list" = some (some (.ref f11)))
    (l11 : K.lookup f11 = some ⟨oc11, od11, .func (PySem.W.fnOf "is_list" "is_list" (defArgs sIsList) (defBody sIsList) (defScope sIsList) .none kV11 dc11 pm11 an11 cv11 ct11), sl11⟩)
    (c11 : PySem.W.codeIn K cv11 "is_list" = true)
    (k11 : PySem.W.keepIn K (.ref f11) = true)
    (a12 : PySem.W.nsIn K mainGlobals "are_integers" = some (some (.ref f12)))
    (l12 : K.lookup f12 = some ⟨oc12, od12, .func (PySem.W.fnOf "are_integers" "are_integers" (defArgs sInts) (defBody sInts) (defScope sInts) .none kV12 dc12 pm12 an12 cv12 ct12), sl12⟩)
    (c12 : PySem.W.codeIn K cv12 "are_integers" = true)
    (k12 : PySem.W.keepIn K (.ref f12) = true)
    (a13 : PySem.W.nsIn K mainGlobals "is_ratio" = some (some (.ref f13)))
    (l13 : K.lookup f13 = some ⟨oc13, od13, .func (PySem.W.fnOf "is_ratio" "is_ratio" (defArgs sRat) (defBody sRat) (defScope sRat) .none kV13 dc13 pm13 an13 cv13 ct13), sl13⟩)
    (c13 : PySem.W.codeIn K cv13 "is_ratio" = true)
    (k13 : PySem.W.keepIn K (.ref f13) = true)
    (a14 : PySem.W.nsIn K mainGlobals "is_primitive" = some (some (.ref f14)))
    (l14 : K.lookup f14 = some ⟨oc14, od14, .func (PySem.W.fnOf "is_primitive" "is_primitive" (defArgs sIp) (defBody sIp) (defScope sIp) .none kV14 dc14 pm14 an14 cv14 ct14), sl14⟩)
    (c14 : PySem.W.codeIn K cv14 "is_primitive" = true)
    (k14 : PySem.W.keepIn K (.ref f14) = true)
    (a15 : PySem.W.nsIn K mainGlobals "first_twice" = some (some (.ref f15)))
    (l15 : K.lookup f15 = some ⟨oc15, od15, .func (PySem.W.fnOf "first_twice" "first_twice" (defArgs sFt) (defBody sFt) (defScope sFt) .none kV15 dc15 pm15 an15 cv15 ct15), sl15⟩)
    (c15 : PySem.W.codeIn K cv15 "first_twice" = true)
    (k15 : PySem.W.keepIn K (.ref f15) = true)
    (a16 : PySem.W.nsIn K mainGlobals "common_divisor" = some (some (.ref f16)))
    (l16 : K.lookup f16 = some ⟨oc16, od16, .func (PySem.W.fnOf "common_divisor" "common_divisor" (defArgs sCd) (defBody sCd) (defScope sCd) .none kV16 dc16 pm16 an16 cv16 ct16), sl16⟩)
    (c16 : PySem.W.codeIn K cv16 "common_divisor" = true)
    (k16 : PySem.W.keepIn K (.ref f16) = true)
    (a17 : PySem.W.nsIn K mainGlobals "primitive" = some (some (.ref f17)))
    (l17 : K.lookup f17 = some ⟨oc17, od17, .func (PySem.W.fnOf "primitive" "primitive" (defArgs sPr) (defBody sPr) (defScope sPr) .none kV17 dc17 pm17 an17 cv17 ct17), sl17⟩)
    (c17 : PySem.W.codeIn K cv17 "primitive" = true)
    (k17 : PySem.W.keepIn K (.ref f17) = true)
    (a18 : PySem.W.nsIn K mainGlobals "lowest" = some (some (.ref f18)))
    (l18 : K.lookup f18 = some ⟨oc18, od18, .func (PySem.W.fnOf "lowest" "lowest" (defArgs sLow) (defBody sLow) (defScope sLow) .none kV18 dc18 pm18 an18 cv18 ct18), sl18⟩)
    (c18 : PySem.W.codeIn K cv18 "lowest" = true)
    (k18 : PySem.W.keepIn K (.ref f18) = true)
    (a20 : PySem.W.nsIn K mainGlobals "_law_cup" = some (some (.ref f20)))
    (l20 : K.lookup f20 = some ⟨oc20, od20, .func (PySem.W.fnOf "_law_cup" "_law_cup" (defArgs sCup) (defBody sCup) (defScope sCup) .none kV20 dc20 pm20 an20 cv20 ct20), sl20⟩)
    (c20 : PySem.W.codeIn K cv20 "_law_cup" = true)
    (k20 : PySem.W.keepIn K (.ref f20) = true)
    (a21 : PySem.W.nsIn K mainGlobals "_law_dip" = some (some (.ref f21)))
    (l21 : K.lookup f21 = some ⟨oc21, od21, .func (PySem.W.fnOf "_law_dip" "_law_dip" (defArgs sDip) (defBody sDip) (defScope sDip) .none kV21 dc21 pm21 an21 cv21 ct21), sl21⟩)
    (c21 : PySem.W.codeIn K cv21 "_law_dip" = true)
    (k21 : PySem.W.keepIn K (.ref f21) = true)
    (a22 : PySem.W.nsIn K mainGlobals "_law_pick" = some (some (.ref f22)))
    (l22 : K.lookup f22 = some ⟨oc22, od22, .func (PySem.W.fnOf "_law_pick" "_law_pick" (defArgs sPick) (defBody sPick) (defScope sPick) .none kV22 dc22 pm22 an22 cv22 ct22), sl22⟩)
    (c22 : PySem.W.codeIn K cv22 "_law_pick" = true)
    (k22 : PySem.W.keepIn K (.ref f22) = true)
    (a23 : PySem.W.nsIn K mainGlobals "_law_integer" = some (some (.ref f23)))
    (l23 : K.lookup f23 = some ⟨oc23, od23, .func (PySem.W.fnOf "_law_integer" "_law_integer" (defArgs sI) (defBody sI) (defScope sI) .none kV23 dc23 pm23 an23 cv23 ct23), sl23⟩)
    (c23 : PySem.W.codeIn K cv23 "_law_integer" = true)
    (k23 : PySem.W.keepIn K (.ref f23) = true)
    (a24 : PySem.W.nsIn K mainGlobals "_law_value" = some (some (.ref f24)))
    (l24 : K.lookup f24 = some ⟨oc24, od24, .func (PySem.W.fnOf "_law_value" "_law_value" (defArgs sV) (defBody sV) (defScope sV) .none kV24 dc24 pm24 an24 cv24 ct24), sl24⟩)
    (c24 : PySem.W.codeIn K cv24 "_law_value" = true)
    (k24 : PySem.W.keepIn K (.ref f24) = true)
    (a25 : PySem.W.nsIn K mainGlobals "_law_same" = some (some (.ref f25)))
    (l25 : K.lookup f25 = some ⟨oc25, od25, .func (PySem.W.fnOf "_law_same" "_law_same" (defArgs sSame) (defBody sSame) (defScope sSame) .none kV25 dc25 pm25 an25 cv25 ct25), sl25⟩)
    (c25 : PySem.W.codeIn K cv25 "_law_same" = true)
    (k25 : PySem.W.keepIn K (.ref f25) = true)
    (a26 : PySem.W.nsIn K mainGlobals "_law_integers_right" = some (some (.ref f26)))
    (l26 : K.lookup f26 = some ⟨oc26, od26, .func (PySem.W.fnOf "_law_integers_right" "_law_integers_right" (defArgs sIR) (defBody sIR) (defScope sIR) .none kV26 dc26 pm26 an26 cv26 ct26), sl26⟩)
    (c26 : PySem.W.codeIn K cv26 "_law_integers_right" = true)
    (k26 : PySem.W.keepIn K (.ref f26) = true)
    (a27 : PySem.W.nsIn K mainGlobals "_law_names_right" = some (some (.ref f27)))
    (l27 : K.lookup f27 = some ⟨oc27, od27, .func (PySem.W.fnOf "_law_names_right" "_law_names_right" (defArgs sNR) (defBody sNR) (defScope sNR) .none kV27 dc27 pm27 an27 cv27 ct27), sl27⟩)
    (c27 : PySem.W.codeIn K cv27 "_law_names_right" = true)
    (k27 : PySem.W.keepIn K (.ref f27) = true)
    (a28 : PySem.W.nsIn K mainGlobals "_law_divides" = some (some (.ref f28)))
    (l28 : K.lookup f28 = some ⟨oc28, od28, .func (PySem.W.fnOf "_law_divides" "_law_divides" (defArgs sDv) (defBody sDv) (defScope sDv) .none kV28 dc28 pm28 an28 cv28 ct28), sl28⟩)
    (c28 : PySem.W.codeIn K cv28 "_law_divides" = true)
    (k28 : PySem.W.keepIn K (.ref f28) = true)
    (a29 : PySem.W.nsIn K mainGlobals "_law_measure" = some (some (.ref f29)))
    (l29 : K.lookup f29 = some ⟨oc29, od29, .func (PySem.W.fnOf "_law_measure" "_law_measure" (defArgs sMe) (defBody sMe) (defScope sMe) .none kV29 dc29 pm29 an29 cv29 ct29), sl29⟩)
    (c29 : PySem.W.codeIn K cv29 "_law_measure" = true)
    (k29 : PySem.W.keepIn K (.ref f29) = true)
    (a30 : PySem.W.nsIn K mainGlobals "_law_divisors_right" = some (some (.ref f30)))
    (l30 : K.lookup f30 = some ⟨oc30, od30, .func (PySem.W.fnOf "_law_divisors_right" "_law_divisors_right" (defArgs sDR) (defBody sDR) (defScope sDR) .none kV30 dc30 pm30 an30 cv30 ct30), sl30⟩)
    (c30 : PySem.W.codeIn K cv30 "_law_divisors_right" = true)
    (k30 : PySem.W.keepIn K (.ref f30) = true)
    (a31 : PySem.W.nsIn K mainGlobals "_law_ratios_right" = some (some (.ref f31)))
    (l31 : K.lookup f31 = some ⟨oc31, od31, .func (PySem.W.fnOf "_law_ratios_right" "_law_ratios_right" (defArgs sRR) (defBody sRR) (defScope sRR) .none kV31 dc31 pm31 an31 cv31 ct31), sl31⟩)
    (c31 : PySem.W.codeIn K cv31 "_law_ratios_right" = true)
    (k31 : PySem.W.keepIn K (.ref f31) = true)
    (a32 : PySem.W.nsIn K mainGlobals "_law_twice_right" = some (some (.ref f32)))
    (l32 : K.lookup f32 = some ⟨oc32, od32, .func (PySem.W.fnOf "_law_twice_right" "_law_twice_right" (defArgs sTR) (defBody sTR) (defScope sTR) .none kV32 dc32 pm32 an32 cv32 ct32), sl32⟩)
    (c32 : PySem.W.codeIn K cv32 "_law_twice_right" = true)
    (k32 : PySem.W.keepIn K (.ref f32) = true)
    (a33 : PySem.W.nsIn K mainGlobals "_law_part" = some (some (.ref f33)))
    (l33 : K.lookup f33 = some ⟨oc33, od33, .func (PySem.W.fnOf "_law_part" "_law_part" (defArgs sPart) (defBody sPart) (defScope sPart) .none kV33 dc33 pm33 an33 cv33 ct33), sl33⟩)
    (c33 : PySem.W.codeIn K cv33 "_law_part" = true)
    (k33 : PySem.W.keepIn K (.ref f33) = true)
    (a34 : PySem.W.nsIn K mainGlobals "law" = some (some (.ref f34)))
    (l34 : K.lookup f34 = some ⟨oc34, od34, .func (PySem.W.fnOf "law" "law" (defArgs sLaw) (defBody sLaw) (defScope sLaw) .none kV34 dc34 pm34 an34 (.ref c34) ct34), sl34⟩)
    (cc34 : PySem.W.codeIn K (.ref c34) "law" = true)
    (k34 : PySem.W.keepIn K (.ref f34) = true)
    (aC : PySem.W.nsIn K mainGlobals "BadNumber" = some (some (.ref C)))
    (aS : PySem.W.nsIn K mainGlobals "SeenError" = some (some (.ref CS)))
    (xC : K.lookup C = some (excClassObj nm qn C N bs [.ref CS, .type "ValueError", .type "Exception", .type "BaseException", .type "object"] true sn sub ab col dd m0 m1 m2 m3 m5 "ValueError.__new__"))
    (sa : PySem.W.findIn K (.ref C) "__setattr__" = some (some (.builtin "object.__setattr__")))
    (ga : PySem.W.findIn K (.ref C) "__getattribute__" = some (some (.builtin "BaseException.__getattribute__")))
    (gg : PySem.W.findIn K (.ref C) "__getattr__" = some none)
    (gc : PySem.W.findIn K (.ref C) "__class__" = some (some (.builtin "object.__class__")))
    (gs : PySem.W.specialIn K (.builtin "object.__class__") "__get__" = some (some (.builtin "getset_descriptor.__get__")))
    (gt : PySem.W.takesIn K (.builtin "object.__class__") = some true)
    (gm : PySem.W.mroIn K C (.type "object") = some true)
    (np : PySem.W.findIn K (.ref C) "part" = some none)
    (iC : PySem.W.findIn K (.ref C) "__init__" = some (some (.ref fI)))
    (tI : PySem.W.typeIn K (.ref fI) = some (.type "function"))
    (lI : K.lookup fI = some ⟨ocI, odI, .func (PySem.W.fnOf "__init__" "BadNumber.__init__" (defArgs sInit) (defBody sInit) (defScope sInit) .none kVI dcI pmI anI cvI ctI), slI⟩)
    (cI : PySem.W.codeIn K cvI "BadNumber.__init__" = true)
    (kI : PySem.W.keepIn K (.ref fI) = true)
    (kC : PySem.W.keepIn K (.ref C) = true)
    (eC : PySem.W.subIn K (.ref C) (.type "BaseException") = some true)
    (tC : PySem.W.typeIn K (.ref C) = some (.type "type"))
    (hC : PySem.W.hasDictIn K C = true)
    (eS : PySem.W.subIn K (.ref CS) (.type "BaseException") = some true)
    (tS : PySem.W.typeIn K (.ref CS) = some (.type "type"))
    (hS : PySem.W.hasDictIn K CS = true)
    (sS : PySem.W.subIn K (.ref C) (.ref CS) = some true)
    (gG : PySem.W.nsIn K mainGlobals "gcd" = some (some (.builtin "math.gcd")))
    (hd : PySem.W.codeHdIn K c34 Pt = true)
    (nT : K.lookup Pt = none)
    (nL : PySem.W.nsIn K mainGlobals "LETTERS" = some (some (.str "abcdefghijklmnopqrstuvwxyz" tL)))
    (nD : PySem.W.nsIn K mainGlobals "DIGITS" = some (some (.str "0123456789" tD)))
    (nG : PySem.W.nsIn K mainGlobals "LONGEST_NAME" = some (some (.int 12 tG)))
    (z_isinstance : PySem.W.nsIn K mainGlobals "isinstance" = some none)
    (z_int : PySem.W.nsIn K mainGlobals "int" = some none)
    (z_bool : PySem.W.nsIn K mainGlobals "bool" = some none)
    (z_list : PySem.W.nsIn K mainGlobals "list" = some none)
    (z_tuple : PySem.W.nsIn K mainGlobals "tuple" = some none)
    (z_all : PySem.W.nsIn K mainGlobals "all" = some none)
    (z_len : PySem.W.nsIn K mainGlobals "len" = some none)
    (z_range : PySem.W.nsIn K mainGlobals "range" = some none)
    (z_abs : PySem.W.nsIn K mainGlobals "abs" = some none)
    (z_str : PySem.W.nsIn K mainGlobals "str" = some none)
    (z_set : PySem.W.nsIn K mainGlobals "set" = some none)
    (z_max : PySem.W.nsIn K mainGlobals "max" = some none)
    (z_zip : PySem.W.nsIn K mainGlobals "zip" = some none)
    (z_enumerate : PySem.W.nsIn K mainGlobals "enumerate" = some none) :
    LamX.LawAtS l w K CX0 9 63 "_law_script" mg fa h := by
  have e := hfa.symm.trans (PySem.W.mg_of X G a34)
  cases e
  have F8 := fun_mk (st := sInt) l8 c8 k8
  have F9 := fun_mk (st := sWithin) l9 c9 k9
  have F10 := fun_mk (st := sNm) l10 c10 k10
  have F11 := fun_mk (st := sIsList) l11 c11 k11
  have F12 := fun_mk (st := sInts) l12 c12 k12
  have F13 := fun_mk (st := sRat) l13 c13 k13
  have F14 := fun_mk (st := sIp) l14 c14 k14
  have F15 := fun_mk (st := sFt) l15 c15 k15
  have F16 := fun_mk (st := sCd) l16 c16 k16
  have F17 := fun_mk (st := sPr) l17 c17 k17
  have F18 := fun_mk (st := sLow) l18 c18 k18
  have F20 := fun_mk (st := sCup) l20 c20 k20
  have F21 := fun_mk (st := sDip) l21 c21 k21
  have F22 := fun_mk (st := sPick) l22 c22 k22
  have F23 := fun_mk (st := sI) l23 c23 k23
  have F24 := fun_mk (st := sV) l24 c24 k24
  have F25 := fun_mk (st := sSame) l25 c25 k25
  have F26 := fun_mk (st := sIR) l26 c26 k26
  have F27 := fun_mk (st := sNR) l27 c27 k27
  have F28 := fun_mk (st := sDv) l28 c28 k28
  have F29 := fun_mk (st := sMe) l29 c29 k29
  have F30 := fun_mk (st := sDR) l30 c30 k30
  have F31 := fun_mk (st := sRR) l31 c31 k31
  have F32 := fun_mk (st := sTR) l32 c32 k32
  have F33 := fun_mk (st := sPart) l33 c33 k33
  have FI := fun_mk (st := sInit) lI cI kI
  have B : Bn mg := ⟨PySem.W.mg_none_of X G z_isinstance, PySem.W.mg_none_of X G z_int, PySem.W.mg_none_of X G z_bool, PySem.W.mg_none_of X G z_list, PySem.W.mg_none_of X G z_tuple, PySem.W.mg_none_of X G z_all, PySem.W.mg_none_of X G z_len, PySem.W.mg_none_of X G z_range, PySem.W.mg_none_of X G z_abs, PySem.W.mg_none_of X G z_str, PySem.W.mg_none_of X G z_set, PySem.W.mg_none_of X G z_max, PySem.W.mg_none_of X G z_zip, PySem.W.mg_none_of X G z_enumerate⟩
  have NM : NmTxt mg := ⟨⟨tL, PySem.W.mg_of X G nL⟩, ⟨tD, PySem.W.mg_of X G nD⟩, ⟨tG, PySem.W.mg_of X G nG⟩⟩
  have T : BrTxt K mg C fI := ⟨⟨⟨nm, qn, N, bs, _, sn, sub, ab, col, dd, m0, m1, m2, m3, m5, xC, rfl⟩, sa, eC, tC, kC⟩, PySem.W.mg_of X G aC, np, iC, tI⟩
  have S : SeTxt K mg CS C := ⟨PySem.W.mg_of X G aS, PySem.W.exm_ref eS hS tS sS, ⟨ga, gg, eC, hC, gc, gs, gt, gm⟩, ⟨ga, gg, eC, hC⟩⟩
  have hg := PySem.W.mg_of X G gG
  refine ⟨PySem.W.fnOf "law" "law" (defArgs sLaw) (defBody sLaw) (defScope sLaw) .none kV34 dc34 pm34 an34 (.ref c34) ct34, [(c34, Pt)], spLaw K Pt, fun p hp => ?_, fun p hp => ?_, fun p hp => ?_, fun s u => .of_eq rfl, fun H a ns hl _ hT hS => ?_, fun base _ _ TB => ?_⟩
  · rw [List.mem_singleton.mp hp]
    exact tab
  · rw [List.mem_singleton.mp hp]
    exact nT
  · rw [List.mem_singleton.mp hp]
    exact PySem.W.codeHd_of_K X hd
  · refine ⟨a, ns, rfl, hS, hl, fun x hx => ?_, fun _ => rfl⟩
    rw [List.mem_singleton.mp hx]
    exact LamX.TabS.nil (hT (c34, Pt) (List.mem_singleton.mpr rfl))
  · have C8 : Callee l.prog w K mg base CX0 1 "is_integer" ["value"] spInt := ⟨f8, _, PySem.W.mg_of X G a8, F8.kp, F8.binds (ps := ["value"]) fun _ _ _ _ _ _ us hl => match us, hl with | [_], _ => rfl, ok_int F8 B⟩
    have K8 : CalleeK l.prog w K mg base CX0 1 "is_integer" ["value"] ["value"] gKw gKw spInt := ⟨f8, _, PySem.W.mg_of X G a8, F8.kp, F8.binds (ps := ["value"]) fun _ _ _ _ _ _ us hl => match us, hl with | [_], _ => rfl, kb_kw (ps := ["value"]) F8 (by intro h; cases h) (fun _ _ _ _ _ _ ws hl => match ws, hl with | [_], _ => rfl), ok_int F8 B⟩
    have C11 : Callee l.prog w K mg base CX0 1 "is_list" ["value"] spIsList := ⟨f11, _, PySem.W.mg_of X G a11, F11.kp, F11.binds (ps := ["value"]) fun _ _ _ _ _ _ us hl => match us, hl with | [_], _ => rfl, ok_isList F11 B⟩
    have C12 : Callee l.prog w K mg base CX0 2 "are_integers" ["value"] spInts := ⟨f12, _, PySem.W.mg_of X G a12, F12.kp, F12.binds (ps := ["value"]) fun _ _ _ _ _ _ us hl => match us, hl with | [_], _ => rfl, ok_ints F12 B C8 C11⟩
    have K12 : CalleeK l.prog w K mg base CX0 2 "are_integers" ["value"] ["value"] gKw gKw spInts := ⟨f12, _, PySem.W.mg_of X G a12, F12.kp, F12.binds (ps := ["value"]) fun _ _ _ _ _ _ us hl => match us, hl with | [_], _ => rfl, kb_kw (ps := ["value"]) F12 (by intro h; cases h) (fun _ _ _ _ _ _ ws hl => match ws, hl with | [_], _ => rfl), ok_ints F12 B C8 C11⟩
    have K9 : CalleeK l.prog w K mg base CX0 2 "is_within" ["value", "least", "most"] ["most", "least", "value"] gR3 gR3 spWithin := ⟨f9, _, PySem.W.mg_of X G a9, F9.kp, F9.binds (ps := ["value", "least", "most"]) fun _ _ _ _ _ _ us hl => match us, hl with | [_, _, _], _ => rfl, kb_r3 F9 (fun _ _ _ _ _ _ _ _ _ => rfl), ok_within F9 B C8⟩
    have K10 : CalleeK l.prog w K mg base CX0 1 "is_name" ["value"] ["value"] gKw gKw spNm := ⟨f10, _, PySem.W.mg_of X G a10, F10.kp, F10.binds (ps := ["value"]) fun _ _ _ _ _ _ us hl => match us, hl with | [_], _ => rfl, kb_kw (ps := ["value"]) F10 (by intro h; cases h) (fun _ _ _ _ _ _ ws hl => match ws, hl with | [_], _ => rfl), ok_nm F10 B NM⟩
    have K13 : CalleeK l.prog w K mg base CX0 3 "is_ratio" ["value"] ["value"] gKw gKw spRat := ⟨f13, _, PySem.W.mg_of X G a13, F13.kp, F13.binds (ps := ["value"]) fun _ _ _ _ _ _ us hl => match us, hl with | [_], _ => rfl, kb_kw (ps := ["value"]) F13 (by intro h; cases h) (fun _ _ _ _ _ _ ws hl => match ws, hl with | [_], _ => rfl), ok_rat (fg := f13) F13 B hg C12⟩
    have C16 : Callee l.prog w K mg base (L2.CX l.prog w) 3 "common_divisor" ["values"] (spCd C) := ⟨f16, _, PySem.W.mg_of X G a16, F16.kp, F16.binds (ps := ["values"]) fun _ _ _ _ _ _ us hl => match us, hl with | [_], _ => rfl, ok_cd F16 hg T FI C12⟩
    have K16 : CalleeK l.prog w K mg base (L2.CX l.prog w) 3 "common_divisor" ["values"] ["values"] gKw gKw (spCd C) := ⟨f16, _, PySem.W.mg_of X G a16, F16.kp, F16.binds (ps := ["values"]) fun _ _ _ _ _ _ us hl => match us, hl with | [_], _ => rfl, kb_kw (ps := ["values"]) F16 (by intro h; cases h) (fun _ _ _ _ _ _ ws hl => match ws, hl with | [_], _ => rfl), ok_cd F16 hg T FI C12⟩
    have K14 : CalleeK l.prog w K mg base CX0 4 "is_primitive" ["value"] ["value"] gKw gKw spIp := ⟨f14, _, PySem.W.mg_of X G a14, F14.kp, F14.binds (ps := ["value"]) fun _ _ _ _ _ _ us hl => match us, hl with | [_], _ => rfl, kb_kw (ps := ["value"]) F14 (by intro h; cases h) (fun _ _ _ _ _ _ ws hl => match ws, hl with | [_], _ => rfl), ok_ip F14 B C12 C16⟩
    have K15 : CalleeK l.prog w K mg base CX0 1 "first_twice" ["values"] ["values"] gKw gKw spFt := ⟨f15, _, PySem.W.mg_of X G a15, F15.kp, F15.binds (ps := ["values"]) fun _ _ _ _ _ _ us hl => match us, hl with | [_], _ => rfl, kb_kw (ps := ["values"]) F15 (by intro h; cases h) (fun _ _ _ _ _ _ ws hl => match ws, hl with | [_], _ => rfl), ok_ft F15 B⟩
    have K17 : CalleeK l.prog w K mg base (L2.CX l.prog w) 4 "primitive" ["values"] ["values"] gKw gKw (spPr C) := ⟨f17, _, PySem.W.mg_of X G a17, F17.kp, F17.binds (ps := ["values"]) fun _ _ _ _ _ _ us hl => match us, hl with | [_], _ => rfl, kb_kw (ps := ["values"]) F17 (by intro h; cases h) (fun _ _ _ _ _ _ ws hl => match ws, hl with | [_], _ => rfl), ok_pr F17 B C16⟩
    have K18 : CalleeK l.prog w K mg base (L2.CX l.prog w) 3 "lowest" ["number", "by"] ["number", "by"] gKw gKw (spLow C) := ⟨f18, _, PySem.W.mg_of X G a18, F18.kp, F18.binds (ps := ["number", "by"]) fun _ _ _ _ _ _ us hl => match us, hl with | [_, _], _ => rfl, kb_kw (ps := ["number", "by"]) F18 (by intro h; cases h) (fun _ _ _ _ _ _ ws hl => match ws, hl with | [_, _], _ => rfl), ok_low F18 hg T FI C8⟩
    have C20 : Callee l.prog w K mg base CX0 1 "_law_cup" ["_law_script"] (spCup K) := ⟨f20, _, PySem.W.mg_of X G a20, F20.kp, F20.binds (ps := ["_law_script"]) fun _ _ _ _ _ _ us hl => match us, hl with | [_], _ => rfl, ok_cup F20 B⟩
    have C21 : Callee l.prog w K mg base CX0 1 "_law_dip" ["_law_cup_here", "_law_many"] spDip := ⟨f21, _, PySem.W.mg_of X G a21, F21.kp, F21.binds (ps := ["_law_cup_here", "_law_many"]) fun _ _ _ _ _ _ us hl => match us, hl with | [_, _], _ => rfl, ok_dip F21 B⟩
    have C22 : Callee l.prog w K mg base CX0 2 "_law_pick" ["_law_cup_here", "_law_some"] spPick := ⟨f22, _, PySem.W.mg_of X G a22, F22.kp, F22.binds (ps := ["_law_cup_here", "_law_some"]) fun _ _ _ _ _ _ us hl => match us, hl with | [_, _], _ => rfl, ok_pick F22 B C21⟩
    have C23 : Callee l.prog w K mg base CX0 3 "_law_integer" ["_law_cup_here"] spI := ⟨f23, _, PySem.W.mg_of X G a23, F23.kp, F23.binds (ps := ["_law_cup_here"]) fun _ _ _ _ _ _ us hl => match us, hl with | [_], _ => rfl, ok_integer F23 B C21 C22⟩
    have C24 : Callee l.prog w K mg base CX0 4 "_law_value" ["_law_cup_here"] spV := ⟨f24, _, PySem.W.mg_of X G a24, F24.kp, F24.binds (ps := ["_law_cup_here"]) fun _ _ _ _ _ _ us hl => match us, hl with | [_], _ => rfl, ok_value F24 B C23 C22⟩
    have C25 : Callee l.prog w K mg base CX0 1 "_law_same" ["_law_told", "_law_due"] spSame := ⟨f25, _, PySem.W.mg_of X G a25, F25.kp, F25.binds (ps := ["_law_told", "_law_due"]) fun _ _ _ _ _ _ us hl => match us, hl with | [_, _], _ => rfl, ok_same F25 B⟩
    have C26 : Callee l.prog w K mg base CX0 5 "_law_integers_right" ["_law_cup_here"] (spPart 40) := ⟨f26, _, PySem.W.mg_of X G a26, F26.kp, F26.binds (ps := ["_law_cup_here"]) fun _ _ _ _ _ _ us hl => match us, hl with | [_], _ => rfl, ok_ir F26 B K8 K9 K12 C23 C24 C21 C25⟩
    have C27 : Callee l.prog w K mg base CX0 5 "_law_names_right" ["_law_cup_here"] (spPart 40) := ⟨f27, _, PySem.W.mg_of X G a27, F27.kp, F27.binds (ps := ["_law_cup_here"]) fun _ _ _ _ _ _ us hl => match us, hl with | [_], _ => rfl, ok_nr F27 B K10 C22 C24 C21 C25⟩
    have C28 : Callee l.prog w K mg base CX0 1 "_law_divides" ["_law_part_here", "_law_numbers"] spDv := ⟨f28, _, PySem.W.mg_of X G a28, F28.kp, F28.binds (ps := ["_law_part_here", "_law_numbers"]) fun _ _ _ _ _ _ us hl => match us, hl with | [_, _], _ => rfl, ok_dv F28 B⟩
    have C29 : Callee l.prog w K mg base CX0 2 "_law_measure" ["_law_numbers"] spMe := ⟨f29, _, PySem.W.mg_of X G a29, F29.kp, F29.binds (ps := ["_law_numbers"]) fun _ _ _ _ _ _ us hl => match us, hl with | [_], _ => rfl, ok_me F29 B C28⟩
    have C30 : Callee l.prog w K mg base CX0 6 "_law_divisors_right" ["_law_cup_here"] (spPart 40) := ⟨f30, _, PySem.W.mg_of X G a30, F30.kp, F30.binds (ps := ["_law_cup_here"]) fun _ _ _ _ _ _ us hl => match us, hl with | [_], _ => rfl, ok_dr F30 B K16 C8 K17 C29 C22 C21 K14 C25⟩
    have C31 : Callee l.prog w K mg base CX0 5 "_law_ratios_right" ["_law_cup_here"] (spPart 40) := ⟨f31, _, PySem.W.mg_of X G a31, F31.kp, F31.binds (ps := ["_law_cup_here"]) fun _ _ _ _ _ _ us hl => match us, hl with | [_], _ => rfl, ok_rr F31 B K13 C22 K18 C29 C21 C25⟩
    have C32 : Callee l.prog w K mg base CX0 5 "_law_twice_right" ["_law_cup_here"] (spPart 40) := ⟨f32, _, PySem.W.mg_of X G a32, F32.kp, F32.binds (ps := ["_law_cup_here"]) fun _ _ _ _ _ _ us hl => match us, hl with | [_], _ => rfl, ok_tr F32 B K15 C21⟩
    exact ok_law l34 cc34 (TB (c34, Pt) (List.mem_singleton.mpr rfl)) B T S F33 (PySem.W.mg_of X G a33) K16 K17 K18 C20 C22 C24 C26 C27 C31 C32 C30
end K1

open PySem PySem.W PyProof.Rows in
set_option maxRecDepth 100000 in
set_option maxHeartbeats 0 in
theorem PySem.Challenge.cw_farseen_k01_checks_of_any_value_holds : PySem.Challenge.rw_farseen_k01_checks_of_any_value.Holds := by
  w_on; o_law; k_head; (case hw => w_witness2)
  k_fill
  refine LamX.walk_ofTs (l := PySem.Challenge.rw_farseen_k01_checks_of_any_value) (n := 63) (k := 9) (x := "_law_script") (CX := fun _ => L2.CX0) rfl (by decide) rfl ⟨rfl, by decide, by decide⟩ (fun w h Y => PySem.W.km_in_of Y) ?F (fun _ _ _ _ _ z => z)
  case F =>
    intro w mg fa h Y KX G hmg
    refine' K1.all_mk (Pt := 233) KX G hmg (PySem.W.km_tabs_of Y 233 (List.mem_singleton.mpr rfl)) ?a8 ?l8 ?c8 ?k8 ?a9 ?l9 ?c9 ?k9 ?a10 ?l10 ?c10 ?k10 ?a11 ?l11 ?c11 ?k11 ?a12 ?l12 ?c12 ?k12 ?a13 ?l13 ?c13 ?k13 ?a14 ?l14 ?c14 ?k14 ?a15 ?l15 ?c15 ?k15 ?a16 ?l16 ?c16 ?k16 ?a17 ?l17 ?c17 ?k17 ?a18 ?l18 ?c18 ?k18 ?a20 ?l20 ?c20 ?k20 ?a21 ?l21 ?c21 ?k21 ?a22 ?l22 ?c22 ?k22 ?a23 ?l23 ?c23 ?k23 ?a24 ?l24 ?c24 ?k24 ?a25 ?l25 ?c25 ?k25 ?a26 ?l26 ?c26 ?k26 ?a27 ?l27 ?c27 ?k27 ?a28 ?l28 ?c28 ?k28 ?a29 ?l29 ?c29 ?k29 ?a30 ?l30 ?c30 ?k30 ?a31 ?l31 ?c31 ?k31 ?a32 ?l32 ?c32 ?k32 ?a33 ?l33 ?c33 ?k33 ?a34 ?l34 ?cc34 ?k34 ?aC ?aS ?xC ?sa ?ga ?gg ?gc ?gs ?gt ?gm ?np ?iC ?tI ?lI ?cI ?kI ?kC ?eC ?tC ?hC ?eS ?tS ?hS ?sS ?gG ?hd ?nT ?nL ?nD ?nG ?z_isinstance ?z_int ?z_bool ?z_list ?z_tuple ?z_all ?z_len ?z_range ?z_abs ?z_str ?z_set ?z_max ?z_zip ?z_enumerate
    (case a8 => k_is)
    (case l8 => k_is)
    (case c8 => k_is)
    (case k8 => k_is)
    (case a9 => k_is)
    (case l9 => k_is)
    (case c9 => k_is)
    (case k9 => k_is)
    (case a10 => k_is)
    (case l10 => k_is)
    (case c10 => k_is)
    (case k10 => k_is)
    (case a11 => k_is)
    (case l11 => k_is)
    (case c11 => k_is)
    (case k11 => k_is)
    (case a12 => k_is)
    (case l12 => k_is)
    (case c12 => k_is)
    (case k12 => k_is)
    (case a13 => k_is)
    (case l13 => k_is)
    (case c13 => k_is)
    (case k13 => k_is)
    (case a14 => k_is)
    (case l14 => k_is)
    (case c14 => k_is)
    (case k14 => k_is)
    (case a15 => k_is)
    (case l15 => k_is)
    (case c15 => k_is)
    (case k15 => k_is)
    (case a16 => k_is)
    (case l16 => k_is)
    (case c16 => k_is)
    (case k16 => k_is)
    (case a17 => k_is)
    (case l17 => k_is)
    (case c17 => k_is)
    (case k17 => k_is)
    (case a18 => k_is)
    (case l18 => k_is)
    (case c18 => k_is)
    (case k18 => k_is)
    (case a20 => k_is)
    (case l20 => k_is)
    (case c20 => k_is)
    (case k20 => k_is)
    (case a21 => k_is)
    (case l21 => k_is)
    (case c21 => k_is)
    (case k21 => k_is)
    (case a22 => k_is)
    (case l22 => k_is)
    (case c22 => k_is)
    (case k22 => k_is)
    (case a23 => k_is)
    (case l23 => k_is)
    (case c23 => k_is)
    (case k23 => k_is)
    (case a24 => k_is)
    (case l24 => k_is)
    (case c24 => k_is)
    (case k24 => k_is)
    (case a25 => k_is)
    (case l25 => k_is)
    (case c25 => k_is)
    (case k25 => k_is)
    (case a26 => k_is)
    (case l26 => k_is)
    (case c26 => k_is)
    (case k26 => k_is)
    (case a27 => k_is)
    (case l27 => k_is)
    (case c27 => k_is)
    (case k27 => k_is)
    (case a28 => k_is)
    (case l28 => k_is)
    (case c28 => k_is)
    (case k28 => k_is)
    (case a29 => k_is)
    (case l29 => k_is)
    (case c29 => k_is)
    (case k29 => k_is)
    (case a30 => k_is)
    (case l30 => k_is)
    (case c30 => k_is)
    (case k30 => k_is)
    (case a31 => k_is)
    (case l31 => k_is)
    (case c31 => k_is)
    (case k31 => k_is)
    (case a32 => k_is)
    (case l32 => k_is)
    (case c32 => k_is)
    (case k32 => k_is)
    (case a33 => k_is)
    (case l33 => k_is)
    (case c33 => k_is)
    (case k33 => k_is)
    (case a34 => k_is)
    (case l34 => k_is)
    (case cc34 => k_is)
    (case k34 => k_is)
    (case aC => k_is)
    (case aS => k_is)
    (case xC => k_is)
    (case sa => k_is)
    (case ga => k_is)
    (case gg => k_is)
    (case gc => k_is)
    (case gs => k_is)
    (case gt => k_is)
    (case gm => k_is)
    (case np => k_is)
    (case iC => k_is)
    (case tI => k_is)
    (case lI => k_is)
    (case cI => k_is)
    (case kI => k_is)
    (case kC => k_is)
    (case eC => k_is)
    (case tC => k_is)
    (case hC => k_is)
    (case eS => k_is)
    (case tS => k_is)
    (case hS => k_is)
    (case sS => k_is)
    (case gG => k_is)
    (case hd => first | kernel_rfl | rfl)
    (case nT => first | kernel_rfl | rfl)
    (case nL => k_is)
    (case nD => k_is)
    (case nG => k_is)
    (case z_isinstance => k_is)
    (case z_int => k_is)
    (case z_bool => k_is)
    (case z_list => k_is)
    (case z_tuple => k_is)
    (case z_all => k_is)
    (case z_len => k_is)
    (case z_range => k_is)
    (case z_abs => k_is)
    (case z_str => k_is)
    (case z_set => k_is)
    (case z_max => k_is)
    (case z_zip => k_is)
    (case z_enumerate => k_is)
