import PyProof.Rows.All
import Wide.All
import OpenK.AllK
import Wide.FinOn
import HandS.ForMost
import HandS.IsInst
import HandS.Evl
import HandS.Walk
import HandS.DeepEq
import HandS.Steps
import HandS.IterVal
import HandS.RevRange
import HandS.Conv
import HandS.Wide
import HandS.WideBits
import HandS.Deep
import HandS.SortRule
import HandS.SortInts
import HandS.DictComp
import HandS.WordsDict
import HandS.Style
import HandS.Exc
import HandS.ExcInit
import HandS.WordsExc
import HandS.ClsMeth
import HandS.Defaults
import HandS.Lambda
import HandS.ExcIs
import HandS.TryMany
import PyProof.Rows.SeqMore
import HandS.EndTab
import PySem.Challenge.RW_loopyard_k13_heaps_of_timers
set_option Elab.async false
set_option maxRecDepth 100000
set_option maxHeartbeats 4000000
set_option linter.all false
set_option autoImplicit false
/-! The text by places, the data, the short forms of what evaluates to what. -/
namespace K4
open PySem L2 Evl PySem.Spec PyProof.Rows
def top (i : Nat) : Stmt := PySem.Challenge.pw_loopyard_k13_heaps_of_timers.main.body.getD i (.Pass ⟨0, 0, 0, 0⟩)

/-! ### the data -/
inductive D where
  | non | bl (b : Bool) | int (i : Int) | str (s : Str) | tup (l : List D) | lst | dct

mutual
/-- the value v is the datum d -/
inductive Rp (K : PySem.W.Frag) (H : Hp) : D → V → Prop
  | non : Rp K H .non .non
  | bl (b : Bool) : Rp K H (.bl b) (.bl b)
  | int (i : Int) : Rp K H (.int i) (.int i)
  | str (x : Str) : Rp K H (.str x) (.str x)
  | tup {a : Addr} {vs : List V} {ds : List D} : H a = some (.tup vs) → Rps K H ds vs → Rp K H (.tup ds) (.ref a)
  | lst {a : Addr} {vs : List V} : H a = some (.lst vs) → Rp K H .lst (.ref a)
  | dct {a : Addr} {kvs : List (Key × V)} : H a = some (.dK kvs) → Rp K H .dct (.ref a)
inductive Rps (K : PySem.W.Frag) (H : Hp) : List D → List V → Prop
  | nil : Rps K H [] []
  | cons {d : D} {v : V} {ds : List D} {vs : List V} : Rp K H d v → Rps K H ds vs → Rps K H (d :: ds) (v :: vs)
end

/-- tuples stand, lists and dicts are lists and dicts still -/
def Ew (H H' : Hp) : Prop := ∀ a, (∀ xs, H a = some (.tup xs) → H' a = some (.tup xs)) ∧ (∀ xs, H a = some (.lst xs) → ∃ ys, H' a = some (.lst ys)) ∧ (∀ xs, H a = some (.dK xs) → ∃ ys, H' a = some (.dK ys))
theorem Ew.of {H H' : Hp} (e : Ex H H') : Ew H H' := fun a => ⟨fun _ h => e a _ h, fun _ h => ⟨_, e a _ h⟩, fun _ h => ⟨_, e a _ h⟩⟩
theorem Ew.refl (H : Hp) : Ew H H := Ew.of (Ex.refl H)
theorem Ew.trans {H H1 H2 : Hp} (x : Ew H H1) (y : Ew H1 H2) : Ew H H2 := fun a =>
  ⟨fun xs h => (y a).1 xs ((x a).1 xs h), fun xs h => let ⟨_, h1⟩ := (x a).2.1 xs h; (y a).2.1 _ h1, fun xs h => let ⟨_, h1⟩ := (x a).2.2 xs h; (y a).2.2 _ h1⟩
/-- a list is changed -/
theorem Ew.lst {H : Hp} {p : Addr} {xs ys : List V} (h : H p = some (.lst xs)) : Ew H (upd H p (.lst ys)) := fun a => by
  by_cases e : a = p
  · subst e
    refine ⟨fun z q => ?_, fun z q => ⟨ys, upd_same⟩, fun z q => ?_⟩
    · rw [h] at q; cases q
    · rw [h] at q; cases q
  · refine ⟨fun z q => ?_, fun z q => ⟨z, ?_⟩, fun z q => ⟨z, ?_⟩⟩ <;> (rw [upd_ne e]; exact q)
theorem Ew.dK {H : Hp} {p : Addr} {xs ys : List (Key × V)} (h : H p = some (.dK xs)) : Ew H (upd H p (.dK ys)) := fun a => by
  by_cases e : a = p
  · subst e
    refine ⟨fun z q => ?_, fun z q => ?_, fun z q => ⟨ys, upd_same⟩⟩
    · rw [h] at q; cases q
    · rw [h] at q; cases q
  · refine ⟨fun z q => ?_, fun z q => ⟨z, ?_⟩, fun z q => ⟨z, ?_⟩⟩ <;> (rw [upd_ne e]; exact q)
section
variable {K : PySem.W.Frag} {H H' : Hp} {d : D} {v : V} {ds es : List D} {vs us : List V}
mutual
theorem Rp.ew (e : Ew H H') : ∀ {d : D} {v : V}, Rp K H d v → Rp K H' d v
  | _, _, .non => .non
  | _, _, .bl b => .bl b
  | _, _, .int i => .int i
  | _, _, .str x => .str x
  | _, _, .tup h r => .tup ((e _).1 _ h) (Rps.ew e r)
  | _, _, .lst h => .lst ((e _).2.1 _ h).choose_spec
  | _, _, .dct h => .dct ((e _).2.2 _ h).choose_spec
theorem Rps.ew (e : Ew H H') : ∀ {ds : List D} {vs : List V}, Rps K H ds vs → Rps K H' ds vs
  | _, _, .nil => .nil
  | _, _, .cons r t => .cons (Rp.ew e r) (Rps.ew e t)
end
theorem Rp.mono (e : Ex H H') {d : D} {v : V} (r : Rp K H d v) : Rp K H' d v := r.ew (Ew.of e)
theorem Rps.mono (e : Ex H H') {ds : List D} {vs : List V} (r : Rps K H ds vs) : Rps K H' ds vs := r.ew (Ew.of e)
theorem Rps.len : ∀ {ds : List D} {vs : List V}, Rps K H ds vs → vs.length = ds.length
  | _, _, .nil => rfl
  | _, _, .cons _ t => congrArg (· + 1) (Rps.len t)
theorem Rps.at_ : ∀ {ds : List D} {vs : List V} {i : Nat} {v : V}, Rps K H ds vs → vs[i]? = some v → ∃ d, ds[i]? = some d ∧ Rp K H d v
  | _, _, i, _, .nil, e => by simp at e
  | _, _, 0, v, .cons r t, e => by simp at e; subst e; exact ⟨_, rfl, r⟩
  | _, _, i + 1, v, .cons r t, e => by simpa using Rps.at_ (i := i) t (by simpa using e)
theorem Rps.get : ∀ {ds : List D} {vs : List V} {i : Nat} {d : D}, Rps K H ds vs → ds[i]? = some d → ∃ v, vs[i]? = some v ∧ Rp K H d v
  | _, _, i, _, .nil, e => by simp at e
  | _, _, 0, v, .cons r t, e => by simp at e; subst e; exact ⟨_, rfl, r⟩
  | _, _, i + 1, v, .cons r t, e => by simpa using Rps.get (i := i) t (by simpa using e)
theorem Rps.drop : ∀ {ds : List D} {vs : List V} (n : Nat), Rps K H ds vs → Rps K H (ds.drop n) (vs.drop n)
  | _, _, 0, r => r
  | _, _, _ + 1, .nil => .nil
  | _, _, n + 1, .cons _ t => Rps.drop n t
theorem Rps.take : ∀ {ds : List D} {vs : List V} (n : Nat), Rps K H ds vs → Rps K H (ds.take n) (vs.take n)
  | _, _, 0, _ => .nil
  | _, _, _ + 1, .nil => .nil
  | _, _, n + 1, .cons r t => .cons r (Rps.take n t)
theorem Rps.app : ∀ {ds es : List D} {vs us : List V}, Rps K H ds vs → Rps K H es us → Rps K H (ds ++ es) (vs ++ us)
  | _, _, _, _, .nil, s => s
  | _, _, _, _, .cons r t, s => .cons r (Rps.app t s)
/-- the name of a datum's type -/
def tyD : D → String
  | .non => "NoneType" | .bl _ => "bool" | .int _ => "int" | .str _ => "str" | .tup _ => "tuple" | .lst => "list" | .dct => "dict"
theorem Rp.ty : Rp K H d v → TyX K H v (.type (tyD d))
  | .non => .base .non
  | .bl b => .base (.bl b)
  | .int i => .base (.int i)
  | .str x => .base (.str x)
  | .tup h _ => .base (.tup h)
  | .lst h => .base (.lst h)
  | .dct h => .base (.dK h)
end
/-! ### isinstance of a datum -/
def isTup : D → Bool | .tup _ => true | _ => false
def isStr : D → Bool | .str _ => true | _ => false
def isBl : D → Bool | .bl _ => true | _ => false
def isIn : D → Bool | .int _ => true | .bl _ => true | _ => false
def isDct : D → Bool | .dct => true | _ => false
inductive Tg where | non | bl | int | str | tup | lst | dct
def tg : D → Tg | .non => .non | .bl _ => .bl | .int _ => .int | .str _ => .str | .tup _ => .tup | .lst => .lst | .dct => .dct
def tyT : Tg → String | .non => "NoneType" | .bl => "bool" | .int => "int" | .str => "str" | .tup => "tuple" | .lst => "list" | .dct => "dict"
def inT (n : String) : Tg → Bool
  | .tup => n == "tuple" | .str => n == "str" | .bl => n == "bool" || n == "int" | .int => n == "int" | .dct => n == "dict" | _ => false
theorem ty_eq (d : D) : tyD d = tyT (tg d) := by cases d <;> rfl
theorem kitT_tup (t : Tg) : kitB (tyT t) "tuple" = some (inT "tuple" t) := by cases t <;> decide +kernel
theorem kitT_str (t : Tg) : kitB (tyT t) "str" = some (inT "str" t) := by cases t <;> decide +kernel
theorem kitT_bl (t : Tg) : kitB (tyT t) "bool" = some (inT "bool" t) := by cases t <;> decide +kernel
theorem kitT_in (t : Tg) : kitB (tyT t) "int" = some (inT "int" t) := by cases t <;> decide +kernel
theorem kitT_dct (t : Tg) : kitB (tyT t) "dict" = some (inT "dict" t) := by cases t <;> decide +kernel
theorem inT_tup (d : D) : inT "tuple" (tg d) = isTup d := by cases d <;> rfl
theorem inT_str (d : D) : inT "str" (tg d) = isStr d := by cases d <;> rfl
theorem inT_bl (d : D) : inT "bool" (tg d) = isBl d := by cases d <;> rfl
theorem inT_in (d : D) : inT "int" (tg d) = isIn d := by cases d <;> rfl
theorem inT_dct (d : D) : inT "dict" (tg d) = isDct d := by cases d <;> rfl
theorem kit_tup (d : D) : kitB (tyD d) "tuple" = some (isTup d) := by rw [ty_eq, kitT_tup, inT_tup]
theorem kit_str (d : D) : kitB (tyD d) "str" = some (isStr d) := by rw [ty_eq, kitT_str, inT_str]
theorem kit_bl (d : D) : kitB (tyD d) "bool" = some (isBl d) := by rw [ty_eq, kitT_bl, inT_bl]
theorem kit_in (d : D) : kitB (tyD d) "int" = some (isIn d) := by rw [ty_eq, kitT_in, inT_in]
theorem kit_dct (d : D) : kitB (tyD d) "dict" = some (isDct d) := by rw [ty_eq, kitT_dct, inT_dct]
section
variable {K : PySem.W.Frag} {H : Hp} {σ : L2.St} {d : D} {v : V} {ta : TE} {n : String} {b : Bool}
theorem ev_isi (hd : Rp K H d v) (ha : Ev ta σ H v) (hk : kitB (tyD d) n = some b) : Ev (tCB (rIsi K) (tCons ta (tCons (tC (.ty n)) tNil))) σ H (.bl b) :=
  ev_cb (ea_cons ha (ea_cons ev_c ea_nil)) fun H1 e Q q => ⟨v, .ty n, _, _, b, rfl, .ty n, (hd.mono e).ty, kit_ty hk, q H1 (Ex.refl _)⟩
end
end K4
/-! What evaluates to something with a property; walks; comprehensions; tests; the facts of the top; calls. -/
namespace K4
open PySem L2 Evl PySem.Spec PyProof.Rows
section
variable {K : PySem.W.Frag} {σ : L2.St} {H H' : Hp} {ta tb tc te tx : TE} {t u : TT} {x y z v : V} {r r' : R2} {b : Bool}

/-- it evaluates to a value of which P holds -/
def EvP (te : TE) (σ : L2.St) (H : Hp) (P : Hp → V → Prop) : Prop := ∀ H1, Ex H H1 → ∀ Q : VK, (∀ v H2, Ex H1 H2 → P H2 v → Q v H2) → te σ H1 Q
/-- it makes a new list of which P holds -/
def EvLP (te : TE) (σ : L2.St) (H : Hp) (P : Hp → List V → Prop) : Prop := ∀ H1, Ex H H1 → ∀ Q : VK, (∀ p xs H2, H1 p = none → Ex H1 H2 → H2 p = some (.lst xs) → P H2 xs → Q (.ref p) H2) → te σ H1 Q
def EvAP (ta : TA) (σ : L2.St) (H : Hp) (P : Hp → List V → Prop) : Prop := ∀ H1, Ex H H1 → ∀ Q : List V → Hp → Prop, (∀ vs H2, Ex H1 H2 → P H2 vs → Q vs H2) → ta σ H1 Q
theorem EvP.mono {P : Hp → V → Prop} (e : Ex H H') (h : EvP te σ H P) : EvP te σ H' P := fun H1 a Q q => h H1 (e.trans a) Q q
theorem EvP.imp {P P' : Hp → V → Prop} (h : EvP te σ H P) (k : ∀ H1 v, Ex H H1 → P H1 v → P' H1 v) : EvP te σ H P' := fun H1 a Q q => h H1 a Q fun v H2 e p => q v H2 e (k H2 v (a.trans e) p)
theorem evp (h : Ev te σ H v) {P : Hp → V → Prop} (p : ∀ H1, Ex H H1 → P H1 v) : EvP te σ H P := fun H1 a Q q => h H1 a Q fun H2 e => q v H2 e (p H2 (a.trans e))
theorem evp_d {d : D} (h : Ev te σ H v) (p : Rp K H d v) : EvP te σ H (fun H1 v => Rp K H1 d v) := evp h fun _ e => p.mono e
theorem ea_ev {ta : TA} {vs : List V} (h : EvA ta σ H vs) {P : Hp → List V → Prop} (p : ∀ H1, Ex H H1 → P H1 vs) : EvAP ta σ H P := fun H1 a Q q => h H1 a Q fun H2 e => q vs H2 e (p H2 (a.trans e))
theorem eap_nil : EvAP tNil σ H (fun H1 vs => Rps K H1 [] vs) := fun H1 _ Q q => q [] H1 (Ex.refl _) .nil
theorem eap_cons {ta : TA} {d : D} {ds : List D} (h : EvP te σ H (fun H1 v => Rp K H1 d v)) (hr : EvAP ta σ H (fun H1 vs => Rps K H1 ds vs)) : EvAP (tCons te ta) σ H (fun H1 vs => Rps K H1 (d :: ds) vs) := fun H1 e Q q =>
  h H1 e _ fun v H2 e2 p => hr H2 (e.trans e2) _ fun vs H3 e3 ps => q (v :: vs) H3 (e2.trans e3) (.cons (p.mono e3) ps)
theorem evp_tup {ta : TA} {ds : List D} (h : EvAP ta σ H (fun H1 vs => Rps K H1 ds vs)) (hl : ds.length ≤ 100000) : EvP (tTup ta) σ H (fun H1 v => Rp K H1 (.tup ds) v) := fun H1 e Q q =>
  h H1 e _ fun vs H2 e2 ps => ⟨sz_of (by rw [ps.len]; exact hl), fun p hp => q _ _ (e2.trans (Ex.new hp)) (.tup upd_same (ps.mono (Ex.new hp)))⟩
/-- behind a value of which P is known -/
theorem s_retP {P : Hp → V → Prop} {Dd : Ends} (h : EvP te σ H P) (k : ∀ v H1, Ex H H1 → P H1 v → Dd.rt v H1) : tRet te Dd σ H := h H (Ex.refl H) _ fun v H1 e p => k v H1 e p
theorem s_asgP {P : Hp → V → Prop} {Dd : Ends} {i : Nat} (h : EvP te σ H P) (k : ∀ v H1, Ex H H1 → P H1 v → Dd.nx (σ.set i (some v)) H1) : tAsg te (gName i) Dd σ H := h H (Ex.refl H) _ fun v H1 e p => k v H1 e p
theorem q_asgP {P : Hp → V → Prop} {Dd : Ends} {tz : TS} {i : Nat} (h : EvP te σ H P) (k : ∀ v H1, Ex H H1 → P H1 v → tz Dd (σ.set i (some v)) H1) : tSeq (tAsg te (gName i)) tz Dd σ H := s_asgP (Dd := { Dd with nx := tz Dd }) h k
/-- a value of which P is known, the operation behind it -/
theorem ev_opP {P : Hp → V → Prop} (ha : EvP ta σ H P) (hb : ∀ H1, Ex H H1 → Ev tb σ H1 y) (hr : ∀ v H1, Ex H H1 → P H1 v → RV r v y H1 z) (mono : ∀ v H1 H2, Ex H1 H2 → P H1 v → P H2 v) : Ev (tOp r ta tb) σ H z := fun H1 e Q q =>
  ha H1 e _ fun v H2 e2 p => hb H2 (e.trans e2) H2 (Ex.refl _) _ fun H3 e3 => hr v H3 ((e.trans e2).trans e3) (mono _ _ _ e3 p) H3 (Ex.refl _) Q fun H4 e4 => q H4 ((e2.trans e3).trans e4)

/-! ### tests -/
theorem et_chain {k k2 : Bool} (ha : Ev ta σ H x) (hb : Ev tb σ H y) (h1 : RV r x y H (.bl k)) (hc : k = true → Ev tc σ H z) (h2 : k = true → RV r' y z H (.bl k2)) : EvT (tTest (tChain r r' ta tb tc)) σ H (k && k2) := fun H1 e Q q =>
  ha H1 e _ fun H2 e2 => hb H2 (e.trans e2) _ fun H3 e3 => h1 H3 ((e.trans e2).trans e3) _ fun H4 e4 => ⟨k, rfl, by
    cases k with
    | true =>
      refine iteT ?_
      refine hc rfl H4 (((e.trans e2).trans e3).trans e4) _ fun H5 e5 => h2 rfl H5 ((((e.trans e2).trans e3).trans e4).trans e5) _ fun H6 e6 => ⟨k2, rfl, ?_⟩
      exact q H6 ((((e2.trans e3).trans e4).trans e5).trans e6)
    | false =>
      refine iteF ⟨false, rfl, ?_⟩
      exact q H4 ((e2.trans e3).trans e4)⟩
/-- a test of a value of which P is known -/
theorem et_testP {P : Hp → V → Prop} (h : EvP te σ H P) (k : ∀ v H1, P H1 v → v = .bl b) : EvT (tTest te) σ H b := fun H1 e _ q => h H1 e _ fun v H2 e2 p => ⟨b, k v H2 p, q H2 e2⟩
def rLe : R2 := rI0 fun i j => .bl (decide (i ≤ j))
def rLt : R2 := rI0 fun i j => .bl (decide (i < j))
theorem op_le2 {X : Cx} : OpR X (compareOp .LtE) rLe := op_le
theorem op_lt2 {X : Cx} : OpR X (compareOp .Lt) rLt := op_lt
theorem rv_le {i j : Int} : RV rLe (.int i) (.int j) H (.bl (decide (i ≤ j))) := rv_I0
theorem rv_lt {i j : Int} : RV rLt (.int i) (.int j) H (.bl (decide (i < j))) := rv_I0
theorem rv_inS {c : Nat} {w : Str} : RV rInS (.str ⟨#[c]⟩) (.str w) H (.bl (decide (c ∈ w.cps.toList))) := fun H1 _ _ q => ⟨c, w, rfl, rfl, q H1 (Ex.refl _)⟩
theorem rv_niS {c : Nat} {w : Str} : RV rNotInS (.str ⟨#[c]⟩) (.str w) H (.bl (!decide (c ∈ w.cps.toList))) := fun H1 _ _ q => ⟨c, w, rfl, rfl, q H1 (Ex.refl _)⟩
theorem ev_lenS {z : Str} (ha : Ev ta σ H (.str z)) (hz : z.length ≤ 100000) : Ev (tCB (fun xs H Q => ∃ z : Str, xs = [.str z] ∧ z.length ≤ sizeLine ∧ Q (.int z.length) H) (tCons ta tNil)) σ H (.int z.length) := fun H1 e Q q =>
  ha H1 e _ fun H2 e2 => ⟨z, rfl, sz_of hz, q H2 e2⟩
/-- len of a tracked tuple, list -/
def rLenQ (K : PySem.W.Frag) : List V → Hp → VK → Prop := fun xs H Q => ∃ p ys, xs = [.ref p] ∧ (SqL K H p ys ∨ SqT K H p ys) ∧ Q (.int ys.length) H
theorem call_lenQ {X : Cx} : CallR X (.builtin "len") (rLenQ X.K) := call_len_seq
theorem ev_lenT {p : Addr} {xs : List V} (ha : Ev ta σ H (.ref p)) (h : SqT K H p xs) : Ev (tCB (rLenQ K) (tCons ta tNil)) σ H (.int (xs.length : Int)) := fun H1 e Q q =>
  ha H1 e _ fun H2 e2 => ⟨p, xs, rfl, Or.inr (ex_t (e.trans e2) h), q H2 e2⟩
theorem ev_allB {bs : List Bool} (ha : EvL ta σ H (bs.map V.bl)) : Ev (tCB (rAll K) (tCons ta tNil)) σ H (.bl (bs.all id)) := fun H1 e Q q =>
  ha H1 e _ fun p H2 _ e2 hp => ⟨p, bs, rfl, sq_of hp, q H2 e2⟩
theorem ev_anyB {bs : List Bool} (ha : EvL ta σ H (bs.map V.bl)) : Ev (tCB (rAny K) (tCons ta tNil)) σ H (.bl (bs.any id)) := fun H1 e Q q =>
  ha H1 e _ fun p H2 _ e2 hp => ⟨p, bs, rfl, sq_of hp, q H2 e2⟩

/-! ### walks -/
/-- what is walked: n turns, the i-th gives an x with P i -/
def Wk (wi : TI) (σ : L2.St) (H : Hp) (n : Nat) (P : Nat → Hp → V → Prop) : Prop :=
  ∀ H1, Ex H H1 → ∀ R : It → Hp → Prop, (∀ (J : It) (G : Hp → Prop) (Y : Nat → Hp → V → Hp → Prop) (H2 : Hp), Ex H1 H2 → Walk J n G Y → (∀ H3, Ex H2 H3 → G H3) → (∀ i H3 x H4, i < n → Ex H2 H3 → Y i H3 x H4 → Ex H3 H4 ∧ P i H4 x) → R J H2) → wi σ H1 R
theorem wk_tup {tl : TE} {ds : List D} {a : Addr} {vs : List V} (h : Ev tl σ H (.ref a)) (ha : H a = some (.tup vs)) (r : Rps K H ds vs) : Wk (iTup K tl) σ H ds.length (fun i H1 x => ∃ d, ds[i]? = some d ∧ Rp K H1 d x) := fun H1 e R k =>
  h H1 e _ fun H2 e2 => ⟨a, rfl, ⟨vs, st_of (e2 _ _ (e _ _ ha))⟩, by
    have w : Walk (Itt K a) vs.length (fun H => SqT K H a vs) (YAt vs) := walk_tup
    rw [r.len] at w
    refine k _ _ _ H2 e2 w (fun H3 e3 => st_of (e3 _ _ (e2 _ _ (e _ _ ha)))) fun i H3 x H4 hi e3 y => ?_
    obtain ⟨e4, hx⟩ := y
    subst e4
    obtain ⟨d, h1, h2⟩ := r.at_ hx
    exact ⟨Ex.refl _, d, h1, h2.mono ((e.trans e2).trans e3)⟩⟩
theorem wk_str {tl : TE} {z : Str} (h : Ev tl σ H (.str z)) : Wk (iStr tl) σ H z.cps.size (fun i _ x => ∃ c, z.cps[i]? = some c ∧ x = .str ⟨#[c]⟩) := fun H1 e R k =>
  h H1 e _ fun H2 e2 => ⟨z, rfl, k _ _ _ H2 e2 walk_str (fun _ _ => trivial) fun i H3 x H4 hi e3 y => by
    obtain ⟨e4, hx⟩ := y
    subst e4
    exact ⟨Ex.refl _, hx⟩⟩
theorem wk_lst {tl : TE} {a : Addr} {xs : List V} (h : Ev tl σ H (.ref a)) (ha : H a = some (.lst xs)) : Wk (iList K tl) σ H xs.length (fun i _ x => xs[i]? = some x) := fun H1 e R k =>
  h H1 e _ fun H2 e2 => ⟨a, rfl, ⟨xs, sq_of (e2 _ _ (e _ _ ha))⟩, k _ _ _ H2 e2 walk_list (fun H3 e3 => sq_of (e3 _ _ (e2 _ _ (e _ _ ha)))) fun i H3 x H4 hi e3 y => by
    obtain ⟨e4, hx⟩ := y
    subst e4
    exact ⟨Ex.refl _, hx⟩⟩
/-- over a new list -/
theorem wk_new {tl : TE} {Pl : Hp → List V → Prop} {n : Nat} {P : Nat → Hp → V → Prop} (h : EvLP tl σ H Pl) (hn : ∀ H1 xs, Ex H H1 → Pl H1 xs → xs.length = n ∧ ∀ i x H2, Ex H1 H2 → xs[i]? = some x → P i H2 x) : Wk (iList K tl) σ H n P := fun H1 e R k =>
  h H1 e _ fun p xs H2 hp e2 hl pl => ⟨p, rfl, ⟨xs, sq_of hl⟩, by
    obtain ⟨h1, h2⟩ := hn H2 xs (e.trans e2) pl
    have w : Walk (Itl K p) xs.length (fun H => SqL K H p xs) (YAt xs) := walk_list
    rw [h1] at w
    refine k _ _ _ H2 e2 w (fun H3 e3 => sq_of (e3 _ _ hl)) fun i H3 x H4 hi e3 y => ?_
    obtain ⟨e4, hx⟩ := y
    subst e4
    exact ⟨Ex.refl _, h2 i x _ e3 hx⟩⟩

/-! ### comprehensions -/
/-- the indexes below i that are kept -/
def kept (F : Nat → Bool) (i : Nat) : List Nat := (List.range i).filter F
theorem kept_yes {F : Nat → Bool} {i : Nat} (h : F i = true) : kept F (i + 1) = kept F i ++ [i] := by simp [kept, List.range_succ, List.filter_append, h]
theorem kept_no {F : Nat → Bool} {i : Nat} (h : F i = false) : kept F (i + 1) = kept F i := by simp [kept, List.range_succ, List.filter_append, h]
theorem kept_len (F : Nat → Bool) (i : Nat) : (kept F i).length ≤ i := by
  have := List.length_filter_le F (List.range i)
  simpa [kept] using this
theorem kept_all {n : Nat} : kept (fun _ => true) n = List.range n := by simp [kept]
theorem Paired_snoc {α β : Type} {R : α → β → Prop} : ∀ {l : List α} {m : List β} {a : α} {b : β}, Paired R l m → R a b → Paired R (l ++ [a]) (m ++ [b])
  | _, _, _, _, .nil, r => .cons r .nil
  | _, _, _, _, .cons q t, r => .cons q (Paired_snoc t r)
/-- the comprehension's state behind i turns -/
def Cq (H : Hp) (F : Nat → Bool) (R : Nat → Hp → V → Prop) (Dl : Addr) (i : Nat) (H' : Hp) : Prop := H Dl = none ∧ Ex H H' ∧ ∃ ys, H' Dl = some (.lst ys) ∧ Paired (fun i y => R i H' y) (kept F i) ys
theorem el_lc {wi : TI} {g : TG} {tt : TT} {vs : List Nat} {n : Nat} {P : Nat → Hp → V → Prop} (F : Nat → Bool) (R : Nat → Hp → V → Prop) (W : Wk wi σ H n P) (hn : n ≤ 40000)
    (mono : ∀ i H1 H2 y, Ew H1 H2 → R i H1 y → R i H2 y)
    (turn : ∀ i x H1, i < n → Ex H H1 → P i H1 x → ∀ Z : L2.St → Hp → Prop, (∀ σ2 H2, Ex H1 H2 → wipe σ2 vs = wipe σ vs → EvT tt σ2 H2 (F i) → (F i = true → EvP te σ2 H2 (R i)) → Z σ2 H2) → g x (wipe σ vs) H1 Z) :
    EvLP (tLc wi g tt te vs) σ H (fun H2 ys => Paired (fun i y => R i H2 y) (kept F n) ys) := fun H0 e0 Q q =>
  W H0 e0 _ fun J G Y H1 e1 w hG hY D hD => by
    refine lc_it w (Cq H1 F R D) ⟨hD, Ex.new hD, [], upd_same, .nil⟩ (fun i H' _ p => hG H' p.2.1) (fun i x H' H2 hi p y => ?_) (fun H' p => ?_)
    · obtain ⟨p1, p2, ys, p3, p4⟩ := p
      obtain ⟨e2, px⟩ := hY i H' x H2 hi p2 y
      refine turn i x H2 hi ((e0.trans e1).trans (p2.trans e2)) px _ fun σ2 H3 e3 hw ht he => ⟨hw, ht H3 (Ex.refl _) _ fun H4 e4 => ?_⟩
      have p5 : Paired (fun i y => R i H4 y) (kept F i) ys := L2.Paired.mapP p4 fun a b r => mono _ _ _ _ (Ew.of ((e2.trans e3).trans e4)) r
      have e24 : Ex H' H4 := (e2.trans e3).trans e4
      cases hf : F i with
      | true =>
        refine iteT ?_
        refine he hf H4 e4 _ fun y H5 e5 r => ⟨ys, e5 _ _ (e24 _ _ p3), sz_lt (by have := p4.length; have := kept_len F i; omega), p1, Ex.mut ((p2.trans e24).trans e5) p1, ys ++ [y], upd_same, ?_⟩
        rw [kept_yes hf]
        have e6 : Ew H5 (upd H5 D (.lst (ys ++ [y]))) := Ew.lst (e5 _ _ (e24 _ _ p3))
        exact Paired_snoc (L2.Paired.mapP p5 fun a b q => mono _ _ _ _ (Ew.of e5 |>.trans e6) q) (mono _ _ _ _ e6 r)
      | false =>
        refine iteF ⟨p1, p2.trans e24, ys, e24 _ _ p3, ?_⟩
        rw [kept_no hf]
        exact p5
    · obtain ⟨p1, p2, ys, p3, p4⟩ := p
      exact q D ys H' (fresh_back e1 p1) (e1.trans p2) p3 p4
end

/-! ### bools: a comprehension whose items are tests of data -/
theorem given_bools {n : Nat} {H2 : Hp} {f : Nat → Bool} {ys : List V} (h : Paired (fun i y => y = V.bl (f i)) (List.range n) ys) : ys = ((List.range n).map f).map V.bl := by
  have : ∀ {l : List Nat} {ys : List V}, Paired (fun i y => y = V.bl (f i)) l ys → ys = (l.map f).map V.bl := by
    intro l
    induction l with
    | nil => intro ys h; cases h; rfl
    | cons a l ih => intro ys h; cases h with | cons h1 h2 => rw [h1, ih h2]; rfl
  exact this h
section
variable {K : PySem.W.Frag} {σ : L2.St} {H : Hp} {te : TE}
/-- [te for x in ..], all kept, each a bool -/
theorem el_lcB {wi : TI} {j : Nat} {vs : List Nat} {n : Nat} {P : Nat → Hp → V → Prop} (f : Nat → Bool) (W : Wk wi σ H n P) (hn : n ≤ 40000) (hw : ∀ x, wipe ((wipe σ vs).set j (some x)) vs = wipe σ vs)
    (he : ∀ i x H1, i < n → Ex H H1 → P i H1 x → Ev te ((wipe σ vs).set j (some x)) H1 (.bl (f i))) : EvL (tLc wi (gName j) tYes te vs) σ H (((List.range n).map f).map V.bl) := fun H0 e0 Q q =>
  el_lc (fun _ => true) (fun i _ y => y = .bl (f i)) W hn (fun _ _ _ _ _ r => r)
    (fun i x H1 hi e px Z k => k _ H1 (Ex.refl _) (hw x) (fun H2 e2 Q q => q H2 (Ex.refl _)) fun _ => evp (he i x H1 hi e px) fun _ _ => rfl) H0 e0 Q fun p xs H2 hp e2 hl pl => by
      rw [kept_all] at pl
      rw [given_bools (H2 := H2) pl] at hl
      exact q p H2 hp e2 hl
theorem all_range_list {ds : List D} {f : D → Bool} {g : Nat → Bool} (h : ∀ i d, ds[i]? = some d → g i = f d) : ((List.range ds.length).map g).all id = ds.all f := by
  have e : (List.range ds.length).map g = ds.map f := by
    apply List.ext_getElem?
    intro i
    by_cases hi : i < ds.length
    · simp [hi, h i ds[i] (by simp [hi])]
    · simp [hi]
  rw [e, List.all_map]
  rfl
end
/-! ### the names of the top -/
structure Bl (mg : Str → Option Value) : Prop where
  isinstance : mg "isinstance" = none
  int : mg "int" = none
  bool : mg "bool" = none
  str : mg "str" = none
  tuple : mg "tuple" = none
  dict : mg "dict" = none
  list : mg "list" = none
  len : mg "len" = none
  all : mg "all" = none
  any : mg "any" = none
  sorted : mg "sorted" = none
  enumerate : mg "enumerate" = none
  zip : mg "zip" = none
  set : mg "set" = none
  range : mg "range" = none
  max : mg "max" = none
  repr : mg "repr" = none
/-- a def that keeps a promise, by its name -/
structure Okd (P : Program) (w : World) (K : PySem.W.Frag) (mg : Str → Option Value) (base : Heap) (CX : CXT) (k : Nat) (nm : Str) (ps : List Str) (sp : Sp) : Prop where
  ex : ∃ f fd, mg nm = some (.ref f) ∧ PySem.W.keepIn K (.ref f) = true ∧ Binds K fd ps [] ∧ FnOk P w K mg base CX k f fd ps sp
/-- a def of the text, by its name -/
structure Df (K : PySem.W.Frag) (mg : Str → Option Value) (nm : Str) (st : Stmt) (ps : List Str) : Prop where
  ex : ∃ f fd, mg nm = some (.ref f) ∧ Binds K fd ps [] ∧ Fun K nm nm st f fd
section
variable {P : Program} {w : World} {K : PySem.W.Frag} {mg : Str → Option Value} {base : Heap}
theorem Okd.mono {CX : CXT} {j k : Nat} {nm : Str} {ps : List Str} {sp : Sp} (h : Okd P w K mg base CX j nm ps sp) (hk : j ≤ k) : Okd P w K mg base CX k nm ps sp := by
  obtain ⟨f, fd, a, b, c, d⟩ := h.ex
  exact ⟨f, fd, a, b, c, d.mono hk⟩
/-- THE RULE: the body of a def of the text -/
theorem Df.ok {nm : Str} {st : Stmt} {N ps : List Str} {k : Nat} {sp : Sp} (F : Df K mg nm st ps) (S : FnScope N ps (defScope st)) (len : ∀ vs H Q E, sp vs H Q E → vs.length = ps.length)
    (hbody : ∀ (f : Addr) (cdv : Value) (A : Around) (outer : List Env) (s : Shared) (H : Hp) (vs : List V) (Q : VK) (E : XK), Room k (A.deeper (envOfC nm (defScope st) s.heap.objs.size f cdv)) → sp vs H Q E →
      ∃ t, PSs (cxOf CX0 P w K mg base N nm (defScope st) f cdv A outer s H E).nox (defBody st) t ∧ t { nx := fun _ H' => Q .non H', rt := Q } (start N vs) H) : Okd P w K mg base CX0 (k + 1) nm ps sp := by
  obtain ⟨f, fd, h1, h2, h3⟩ := F.ex
  exact ⟨f, fd, h1, h3.kp, h2, h3.ok S len (hbody f)⟩
end
/-- the promises' shape: data in, a bool out -/
def spB1 (K : PySem.W.Frag) (ok : D → Prop) (f : D → Bool) : Sp := fun vs H Q _ => ∃ d v, vs = [v] ∧ Rp K H d v ∧ ok d ∧ RetV (.bl (f d)) H Q
theorem spB1_len {K : PySem.W.Frag} {ok : D → Prop} {f : D → Bool} {vs : List V} {H : Hp} {Q : VK} {E : XK} (h : spB1 K ok f vs H Q E) : vs.length = 1 := by
  obtain ⟨d, v, rfl, _⟩ := h
  rfl
theorem spB1_v {K : PySem.W.Frag} {ok : D → Prop} {f : D → Bool} {H : Hp} {d : D} {v : V} (r : Rp K H d v) (h : ok d) : SpV (spB1 K ok f) ([v] ++ []) H (.bl (f d)) := fun H1 e Q q _ => ⟨d, v, rfl, r.mono e, h, fun H2 e2 => q H2 e2⟩
end K4
namespace K4
abbrev P := Int × Int
def at_ (l : List P) (i : Nat) : P := l.getD i (0, 0)
def swp (l : List P) (i j : Nat) : List P := (l.set i (at_ l j)).set j (at_ l i)
theorem swp_len (l : List P) (i j : Nat) : (swp l i j).length = l.length := by simp [swp]
theorem at_swp {l : List P} {i j : Nat} (hi : i < l.length) (hj : j < l.length) (k : Nat) : at_ (swp l i j) k = if k = j then at_ l i else if k = i then at_ l j else at_ l k := by
  unfold swp at_
  simp only [List.getD_eq_getElem?_getD, List.getElem?_set, List.length_set]
  by_cases h1 : k = j
  · subst h1; simp [hj]
  · by_cases h2 : k = i
    · subst h2
      rw [if_neg (fun e => h1 e.symm), if_neg h1, if_pos rfl, if_pos rfl, if_pos hi]; rfl
    · rw [if_neg (fun e => h1 e.symm), if_neg h1, if_neg (fun e => h2 e.symm), if_neg h2]
theorem at_get {l : List P} {i : Nat} (h : i < l.length) : at_ l i = l[i] := by simp [at_, h]
theorem swp_perm {l : List P} {i j : Nat} (hi : i < l.length) (hj : j < l.length) : (swp l i j).Perm l := by
  unfold swp
  rw [at_get hi, at_get hj]
  exact List.set_set_perm hi hj
def rise (low : Nat) (k : Nat) (l : List P) : List P :=
  if low < k then
    if (at_ l k).1 < (at_ l ((k - 1) / 2)).1 then rise low ((k - 1) / 2) (swp l k ((k - 1) / 2)) else l
  else l
termination_by k
decreasing_by omega
def child (l : List P) (k : Nat) : Nat := if 2 * k + 2 < l.length ∧ ¬ ((at_ l (2 * k + 1)).1 < (at_ l (2 * k + 2)).1) then 2 * k + 2 else 2 * k + 1
theorem child_or (l : List P) (k : Nat) : child l k = 2 * k + 1 ∨ child l k = 2 * k + 2 := by unfold child; split <;> simp
theorem child_lt {l : List P} {k : Nat} (h : 2 * k + 1 < l.length) : child l k < l.length := by
  unfold child
  split
  · rename_i h; exact h.1
  · exact h
def down (k : Nat) (l : List P) : Nat × List P :=
  if 2 * k + 1 < l.length then down (child l k) (swp l k (child l k)) else (k, l)
termination_by l.length - k
decreasing_by
  rename_i h
  rw [swp_len]
  have := child_or l k
  omega
def sink (k : Nat) (l : List P) : List P := rise k (down k l).1 (down k l).2
def push (l : List P) (e : P) : List P := rise 0 l.length (l ++ [e])
def pop (l : List P) : P × List P := if l.length ≤ 1 then (at_ l 0, []) else (at_ l 0, sink 0 ((l.dropLast).set 0 (at_ l (l.length - 1))))
def mk : Nat → List P → List P
  | 0, l => l
  | k + 1, l => mk k (sink k l)
def heapify (l : List P) : List P := mk (l.length / 2) l
def ripe (now : Int) : Nat → List P → List P × List P
  | 0, l => ([], l)
  | n + 1, l => if l.length = 0 ∨ now < (at_ l 0).1 then ([], l) else ((pop l).1 :: (ripe now n (pop l).2).1, (ripe now n (pop l).2).2)
def out : Nat → List P → List P
  | 0, _ => []
  | n + 1, l => (pop l).1 :: out n (pop l).2
/-! ### lengths, permutations -/
theorem rise_perm (low : Nat) : ∀ (k : Nat) (l : List P), k < l.length → (rise low k l).Perm l := by
  intro k
  induction k using Nat.strongRecOn with
  | ind k ih =>
    intro l hk
    unfold rise
    split
    · split
      · refine (ih _ (by omega) _ (by rw [swp_len]; omega)).trans (swp_perm hk (by omega))
      · exact .refl _
    · exact .refl _
theorem rise_len (low k : Nat) (l : List P) (h : k < l.length) : (rise low k l).length = l.length := (rise_perm low k l h).length_eq
theorem down_spec : ∀ (n k : Nat) (l : List P), l.length - k ≤ n → k < l.length → (down k l).2.Perm l ∧ (down k l).1 < l.length ∧ k ≤ (down k l).1
  | 0, k, l, hn, hk => by omega
  | n + 1, k, l, hn, hk => by
    unfold down
    split
    · rename_i h
      have hc := child_lt h
      have hco := child_or l k
      obtain ⟨h1, h2, h3⟩ := down_spec n (child l k) (swp l k (child l k)) (by rw [swp_len]; omega) (by rw [swp_len]; exact hc)
      rw [swp_len] at h2
      exact ⟨h1.trans (swp_perm hk hc), h2, by omega⟩
    · exact ⟨.refl _, hk, Nat.le_refl _⟩
theorem sink_perm {k : Nat} {l : List P} (h : k < l.length) : (sink k l).Perm l := by
  obtain ⟨h1, h2, _⟩ := down_spec (l.length - k) k l (Nat.le_refl _) h
  exact (rise_perm _ _ _ (by rw [h1.length_eq]; exact h2)).trans h1
theorem sink_len {k : Nat} {l : List P} (h : k < l.length) : (sink k l).length = l.length := (sink_perm h).length_eq
/-! ### heaps -/
/-- the entries whose parents are at low or behind are not below them -/
def Hf (low : Nat) (l : List P) : Prop := ∀ k, 0 < k → k < l.length → low ≤ (k - 1) / 2 → (at_ l ((k - 1) / 2)).1 ≤ (at_ l k).1
inductive Dsc (low : Nat) : Nat → Prop
  | refl : Dsc low low
  | left {p : Nat} : Dsc low p → Dsc low (2 * p + 1)
  | right {p : Nat} : Dsc low p → Dsc low (2 * p + 2)
theorem Dsc.le {low k : Nat} (h : Dsc low k) : low ≤ k := by induction h <;> omega
theorem Dsc.up {low k : Nat} (h : Dsc low k) (hk : low < k) : Dsc low ((k - 1) / 2) := by
  cases h with
  | refl => omega
  | @left p h => have : (2 * p + 1 - 1) / 2 = p := by omega
                 rw [this]; exact h
  | @right p h => have : (2 * p + 2 - 1) / 2 = p := by omega
                  rw [this]; exact h
/-- all is well but that the entry at k may be below its parent -/
def Rr (low k : Nat) (l : List P) : Prop := (∀ j, 0 < j → j < l.length → low ≤ (j - 1) / 2 → j ≠ k → (at_ l ((j - 1) / 2)).1 ≤ (at_ l j).1) ∧
  (∀ j, 0 < j → j < l.length → (j - 1) / 2 = k → low < k → (at_ l ((k - 1) / 2)).1 ≤ (at_ l j).1)
theorem rise_heap (low : Nat) : ∀ (k : Nat) (l : List P), k < l.length → Dsc low k → Rr low k l → Hf low (rise low k l) := by
  intro k
  induction k using Nat.strongRecOn with
  | ind k ih =>
    intro l hk hd hr
    unfold rise
    split
    · rename_i h0
      have hp := hd.up h0
      have hple := hp.le
      generalize hpe : (k - 1) / 2 = p at *
      have hpk : p < k := by omega
      split
      · rename_i hlt
        refine ih p hpk _ (by rw [swp_len]; omega) hp ⟨fun j h1 h2 h3 h4 => ?_, fun j h1 h2 h3 h4 => ?_⟩
        · rw [swp_len] at h2
          rw [at_swp hk (by omega), at_swp hk (by omega)]
          by_cases e1 : j = k
          · subst e1
            rw [hpe, if_pos rfl, if_neg (by omega), if_pos rfl]
            omega
          · rw [if_neg h4, if_neg e1]
            by_cases e2 : (j - 1) / 2 = p
            · rw [if_pos e2]
              have := hr.1 j h1 h2 h3 e1
              rw [e2] at this
              omega
            · rw [if_neg e2]
              by_cases e3 : (j - 1) / 2 = k
              · rw [if_pos e3]
                have := hr.2 j h1 h2 e3 h0
                rw [hpe] at this
                exact this
              · rw [if_neg e3]
                exact hr.1 j h1 h2 h3 e1
        · rw [swp_len] at h2
          have hpp : (p - 1) / 2 < p := by omega
          have hq : low ≤ (p - 1) / 2 := (hp.up h4).le
          rw [at_swp hk (by omega), at_swp hk (by omega), if_neg (by omega), if_neg (by omega)]
          have h5 := hr.1 p (by omega) (by omega) hq (by omega)
          by_cases e1 : j = k
          · subst e1
            rw [if_neg (by omega), if_pos rfl]
            exact h5
          · rw [if_neg (by omega), if_neg e1]
            have := hr.1 j h1 h2 (by omega) e1
            rw [h3] at this
            omega
      · rename_i hge
        intro j h1 h2 h3
        by_cases e1 : j = k
        · subst e1
          rw [hpe]
          omega
        · exact hr.1 j h1 h2 h3 e1
    · rename_i h0
      have : k = low := by have := hd.le; omega
      intro j h1 h2 h3
      exact hr.1 j h1 h2 h3 (by omega)
/-- all is well but for the entry at k -/
def Dw (low k : Nat) (l : List P) : Prop := (∀ j, 0 < j → j < l.length → low ≤ (j - 1) / 2 → j ≠ k → (j - 1) / 2 ≠ k → (at_ l ((j - 1) / 2)).1 ≤ (at_ l j).1) ∧
  (∀ j, 0 < j → j < l.length → (j - 1) / 2 = k → low < k → (at_ l ((k - 1) / 2)).1 ≤ (at_ l j).1)
theorem down_heap (low : Nat) : ∀ (n k : Nat) (l : List P), l.length - k ≤ n → k < l.length → Dsc low k → Dw low k l → Dsc low (down k l).1 ∧ Rr low (down k l).1 (down k l).2
  | 0, k, l, hn, hk, _, _ => by omega
  | n + 1, k, l, hn, hk, hd, hw => by
    unfold down
    split
    · rename_i h
      have hc := child_lt h
      have hco := child_or l k
      have hcd : Dsc low (child l k) := by
        rcases hco with e | e <;> rw [e]
        · exact .left hd
        · exact .right hd
      have hmin : ∀ j, 0 < j → j < l.length → (j - 1) / 2 = k → (at_ l (child l k)).1 ≤ (at_ l j).1 := by
        intro j h1 h2 h3
        have : j = 2 * k + 1 ∨ j = 2 * k + 2 := by omega
        unfold child
        split
        · rename_i h4
          rcases this with e | e <;> subst e <;> omega
        · rename_i h4
          rcases this with e | e
          · subst e; omega
          · subst e
            have : (at_ l (2 * k + 1)).1 < (at_ l (2 * k + 2)).1 := Classical.byContradiction fun z => h4 ⟨h2, z⟩
            omega
      generalize hce : child l k = c at *
      have hcp : (c - 1) / 2 = k := by omega
      have hle := hd.le
      refine down_heap low n c _ (by rw [swp_len]; omega) (by rw [swp_len]; exact hc) hcd ⟨fun j h1 h2 h3 h4 h5 => ?_, fun j h1 h2 h3 h4 => ?_⟩
      · rw [swp_len] at h2
        rw [at_swp hk hc, at_swp hk hc, if_neg h5, if_neg h4]
        by_cases e1 : j = k
        · subst e1
          rw [if_neg (by omega), if_pos rfl]
          exact hw.2 c (by omega) hc hcp (by omega)
        · rw [if_neg e1]
          by_cases e2 : (j - 1) / 2 = k
          · rw [if_pos e2]
            exact hmin j h1 h2 e2
          · rw [if_neg e2]
            exact hw.1 j h1 h2 h3 e1 e2
      · rw [swp_len] at h2
        rw [at_swp hk hc, at_swp hk hc, hcp, if_neg (by omega), if_pos rfl, if_neg (by omega), if_neg (by omega)]
        have := hw.1 j h1 h2 (by omega) (by omega) (by omega)
        rw [h3] at this
        exact this
    · rename_i h
      exact ⟨hd, fun j h1 (h2 : j < l.length) h3 h4 => hw.1 j h1 h2 h3 h4 (by omega), fun j h1 (h2 : j < l.length) (h3 : (j - 1) / 2 = k) _ => by omega⟩
theorem sink_heap {i : Nat} {l : List P} (hi : i < l.length) (h : ∀ k, 0 < k → k < l.length → i < (k - 1) / 2 → (at_ l ((k - 1) / 2)).1 ≤ (at_ l k).1) : Hf i (sink i l) := by
  obtain ⟨h1, h2⟩ := down_heap i (l.length - i) i l (Nat.le_refl _) hi .refl ⟨fun j a b c d e => h j a b (by omega), fun j _ _ _ z => by omega⟩
  obtain ⟨h3, h4, _⟩ := down_spec (l.length - i) i l (Nat.le_refl _) hi
  exact rise_heap i _ _ (by rw [h3.length_eq]; exact h4) h1 h2
theorem push_perm (l : List P) (e : P) : (push l e).Perm (e :: l) := by
  unfold push
  refine (rise_perm 0 _ _ (by simp)).trans ?_
  exact List.perm_append_singleton e l
theorem push_len (l : List P) (e : P) : (push l e).length = l.length + 1 := (push_perm l e).length_eq
theorem dsc0 : ∀ (n k : Nat), k ≤ n → Dsc 0 k
  | 0, k, h => by have : k = 0 := by omega
                  subst this; exact .refl
  | n + 1, k, h => by
    by_cases e : k = 0
    · subst e; exact .refl
    · have ih := dsc0 n ((k - 1) / 2) (by omega)
      have : k = 2 * ((k - 1) / 2) + 1 ∨ k = 2 * ((k - 1) / 2) + 2 := by omega
      rcases this with e | e <;> rw [e]
      · exact .left ih
      · exact .right ih
theorem at_app {l : List P} {e : P} {k : Nat} (h : k < l.length) : at_ (l ++ [e]) k = at_ l k := by
  unfold at_
  simp [List.getD_eq_getElem?_getD, List.getElem?_append, h]
theorem push_heap {l : List P} {e : P} (h : Hf 0 l) : Hf 0 (push l e) := by
  unfold push
  refine rise_heap 0 _ _ (by simp) (dsc0 _ _ (Nat.le_refl _)) ⟨fun j h1 h2 h3 h4 => ?_, fun j h1 h2 h3 _ => ?_⟩
  · rw [List.length_append, List.length_singleton] at h2
    rw [at_app (by omega), at_app (by omega)]
    exact h j h1 (by omega) h3
  · rw [List.length_append, List.length_singleton] at h2
    omega
theorem at_set0 {l : List P} {e : P} {k : Nat} (h : 0 < k) : at_ (l.set 0 e) k = at_ l k := by
  unfold at_
  simp only [List.getD_eq_getElem?_getD, List.getElem?_set]
  rw [if_neg (by omega)]
theorem at_dropLast {l : List P} {k : Nat} (h : k < l.length - 1) : at_ l.dropLast k = at_ l k := by
  unfold at_
  simp only [List.getD_eq_getElem?_getD, List.getElem?_dropLast, if_pos h]
theorem pop_fst (l : List P) : (pop l).1 = at_ l 0 := by unfold pop; split <;> rfl
theorem set0_perm {a e : P} {m : List P} : ((a :: m).set 0 e).Perm (e :: m) := .refl _
theorem pop_perm {l : List P} (h : l ≠ []) : l.Perm ((pop l).1 :: (pop l).2) := by
  unfold pop
  split
  · rename_i h1
    match l, h, h1 with
    | [a], _, _ => exact .refl _
    | a :: b :: m, _, h1 => simp at h1
  · rename_i h1
    have hl : 2 ≤ l.length := by omega
    match l, hl with
    | a :: b :: m, _ =>
      have e1 : (a :: b :: m).dropLast = a :: (b :: m).dropLast := rfl
      have e2 : at_ (a :: b :: m) ((a :: b :: m).length - 1) = (b :: m).getLast (by simp) := by
        rw [at_get (by simp)]
        rw [List.getLast_eq_getElem]
        simp
      have e3 : at_ (a :: b :: m) 0 = a := rfl
      rw [e1, e2, e3]
      have hs : ((a :: (b :: m).dropLast).set 0 ((b :: m).getLast (by simp))) = (b :: m).getLast (by simp) :: (b :: m).dropLast := rfl
      rw [hs]
      refine .symm (((sink_perm (by simp)).cons a).trans (.cons a ?_))
      have := List.dropLast_concat_getLast (l := b :: m) (by simp)
      exact (List.perm_append_singleton ((b :: m).getLast (by simp)) (b :: m).dropLast).symm.trans (by rw [this])
theorem pop_len {l : List P} (h : l ≠ []) : (pop l).2.length + 1 = l.length := (pop_perm h).length_eq.symm
theorem pop_heap {l : List P} (h : Hf 0 l) : Hf 0 (pop l).2 := by
  unfold pop
  split
  · intro k _ h2 _
    simp at h2
  · rename_i h1
    refine sink_heap (by simp; omega) fun k h2 h3 h4 => ?_
    rw [List.length_set, List.length_dropLast] at h3
    rw [at_set0 (by omega), at_set0 (by omega), at_dropLast (by omega), at_dropLast (by omega)]
    exact h k h2 (by omega) (by omega)
theorem heap_min {l : List P} (h : Hf 0 l) : ∀ (n k : Nat), k ≤ n → k < l.length → (at_ l 0).1 ≤ (at_ l k).1
  | 0, k, hn, hk => by have : k = 0 := by omega
                       subst this; exact Int.le_refl _
  | n + 1, k, hn, hk => by
    by_cases e : k = 0
    · subst e; exact Int.le_refl _
    · have := heap_min h n ((k - 1) / 2) (by omega) (by omega)
      have := h k (by omega) hk (Nat.zero_le _)
      omega
theorem heap_le {l : List P} (h : Hf 0 l) {e : P} (he : e ∈ l) : (at_ l 0).1 ≤ e.1 := by
  obtain ⟨k, hk, rfl⟩ := List.getElem_of_mem he
  rw [← at_get hk]
  exact heap_min h k k (Nat.le_refl _) hk
theorem mk_perm : ∀ (k : Nat) (l : List P), k ≤ l.length → (mk k l).Perm l
  | 0, _, _ => .refl _
  | k + 1, l, h => (mk_perm k (sink k l) (by rw [sink_len (by omega)]; omega)).trans (sink_perm (by omega))
theorem heapify_perm (l : List P) : (heapify l).Perm l := mk_perm _ _ (by omega)
theorem heapify_len (l : List P) : (heapify l).length = l.length := (heapify_perm l).length_eq
theorem mk_heap : ∀ (k : Nat) (l : List P), k ≤ l.length → Hf k l → Hf 0 (mk k l)
  | 0, _, _, h => h
  | k + 1, l, hk, h => mk_heap k (sink k l) (by rw [sink_len (by omega)]; omega) (sink_heap (by omega) fun j h1 h2 h3 => h j h1 h2 (by omega))
theorem heapify_heap (l : List P) : Hf 0 (heapify l) := mk_heap _ _ (by omega) fun k h1 h2 h3 => by omega
theorem nil_heap : Hf 0 [] := fun k _ h _ => by simp at h
/-! ### what comes out -/
def Up (l : List P) : Prop := l.Pairwise fun a b => a.1 ≤ b.1
theorem pop_le {l : List P} (h : Hf 0 l) (hn : l ≠ []) {e : P} (he : e ∈ (pop l).2) : (pop l).1.1 ≤ e.1 := by
  rw [pop_fst]
  exact heap_le h ((pop_perm hn).symm.subset (List.mem_cons_of_mem _ he))
theorem out_perm : ∀ (n : Nat) (l : List P), n = l.length → (out n l).Perm l
  | 0, l, h => by have : l = [] := List.length_eq_zero_iff.mp h.symm
                  subst this; exact .refl _
  | n + 1, l, h => by
    have hn : l ≠ [] := fun z => by rw [z] at h; simp at h
    have := pop_len hn
    exact ((out_perm n (pop l).2 (by omega)).cons _).trans (pop_perm hn).symm
theorem out_up : ∀ (n : Nat) (l : List P), n = l.length → Hf 0 l → Up (out n l)
  | 0, l, h, _ => .nil
  | n + 1, l, h, hh => by
    have hn : l ≠ [] := fun z => by rw [z] at h; simp at h
    have hl := pop_len hn
    refine .cons (fun e he => ?_) (out_up n (pop l).2 (by omega) (pop_heap hh))
    exact pop_le hh hn ((out_perm n (pop l).2 (by omega)).subset he)
theorem ripe_spec (now : Int) : ∀ (n : Nat) (l : List P), l.length ≤ n → Hf 0 l → l.Perm ((ripe now n l).1 ++ (ripe now n l).2) ∧ Up (ripe now n l).1 ∧ (∀ e ∈ (ripe now n l).1, e.1 ≤ now) ∧ (∀ e ∈ (ripe now n l).2, now < e.1) ∧ Hf 0 (ripe now n l).2
  | 0, l, h, hh => by
    have : l = [] := List.length_eq_zero_iff.mp (by omega)
    subst this
    exact ⟨.refl _, .nil, fun _ z => (by cases z), fun _ z => (by cases z), hh⟩
  | n + 1, l, h, hh => by
    unfold ripe
    split
    · rename_i h1
      refine ⟨.refl _, .nil, fun _ z => (by cases z), fun e he => ?_, hh⟩
      rcases h1 with h1 | h1
      · have : l = [] := List.length_eq_zero_iff.mp h1
        subst this; cases he
      · have := heap_le hh he
        show now < e.1
        omega
    · rename_i h1
      have hn : l ≠ [] := fun z => h1 (.inl (by rw [z]; rfl))
      have hl := pop_len hn
      obtain ⟨p1, p2, p3, p4, p5⟩ := ripe_spec now n (pop l).2 (by omega) (pop_heap hh)
      refine ⟨(pop_perm hn).trans (p1.cons _), .cons (fun e he => ?_) p2, fun e he => ?_, p4, p5⟩
      · exact pop_le hh hn (p1.symm.subset (List.mem_append_left _ he))
      · rcases List.mem_cons.mp he with e1 | e1
        · rw [e1, pop_fst]
          have : ¬ now < (at_ l 0).1 := fun z => h1 (.inr z)
          omega
        · exact p3 e e1
/-! ### other times, the same moves -/
section
variable (g : P → P) (hg : ∀ a b : P, ((g a).1 < (g b).1) ↔ a.1 < b.1)
include hg
theorem at_map {l : List P} {k : Nat} (h : k < l.length) : at_ (l.map g) k = g (at_ l k) := by
  rw [at_get (by simpa using h), at_get h]
  simp
theorem swp_map {l : List P} {i j : Nat} (hi : i < l.length) (hj : j < l.length) : swp (l.map g) i j = (swp l i j).map g := by
  unfold swp
  rw [at_map g hg hi, at_map g hg hj, ← List.map_set, ← List.map_set]
theorem rise_map (low : Nat) : ∀ (k : Nat) (l : List P), k < l.length → rise low k (l.map g) = (rise low k l).map g := by
  intro k
  induction k using Nat.strongRecOn with
  | ind k ih =>
    intro l hk
    unfold rise
    split
    · rename_i h0
      rw [at_map g hg hk, at_map g hg (by omega)]
      by_cases h1 : (at_ l k).1 < (at_ l ((k - 1) / 2)).1
      · rw [if_pos h1, if_pos ((hg _ _).mpr h1), swp_map g hg hk (by omega)]
        exact ih _ (by omega) _ (by rw [swp_len]; omega)
      · rw [if_neg h1, if_neg (fun z => h1 ((hg _ _).mp z))]
    · rfl
theorem child_map {l : List P} {k : Nat} (h : 2 * k + 1 < l.length) : child (l.map g) k = child l k := by
  unfold child
  rw [List.length_map, at_map g hg h]
  by_cases h2 : 2 * k + 2 < l.length
  · rw [at_map g hg h2]
    simp only [h2, hg, true_and]
  · simp only [h2, false_and]
theorem down_map : ∀ (n k : Nat) (l : List P), l.length - k ≤ n → k < l.length → down k (l.map g) = ((down k l).1, (down k l).2.map g)
  | 0, k, l, hn, hk => by omega
  | n + 1, k, l, hn, hk => by
    unfold down
    rw [List.length_map]
    split
    · rename_i h
      have hc := child_lt h
      have hco := child_or l k
      rw [child_map g hg h, swp_map g hg hk hc]
      exact down_map n _ _ (by rw [swp_len]; omega) (by rw [swp_len]; exact hc)
    · rfl
theorem sink_map {k : Nat} {l : List P} (h : k < l.length) : sink k (l.map g) = (sink k l).map g := by
  unfold sink
  rw [down_map g hg (l.length - k) k l (Nat.le_refl _) h]
  obtain ⟨h1, h2, _⟩ := down_spec (l.length - k) k l (Nat.le_refl _) h
  exact rise_map g hg _ _ _ (by rw [h1.length_eq]; exact h2)
theorem pop_map {l : List P} (h : l ≠ []) : pop (l.map g) = (g (pop l).1, (pop l).2.map g) := by
  have hl : 0 < l.length := List.length_pos_iff.mpr h
  unfold pop
  rw [List.length_map, at_map g hg hl]
  split
  · rfl
  · rw [at_map g hg (by omega), ← List.map_dropLast, ← List.map_set]
    rw [sink_map g hg (by simp; omega)]
theorem mk_map : ∀ (k : Nat) (l : List P), k ≤ l.length → mk k (l.map g) = (mk k l).map g
  | 0, _, _ => rfl
  | k + 1, l, h => by
    unfold mk
    rw [sink_map g hg (by omega)]
    exact mk_map k _ (by rw [sink_len (by omega)]; omega)
theorem heapify_map (l : List P) : heapify (l.map g) = (heapify l).map g := by
  unfold heapify
  rw [List.length_map]
  exact mk_map g hg _ _ (by omega)
theorem out_map : ∀ (n : Nat) (l : List P), n = l.length → out n (l.map g) = (out n l).map g
  | 0, l, h => rfl
  | n + 1, l, h => by
    have hn : l ≠ [] := fun z => by rw [z] at h; simp at h
    have hl := pop_len hn
    unfold out
    rw [pop_map g hg hn]
    show _ :: out n ((pop l).2.map g) = _
    rw [out_map n _ (by omega)]
    rfl
end
end K4
/-! The law's own moves are these; what is swept. -/
namespace K4
/-! ### the law's moves, turn by turn -/
theorem rise_zero (low : Nat) (l : List P) : rise low 0 l = l := by
  unfold rise
  rw [if_neg (by omega)]
theorem pop_eq2 {l : List P} (h : 2 ≤ l.length) : (at_ l (l.length - 1)) :: (l.drop 1).dropLast = l.dropLast.set 0 (at_ l (l.length - 1)) := by
  match l, h with
  | a :: b :: m, _ => rfl
theorem down_stop {k : Nat} {l : List P} (h : ¬ 2 * k + 1 < l.length) : down k l = (k, l) := by
  unfold down
  rw [if_neg h]
theorem down_go {k : Nat} {l : List P} (h : 2 * k + 1 < l.length) : down k l = down (child l k) (swp l k (child l k)) := by
  conv => lhs; unfold down
  rw [if_pos h]
/-! ### what is swept -/
def sweep (gone : List Int) : Nat → List P → Int → List P × Int
  | 0, l, c => (l, c)
  | n + 1, l, c => if l.length = 0 ∨ (at_ l 0).2 ∉ gone then (l, c) else sweep gone n (pop l).2 (c - 1)
def left (gone : List Int) (l : List P) : List P := l.filter fun d => decide (d.2 ∉ gone)
def swept (l : List P) (gone : List Int) (c : Int) : List P × Int :=
  if 100 < l.length ∧ (l.length : Int) < 2 * c then (heapify (left gone l), 0) else sweep gone l.length l c
theorem sweep_nil (gone : List Int) (c : Int) : ∀ n, sweep gone n [] c = ([], c)
  | 0 => rfl
  | n + 1 => by unfold sweep; rw [if_pos (.inl rfl)]
theorem ripe_nil (now : Int) : ∀ n, ripe now n [] = ([], [])
  | 0 => rfl
  | n + 1 => by unfold ripe; rw [if_pos (.inl rfl)]
theorem sweep_stop {gone : List Int} {l : List P} {c : Int} (h : l.length = 0 ∨ (at_ l 0).2 ∉ gone) : ∀ n, sweep gone n l c = (l, c)
  | 0 => rfl
  | n + 1 => by unfold sweep; rw [if_pos h]
theorem sweep_go {gone : List Int} {l : List P} {c : Int} {n : Nat} (h : l ≠ []) (h2 : (at_ l 0).2 ∈ gone) : sweep gone (n + 1) l c = sweep gone n (pop l).2 (c - 1) := by
  conv => lhs; unfold sweep
  rw [if_neg]
  rintro (z | z)
  · exact h (List.length_eq_zero_iff.mp z)
  · exact z h2
theorem ripe_stop {now : Int} {l : List P} (h : l.length = 0 ∨ now < (at_ l 0).1) : ∀ n, ripe now n l = ([], l)
  | 0 => rfl
  | n + 1 => by unfold ripe; rw [if_pos h]
theorem ripe_go {now : Int} {l : List P} {n : Nat} (h : l ≠ []) (h2 : (at_ l 0).1 ≤ now) : ripe now (n + 1) l = ((pop l).1 :: (ripe now n (pop l).2).1, (ripe now n (pop l).2).2) := by
  conv => lhs; unfold ripe
  rw [if_neg]
  rintro (z | z)
  · exact h (List.length_eq_zero_iff.mp z)
  · omega
theorem left_len (gone : List Int) (l : List P) : (left gone l).length ≤ l.length := List.length_filter_le _ _
theorem pow_grow : ∀ n : Nat, 2 ^ (n + 1) = 2 * 2 ^ n := fun n => by rw [Nat.pow_succ]; omega
end K4
/-! Entries, lists of them; is_earlier, rise, sink. -/
namespace K4
open PySem L2 Evl PySem.Spec PyProof.Rows
structure Bm (mg : Str → Option Value) : Prop extends Bl mg where
  reversed : mg "reversed" = none
  min : mg "min" = none
/-- all but what stands at a stands -/
def Kw (a : Addr) (H H2 : Hp) : Prop := ∀ b u, H b = some u → b ≠ a → H2 b = some u
theorem Kw.of {a : Addr} {H H2 : Hp} (e : Ex H H2) : Kw a H H2 := fun b u h _ => e b u h
theorem Kw.refl (a : Addr) (H : Hp) : Kw a H H := Kw.of (Ex.refl H)
theorem Kw.trans {a : Addr} {H H2 H3 : Hp} (x : Kw a H H2) (y : Kw a H2 H3) : Kw a H H3 := fun b u h n => y b u (x b u h n) n
theorem Kw.upd {a : Addr} {H H2 : Hp} {u : HO} (e : Ex H H2) : Kw a H (upd H2 a u) := fun b v h n => by rw [upd_ne n]; exact e b v h
/-- what was not there before may change -/
theorem Kw.ex {a : Addr} {H H1 H2 : Hp} (hn : H a = none) (e : Ex H H1) (k : Kw a H1 H2) : Ex H H2 := fun b u h => k b u (e b u h) fun z => by rw [z, hn] at h; cases h
/-- an entry -/
def PrV (H : Hp) (d : P) (v : V) : Prop := ∃ a, v = .ref a ∧ H a = some (.tup [.int d.1, .int d.2])
def Prs (H : Hp) (ds : List P) (vs : List V) : Prop := Paired (fun d v => PrV H d v) ds vs
theorem PrV.ex {H H2 : Hp} (e : Ex H H2) {d : P} {v : V} (h : PrV H d v) : PrV H2 d v := by
  obtain ⟨a, h1, h2⟩ := h
  exact ⟨a, h1, e _ _ h2⟩
theorem Prs.ex {H H2 : Hp} (e : Ex H H2) {ds : List P} {vs : List V} (h : Prs H ds vs) : Prs H2 ds vs := L2.Paired.mapP h fun _ _ q => q.ex e
/-- entries stand where a list alone changes -/
theorem PrV.kw {p : Addr} {H H2 : Hp} {xs : List V} (hp : H p = some (.lst xs)) (k : Kw p H H2) {d : P} {v : V} (h : PrV H d v) : PrV H2 d v := by
  obtain ⟨a, h1, h2⟩ := h
  refine ⟨a, h1, k _ _ h2 fun z => ?_⟩
  rw [z, hp] at h2
  cases h2
theorem Prs.kw {p : Addr} {H H2 : Hp} {xs : List V} (hp : H p = some (.lst xs)) (k : Kw p H H2) {ds : List P} {vs : List V} (h : Prs H ds vs) : Prs H2 ds vs := L2.Paired.mapP h fun _ _ q => q.kw hp k
theorem Prs.len {H : Hp} {ds : List P} {vs : List V} (h : Prs H ds vs) : vs.length = ds.length := by
  unfold Prs at h
  induction h with
  | nil => rfl
  | cons _ _ ih => simp [ih]
theorem Prs.at_ {H : Hp} : ∀ {ds : List P} {vs : List V} {k : Nat}, Prs H ds vs → k < ds.length → ∃ v, vs[k]? = some v ∧ PrV H (K4.at_ ds k) v
  | _, _, k, .nil, h => by simp at h
  | _, _, 0, .cons (b := b) q _, _ => ⟨b, rfl, q⟩
  | _ :: ds, _, k + 1, .cons _ t, h => by
    obtain ⟨v, h1, h2⟩ := Prs.at_ (k := k) t (by simpa using h)
    exact ⟨v, by simpa using h1, by simpa [K4.at_] using h2⟩
theorem Prs.set {H : Hp} : ∀ {ds : List P} {vs : List V} {k : Nat} {d : P} {v : V}, Prs H ds vs → PrV H d v → Prs H (ds.set k d) (vs.set k v)
  | _, _, _, _, _, .nil, _ => .nil
  | _, _, 0, _, _, .cons _ t, h => .cons h t
  | _, _, k + 1, _, _, .cons q t, h => .cons q (Prs.set (k := k) t h)
theorem Prs.swap {H : Hp} {ds : List P} {vs : List V} {i j : Nat} {x y : V} (h : Prs H ds vs) (hx : PrV H (K4.at_ ds i) x) (hy : PrV H (K4.at_ ds j) y) : Prs H (swp ds i j) ((vs.set i y).set j x) := (h.set hy).set hx
theorem Prs.app {H : Hp} : ∀ {ds es : List P} {vs us : List V}, Prs H ds vs → Prs H es us → Prs H (ds ++ es) (vs ++ us)
  | _, _, _, _, .nil, s => s
  | _, _, _, _, .cons r t, s => .cons r (Prs.app t s)
theorem Prs.one {H : Hp} {d : P} {v : V} (h : PrV H d v) : Prs H [d] [v] := .cons h .nil
theorem Prs.dropLast {H : Hp} : ∀ {ds : List P} {vs : List V}, Prs H ds vs → Prs H ds.dropLast vs.dropLast
  | _, _, .nil => .nil
  | _, _, .cons _ .nil => .nil
  | _, _, .cons r (.cons r2 t) => .cons r (Prs.dropLast (.cons r2 t))
section
variable {K : PySem.W.Frag} {H : Hp} {σ : L2.St} {ta t1 t2 a1 a2 b1 b2 te : TE} {tz tbd : TS} {Dd : Ends} {x y z : V}
theorem ev_callV {i : Nat} {f : Addr} {sp : Sp} {E : XK} {t : TA} {vs : List V} (hs : σ[i]? = some (some (.ref f))) (h : EvA t σ H vs) (hv : SpV sp (vs ++ []) H z) : Ev (ItX.tCallV i f sp E t) σ H z := fun H1 e Q q =>
  ⟨hs, h H1 e _ fun H2 e2 => by
    have := hv H2 (e.trans e2) Q (fun H3 e3 => q H3 (e2.trans e3)) E
    rw [List.append_nil] at this
    exact this⟩
theorem q_tupG {g : TG} {xs : List V} (h : EvU te σ H xs) (k : ∀ p H1, H p = none → Ex H H1 → H1 p = some (.tup xs) → g (.ref p) σ H1 (tz Dd)) : tSeq (tAsg te g) tz Dd σ H := h H (Ex.refl H) _ fun p H1 a b c => k p H1 a b c
theorem s_call {sp : Sp} {E : XK} {t : TA} {vs : List V} (h : EvA t σ H vs) (k : ∀ H1, Ex H H1 → sp (vs ++ []) H1 (fun _ H2 => Dd.nx σ H2) E) : tDrop (tCall sp [] E t) Dd σ H := h H (Ex.refl H) _ fun H1 e => k H1 e
theorem q_call {sp : Sp} {E : XK} {t : TA} {vs : List V} (h : EvA t σ H vs) (k : ∀ H1, Ex H H1 → sp (vs ++ []) H1 (fun _ H2 => tz Dd σ H2) E) : tSeq (tDrop (tCall sp [] E t)) tz Dd σ H := s_call (Dd := { Dd with nx := tz Dd }) h k
theorem q_swap {l : Addr} {xs : List V} {i j : Nat} (hl : H l = some (.lst xs)) (h1 : Ev t1 σ H y) (h2 : Ev t2 σ H x) (ha : ∀ H1, Ev a1 σ H1 (.ref l)) (hb : ∀ H1, Ev b1 σ H1 (.int (i : Int))) (hc : ∀ H1, Ev a2 σ H1 (.ref l)) (hd : ∀ H1, Ev b2 σ H1 (.int (j : Int)))
    (hi : i < xs.length) (hj : j < xs.length) (k : ∀ H2, Kw l H H2 → H2 l = some (.lst ((xs.set i y).set j x)) → tz Dd σ H2) : tSeq (tAsg (tTup (tCons t1 (tCons t2 tNil))) (gTup K 2 (gCons (gSub a1 b1 rSetL) (gCons (gSub a2 b2 rSetL) gNil)))) tz Dd σ H := by
  refine q_tupG (eu_tup (ea_cons h1 (ea_cons h2 ea_nil)) (by simp)) fun t H1 ht e1 htup => ?_
  exact ⟨t, [y, x], rfl, st_of htup, rfl, y, [x], rfl, ha H1 H1 (Ex.refl _) _ fun H2 e2 => hb H2 H2 (Ex.refl _) _ fun H3 e3 => ⟨l, xs, (i : Int), i, rfl, rfl, ((e1.trans e2).trans e3) _ _ hl, ixN_nat hi,
      x, [], rfl, hc _ _ (Ex.refl _) _ fun H4 e4 => hd H4 H4 (Ex.refl _) _ fun H5 e5 => ⟨l, xs.set i y, (j : Int), j, rfl, rfl, (e4.trans e5) _ _ upd_same, ixN_nat (by simpa using hj), rfl,
        k _ (((Kw.of ((e1.trans e2).trans e3)).trans (Kw.upd (Ex.refl _))).trans ((Kw.of (e4.trans e5)).trans (Kw.upd (Ex.refl _)))) upd_same⟩⟩⟩
/-- rows[k] -/
theorem ev_row {l : Addr} {vs : List V} {k : Nat} {v : V} (ha : Ev ta σ H (.ref l)) (hb : Ev te σ H (.int (k : Int))) (hl : H l = some (.lst vs)) (hv : vs[k]? = some v) : Ev (tOp (rIxL K) ta te) σ H v := ev_op ha hb (rv_ixL (sq_of hl) (atI_nat hv))
theorem ev_fst {d : P} {v : V} (ha : Ev ta σ H v) (h : PrV H d v) : Ev (tOp (rIxT K) ta (tC (.int 0))) σ H (.int d.1) := by
  obtain ⟨a, rfl, h2⟩ := h
  exact ev_op ha ev_c (rv_ixT (st_of h2) (atI_nat (j := 0) rfl))
theorem ev_snd {d : P} {v : V} (ha : Ev ta σ H v) (h : PrV H d v) : Ev (tOp (rIxT K) ta (tC (.int 1))) σ H (.int d.2) := by
  obtain ⟨a, rfl, h2⟩ := h
  exact ev_op ha ev_c (rv_ixT (st_of h2) (atI_nat (j := 1) rfl))
theorem ev_lenL {l : Addr} {vs : List V} (ha : Ev ta σ H (.ref l)) (h : H l = some (.lst vs)) : Ev (tCB (rLenQ K) (tCons ta tNil)) σ H (.int (vs.length : Int)) := fun H1 e Q q =>
  ha H1 e _ fun H2 e2 => ⟨l, vs, rfl, Or.inl (sq_of ((e.trans e2) _ _ h)), q H2 e2⟩
end
def spLt : Sp := fun vs H Q _ => ∃ d1 d2 v1 v2, vs = [v1, v2] ∧ PrV H d1 v1 ∧ PrV H d2 v2 ∧ RetV (.bl (decide (d1.1 < d2.1))) H Q
theorem spLt_v {H : Hp} {d1 d2 : P} {v1 v2 : V} (h1 : PrV H d1 v1) (h2 : PrV H d2 v2) : SpV spLt ([v1, v2] ++ []) H (.bl (decide (d1.1 < d2.1))) := fun H1 e Q q _ => ⟨d1, d2, v1, v2, rfl, h1.ex e, h2.ex e, fun H2 e2 => q H2 e2⟩
/-- the list at p becomes ds -/
def Made (p : Addr) (ds : List P) (H : Hp) (Q : Hp → Prop) : Prop := ∀ vs H2, Kw p H H2 → H2 p = some (.lst vs) → Prs H2 ds vs → Q H2
def spRise (fE : Addr) : Sp := fun args H Q _ => ∃ (p : Addr) (low k : Nat) (vs : List V) (ds : List P), args = [.ref p, .int (low : Int), .int (k : Int), .ref fE] ∧ H p = some (.lst vs) ∧ Prs H ds vs ∧ k < ds.length ∧ ds.length ≤ 10000 ∧ Made p (rise low k ds) H fun H2 => Q .non H2
def spSink (fE : Addr) : Sp := fun args H Q _ => ∃ (p : Addr) (k : Nat) (vs : List V) (ds : List P), args = [.ref p, .int (k : Int), .ref fE] ∧ H p = some (.lst vs) ∧ Prs H ds vs ∧ k < ds.length ∧ ds.length ≤ 10000 ∧ Made p (sink k ds) H fun H2 => Q .non H2
section
variable {P : Program} {w : World} {K : PySem.W.Frag} {mg : Str → Option Value} {base : Heap}
theorem sc13 : FnScope ["entry", "other"] ["entry", "other"] (defScope (top 13)) := ⟨rfl, rfl, rfl, by decide +kernel, rfl, by decide +kernel, by decide +kernel⟩
theorem ok_earlier (F : Df K mg "is_earlier" (top 13) ["entry", "other"]) : Okd P w K mg base CX0 1 "is_earlier" ["entry", "other"] spLt := by
  refine F.ok sc13 (fun vs H Q E h => by obtain ⟨_, _, _, _, rfl, _⟩ := h; rfl) (fun f cdv A outer s H vs Q E hr h => ?_)
  obtain ⟨d1, d2, v1, v2, rfl, h1, h2, k⟩ := h
  refine ⟨_, (pss_one (ps_ret (pe_cmpR op_lt2 (pe_ix ix_tup (pv 0) pe_int (fun _ _ => rfl)) (pe_ix ix_tup (pv 1) pe_int (fun _ _ => rfl)) (nomark _)))), ?_⟩
  exact s_ret (ev_op (ev_fst (ev_var rfl) h1) (ev_fst (ev_var rfl) h2) rv_lt) fun H1 e => k H1 e
/-- is_earlier as a value -/
structure Ear (P : Program) (w : World) (K : PySem.W.Frag) (mg : Str → Option Value) (base : Heap) (fE : Addr) : Prop where
  G : mg "is_earlier" = some (.ref fE)
  k : PySem.W.keepIn K (.ref fE) = true
  R : FnR P w K mg base CX0 1 fE spLt
theorem ear_of (O : Okd P w K mg base CX0 1 "is_earlier" ["entry", "other"] spLt) : ∃ fE, Ear P w K mg base fE := by
  obtain ⟨f, fd, h1, h2, h3, h4⟩ := O.ex
  refine ⟨f, h1, h2, ?_⟩
  have := h4.raw h3 .nil
  exact this.imp fun vs H Q E h => by rw [List.append_nil]; exact h
theorem sc8 : FnScope ["rows", "low", "at", "comes_first", "parent"] ["rows", "low", "at", "comes_first"] (defScope (top 8)) := ⟨rfl, rfl, rfl, by decide +kernel, rfl, by decide +kernel, by decide +kernel⟩
theorem ok_rise {fE : Addr} (R : Ear P w K mg base fE) (F : Df K mg "rise" (top 8) ["rows", "low", "at", "comes_first"]) : Okd P w K mg base CX0 2 "rise" ["rows", "low", "at", "comes_first"] (spRise fE) := by
  refine F.ok sc8 (fun vs H Q E h => by obtain ⟨_, _, _, _, _, rfl, _⟩ := h; rfl) (fun f cdv A outer s H vs Q E hr h => ?_)
  obtain ⟨p, low, k, vs, ds, rfl, hp, pr, hk, hl, q⟩ := h
  have R_e := R.R
  have k_e := R.k
  refine ⟨_, (pss_one (ps_while PassesOwn.never (pt_cmpR op_gt1 (pv 2) (pv 1) (nomark _)) (pss_cons (ps_set (i := 4) sc8.nd rfl (Or.inl rfl) (pe_op op_fdiv (pe_op op_sub (pv 2) pe_int) pe_int))
      (pss_cons (ps_if (pt_not (pt_val (ItX.pe_callV (i := 3) R_e (hr.mono (by first | decide | omega)) k_e pass0 rfl (by first | exact .inl rfl | exact .inr (.inl rfl) | exact .inr (.inr rfl)) (pa_cons (pe_ix ix_list (pv 0) (pv 2) (fun _ _ => rfl)) (pa_cons (pe_ix ix_list (pv 0) (pv 4) (fun _ _ => rfl)) pa_nil))))) (pss_one ps_retN) pss_nil)
      (pss_cons (ps_asg (pe_tup (pa_cons (pe_ix ix_list (pv 0) (pv 4) (fun _ _ => rfl)) (pa_cons (pe_ix ix_list (pv 0) (pv 2) (fun _ _ => rfl)) pa_nil))) (pg_tup (by rfl) (pgs_cons (pg_sub (pv 0) (pv 2) set_list) (pgs_cons (pg_sub (pv 0) (pv 4) set_list) pgs_nil))))
      (pss_one (ps_set (i := 2) sc8.nd rfl (Or.inl rfl) (pv 4)))))))), ?_⟩
  refine s_while (fun m σ' H' => ∃ (k' : Nat) (vs' : List V) (ds' : List K4.P) (x4 : Option V), k' = m ∧ σ' = [some (.ref p), some (.int (low : Int)), some (.int (k' : Int)), some (.ref fE), x4] ∧ Kw p H H' ∧ H' p = some (.lst vs') ∧ Prs H' ds' vs' ∧ k' < ds'.length ∧ ds'.length = ds.length ∧ rise low k' ds' = rise low k ds)
    k ⟨k, vs, ds, none, rfl, rfl, Kw.refl _ _, hp, pr, hk, rfl, rfl⟩ ?_
  rintro m σ' H' ⟨k', vs', ds', x4, rfl, rfl, kw, hp', pr', hk', hl', he⟩
  refine ⟨_, et_test (ev_op (ev_var rfl) (ev_var rfl) rv_I0), fun hb H1 e1 => ⟨_, fun _ _ h => h, ?_⟩, fun hb H1 e1 => ?_⟩
  · have hlt : low < k' := by
      have := of_decide_eq_true hb
      omega
    refine q_asg (ev_op (ev_op (ev_var rfl) ev_c rv_I0) ev_c (rv_I ⟨by decide, by decide⟩)) fun H2 e2 => ?_
    have hpar : ((k' : Int) - 1) / 2 = (((k' - 1) / 2 : Nat) : Int) := by omega
    rw [hpar]
    obtain ⟨c, hc⟩ : ∃ c, c = (k' - 1) / 2 := ⟨_, rfl⟩
    rw [← hc]
    have hc2 : c < ds'.length := by omega
    have e12 := e1.trans e2
    have hp2 := e12 _ _ hp'
    have pr2 := pr'.ex e12
    obtain ⟨x, hx1, hx2⟩ := pr2.at_ hk'
    obtain ⟨y, hy1, hy2⟩ := pr2.at_ hc2
    refine q_when (et_not (et_B (ev_callV rfl (ea_cons (ev_row (ev_var rfl) (ev_var rfl) hp2 hx1) (ea_cons (ev_row (ev_var rfl) (ev_var rfl) hp2 hy1) ea_nil)) (spLt_v hx2 hy2)))) (fun hb2 H3 e3 => ?_) (fun hb2 H3 e3 => ?_)
    · rw [Bool.not_eq_true', decide_eq_false_iff_not] at hb2
      refine q vs' H3 (kw.trans (Kw.of (e12.trans e3))) ((e12.trans e3) _ _ hp') ?_
      rw [← he]
      unfold rise
      rw [if_pos hlt, ← hc, if_neg hb2]
      exact pr2.ex e3
    · rw [Bool.not_eq_false', decide_eq_true_eq] at hb2
      have hp3 := e3 _ _ hp2
      have hlv := pr'.len
      refine q_swap (i := k') (j := c) hp3 (ev_row (ev_var rfl) (ev_var rfl) hp3 hy1) (ev_row (ev_var rfl) (ev_var rfl) hp3 hx1) (fun _ => ev_var rfl) (fun _ => ev_var rfl) (fun _ => ev_var rfl) (fun _ => ev_var rfl) (by omega) (by omega) fun H4 k4 hp4 => ?_
      refine s_asg (ev_var rfl) fun H5 e5 => ?_
      refine ⟨c, by omega, c, _, swp ds' k' c, _, rfl, rfl, (kw.trans (Kw.of (e12.trans e3))).trans (k4.trans (Kw.of e5)), e5 _ _ hp4, ((pr2.ex e3).swap (hx2.ex e3) (hy2.ex e3)).kw hp3 (k4.trans (Kw.of e5)), ?_, ?_, ?_⟩
      · rw [swp_len]; omega
      · rw [swp_len]; exact hl'
      · rw [← he]
        conv => rhs; unfold rise
        rw [if_pos hlt, ← hc, if_pos hb2]
  · have hlt : ¬ low < k' := by
      have := of_decide_eq_false hb
      omega
    refine q vs' H1 (kw.trans (Kw.of e1)) (e1 _ _ hp') ?_
    rw [← he]
    unfold rise
    rw [if_neg hlt]
    exact pr'.ex e1
theorem sc9 : FnScope ["rows", "at", "comes_first", "low", "child"] ["rows", "at", "comes_first"] (defScope (top 9)) := ⟨rfl, rfl, rfl, by decide +kernel, rfl, by decide +kernel, by decide +kernel⟩
theorem ok_sink (B : Bm mg) {fE : Addr} (R : Ear P w K mg base fE) (F : Df K mg "sink" (top 9) ["rows", "at", "comes_first"]) (O : Okd P w K mg base CX0 2 "rise" ["rows", "low", "at", "comes_first"] (spRise fE)) : Okd P w K mg base CX0 3 "sink" ["rows", "at", "comes_first"] (spSink fE) := by
  refine F.ok sc9 (fun vs H Q E h => by obtain ⟨_, _, _, _, rfl, _⟩ := h; rfl) (fun f cdv A outer s H vs Q E hr h => ?_)
  obtain ⟨p, k, vs, ds, rfl, hp, pr, hk, hl, q⟩ := h
  obtain ⟨f_rise, d_rise, m_rise, k_rise, b_rise, G_rise⟩ := O.ex
  have R_e := R.R
  have k_e := R.k
  refine ⟨_, (pss_cons (ps_set (i := 3) sc9.nd rfl (Or.inl rfl) (pv 1))
      (pss_cons (ps_while PassesOwn.never (pt_cmpR op_lt2 (pe_op op_add (pe_op op_mul pe_int (pv 1)) pe_int) (pe_callB call_lenQ (by rfl) B.len PySem.boot_len (pa_cons (pv 0) pa_nil)) (nomark _)) (pss_cons (ps_set (i := 4) sc9.nd rfl (Or.inl rfl) (pe_op op_add (pe_op op_mul pe_int (pv 1)) pe_int))
      (pss_cons (ps_if (PW.pt (pw_and (pt_cmpR op_lt2 (pe_op op_add (pv 4) pe_int) (pe_callB call_lenQ (by rfl) B.len PySem.boot_len (pa_cons (pv 0) pa_nil)) (nomark _)) (pw_and1 (pt_not (pt_val (ItX.pe_callV (i := 2) R_e (hr.mono (by first | decide | omega)) k_e pass0 rfl (by first | exact .inl rfl | exact .inr (.inl rfl) | exact .inr (.inr rfl)) (pa_cons (pe_ix ix_list (pv 0) (pv 4) (fun _ _ => rfl)) (pa_cons (pe_ix ix_list (pv 0) (pe_op op_add (pv 4) pe_int) (fun _ _ => rfl)) pa_nil)))))))) (pss_one (ps_aug (i := 4) sc9.nd rfl (.inl rfl) pe_int ip_add)) pss_nil)
      (pss_cons (ps_asg (pe_tup (pa_cons (pe_ix ix_list (pv 0) (pv 4) (fun _ _ => rfl)) (pa_cons (pe_ix ix_list (pv 0) (pv 1) (fun _ _ => rfl)) pa_nil))) (pg_tup (by rfl) (pgs_cons (pg_sub (pv 0) (pv 1) set_list) (pgs_cons (pg_sub (pv 0) (pv 4) set_list) pgs_nil))))
      (pss_one (ps_set (i := 1) sc9.nd rfl (Or.inl rfl) (pv 4)))))))
      (pss_one (ps_expr (pe_call G_rise (hr.mono (by first | decide | omega)) (by rfl) m_rise k_rise b_rise .nil pass0 (pa_cons (pv 0) (pa_cons (pv 3) (pa_cons (pv 1) (pa_cons (pv 2) pa_nil))))))))), ?_⟩
  refine q_asg (ev_var rfl) fun H0 e0 => ?_
  refine q_while (fun m σ' H' => ∃ (k' : Nat) (vs' : List V) (ds' : List K4.P) (x4 : Option V), m = ds.length - k' ∧ σ' = [some (.ref p), some (.int (k' : Int)), some (.ref fE), some (.int (k : Int)), x4] ∧ Kw p H H' ∧ H' p = some (.lst vs') ∧ Prs H' ds' vs' ∧ k' < ds'.length ∧ ds'.length = ds.length ∧ down k' ds' = down k ds)
    (ds.length - k) ⟨k, vs, ds, none, rfl, rfl, Kw.of e0, e0 _ _ hp, pr.ex e0, hk, rfl, rfl⟩ ?_
  rintro m σ' H' ⟨k', vs', ds', x4, rfl, rfl, kw, hp', pr', hk', hl', he⟩
  have hlv := pr'.len
  have hch : ∀ {H1 : Hp}, Ev (tOp (rI0 fun i j => V.int (i + j)) (tOp (rI CMul fun i j => V.int (i * j)) (tC (.int 2)) (tVar 1)) (tC (.int 1))) [some (.ref p), some (.int (k' : Int)), some (.ref fE), some (.int (k : Int)), x4] H1 (.int ((2 * k' + 1 : Nat) : Int)) := fun {H1} => by
    have e : ((2 * k' + 1 : Nat) : Int) = (2 : Int) * (k' : Int) + 1 := by omega
    rw [e]
    exact ev_op (ev_op ev_c (ev_var rfl) (rv_I (.inl (by decide)))) ev_c rv_I0
  refine ⟨decide (((2 * k' + 1 : Nat) : Int) < (vs'.length : Int)), et_test (ev_op hch (ev_lenL (ev_var rfl) hp') rv_lt), fun hb H1 e1 => ⟨_, fun _ _ h => h, ?_⟩, fun hb H1 e1 => ?_⟩
  · have hlt : 2 * k' + 1 < ds'.length := by
      have := of_decide_eq_true hb
      omega
    refine q_asg hch fun H2 e2 => ?_
    have e12 := e1.trans e2
    have hp2 := e12 _ _ hp'
    have pr2 := pr'.ex e12
    obtain ⟨x, hx1, hx2⟩ := pr2.at_ hk'
    have hco := child_or ds' k'
    have hc := child_lt hlt
    obtain ⟨y, hy1, hy2⟩ := pr2.at_ hc
    have cont : ∀ H3, Ex H2 H3 → ∀ x4', x4' = some (V.int (child ds' k' : Int)) → tSeq (tAsg (tTup (tCons (tOp (rIxL K) (tVar 0) (tVar 4)) (tCons (tOp (rIxL K) (tVar 0) (tVar 1)) tNil))) (gTup K 2 (gCons (gSub (tVar 0) (tVar 1) rSetL) (gCons (gSub (tVar 0) (tVar 4) rSetL) gNil)))) (tAsg (tVar 4) (gName 1))
        { nx := fun σ2 H2 => ∃ m', m' < ds.length - k' ∧ ∃ (k' : Nat) (vs' : List V) (ds' : List K4.P) (x4 : Option V), m' = ds.length - k' ∧ σ2 = [some (.ref p), some (.int (k' : Int)), some (.ref fE), some (.int (k : Int)), x4] ∧ Kw p H H2 ∧ H2 p = some (.lst vs') ∧ Prs H2 ds' vs' ∧ k' < ds'.length ∧ ds'.length = ds.length ∧ down k' ds' = down k ds,
          rt := Q, bk := fun _ _ => False, ct := fun _ _ => False } [some (.ref p), some (.int (k' : Int)), some (.ref fE), some (.int (k : Int)), x4'] H3 := by
      rintro H3 e3 x4' rfl
      have hp3 := e3 _ _ hp2
      refine q_swap (i := k') (j := child ds' k') hp3 (ev_row (ev_var rfl) (ev_var rfl) hp3 hy1) (ev_row (ev_var rfl) (ev_var rfl) hp3 hx1) (fun _ => ev_var rfl) (fun _ => ev_var rfl) (fun _ => ev_var rfl) (fun _ => ev_var rfl) (by omega) (by omega) fun H4 k4 hp4 => ?_
      refine s_asg (ev_var rfl) fun H5 e5 => ?_
      refine ⟨ds.length - child ds' k', by omega, child ds' k', _, swp ds' k' (child ds' k'), _, rfl, rfl, (kw.trans (Kw.of (e12.trans e3))).trans (k4.trans (Kw.of e5)), e5 _ _ hp4, ((pr2.ex e3).swap (hx2.ex e3) (hy2.ex e3)).kw hp3 (k4.trans (Kw.of e5)), ?_, ?_, ?_⟩
      · rw [swp_len]; omega
      · rw [swp_len]; exact hl'
      · rw [← he]
        conv => rhs; unfold down
        rw [if_pos hlt]
    refine q_when (et_and (et_test (ev_op (ev_op (ev_var rfl) ev_c rv_I0) (ev_lenL (ev_var rfl) hp2) rv_lt)) fun hc2 => (?_ : EvT _ _ _ (!decide ((at_ ds' (2 * k' + 1)).1 < (at_ ds' (2 * k' + 2)).1)))) (fun hb2 H3 e3 => ?_) (fun hb2 H3 e3 => ?_)
    · have h2 : 2 * k' + 2 < ds'.length := by
        have := of_decide_eq_true hc2
        omega
      obtain ⟨u, hu1, hu2⟩ := pr2.at_ hlt
      obtain ⟨v, hv1, hv2⟩ := pr2.at_ h2
      refine et_not (et_B (ev_callV rfl (ea_cons (ev_row (ev_var rfl) (ev_var rfl) hp2 hu1) (ea_cons (ev_row (k := 2 * k' + 2) (ev_var rfl) ?_ hp2 hv1) ea_nil)) (spLt_v hu2 hv2)))
      have e : ((2 * k' + 2 : Nat) : Int) = ((2 * k' + 1 : Nat) : Int) + 1 := by omega
      rw [e]
      exact ev_op (ev_var rfl) ev_c rv_I0
    · rw [Bool.and_eq_true, decide_eq_true_eq, Bool.not_eq_true', decide_eq_false_iff_not] at hb2
      refine s_aug (a := ((2 * k' + 1 : Nat) : Int)) (b := 1) rfl ev_c fun H4 e4 => cont H4 (e3.trans e4) _ ?_
      have : child ds' k' = 2 * k' + 2 := by
        unfold child
        rw [if_pos ⟨by omega, hb2.2⟩]
      rw [this]
      show some (V.int (((2 * k' + 1 : Nat) : Int) + 1)) = some (V.int ((2 * k' + 2 : Nat) : Int))
      rw [show ((2 * k' + 1 : Nat) : Int) + 1 = ((2 * k' + 2 : Nat) : Int) by omega]
    · refine cont H3 e3 _ ?_
      have : child ds' k' = 2 * k' + 1 := by
        unfold child
        rw [if_neg]
        rintro ⟨z1, z2⟩
        rw [decide_eq_true (show ((2 * k' + 1 : Nat) : Int) + 1 < (vs'.length : Int) by omega), Bool.true_and, Bool.not_eq_false', decide_eq_true_eq] at hb2
        exact z2 hb2
      rw [this]
  · have hlt : ¬ 2 * k' + 1 < ds'.length := by
      have := of_decide_eq_false hb
      omega
    have hd : down k ds = (k', ds') := by
      rw [← he]
      unfold down
      rw [if_neg hlt]
    have hs : sink k ds = rise k k' ds' := by unfold sink; rw [hd]
    have hp1 := e1 _ _ hp'
    refine s_call (ea_cons (ev_var rfl) (ea_cons (ev_var rfl) (ea_cons (ev_var rfl) (ea_cons (ev_var rfl) ea_nil)))) fun H2 e2 => ?_
    refine ⟨p, k, k', vs', ds', rfl, e2 _ _ hp1, (pr'.ex e1).ex e2, hk', by omega, fun us H3 k3 hp3 pr3 => ?_⟩
    rw [← hs] at pr3
    exact q us H3 (kw.trans ((Kw.of (e1.trans e2)).trans k3)) hp3 pr3
end
end K4
/-! push, take_first, make_heap; the checks. -/
namespace K4
open PySem L2 Evl PySem.Spec PyProof.Rows
structure Cn (mg : Str → Option Value) : Prop where
  most : ∃ u, mg "MOST_ROWS" = some u ∧ L2.RelV (.int 5000) u
section
variable {K : PySem.W.Frag} {H : Hp} {σ : L2.St} {ta te : TE} {tz tbd : TS} {Dd : Ends}
theorem et_truL {p : Addr} {xs : List V} (h : Ev ta σ H (.ref p)) (hp : H p = some (.lst xs)) : EvT (fun σ H Q => ta σ H fun x H' => ∃ k, TruV K x H' k ∧ Q k H') σ H (!xs.isEmpty) := fun H1 e _ q =>
  h H1 e _ fun H2 e2 => ⟨_, .inl ⟨xs, sq_of (e2 _ _ (e _ _ hp)), rfl⟩, q H2 e2⟩
theorem q_pop {l : Addr} {xs : List V} {y : V} {i : Nat} (hl : H l = some (.lst (xs ++ [y]))) (ha : Ev ta σ H (.ref l)) (k : ∀ H1, Ex H H1 → tz Dd (σ.set i (some y)) (upd H1 l (.lst xs))) : tSeq (tAsg (tBM0 K "list" rPop ta) (gName i)) tz Dd σ H :=
  ha H (Ex.refl H) _ fun H1 e1 => ⟨.inl ⟨rfl, _, sq_of (e1 _ _ hl)⟩, l, xs ++ [y], y, rfl, rfl, e1 _ _ hl, by simp, by
    rw [List.dropLast_concat]
    exact k H1 e1⟩
theorem s_forRev {j : Nat} {n : Int} (h : Ev te σ H (.int n)) (hn : 0 ≤ n ∧ n ≤ 100000) (Pv : Nat → L2.St → Hp → Prop) (h0 : ∀ H1, Ex H H1 → Pv 0 σ H1)
    (hs : ∀ (i : Nat) σ' H', (i : Int) < n → Pv i σ' H' → tbd { Dd with nx := Pv (i + 1), ct := Pv (i + 1), bk := Dd.nx } (σ'.set j (some (.int (n - 1 - (i : Int))))) H') (hd : ∀ σ' H', Pv n.toNat σ' H' → Dd.nx σ' H') : tFor (iRevR (tRg1 te)) (gName j) tbd Dd σ H :=
  h H (Ex.refl H) _ fun H1 e => ⟨n, rfl, by omega, by omega, by omega, by omega, for_rangeC (lo := 0 + (((n - 0).toNat : Nat) : Int) - 1) (c := -1) (n := (n - 0).toNat) Pv (h0 H1 e) (fun i σ' H' hi p => by
    have e0 : (0 : Int) + (((n - 0).toNat : Nat) : Int) - 1 + (i : Nat) * (-1) = n - 1 - (i : Int) := by omega
    show tbd { Dd with nx := Pv (i + 1), ct := Pv (i + 1), bk := Dd.nx } (σ'.set j (some (.int ((0 : Int) + (((n - 0).toNat : Nat) : Int) - 1 + (i : Nat) * (-1))))) H'
    rw [e0]
    exact hs i σ' H' (by omega) p) (fun σ' H' p => by rw [Int.sub_zero] at p; exact hd σ' H' p)⟩
end
theorem Prs.last {H : Hp} {ds : List P} {vs : List V} {y : V} (h : Prs H ds (vs ++ [y])) : PrV H (K4.at_ ds (ds.length - 1)) y := by
  have hl := h.len
  rw [List.length_append, List.length_singleton] at hl
  obtain ⟨v, h1, h2⟩ := h.at_ (k := ds.length - 1) (by omega)
  rw [List.getElem?_append_right (by omega), show ds.length - 1 - vs.length = 0 by omega] at h1
  cases h1
  exact h2
def spPush (fE : Addr) : Sp := fun args H Q _ => ∃ (p : Addr) (v : V) (d : P) (vs : List V) (ds : List P), args = [.ref p, v, .ref fE] ∧ H p = some (.lst vs) ∧ Prs H ds vs ∧ PrV H d v ∧ ds.length < 10000 ∧ Made p (push ds d) H fun H2 => Q .non H2
def spTake (fE : Addr) : Sp := fun args H Q _ => ∃ (p : Addr) (vs : List V) (ds : List P), args = [.ref p, .ref fE] ∧ H p = some (.lst vs) ∧ Prs H ds vs ∧ ds ≠ [] ∧ ds.length ≤ 10000 ∧ ∀ v vs' H2, Kw p H H2 → H2 p = some (.lst vs') → Prs H2 (pop ds).2 vs' → PrV H2 (pop ds).1 v → Q v H2
def spMake (fE : Addr) : Sp := fun args H Q _ => ∃ (p : Addr) (vs : List V) (ds : List P), args = [.ref p, .ref fE] ∧ H p = some (.lst vs) ∧ Prs H ds vs ∧ ds.length ≤ 10000 ∧ Made p (heapify ds) H fun H2 => Q .non H2
section
variable {P : Program} {w : World} {K : PySem.W.Frag} {mg : Str → Option Value} {base : Heap}
theorem sc10 : FnScope ["rows", "entry", "comes_first"] ["rows", "entry", "comes_first"] (defScope (top 10)) := ⟨rfl, rfl, rfl, by decide +kernel, rfl, by decide +kernel, by decide +kernel⟩
theorem ok_push (B : Bm mg) {fE : Addr} (F : Df K mg "push" (top 10) ["rows", "entry", "comes_first"]) (O : Okd P w K mg base CX0 2 "rise" ["rows", "low", "at", "comes_first"] (spRise fE)) : Okd P w K mg base CX0 3 "push" ["rows", "entry", "comes_first"] (spPush fE) := by
  refine F.ok sc10 (fun vs H Q E h => by obtain ⟨_, _, _, _, _, rfl, _⟩ := h; rfl) (fun f cdv A outer s H vs Q E hr h => ?_)
  obtain ⟨p, v, d, vs, ds, rfl, hp, pr, hd, hl, q⟩ := h
  obtain ⟨f_rise, d_rise, m_rise, k_rise, b_rise, G_rise⟩ := O.ex
  refine ⟨_, (pss_cons (ps_expr (pe_bm PySem.F.plainAttrs_list PySem.F.slot_list_append PySem.F.type_list_append mt_append (pv 0) (pa_cons (pv 1) pa_nil)))
      (pss_one (ps_expr (pe_call G_rise (hr.mono (by first | decide | omega)) (by rfl) m_rise k_rise b_rise .nil pass0 (pa_cons (pv 0) (pa_cons pe_int (pa_cons (pe_op op_sub (pe_callB call_lenQ (by rfl) B.len PySem.boot_len (pa_cons (pv 0) pa_nil)) pe_int) (pa_cons (pv 2) pa_nil)))))))), ?_⟩
  have hlv := pr.len
  refine q_app hp (ev_var rfl) (ev_var rfl) (by omega) fun H1 e1 => ?_
  have kw : Kw p H (upd H1 p (.lst (vs ++ [v]))) := Kw.upd e1
  have hp2 : (upd H1 p (.lst (vs ++ [v]))) p = some (.lst (vs ++ [v])) := upd_same
  generalize upd H1 p (.lst (vs ++ [v])) = H2 at *
  have pr2 : Prs H2 (ds ++ [d]) (vs ++ [v]) := (pr.kw hp kw).app (.one (hd.kw hp kw))
  refine s_call (vs := [.ref p, .int 0, .int (ds.length : Int), .ref fE]) (ea_cons (ev_var rfl) (ea_cons ev_c (ea_cons (ev_is (ev_op (ev_lenL (ev_var rfl) hp2) ev_c rv_I0) (by rw [List.length_append, List.length_singleton]; congr 1; omega)) (ea_cons (ev_var rfl) ea_nil)))) fun H3 e3 => ?_
  refine ⟨p, 0, ds.length, vs ++ [v], ds ++ [d], rfl, e3 _ _ hp2, pr2.ex e3, by simp, by simp; omega, fun us H4 k4 hp4 pr4 => ?_⟩
  exact q us H4 (kw.trans ((Kw.of e3).trans k4)) hp4 pr4
theorem sc11 : FnScope ["rows", "comes_first", "last", "first"] ["rows", "comes_first"] (defScope (top 11)) := ⟨rfl, rfl, rfl, by decide +kernel, rfl, by decide +kernel, by decide +kernel⟩
theorem ok_take (B : Bm mg) {fE : Addr} (F : Df K mg "take_first" (top 11) ["rows", "comes_first"]) (O : Okd P w K mg base CX0 3 "sink" ["rows", "at", "comes_first"] (spSink fE)) : Okd P w K mg base CX0 4 "take_first" ["rows", "comes_first"] (spTake fE) := by
  refine F.ok sc11 (fun vs H Q E h => by obtain ⟨_, _, _, rfl, _⟩ := h; rfl) (fun f cdv A outer s H vs Q E hr h => ?_)
  obtain ⟨p, vs, ds, rfl, hp, pr, hne, hl, q⟩ := h
  obtain ⟨f_sink, d_sink, m_sink, k_sink, b_sink, G_sink⟩ := O.ex
  refine ⟨_, (pss_cons (ps_set (i := 2) sc11.nd rfl (Or.inl rfl) (pe_bm0 PySem.F.plainAttrs_list PySem.F.slot_list_pop PySem.F.type_list_pop mt_pop (pv 0)))
      (pss_cons (ps_if (pt_not (pt_truth (pv 0) (by intro _; rfl))) (pss_one (ps_ret (pv 2))) pss_nil)
      (pss_cons (ps_set (i := 3) sc11.nd rfl (Or.inl rfl) (pe_ix ix_list (pv 0) pe_int (fun _ _ => rfl)))
      (pss_cons (ps_asg (pv 2) (pg_sub (pv 0) pe_int set_list))
      (pss_cons (ps_expr (pe_call G_sink (hr.mono (by first | decide | omega)) (by rfl) m_sink k_sink b_sink .nil pass0 (pa_cons (pv 0) (pa_cons pe_int (pa_cons (pv 1) pa_nil)))))
      (pss_one (ps_ret (pv 3)))))))), ?_⟩
  have hlv := pr.len
  have hpos : 0 < ds.length := List.length_pos_iff.mpr hne
  obtain ⟨us, y, rfl⟩ : ∃ us y, vs = us ++ [y] := ⟨vs.dropLast, vs.getLast (fun z => by rw [z] at hlv; simp at hlv; omega), (List.dropLast_concat_getLast _).symm⟩
  rw [List.length_append, List.length_singleton] at hlv
  refine q_pop hp (ev_var rfl) fun H1 e1 => ?_
  have kw : Kw p H (upd H1 p (.lst us)) := Kw.upd e1
  have hp2 : (upd H1 p (.lst us)) p = some (.lst us) := upd_same
  generalize upd H1 p (.lst us) = H2 at *
  have pr2 := pr.kw hp kw
  have hy := Prs.last pr2
  have prd : Prs H2 ds.dropLast us := by
    have := pr2.dropLast
    rw [List.dropLast_concat] at this
    exact this
  refine q_when (et_not (et_truL (ev_var rfl) hp2)) (fun hb H3 e3 => s_ret (ev_var rfl) fun H4 e4 => ?_) (fun hb H3 e3 => ?_)
  · have h0 : us = [] := by simpa using hb
    have h1 : ds.length ≤ 1 := by rw [h0] at hlv; simp at hlv; omega
    refine q y us H4 (kw.trans (Kw.of (e3.trans e4))) ((e3.trans e4) _ _ hp2) ?_ ?_
    · unfold pop
      rw [if_pos h1, h0]
      exact .nil
    · rw [pop_fst]
      rw [show ds.length - 1 = 0 by omega] at hy
      exact hy.ex (e3.trans e4)
  · have h0 : us ≠ [] := by simpa using hb
    have h1 : ¬ ds.length ≤ 1 := by
      have := List.length_pos_iff.mpr h0
      omega
    have hp3 := e3 _ _ hp2
    obtain ⟨x, hx1, hx2⟩ := (prd.ex e3).at_ (k := 0) (by rw [List.length_dropLast]; omega)
    rw [at_dropLast (by omega)] at hx2
    refine q_asg (ev_row (k := 0) (ev_var rfl) ev_c hp3 hx1) fun H4 e4 => ?_
    have hp4 := e4 _ _ hp3
    refine q_setL (j := 0) hp4 (ev_var rfl) (ev_var rfl) ev_c (List.length_pos_iff.mpr h0) fun H5 e5 => ?_
    have kw5 : Kw p H4 (upd H5 p (.lst (us.set 0 y))) := Kw.upd e5
    have hp6 : (upd H5 p (.lst (us.set 0 y))) p = some (.lst (us.set 0 y)) := upd_same
    generalize upd H5 p (.lst (us.set 0 y)) = H6 at *
    have e34 := e3.trans e4
    have pr6 : Prs H6 (ds.dropLast.set 0 (at_ ds (ds.length - 1))) (us.set 0 y) := ((prd.ex e34).set (hy.ex e34)).kw hp4 kw5
    have hx6 := (hx2.ex e4).kw hp4 kw5
    refine q_call (vs := [.ref p, .int ((0 : Nat) : Int), .ref fE]) (ea_cons (ev_var rfl) (ea_cons ev_c (ea_cons (ev_var rfl) ea_nil))) fun H7 e7 => ?_
    refine ⟨p, 0, _, _, rfl, e7 _ _ hp6, pr6.ex e7, by simp; omega, by simp; omega, fun ws H8 k8 hp8 pr8 => ?_⟩
    refine s_ret (ev_var rfl) fun H9 e9 => ?_
    refine q x ws H9 (((kw.trans (Kw.of e34)).trans kw5).trans ((Kw.of e7).trans (k8.trans (Kw.of e9)))) (e9 _ _ hp8) ?_ ?_
    · unfold pop
      rw [if_neg h1]
      exact pr8.ex e9
    · rw [pop_fst]
      exact (((hx6.ex e7).kw (e7 _ _ hp6) k8).ex e9)
theorem sc12 : FnScope ["rows", "comes_first", "at"] ["rows", "comes_first"] (defScope (top 12)) := ⟨rfl, rfl, rfl, by decide +kernel, rfl, by decide +kernel, by decide +kernel⟩
theorem ok_make (B : Bm mg) {fE : Addr} (F : Df K mg "make_heap" (top 12) ["rows", "comes_first"]) (O : Okd P w K mg base CX0 3 "sink" ["rows", "at", "comes_first"] (spSink fE)) : Okd P w K mg base CX0 4 "make_heap" ["rows", "comes_first"] (spMake fE) := by
  refine F.ok sc12 (fun vs H Q E h => by obtain ⟨_, _, _, rfl, _⟩ := h; rfl) (fun f cdv A outer s H vs Q E hr h => ?_)
  obtain ⟨p, vs, ds, rfl, hp, pr, hl, q⟩ := h
  obtain ⟨f_sink, d_sink, m_sink, k_sink, b_sink, G_sink⟩ := O.ex
  refine ⟨_, (pss_one (ps_for PassesOwn.never rfl (pi_revR (by rfl) B.reversed (prg_1 (by rfl) B.range (pe_op op_fdiv (pe_callB call_lenQ (by rfl) B.len PySem.boot_len (pa_cons (pv 0) pa_nil)) pe_int))) (pg_name (i := 2) sc12.nd rfl (Or.inl rfl)) (pss_one (ps_expr (pe_call G_sink (hr.mono (by first | decide | omega)) (by rfl) m_sink k_sink b_sink .nil pass0 (pa_cons (pv 0) (pa_cons (pv 2) (pa_cons (pv 1) pa_nil)))))))), ?_⟩
  have hlv := pr.len
  have hn : ((vs.length : Int) / 2) = ((ds.length / 2 : Nat) : Int) := by omega
  refine s_forRev (n := (vs.length : Int) / 2) (ev_op (ev_lenL (ev_var rfl) hp) ev_c (rv_I ⟨by decide, by decide⟩)) (by omega)
    (fun i σ' H' => ∃ (x2 : Option V) (vs' : List V) (ds' : List K4.P), σ' = [some (.ref p), some (.ref fE), x2] ∧ Kw p H H' ∧ H' p = some (.lst vs') ∧ Prs H' ds' vs' ∧ ds'.length = ds.length ∧ mk (ds.length / 2 - i) ds' = heapify ds)
    (fun H1 e => ⟨_, vs, ds, rfl, Kw.of e, e _ _ hp, pr.ex e, rfl, rfl⟩) ?_ ?_
  · rintro i σ' H' hi ⟨x2, vs', ds', rfl, kw, hp', pr', hl', he⟩
    have hi' : i < ds.length / 2 := by omega
    have e0 : (vs.length : Int) / 2 - 1 - (i : Int) = ((ds.length / 2 - i - 1 : Nat) : Int) := by omega
    rw [e0]
    refine s_call (ea_cons (ev_var rfl) (ea_cons (ev_var rfl) (ea_cons (ev_var rfl) ea_nil))) fun H1 e1 => ?_
    refine ⟨p, ds.length / 2 - i - 1, vs', ds', rfl, e1 _ _ hp', pr'.ex e1, by omega, by omega, fun us H2 k2 hp2 pr2 => ?_⟩
    refine ⟨_, us, _, rfl, kw.trans ((Kw.of e1).trans k2), hp2, pr2, by rw [sink_len (by omega)]; exact hl', ?_⟩
    rw [← he]
    rw [show ds.length / 2 - (i + 1) = ds.length / 2 - i - 1 by omega]
    conv => rhs; rw [show ds.length / 2 - i = (ds.length / 2 - i - 1) + 1 by omega]
    rfl
  · rintro σ' H' ⟨x2, vs', ds', rfl, kw, hp', pr', hl', he⟩
    have : ds.length / 2 - ((vs.length : Int) / 2).toNat = 0 := by omega
    rw [this] at he
    have he' : ds' = heapify ds := he
    rw [he'] at pr'
    exact q vs' H' kw hp' pr'
end
end K4
/-! The law's draws: cell_at, well, draw, pick. -/
namespace K4
open PySem L2 Evl PySem.Spec PyProof.Rows
/-- a well stands at a, z draws made -/
def Wl (a : Addr) (H : Hp) (z : Nat) : Prop := ∃ x y : Int, H a = some (.lst [.int x, .int y, .int (z : Int)])
theorem Wl.ex {a : Addr} {H H2 : Hp} {z : Nat} (e : Ex H H2) (h : Wl a H z) : Wl a H2 z := by
  obtain ⟨x, y, h⟩ := h
  exact ⟨x, y, e _ _ h⟩
def spWell : Sp := fun vs H Q _ => ∃ c : Int, vs = [.int c] ∧ ∀ p H2, H p = none → Ex H H2 → Wl p H2 0 → Q (.ref p) H2
def spDraw : Sp := fun vs H Q _ => ∃ (a : Addr) (n : Int) (z : Nat), vs = [.ref a, .int n] ∧ Wl a H z ∧ z ≤ 1000000 ∧ 0 < n ∧ n < 2 ^ 140 ∧ ∀ (r : Int) (z2 : Nat) H2, 0 ≤ r → r < n → z2 ≤ z + 1 → Kw a H H2 → Wl a H2 z2 → Q (.int r) H2
section
variable {K : PySem.W.Frag} {σ : L2.St} {H : Hp} {ta te : TE}
def rInt1 : List V → Hp → VK → Prop := fun xs H Q => (∃ i, xs = [.int i] ∧ Q (.int i) H) ∨ ∃ k, xs = [.bl k] ∧ Q (.int (if k then 1 else 0)) H
theorem call_i1 {X : Cx} : CallR X (.type "int") rInt1 := call_int1
theorem ev_i1 {i : Int} (ha : Ev ta σ H (.int i)) : Ev (tCB rInt1 (tCons ta tNil)) σ H (.int i) := ev_cb (ea_cons ha ea_nil) fun H1 e Q q => .inl ⟨i, rfl, q H1 (Ex.refl _)⟩
theorem ev_ib {b : Bool} (ha : Ev ta σ H (.bl b)) : Ev (tCB rInt1 (tCons ta tNil)) σ H (.int (if b then 1 else 0)) := ev_cb (ea_cons ha ea_nil) fun H1 e Q q => .inr ⟨b, rfl, q H1 (Ex.refl _)⟩
end
section
variable {P : Program} {w : World} {K : PySem.W.Frag} {mg : Str → Option Value} {base : Heap}
theorem sc25 : FnScope ["_law_cell"] ["_law_cell"] (defScope (top 25)) := ⟨rfl, rfl, rfl, by decide +kernel, rfl, by decide +kernel, by decide +kernel⟩
theorem ok_well (B : Bm mg) (F : Df K mg "_law_well" (top 25) ["_law_cell"]) : Okd P w K mg base CX0 1 "_law_well" ["_law_cell"] spWell := by
  refine F.ok sc25 (fun vs H Q E h => by obtain ⟨c, rfl, _⟩ := h; rfl) (fun f cdv A outer s H vs Q E hr h => ?_)
  obtain ⟨c, rfl, k⟩ := h
  refine ⟨_, (pss_one (ps_ret (pe_lst (pa_cons (pe_op op_mul (pv 0) (pe_callTy call_i1 (by rfl) B.int boot_int (pa_cons (pe_cmpR op_ge1 (pv 0) (pe_op op_pow pe_int pe_int) (nomark _)) pa_nil))) (pa_cons (pv 0) (pa_cons pe_int pa_nil)))))), ?_⟩
  have hp : CPow 10 18 := ⟨by decide, by decide, by decide⟩
  refine s_retL (el_lst (ea_cons (ev_op (ev_var rfl) (ev_ib (ev_op (ev_var rfl) (ev_op ev_c ev_c (rv_I hp)) rv_I0)) (rv_I ?_)) (ea_cons (ev_var rfl) (ea_cons ev_c ea_nil))) (by simp)) fun p H1 hp e h1 => k p H1 hp e ⟨_, _, h1⟩
  right
  split <;> decide
theorem sc26 : FnScope ["_law_well_here", "_law_many", "_law_salt", "_law_mixed", "_law_found"] ["_law_well_here", "_law_many"] (defScope (top 26)) := ⟨rfl, rfl, rfl, by decide +kernel, rfl, by decide +kernel, by decide +kernel⟩
theorem ok_draw (B : Bm mg) (F : Df K mg "_law_draw" (top 26) ["_law_well_here", "_law_many"]) : Okd P w K mg base CX0 1 "_law_draw" ["_law_well_here", "_law_many"] spDraw := by
  refine F.ok sc26 (fun vs H Q E h => by obtain ⟨a, n, z, rfl, _⟩ := h; rfl) (fun f cdv A outer s H vs Q E hr h => ?_)
  obtain ⟨a, n, z, rfl, ⟨x, y, ha⟩, hz, n0, n1, k⟩ := h
  refine ⟨_, (pss_cons (ps_if (pt_cmpR op_gt1 (pe_ix ix_list (pv 0) pe_int (fun _ _ => rfl)) pe_int (nomark _)) (pss_cons (ps_set (i := 4) sc26.nd rfl (Or.inl rfl) (pe_op op_mod (pe_callTy call_i1 (by rfl) B.int boot_int (pa_cons (pe_ix ix_list (pv 0) pe_int (fun _ _ => rfl)) pa_nil)) (pv 1)))
      (pss_cons (ps_asg (pe_op op_fdivW (pe_ix ix_list (pv 0) pe_int (fun _ _ => rfl)) (pv 1)) (pg_sub (pv 0) pe_int set_list))
      (pss_one (ps_ret (pv 4))))) pss_nil)
      (pss_cons (ps_asg (pe_op op_add (pe_ix ix_list (pv 0) pe_int (fun _ _ => rfl)) pe_int) (pg_sub (pv 0) pe_int set_list))
      (pss_cons (ps_set (i := 2) sc26.nd rfl (Or.inl rfl) (pe_op op_add (pe_op op_mod (pe_callTy call_i1 (by rfl) B.int boot_int (pa_cons (pe_ix ix_list (pv 0) pe_int (fun _ _ => rfl)) pa_nil)) pe_int) (pe_op op_mul (pe_op op_mod (pe_callTy call_i1 (by rfl) B.int boot_int (pa_cons (pe_op op_fdivW (pe_ix ix_list (pv 0) pe_int (fun _ _ => rfl)) pe_int) pa_nil)) pe_int) pe_int)))
      (pss_cons (ps_set (i := 3) sc26.nd rfl (Or.inl rfl) (pe_op op_mod (pe_callTy call_i1 (by rfl) B.int boot_int (pa_cons (pe_op op_pow (pe_op op_add (pe_op op_add (pv 2) (pe_op op_mul pe_int (pe_ix ix_list (pv 0) pe_int (fun _ _ => rfl)))) pe_int) pe_int) pa_nil)) pe_int))
      (pss_cons (ps_set (i := 3) sc26.nd rfl (Or.inl rfl) (pe_op op_mod (pe_callTy call_i1 (by rfl) B.int boot_int (pa_cons (pe_op op_mul (pv 3) (pe_op op_add (pe_op op_add (pe_op op_fdiv (pv 3) pe_int) pe_int) (pe_ix ix_list (pv 0) pe_int (fun _ _ => rfl)))) pa_nil)) pe_int))
      (pss_one (ps_ret (pe_op op_mod (pe_callTy call_i1 (by rfl) B.int boot_int (pa_cons (pe_op op_mod (pe_callTy call_i1 (by rfl) B.int boot_int (pa_cons (pe_op op_mul (pv 3) (pe_op op_add (pe_op op_fdiv (pv 3) pe_int) pe_int)) pa_nil)) pe_int) pa_nil)) (pv 1))))))))), ?_⟩
  have g0 : ∀ {σ : L2.St} {H1 : Hp} {p q r : Int}, σ[0]? = some (some (.ref a)) → H1 a = some (.lst [.int p, .int q, .int r]) → Ev (tOp (rIxL K) (tVar 0) (tC (.int 0))) σ H1 (.int p) := fun s h => ev_op (ev_var s) ev_c (rv_ixL (sq_of h) (atI_nat (j := 0) rfl))
  have g1 : ∀ {σ : L2.St} {H1 : Hp} {p q r : Int}, σ[0]? = some (some (.ref a)) → H1 a = some (.lst [.int p, .int q, .int r]) → Ev (tOp (rIxL K) (tVar 0) (tC (.int 1))) σ H1 (.int q) := fun s h => ev_op (ev_var s) ev_c (rv_ixL (sq_of h) (atI_nat (j := 1) rfl))
  have g2 : ∀ {σ : L2.St} {H1 : Hp} {p q r : Int}, σ[0]? = some (some (.ref a)) → H1 a = some (.lst [.int p, .int q, .int r]) → Ev (tOp (rIxL K) (tVar 0) (tC (.int 2))) σ H1 (.int r) := fun s h => ev_op (ev_var s) ev_c (rv_ixL (sq_of h) (atI_nat (j := 2) rfl))
  refine q_when (et_test (ev_op (g0 rfl ha) ev_c rv_I0)) (fun hb H1 e1 => ?_) (fun hb H1 e1 => ?_)
  · have ha1 := e1 _ _ ha
    refine q_asg (ev_op (ev_i1 (g0 rfl ha1)) (ev_var rfl) (rv_I n0)) fun H2 e2 => ?_
    have ha2 := e2 _ _ ha1
    have hdv : CDivW x n := wide_div (b := 140) n0 (by omega) (by decide) (by decide)
    refine q_setL (j := 0) ha2 (ev_op (g0 rfl ha2) (ev_var rfl) (rv_I hdv)) (ev_var rfl) ev_c (by simp) fun H3 e3 => ?_
    refine s_ret (ev_var rfl) fun H4 e4 => ?_
    exact k (x % n) z H4 (Int.emod_nonneg _ (by omega)) (Int.emod_lt_of_pos _ n0) (by omega) ((Kw.upd ((e1.trans e2).trans e3)).trans (Kw.of e4)) ⟨_, _, e4 _ _ upd_same⟩
  · have ha1 := e1 _ _ ha
    refine q_setL (j := 2) ha1 (ev_op (g2 rfl ha1) ev_c rv_I0) (ev_var rfl) ev_c (by simp) fun H2 e2 => ?_
    obtain ⟨H3, hH3⟩ : ∃ H3, H3 = upd H2 a (.lst [.int x, .int y, .int ((z : Int) + 1)]) := ⟨_, rfl⟩
    have ha3 : H3 a = some (.lst [.int x, .int y, .int ((z : Int) + 1)]) := by rw [hH3]; exact upd_same
    have k3 : Kw a H H3 := by rw [hH3]; exact Kw.upd (e1.trans e2)
    show tSeq _ _ _ _ (upd H2 a (.lst [.int x, .int y, .int ((z : Int) + 1)]))
    rw [← hH3]
    have hd1 : CDivW y 2147483587 := ⟨by decide, by decide +kernel⟩
    refine q_asg (ev_op (ev_op (ev_i1 (g1 rfl ha3)) ev_c (rv_I (by decide))) (ev_op (ev_op (ev_i1 (ev_op (g1 rfl ha3) ev_c (rv_I hd1))) ev_c (rv_I (by decide))) ev_c (rv_I (.inr (by decide)))) rv_I0) fun H4 e4 => ?_
    obtain ⟨sd, hsd⟩ : ∃ sd : Int, sd = y % 2147483587 + y / 2147483587 % 65003 * 41 := ⟨_, rfl⟩
    rw [← hsd]
    have b1 : 0 ≤ sd ∧ sd < 2150444326 := by omega
    have ha4 := e4 _ _ ha3
    have hpw : CPow (sd + 7027 * ((z : Int) + 1) + 29) 5 := ⟨by decide, by decide, by omega⟩
    refine q_asg (ev_op (ev_i1 (ev_op (ev_op (ev_op (ev_var rfl) (ev_op ev_c (g2 rfl ha4) (rv_I (.inl (by decide)))) rv_I0) ev_c rv_I0) ev_c (rv_I hpw))) ev_c (rv_I (by decide))) fun H5 e5 => ?_
    obtain ⟨m1, hm1⟩ : ∃ m1 : Int, m1 = (sd + 7027 * ((z : Int) + 1) + 29) ^ Int.toNat 5 % 2147483647 := ⟨_, rfl⟩
    rw [← hm1]
    have b2 : 0 ≤ m1 ∧ m1 < 2147483647 := by rw [hm1]; exact ⟨Int.emod_nonneg _ (by decide), Int.emod_lt_of_pos _ (by decide)⟩
    have ha5 := e5 _ _ ha4
    have hml : CMul m1 (m1 / 983 + 50021 + ((z : Int) + 1)) := .inl (by omega)
    refine q_asg (ev_op (ev_i1 (ev_op (ev_var rfl) (ev_op (ev_op (ev_op (ev_var rfl) ev_c (rv_I ⟨by decide, by decide⟩)) ev_c rv_I0) (g2 rfl ha5) rv_I0) (rv_I hml))) ev_c (rv_I (by decide))) fun H6 e6 => ?_
    obtain ⟨m2, hm2⟩ : ∃ m2 : Int, m2 = m1 * (m1 / 983 + 50021 + ((z : Int) + 1)) % 2147483629 := ⟨_, rfl⟩
    rw [← hm2]
    have b3 : 0 ≤ m2 ∧ m2 < 2147483629 := by rw [hm2]; exact ⟨Int.emod_nonneg _ (by decide), Int.emod_lt_of_pos _ (by decide)⟩
    have hml2 : CMul m2 (m2 / 2017 + 40009) := .inl (by omega)
    refine s_ret (ev_op (ev_i1 (ev_op (ev_i1 (ev_op (ev_var rfl) (ev_op (ev_op (ev_var rfl) ev_c (rv_I ⟨by decide, by decide⟩)) ev_c rv_I0) (rv_I hml2))) ev_c (rv_I (by decide)))) (ev_var rfl) (rv_I n0)) fun H7 e7 => ?_
    have e37 := (e4.trans e5).trans (e6.trans e7)
    exact k _ (z + 1) H7 (Int.emod_nonneg _ (by omega)) (Int.emod_lt_of_pos _ n0) (Nat.le_refl _) (k3.trans (Kw.of e37)) ⟨x, y, by rw [e37 _ _ ha3]; rfl⟩
/-- the drawn one of some -/
def spPick (K : PySem.W.Frag) : Sp := fun vs H Q _ => ∃ (a p : Addr) (xs : List V) (z : Nat), vs = [.ref a, .ref p] ∧ Wl a H z ∧ z ≤ 1000000 ∧ p ≠ a ∧ (H p = some (.lst xs) ∨ H p = some (.tup xs)) ∧ xs ≠ [] ∧ xs.length ≤ 1000000 ∧ ∀ (x : V) (z2 : Nat) H2, x ∈ xs → z2 ≤ z + 1 → Kw a H H2 → Wl a H2 z2 → Q x H2
theorem sc27 : FnScope ["_law_well_here", "_law_some"] ["_law_well_here", "_law_some"] (defScope (top 27)) := ⟨rfl, rfl, rfl, by decide +kernel, rfl, by decide +kernel, by decide +kernel⟩
theorem ok_pick (B : Bm mg) (F : Df K mg "_law_pick" (top 27) ["_law_well_here", "_law_some"]) (O : Okd P w K mg base CX0 1 "_law_draw" ["_law_well_here", "_law_many"] spDraw) : Okd P w K mg base CX0 2 "_law_pick" ["_law_well_here", "_law_some"] (spPick K) := by
  refine F.ok sc27 (fun vs H Q E h => by obtain ⟨a, p, xs, z, rfl, _⟩ := h; rfl) (fun f cdv A outer s H vs Q E hr h => ?_)
  obtain ⟨a, p, xs, z, rfl, wl, hz, hne, hp, hx, hl, k⟩ := h
  obtain ⟨f__law_draw, d__law_draw, m__law_draw, k__law_draw, b__law_draw, G__law_draw⟩ := O.ex
  refine ⟨_, (pss_one (ps_ret (pe_ix ix_seq (pv 1) (pe_call G__law_draw (hr.mono (by first | decide | omega)) (by rfl) m__law_draw k__law_draw b__law_draw .nil pass0 (pa_cons (pv 0) (pa_cons (pe_callB call_lenQ (by rfl) B.len PySem.boot_len (pa_cons (pv 1) pa_nil)) pa_nil))) (fun _ _ => rfl)))), ?_⟩
  have hlen : Ev (tCB (rLenQ K) (tCons (tVar 1) tNil)) (start ["_law_well_here", "_law_some"] [.ref a, .ref p]) H (.int (xs.length : Int)) := ev_cb (ea_cons (ev_var rfl) ea_nil) fun H1 e Q q => by
    refine ⟨p, xs, rfl, ?_, q H1 (Ex.refl _)⟩
    rcases hp with hp | hp
    · exact .inl (sq_of (e _ _ hp))
    · exact .inr (st_of (e _ _ hp))
  have hpos : 0 < xs.length := List.length_pos_iff.mpr hx
  refine ⟨.ref p, rfl, .ref a, rfl, hlen H (Ex.refl _) _ fun H2 e2 => ?_⟩
  have e1 : Ex H H := Ex.refl H
  refine ⟨a, xs.length, z, rfl, wl.ex (e1.trans e2), hz, by omega, by omega, fun r z2 H3 r0 r1 hz2 kw wl2 => ?_⟩
  obtain ⟨j, rfl⟩ := Int.eq_ofNat_of_zero_le r0
  have hj : j < xs.length := by omega
  have kw' := (Kw.of (a := a) (e1.trans e2)).trans kw
  have hat : atI xs (j : Int) = some xs[j] := atI_nat (j := j) (List.getElem?_eq_getElem hj)
  have fin := k xs[j] z2 H3 (List.getElem_mem hj) hz2 kw' wl2
  rcases hp with hp | hp
  · exact .inl ⟨p, xs, (j : Int), xs[j], rfl, rfl, sq_of (kw' _ _ hp hne), hat, fin⟩
  · exact .inr (.inl ⟨p, xs, (j : Int), xs[j], rfl, rfl, st_of (kw' _ _ hp hne), hat, fin⟩)
end
end K4
/-! Lists of entries and of times as data: ==, sorted, min, comprehensions. -/
namespace K4
open PySem L2 Evl PySem.Spec PyProof.Rows
/-! ### data -/
def PD (d : P) : PyData := .tuple [.int d.1, .int d.2]
theorem shaped_ints (ns : List Int) : SeqAt.shaped (.list (ns.map PyData.int)) = true := by
  have h1 : ∀ ns : List Int, PyData.canLayAll0 (ns.map PyData.int) = true := by
    intro ns
    induction ns with
    | nil => rfl
    | cons a l ih => simp [PyData.canLayAll0, PyData.canLay0, ih]
  have h2 : ∀ ns : List Int, PyData.depthAll (ns.map PyData.int) = 0 := by
    intro ns
    induction ns with
    | nil => rfl
    | cons a l ih => simp [PyData.depthAll, PyData.depth, ih]
  simp [SeqAt.shaped, PyData.canLay0, PyData.depth, h1, h2]
theorem shaped_pd (d : P) : SeqAt.shaped (PD d) = true := by simp [PD, SeqAt.shaped, PyData.canLay0, PyData.canLayAll0, PyData.depth, PyData.depthAll]
theorem shaped_list (ds : List P) : SeqAt.shaped (.list (ds.map PD)) = true := by
  have h1 : ∀ ds : List P, PyData.canLayAll0 (ds.map PD) = true := by
    intro ds
    induction ds with
    | nil => rfl
    | cons a l ih => simp [PyData.canLayAll0, PyData.canLay0, PD, ih]
  have h2 : ∀ ds : List P, PyData.depthAll (ds.map PD) ≤ 1 := by
    intro ds
    induction ds with
    | nil => simp [PyData.depthAll]
    | cons a l ih => simp [PyData.depthAll, PyData.depth, PD, ih]
  have := h2 ds
  simp [SeqAt.shaped, PyData.canLay0, PyData.depth, h1]
  omega
theorem eqv_pd (d e : P) : PyData.eqv (PD d) (PD e) = decide (d = e) := by
  unfold PD
  simp only [PyData.eqv, PyData.eqvAll, Bool.and_true]
  have : (d = e) ↔ (d.1 = e.1 ∧ d.2 = e.2) := Prod.ext_iff
  rw [decide_eq_decide.mpr this, Bool.decide_and]
  rfl
theorem eqv_list : ∀ ds es : List P, PyData.eqvAll (ds.map PD) (es.map PD) = decide (ds = es)
  | [], [] => rfl
  | [], _ :: _ => by simp [PyData.eqvAll]
  | _ :: _, [] => by simp [PyData.eqvAll]
  | d :: ds, e :: es => by
    simp only [List.map_cons, PyData.eqvAll]
    rw [eqv_list ds es, eqv_pd, decide_eq_decide.mpr (List.cons_eq_cons (a := d) (b := e)), Bool.decide_and]
theorem eqv_ints : ∀ ns ms : List Int, PyData.eqvAll (ns.map PyData.int) (ms.map PyData.int) = decide (ns = ms)
  | [], [] => rfl
  | [], _ :: _ => by simp [PyData.eqvAll]
  | _ :: _, [] => by simp [PyData.eqvAll]
  | d :: ds, e :: es => by
    simp only [List.map_cons, PyData.eqvAll, PyData.eqv]
    rw [eqv_ints ds es, decide_eq_decide.mpr (List.cons_eq_cons (a := d) (b := e)), Bool.decide_and]
    rfl
theorem any_pd (d : P) : ∀ es : List P, (List.map PD es).any (fun z => PyData.eqv z (PD d)) = decide (d ∈ es)
  | [] => by simp
  | a :: l => by
    rw [List.map_cons, List.any_cons, any_pd d l, eqv_pd, ← Bool.decide_or]
    refine decide_eq_decide.mpr ?_
    rw [List.mem_cons]
    exact or_congr ⟨Eq.symm, Eq.symm⟩ Iff.rfl
def IsL (ds : List P) (H : Hp) (v : V) : Prop := ∃ p vs, v = .ref p ∧ H p = some (.lst vs) ∧ Prs H ds vs
def IsI (ns : List Int) (H : Hp) (v : V) : Prop := ∃ p, v = .ref p ∧ H p = some (.lst (ns.map V.int))
theorem IsL.ex {ds : List P} {H H2 : Hp} {v : V} (e : Ex H H2) (h : IsL ds H v) : IsL ds H2 v := by
  obtain ⟨p, vs, h1, h2, h3⟩ := h
  exact ⟨p, vs, h1, e _ _ h2, h3.ex e⟩
theorem IsI.ex {ns : List Int} {H H2 : Hp} {v : V} (e : Ex H H2) (h : IsI ns H v) : IsI ns H2 v := by
  obtain ⟨p, h1, h2⟩ := h
  exact ⟨p, h1, e _ _ h2⟩
theorem PrV.dp {K : PySem.W.Frag} {H : Hp} {d : P} {v : V} (h : PrV H d v) : Dp K H v (PD d) := by
  obtain ⟨a, rfl, h2⟩ := h
  exact .tup (st_of h2) (.cons (.int _) (.cons (.int _) .nil))
theorem Prs.dp {K : PySem.W.Frag} {H : Hp} : ∀ {ds : List P} {vs : List V}, Prs H ds vs → DpAll K H vs (ds.map PD)
  | _, _, .nil => .nil
  | _, _, .cons q t => .cons q.dp (Prs.dp t)
theorem IsL.dp {K : PySem.W.Frag} {ds : List P} {H : Hp} {v : V} (h : IsL ds H v) : Dp K H v (.list (ds.map PD)) := by
  obtain ⟨p, vs, rfl, h2, h3⟩ := h
  exact .lst (sq_of h2) h3.dp
theorem IsI.dp {K : PySem.W.Frag} {ns : List Int} {H : Hp} {v : V} (h : IsI ns H v) : Dp K H v (.list (ns.map PyData.int)) := by
  obtain ⟨p, rfl, h2⟩ := h
  refine .lst (sq_of h2) ?_
  clear h2
  induction ns with
  | nil => exact .nil
  | cons a l ih => exact .cons (.int _) ih
theorem PrV.inj {H : Hp} {d e : P} {v : V} (h : PrV H d v) (h2 : PrV H e v) : d = e := by
  obtain ⟨a, rfl, h⟩ := h
  obtain ⟨b, eb, h2⟩ := h2
  cases eb
  rw [h] at h2
  simp only [Option.some.injEq, HO.tup.injEq, List.cons.injEq, V.int.injEq, and_true] at h2
  exact Prod.ext h2.1 h2.2
/-! ### sorted -/
def Lx (l : List P) : Prop := l.Pairwise fun x y => SrtO.lexB y x = false
theorem Lx.uniq {l m : List P} (h : Lx l) (h2 : Lx m) (p : l.Perm m) : l = m := by
  refine List.Perm.eq_of_pairwise (le := fun x y => SrtO.lexB y x = false) (fun a b _ _ z1 z2 => ?_) h h2 p
  have z1 := SrtO.lexB_no.mp z1
  have z2 := SrtO.lexB_no.mp z2
  refine Prod.ext ?_ ?_ <;> omega
def UpI (l : List Int) : Prop := l.Pairwise (· ≤ ·)
theorem UpI.uniq {l m : List Int} (h : UpI l) (h2 : UpI m) (p : l.Perm m) : l = m := List.Perm.eq_of_pairwise (le := fun x y => x ≤ y) (fun a b _ _ z1 z2 => Int.le_antisymm z1 z2) h h2 p
open Classical in
noncomputable def keyOf (H : Hp) (v : V) : P := if h : ∃ d, PrV H d v then h.choose else (0, 0)
theorem keyOf_eq {H : Hp} {d : P} {v : V} (h : PrV H d v) : keyOf H v = d := by
  unfold keyOf
  have e : ∃ d, PrV H d v := ⟨d, h⟩
  rw [dif_pos e]
  exact e.choose_spec.inj h
theorem Prs.keys {H : Hp} : ∀ {ds : List P} {vs : List V}, Prs H ds vs → ds = vs.map (keyOf H) ∧ ∀ v ∈ vs, PrV H (keyOf H v) v
  | _, _, .nil => ⟨rfl, fun _ h => nomatch h⟩
  | _, _, .cons q t => by
    obtain ⟨h1, h2⟩ := Prs.keys t
    refine ⟨by rw [List.map_cons, keyOf_eq q, ← h1], fun v hv => ?_⟩
    rcases List.mem_cons.mp hv with e | e
    · rw [e, keyOf_eq q]; exact q
    · exact h2 v e
theorem Prs.of_keys {H : Hp} : ∀ {vs : List V}, (∀ v ∈ vs, PrV H (keyOf H v) v) → Prs H (vs.map (keyOf H)) vs
  | [], _ => .nil
  | v :: vs, h => .cons (h v (by simp)) (Prs.of_keys fun u hu => h u (List.mem_cons_of_mem _ hu))
section
variable {K : PySem.W.Frag} {H : Hp} {σ : L2.St} {ta tb te tl : TE} {tt : TT} {tz tbd : TS} {Dd : Ends} {x y z : V}
theorem evp_mono {P1 : Hp → V → Prop} {H' : Hp} (e : Ex H H') (h : EvP te σ H P1) : EvP te σ H' P1 := fun H1 a Q q => h H1 (e.trans a) Q q
/-- an operation on two things with properties -/
theorem ev_op2 {P1 P2 : Hp → V → Prop} {r : R2} (ha : EvP ta σ H P1) (hb : ∀ H1, Ex H H1 → EvP tb σ H1 P2) (m1 : ∀ v H1 H2, Ex H1 H2 → P1 H1 v → P1 H2 v) (hr : ∀ x y H1, Ex H H1 → P1 H1 x → P2 H1 y → RV r x y H1 z) : Ev (tOp r ta tb) σ H z := fun H1 e Q q =>
  ha H1 e _ fun x H2 e2 p1 => hb H2 (e.trans e2) H2 (Ex.refl _) _ fun y H3 e3 p2 => hr x y H3 ((e.trans e2).trans e3) (m1 _ _ _ e3 p1) p2 H3 (Ex.refl _) Q fun H4 e4 => q H4 ((e2.trans e3).trans e4)
theorem ev_neL {ds es : List P} (ha : EvP ta σ H (IsL ds)) (hb : ∀ H1, Ex H H1 → EvP tb σ H1 (IsL es)) : Ev (tOp (rNeD K) ta tb) σ H (.bl (!decide (ds = es))) :=
  ev_op2 ha hb (fun _ _ _ e h => h.ex e) fun x y H1 _ p1 p2 => rv_val fun H2 e Q q => ⟨_, _, (p1.ex e).dp, (p2.ex e).dp, shaped_list _, shaped_list _, by
    rw [show PyData.eqv (.list (ds.map PD)) (.list (es.map PD)) = decide (ds = es) from eqv_list ds es]
    exact q⟩
theorem ev_eqL {ds es : List P} (ha : EvP ta σ H (IsL ds)) (hb : ∀ H1, Ex H H1 → EvP tb σ H1 (IsL es)) : Ev (tOp (rEqD K) ta tb) σ H (.bl (decide (ds = es))) :=
  ev_op2 ha hb (fun _ _ _ e h => h.ex e) fun x y H1 _ p1 p2 => rv_val fun H2 e Q q => ⟨_, _, (p1.ex e).dp, (p2.ex e).dp, shaped_list _, shaped_list _, by
    rw [show PyData.eqv (.list (ds.map PD)) (.list (es.map PD)) = decide (ds = es) from eqv_list ds es]
    exact q⟩
theorem ev_neI {ds es : List Int} (ha : EvP ta σ H (IsI ds)) (hb : ∀ H1, Ex H H1 → EvP tb σ H1 (IsI es)) : Ev (tOp (rNeD K) ta tb) σ H (.bl (!decide (ds = es))) :=
  ev_op2 ha hb (fun _ _ _ e h => h.ex e) fun x y H1 _ p1 p2 => rv_val fun H2 e Q q => ⟨_, _, (p1.ex e).dp, (p2.ex e).dp, shaped_ints _, shaped_ints _, by
    rw [show PyData.eqv (.list (ds.map PyData.int)) (.list (es.map PyData.int)) = decide (ds = es) from eqv_ints ds es]
    exact q⟩
theorem ev_nePair {d e : P} {u v : V} (ha : Ev ta σ H u) (hb : Ev tb σ H v) (h1 : PrV H d u) (h2 : PrV H e v) : Ev (tOp (rNeD K) ta tb) σ H (.bl (!decide (d = e))) :=
  ev_op ha hb (rv_val fun H2 ex Q q => ⟨_, _, (h1.ex ex).dp, (h2.ex ex).dp, shaped_pd _, shaped_pd _, by
    rw [eqv_pd]
    exact q⟩)
theorem ev_notInL {d : P} {es : List P} {u v : V} (ha : Ev ta σ H u) (hb : Ev tb σ H v) (h1 : PrV H d u) (h2 : IsL es H v) : Ev (tOp (rNotInD K) ta tb) σ H (.bl (!decide (d ∈ es))) :=
  ev_op ha hb (rv_val fun H2 ex Q q => ⟨_, _, (h1.ex ex).dp, (h2.ex ex).dp, shaped_pd _, shaped_list _, by
    rw [any_pd]
    exact q⟩)
/-- a new list is a list -/
theorem isl_new {ds : List P} (h : EvLP te σ H (fun H1 vs => Prs H1 ds vs)) : EvP te σ H (IsL ds) := fun H1 e Q q => h H1 e _ fun p xs H2 _ e2 hp pr => q (.ref p) H2 e2 ⟨p, xs, rfl, hp, pr⟩
theorem isl_var {ds : List P} {v : V} (h : Ev te σ H v) (hl : IsL ds H v) : EvP te σ H (IsL ds) := evp h fun _ e => hl.ex e
theorem isi_new {ns : List Int} (h : EvLP te σ H (fun _ vs => vs = ns.map V.int)) : EvP te σ H (IsI ns) := fun H1 e Q q => h H1 e _ fun p xs H2 _ e2 hp pr => q (.ref p) H2 e2 ⟨p, rfl, by rw [hp, pr]⟩
theorem isi_var {ns : List Int} {v : V} (h : Ev te σ H v) (hl : IsI ns H v) : EvP te σ H (IsI ns) := evp h fun _ e => hl.ex e
/-- sorted(xs), entries -/
theorem el_sorted {ds es : List P} (ha : EvP ta σ H (IsL ds)) (hs : Lx es) (hp : es.Perm ds) : EvLP (tCB (rSortedPO K) (tCons ta tNil)) σ H (fun H1 vs => Prs H1 es vs) := fun H1 e Q q =>
  ha H1 e _ fun v H2 e2 hv => by
    obtain ⟨p, vs, rfl, h1, h2⟩ := hv
    obtain ⟨k1, k2⟩ := h2.keys
    refine ⟨p, vs, keyOf H2, rfl, sq_of h1, fun x hx => k2 x hx, fun ys q' s1 s2 hn => ?_⟩
    have hy : Prs H2 (ys.map (keyOf H2)) ys := Prs.of_keys fun v hv => k2 v (s2.perm.subset hv)
    have hes : ys.map (keyOf H2) = es := by
      refine Lx.uniq (List.pairwise_map.mpr s1) hs ?_
      refine (s2.perm.map _).trans ?_
      rw [← k1]
      exact hp.symm
    rw [hes] at hy
    exact q q' ys _ (fresh_back e2 hn) (e2.trans (Ex.new hn)) upd_same (hy.ex (Ex.new hn))
/-- sorted(ns), times -/
theorem el_sortedI {ns ms : List Int} (ha : EvP ta σ H (IsI ns)) (hs : UpI ms) (hp : ms.Perm ns) : EvLP (tCB (rSortedI K) (tCons ta tNil)) σ H (fun _ vs => vs = ms.map V.int) := fun H1 e Q q =>
  ha H1 e _ fun v H2 e2 hv => by
   obtain ⟨p, rfl, h1⟩ := hv
   exact ⟨p, ns, rfl, sq_of h1, fun ns' q' s1 s2 hn => by
    have hes : ns' = ms := UpI.uniq s2 hs (s1.trans hp.symm)
    rw [hes]
    exact q q' _ _ (fresh_back e2 hn) (e2.trans (Ex.new hn)) upd_same rfl⟩
/-- xs + ys -/
theorem el_cat {ds es : List P} (ha : EvP ta σ H (IsL ds)) (hb : ∀ H1, Ex H H1 → EvP tb σ H1 (IsL es)) (hl : ds.length + es.length ≤ 100000) : EvLP (tOp rCat ta tb) σ H (fun H1 vs => Prs H1 (ds ++ es) vs) := fun H1 e Q q =>
  ha H1 e _ fun x H2 e2 p1 => hb H2 (e.trans e2) H2 (Ex.refl _) _ fun y H3 e3 ⟨p, vs, r1, h1, h2⟩ => by
    obtain ⟨p', vs', r2, h3, h4⟩ := p1.ex e3
    refine ⟨p', p, vs', vs, r2, r1, h3, h1, sz_of (by rw [h4.len, h2.len]; exact hl), fun q' hn => ?_⟩
    exact q q' _ _ (fresh_back (e2.trans e3) hn) ((e2.trans e3).trans (Ex.new hn)) upd_same ((h4.app h2).ex (Ex.new hn))
theorem el_one {d : P} {v : V} (h : Ev te σ H v) (hd : PrV H d v) : EvLP (tLst (tCons te tNil)) σ H (fun H1 vs => Prs H1 [d] vs) := fun H1 e Q q =>
  el_lst (ea_cons h ea_nil) (by simp) H1 e _ fun p H2 hn e2 hp => q p _ H2 hn e2 hp (.one (hd.ex (e.trans e2)))
theorem el_nilL : EvLP (tLst tNil) σ H (fun H1 vs => Prs H1 [] vs) := fun H1 e Q q =>
  el_lst ea_nil (by simp) H1 e _ fun p H2 hn e2 hp => q p _ H2 hn e2 hp .nil
theorem el_nilI : EvLP (tLst tNil) σ H (fun _ vs => vs = List.map V.int []) := fun H1 e Q q =>
  el_lst ea_nil (by simp) H1 e _ fun p H2 hn e2 hp => q p _ H2 hn e2 hp rfl
/-! ### comprehensions -/
theorem wk_isl {ds : List P} (h : EvP tl σ H (IsL ds)) : Wk (iList K tl) σ H ds.length (fun i H1 x => ∃ d, ds[i]? = some d ∧ PrV H1 d x) := fun H1 e R k =>
  h H1 e _ fun v H2 e2 ⟨p, xs, rv, hl, pl⟩ => ⟨p, rv, ⟨xs, sq_of hl⟩, by
    have w : Walk (Itl K p) xs.length (fun H => SqL K H p xs) (YAt xs) := walk_list
    rw [pl.len] at w
    refine k _ _ _ H2 e2 w (fun H3 e3 => sq_of (e3 _ _ hl)) fun i H3 x H4 hi e3 y => ?_
    obtain ⟨e4, hx⟩ := y
    subst e4
    obtain ⟨v, h1, h2⟩ := (pl.ex e3).at_ hi
    rw [hx] at h1
    cases h1
    exact ⟨Ex.refl _, ds[i], List.getElem?_eq_getElem hi, by rw [← at_get hi]; exact h2⟩⟩
theorem prv_ew {H H2 : Hp} (e : Ew H H2) {d : P} {v : V} (h : PrV H d v) : PrV H2 d v := by
  obtain ⟨a, h1, h2⟩ := h
  exact ⟨a, h1, (e a).1 _ h2⟩
theorem paired_app_inv {α β : Type} {R : α → β → Prop} : ∀ {l l' : List α} {m : List β}, Paired R (l ++ l') m → ∃ m1 m2, m = m1 ++ m2 ∧ Paired R l m1 ∧ Paired R l' m2
  | [], _, m, h => ⟨[], m, rfl, .nil, h⟩
  | a :: l, l', _, h => by
    cases h with
    | cons q t =>
      obtain ⟨m1, m2, e, h1, h2⟩ := paired_app_inv t
      exact ⟨_ :: m1, m2, by rw [e]; rfl, .cons q h1, h2⟩
theorem kept_filter {H : Hp} {ds : List P} {F : Nat → Bool} {f : P → Bool} {g : P → P} (hF : ∀ i d, ds[i]? = some d → F i = f d) : ∀ {n : Nat} {ys : List V}, n ≤ ds.length → Paired (fun i y => ∃ d, ds[i]? = some d ∧ PrV H (g d) y) (kept F n) ys → Prs H (((ds.take n).filter f).map g) ys
  | 0, ys, _, h => by
    have : kept F 0 = [] := rfl
    rw [this] at h
    cases h
    exact .nil
  | n + 1, ys, hn, h => by
    have hd : ds[n]? = some ds[n] := List.getElem?_eq_getElem (by omega)
    have ht : ds.take (n + 1) = ds.take n ++ [ds[n]] := by rw [List.take_succ, hd]; rfl
    rw [ht, List.filter_append, List.map_append]
    cases hf : F n with
    | true =>
      rw [kept_yes hf] at h
      obtain ⟨m1, m2, e, h1, h2⟩ := paired_app_inv h
      have ih := kept_filter hF (by omega) h1
      cases h2 with
      | cons q t =>
        cases t
        obtain ⟨d, hd2, hv⟩ := q
        rw [hd] at hd2
        cases hd2
        rw [e]
        have : [ds[n]].filter f = [ds[n]] := by rw [List.filter_cons_of_pos (by rw [← hF n _ hd]; exact hf)]; rfl
        rw [this]
        exact ih.app (.one hv)
    | false =>
      rw [kept_no hf] at h
      have ih := kept_filter hF (by omega) h
      have : [ds[n]].filter f = [] := by rw [List.filter_cons_of_neg (by rw [← hF n _ hd, hf]; decide)]; rfl
      rw [this, List.map_nil, List.append_nil]
      exact ih
/-- [.. for one in xs if f(one)], each an entry -/
theorem el_lcD {ds : List P} {j : Nat} {own : List Nat} (f : P → Bool) (g : P → P) (h : EvP tl σ H (IsL ds)) (hl : ds.length ≤ 40000) (hw : ∀ x, wipe ((wipe σ own).set j (some x)) own = wipe σ own)
    (ht : ∀ x d H1, Ex H H1 → PrV H1 d x → EvT tt ((wipe σ own).set j (some x)) H1 (f d)) (he : ∀ x d H1, Ex H H1 → PrV H1 d x → EvP te ((wipe σ own).set j (some x)) H1 (fun H2 y => PrV H2 (g d) y)) :
    EvLP (tLc (iList K tl) (gName j) tt te own) σ H (fun H1 vs => Prs H1 ((ds.filter f).map g) vs) := fun H0 e0 Q q =>
  el_lc (fun i => match ds[i]? with | some d => f d | none => true) (fun i H1 y => ∃ d, ds[i]? = some d ∧ PrV H1 (g d) y) (wk_isl h) hl (fun i H1 H2 y e ⟨d, h1, h2⟩ => ⟨d, h1, prv_ew e h2⟩)
    (fun i x H1 hi e ⟨d, hd, px⟩ Z k => k _ H1 (Ex.refl _) (hw x) (by rw [hd]; exact ht x d H1 e px) fun _ => (he x d H1 e px).imp fun H2 v _ hv => ⟨d, hd, hv⟩) H0 e0 Q fun p xs H2 hn e2 hp pl => by
      refine q p xs H2 hn e2 hp ?_
      have := kept_filter (f := f) (g := g) (fun i d hd => by rw [hd]) (Nat.le_refl _) pl
      rw [List.take_length] at this
      exact this
theorem kept_ints {ds : List P} {g : P → Int} : ∀ {n : Nat} {ys : List V}, n ≤ ds.length → Paired (fun i y => ∃ d, ds[i]? = some d ∧ y = V.int (g d)) (kept (fun _ => true) n) ys → ys = ((ds.take n).map g).map V.int
  | 0, ys, _, h => by
    have : kept (fun _ => true) 0 = [] := rfl
    rw [this] at h
    cases h
    rfl
  | n + 1, ys, hn, h => by
    have hd : ds[n]? = some ds[n] := List.getElem?_eq_getElem (by omega)
    have ht : ds.take (n + 1) = ds.take n ++ [ds[n]] := by rw [List.take_succ, hd]; rfl
    rw [kept_yes rfl] at h
    obtain ⟨m1, m2, e, h1, h2⟩ := paired_app_inv h
    have ih := kept_ints (by omega) h1
    cases h2 with
    | cons q t =>
      cases t
      obtain ⟨d, hd2, hv⟩ := q
      rw [hd] at hd2
      cases hd2
      rw [e, ih, ht, hv, List.map_append, List.map_append]
      rfl
theorem el_lcI {ds : List P} {j : Nat} {own : List Nat} (g : P → Int) (h : EvP tl σ H (IsL ds)) (hl : ds.length ≤ 40000) (hw : ∀ x, wipe ((wipe σ own).set j (some x)) own = wipe σ own)
    (he : ∀ x d H1, Ex H H1 → PrV H1 d x → Ev te ((wipe σ own).set j (some x)) H1 (.int (g d))) : EvLP (tLc (iList K tl) (gName j) tYes te own) σ H (fun _ vs => vs = (ds.map g).map V.int) := fun H0 e0 Q q =>
  el_lc (fun _ => true) (fun i _ y => ∃ d, ds[i]? = some d ∧ y = V.int (g d)) (wk_isl h) hl (fun i H1 H2 y e h => h)
    (fun i x H1 hi e ⟨d, hd, px⟩ Z k => k _ H1 (Ex.refl _) (hw x) (fun H2 e2 Q q => q H2 (Ex.refl _)) fun _ => evp (he x d H1 e px) fun _ _ => ⟨d, hd, rfl⟩) H0 e0 Q fun p xs H2 hn e2 hp pl => by
      refine q p xs H2 hn e2 hp ?_
      have := kept_ints (g := g) (Nat.le_refl _) pl
      rw [List.take_length] at this
      exact this
/-- min(ns) -/
theorem ev_min {ns : List Int} {m : Int} (h : EvP ta σ H (IsI ns)) (h1 : m ∈ ns) (h2 : ∀ y ∈ ns, m ≤ y) : Ev (tCB (rMin K) (tCons ta tNil)) σ H (.int m) := fun H1 e Q q =>
  h H1 e _ fun v H2 e2 ⟨p, rv, hp⟩ => ⟨p, ns, by rw [rv], sq_of hp, List.length_pos_iff.mpr (List.ne_nil_of_mem h1), fun m' a b => by
    have : m' = m := Int.le_antisymm (b m h1) (h2 m' a)
    rw [this]
    exact q H2 e2⟩
end
end K4
/-! Steps in short. -/
namespace K4
open PySem L2 Evl PySem.Spec PyProof.Rows
section
variable {K : PySem.W.Frag} {H : Hp} {σ : L2.St} {ta te : TE} {tz tbd : TS} {Dd : Ends}
theorem q_asgC {sp : Sp} {E : XK} {t : TA} {vs : List V} {i : Nat} (h : EvA t σ H vs) (k : ∀ H1, Ex H H1 → sp (vs ++ []) H1 (fun v H2 => tz Dd (σ.set i (some v)) H2) E) : tSeq (tAsg (tCall sp [] E t) (gName i)) tz Dd σ H := h H (Ex.refl H) _ fun H1 e => k H1 e
theorem s_appC {sp : Sp} {E : XK} {t : TA} {vs : List V} {l : Addr} {xs : List V} (hl : H l = some (.lst xs)) (ha : Ev ta σ H (.ref l)) (h : EvA t σ H vs)
    (k : ∀ H1, Ex H H1 → sp (vs ++ []) H1 (fun v H2 => ∃ ys, H2 l = some (.lst ys) ∧ ys.length < 100000 ∧ Dd.nx σ (upd H2 l (.lst (ys ++ [v])))) E) (mono : ∀ H1 Q Q', (∀ v H2, Q v H2 → Q' v H2) → sp (vs ++ []) H1 Q E → sp (vs ++ []) H1 Q' E) :
    tDrop (tBM K "list" rAppend ta (tCons (tCall sp [] E t) tNil)) Dd σ H := ha H (Ex.refl H) _ fun H1 e1 =>
  ⟨Or.inl ⟨rfl, xs, sq_of (e1 l _ hl)⟩, h H1 e1 _ fun H2 e2 => mono H2 _ _ (fun v H3 ⟨ys, h1, h2, h3⟩ => ⟨l, ys, v, rfl, rfl, h1, sz_lt h2, h3⟩) (k H2 (e1.trans e2))⟩
theorem wk_rng1 {ta : TA} {n : Int} (h : EvA ta σ H [.int n]) (hn : -100000 ≤ n ∧ n ≤ 100000) : Wk (iRng1 ta) σ H n.toNat (fun i _ x => x = .int (i : Int)) := fun H1 e R k =>
  h H1 e _ fun H2 e2 => ⟨n, rfl, by omega, by omega, k _ _ _ H2 e2 walk_range (fun _ _ => trivial) fun i H3 x H4 hi e3 y => by
    obtain ⟨e4, hx⟩ := y
    subst e4
    refine ⟨Ex.refl _, ?_⟩
    rw [hx]
    show V.int ((0 : Int) + (i : Int)) = _
    rw [Int.zero_add]⟩
theorem wk_rng2 {ta : TA} {lo n : Int} (h : EvA ta σ H [.int lo, .int n]) (hn : -100000 ≤ lo ∧ lo ≤ 100000 ∧ -100000 ≤ n ∧ n ≤ 100000) : Wk (iRng2 ta) σ H (n - lo).toNat (fun i _ x => x = .int (lo + (i : Int))) := fun H1 e R k =>
  h H1 e _ fun H2 e2 => ⟨lo, n, rfl, ⟨by omega, by omega, by omega, by omega⟩, k _ _ _ H2 e2 walk_range (fun _ _ => trivial) fun i H3 x H4 hi e3 y => by
    obtain ⟨e4, hx⟩ := y
    subst e4
    exact ⟨Ex.refl _, hx⟩⟩
end
theorem call_listQ {X : Cx} : CallR X (.type "list") (rListS X.K) := call_list_of
theorem draw_mono {vs : List V} {H : Hp} {Q Q' : VK} {E : XK} (h : ∀ v H2, Q v H2 → Q' v H2) (s : spDraw vs H Q E) : spDraw vs H Q' E := by
  obtain ⟨a, n, z, h1, h2, h3, h4, h5, k⟩ := s
  exact ⟨a, n, z, h1, h2, h3, h4, h5, fun r z2 H2 a1 a2 a3 a4 a5 => h _ _ (k r z2 H2 a1 a2 a3 a4 a5)⟩
section
variable {K : PySem.W.Frag} {H : Hp} {σ : L2.St} {ta tb t1 t2 te tl : TE} {tz tbd : TS} {Dd : Ends} {x y z : V}
theorem q_callG {g : TG} {sp : Sp} {E : XK} {t : TA} {vs : List V} (h : EvA t σ H vs) (k : ∀ H1, Ex H H1 → sp (vs ++ []) H1 (fun v H2 => g v σ H2 (tz Dd)) E) : tSeq (tAsg (tCall sp [] E t) g) tz Dd σ H := h H (Ex.refl H) _ fun H1 e => k H1 e
theorem pair_names {i j : Nat} {t : Addr} {x y : V} {Q : L2.St → Hp → Prop} (ht : H t = some (.tup [x, y])) (k : Q ((σ.set i (some x)).set j (some y)) H) : gTup K 2 (gCons (gName i) (gCons (gName j) gNil)) (.ref t) σ H Q :=
  ⟨t, [x, y], rfl, st_of ht, rfl, x, [y], rfl, y, [], rfl, rfl, k⟩
theorem s_appV {l : Addr} {xs : List V} {v : V} (hl : H l = some (.lst xs)) (ha : Ev ta σ H (.ref l)) (h : Ev te σ H v) (hz : xs.length < 100000) (k : ∀ H2, Kw l H H2 → H2 l = some (.lst (xs ++ [v])) → Dd.nx σ H2) : tDrop (tBM K "list" rAppend ta (tCons te tNil)) Dd σ H :=
  s_app hl ha h hz fun H1 e => k _ (Kw.upd e) upd_same
theorem q_appV {l : Addr} {xs : List V} {v : V} (hl : H l = some (.lst xs)) (ha : Ev ta σ H (.ref l)) (h : Ev te σ H v) (hz : xs.length < 100000) (k : ∀ H2, Kw l H H2 → H2 l = some (.lst (xs ++ [v])) → tz Dd σ H2) : tSeq (tDrop (tBM K "list" rAppend ta (tCons te tNil))) tz Dd σ H :=
  s_appV (Dd := { Dd with nx := tz Dd }) hl ha h hz k
theorem q_asgLP {Pl : Hp → List V → Prop} {i : Nat} (h : EvLP te σ H Pl) (k : ∀ p xs H1, H p = none → Ex H H1 → H1 p = some (.lst xs) → Pl H1 xs → tz Dd (σ.set i (some (.ref p))) H1) : tSeq (tAsg te (gName i)) tz Dd σ H :=
  h H (Ex.refl H) _ fun p xs H1 hp e hl pl => k p xs H1 hp e hl pl
theorem evp_pair {a b : Int} (h : EvU te σ H [.int a, .int b]) : EvP te σ H (fun H1 v => PrV H1 (a, b) v) := fun H1 e Q q => h H1 e _ fun p H2 _ e2 hp => q _ H2 e2 ⟨p, rfl, hp⟩
theorem el_catV {xs zs : List V} (ha : EvL ta σ H xs) (hb : ∀ H1, Ex H H1 → EvL tb σ H1 zs) (hl : xs.length + zs.length ≤ 100000) : EvL (tOp rCat ta tb) σ H (xs ++ zs) := fun H1 e Q q =>
  ha H1 e _ fun p H2 np e2 hp => hb H2 (e.trans e2) H2 (Ex.refl _) _ fun r H3 nr e3 hr => ⟨p, r, xs, zs, rfl, rfl, e3 _ _ hp, hr, sz_of hl, fun u nu => q u _ (fresh_back (e2.trans e3) nu) ((e2.trans e3).trans (Ex.new nu)) upd_same⟩
theorem q_asgPick {sp : Sp} {E : XK} {x : V} {xs : List V} {i : Nat} (h1 : Ev t1 σ H x) (h2 : EvL t2 σ H xs) (k : ∀ p H1, H p = none → Ex H H1 → H1 p = some (.lst xs) → sp ([x, .ref p] ++ []) H1 (fun v H2 => tz Dd (σ.set i (some v)) H2) E) :
    tSeq (tAsg (tCall sp [] E (tCons t1 (tCons t2 tNil))) (gName i)) tz Dd σ H := h1 H (Ex.refl H) _ fun H1 e1 => h2 H1 e1 _ fun p H2 np e2 hp => k p H2 (fresh_back e1 np) (e1.trans e2) hp
theorem q_forDraw {t : TA} {j : Nat} {vs : List V} {c : Int} {E : XK} (h : EvA t σ H vs) (k : ∀ H1, Ex H H1 → spDraw (vs ++ []) H1 (fun v H2 => ∃ r : Int, v = .int r ∧ tSeq (tFor (iRng1 (tCons (tC (.int (c + r))) tNil)) (gName j) tbd) tz Dd σ H2) E) :
    tSeq (tFor (iRng1 (tCons (tOp (rI0 fun i j => .int (i + j)) (tC (.int c)) (tCall spDraw [] E t)) tNil)) (gName j) tbd) tz Dd σ H :=
  h H (Ex.refl H) _ fun H1 e => draw_mono (fun v H2 ⟨r, rv, n, en, b1, b2, q⟩ => by
    cases en
    exact ⟨c, r, rfl, rv, c + r, rfl, b1, b2, q⟩) (k H1 e)
theorem q_tupC {t : TA} {i : Nat} {vs : List V} {x : V} {E : XK} (h : EvA t σ H vs) (h2 : ∀ H1, Ev t2 σ H1 x) (k : ∀ H1, Ex H H1 → spDraw (vs ++ []) H1 (fun v H2 => ∀ p H3, H2 p = none → Ex H2 H3 → H3 p = some (.tup [v, x]) → tz Dd (σ.set i (some (.ref p))) H3) E) :
    tSeq (tAsg (tTup (tCons (tCall spDraw [] E t) (tCons t2 tNil))) (gName i)) tz Dd σ H :=
  h H (Ex.refl H) _ fun H1 e => draw_mono (fun v H2 q => h2 H2 H2 (Ex.refl _) _ fun H3 e3 => ⟨sz_of (by simp), fun p np => q p _ (fresh_back e3 np) (e3.trans (Ex.new np)) upd_same⟩) (k H1 e)
theorem rv_isN {v : V} : RV rIsN v .non H (.bl (decide (v = .non))) := rv_val fun H1 e Q q => ⟨rfl, q⟩
theorem s_asgLP {Pl : Hp → List V → Prop} {i : Nat} (h : EvLP te σ H Pl) (k : ∀ p xs H1, H p = none → Ex H H1 → H1 p = some (.lst xs) → Pl H1 xs → Dd.nx (σ.set i (some (.ref p))) H1) : tAsg te (gName i) Dd σ H := h H (Ex.refl H) _ fun p xs H1 hp e hl pl => k p xs H1 hp e hl pl
theorem q_unp {g : TG} {v : V} (h : Ev te σ H v) (k : ∀ H1, Ex H H1 → g v σ H1 (tz Dd)) : tSeq (tAsg te g) tz Dd σ H := h H (Ex.refl H) _ fun H1 e => k H1 e
theorem ev_ixT0 {t : Addr} {x y : V} (h : Ev te σ H (.ref t)) (ht : H t = some (.tup [x, y])) : Ev (tOp (rIxT K) te (tC (.int 0))) σ H x := ev_op h ev_c (rv_ixT (st_of ht) (atI_nat (j := 0) rfl))
theorem ev_ixT1 {t : Addr} {x y : V} (h : Ev te σ H (.ref t)) (ht : H t = some (.tup [x, y])) : Ev (tOp (rIxT K) te (tC (.int 1))) σ H y := ev_op h ev_c (rv_ixT (st_of ht) (atI_nat (j := 1) rfl))
/-- return (a, b), b a new list -/
theorem s_retPL {P1 : Hp → V → Prop} {P2 : Hp → List V → Prop} (h1 : EvP t1 σ H P1) (h2 : ∀ H1, Ex H H1 → EvLP t2 σ H1 P2) (k : ∀ t v m ys H0 H1, Ex H H0 → P1 H0 v → Ex H0 H1 → H m = none → H1 t = some (.tup [v, .ref m]) → H1 m = some (.lst ys) → (∃ H9, P2 H9 ys ∧ Ex H9 H1) → Dd.rt (.ref t) H1) :
    tRet (tTup (tCons t1 (tCons t2 tNil))) Dd σ H :=
  h1 H (Ex.refl _) _ fun v H0 e0 p1 => h2 H0 e0 H0 (Ex.refl _) _ fun m ys H1 nm e1 hm p2 => ⟨sz_of (by simp), fun t nt => k t v m ys H0 _ e0 p1 (e1.trans (Ex.new nt)) (fresh_back e0 nm) upd_same ((Ex.new nt) _ _ hm) ⟨H1, p2, Ex.new nt⟩⟩
end
theorem evp_ofL {te : TE} {σ : L2.St} {H : Hp} {Pl : Hp → List V → Prop} (h : EvLP te σ H Pl) : EvP te σ H (fun H9 v => ∃ l us, v = .ref l ∧ H l = none ∧ H9 l = some (.lst us) ∧ Pl H9 us) := fun H1 e Q q =>
  h H1 e _ fun p xs H2 nn e2 hp pl => q (.ref p) H2 e2 ⟨p, xs, rfl, fresh_back e nn, hp, pl⟩
theorem raw_call {sp : Sp} {E : XK} {t : TA} {vs : List V} {σ : L2.St} {H : Hp} {Q : VK} (h : EvA t σ H vs) (k : ∀ H1, Ex H H1 → sp (vs ++ []) H1 Q E) : tCall sp [] E t σ H Q := h H (Ex.refl H) _ fun H1 e => k H1 e
end K4
/-! The errors: LoopError.__init__, BadValue.__init__, raise BadValue(..). -/
namespace K4
open PySem L2 Evl PySem.Spec PyProof.Rows
/-- C.m(self, ..), m a def of the class at C, read off the class -/
def tCFn (C : Addr) (sp : Sp) (dvs : List V) (E : XK) (ta : TE) (t : TA) : TE := fun σ H Q => ta σ H fun x H1 => x = .ref C ∧ t σ H1 fun vs H2 => sp (vs ++ dvs) H2 Q E
theorem pe_clsfn {X : Cx} {CX : CXT} {k : Nat} {C g : Addr} {mc : Value} {fd : FuncData} {ps : List Str} {sp : Sp} {E : XK} {dvs : List V} {ds : List Value} {o e : Expr} {es : List Expr} {m : Str} {pos apos : Pos} {ta : TE} {t : TA} {pl : Sem Bool}
    (he : PE X o ta) (r : ClX.CRead X.K C mc) (c : ClX.CVal X.K C mc m (.ref g) (.ref g)) (F : FnOk X.prog X.w X.K X.mg X.base CX k g fd ps sp) (hr : Room k X.A) (hk : PySem.W.keepIn X.K (.ref g) = true) (hb : Binds X.K fd ps ds) (hd : Vals dvs ds) (hx : Passes CX X E) (ha : PA X (e :: es) t)
    (hst : starEach (e :: es) X.env = (false, eval e X.env) :: starEach es X.env := by rfl) (hpl : (backTo pos (starEach es X.env)).any (·.1) = false := by rfl)
    (ht : eval (.Call (.Attribute o m apos) (e :: es) [] pos) X.env = (do
      let ov ← eval o X.env
      standAt apos.atName
      let (f, first) ← holding [ov] (getMethod ov m pl)
      callWith pos f first (backTo pos (starEach (e :: es) X.env)) (backToKw pos (keywordEach [] X.env))) := by rfl) :
    PE X (.Call (.Attribute o m apos) (e :: es) [] pos) (tCFn C sp dvs E ta t) := by
  refine ⟨fun pins s σ H Q I h => ?_⟩
  refine PySem.W.methodCall_KW (pl := pl) (thn (he.run pins s σ H _ I h) fun u s1 ⟨x, H1, I1, rx, ex, q⟩ => ?_) ht
  subst ex
  obtain rfl : u = Value.ref C := rx
  refine PySem.W.method_cls I1.kIn r.ga (ClX.getcval_ok I1 r c fun s2 I2 => ?_)
  refine PySem.W.callWith_K (h₀ := X.base) I2.ok.mod.kin hk (thn (ha.run pos pins s2 σ H1 _ I2 q) fun us s3 ⟨vs, H2, I3, r3, q3⟩ => ⟨I3.kIn, ?_⟩) hst hpl
  exact run_fn F hr hb hd hx I3 r3 q3
abbrev FD (K : PySem.W.Frag) (x qual : Str) (st : Stmt) (dvs : List V) (kws : List (Str × V)) (f : Addr) (fd : FuncData) : Prop := FunD K x qual (defArgs st) (defBody st) (defScope st) dvs kws f fd
def sLE : Stmt := inClass (top 1) 0
def sBV : Stmt := inClass (top 3) 0
/-- what the top says of the two classes of errors -/
structure Ers (K : PySem.W.Frag) (mg : Str → Option Value) (C : Addr) : Prop where
  m_BadValue : mg "BadValue" = some (.ref C)
  T : OexC K C
  why : PySem.W.findIn K (.ref C) "why" = some none
  ini : ∃ f fd d, PySem.W.findIn K (.ref C) "__init__" = some (some (.ref f)) ∧ PySem.W.typeIn K (.ref f) = some (.type "function") ∧ FD K "__init__" "BadValue.__init__" sBV [d] [] f fd
  base : ∃ L f fd d, mg "LoopError" = some (.ref L) ∧ PySem.W.keepIn K (.ref L) = true ∧ ClX.CRead K L (.type "type") ∧ ClX.CVal K L (.type "type") "__init__" (.ref f) (.ref f) ∧ PySem.W.keepIn K (.ref f) = true ∧ FD K "__init__" "LoopError.__init__" sLE [d] [] f fd
def spLE (K : PySem.W.Frag) : Sp := fun vs H Q _ => ∃ a C y, vs = [.ref a, y] ∧ OexC K C ∧ PySem.W.findIn K (.ref C) "why" = some none ∧ H a = some (exo a C none) ∧ ∀ dx, H dx = none → dx ≠ a → Q .non (upd (upd H dx (exd dx [("why", y)])) a (exo a C (some dx)))
def spBV (K : PySem.W.Frag) (C : Addr) : Sp := fun vs H Q _ => ∃ a y, vs = [.ref a, y] ∧ H a = some (exo a C none) ∧ ∀ dx z, H dx = none → dx ≠ a → Q .non (upd (upd H dx (exd dx [("why", z)])) a (exo a C (some dx)))
section
variable {P : Program} {w : World} {K : PySem.W.Frag} {mg : Str → Option Value} {base : Heap}
theorem bind2 {x qual y z : Str} {st : Stmt} {f : Addr} {fd : FuncData} {d : V} (F : FD K x qual st [d] [] f fd)
    (h : ∀ (T : Addr) (kV doc pm : Value) (an : Option Addr) (cdv ct : Value) (us its : List Value), us.length = 2 → its.length = 1 →
      ∃ k, bindArgs (PySem.W.fnOf x qual (defArgs st) (defBody st) (defScope st) (.ref T) kV doc pm an cdv ct) ⟨us, []⟩ = seqItems? (.ref T) >>= k ∧ k (some its.toArray) = pure (([y, z] : List Str).zip (us ++ its.drop 1)) := by
        exact fun T kV doc pm an cdv ct us its h1 h2 => match us, its, h1, h2 with | [_, _], [_], _, _ => ⟨_, rfl, rfl⟩) : Binds K fd [y, z] [] := by
  obtain ⟨ds, v, b⟩ := FunD.binds1 F (ps := [y, z]) 2 1 (by simp) rfl h
  cases v
  exact b
theorem scLE : FnScope ["self", "why"] ["self", "why"] (defScope sLE) := ⟨rfl, rfl, rfl, by decide +kernel, rfl, by decide +kernel, by decide +kernel⟩
theorem ok_LE {f : Addr} {fd : FuncData} {d : V} (F : FD K "__init__" "LoopError.__init__" sLE [d] [] f fd) : FnOk P w K mg base CX0 1 f fd ["self", "why"] (spLE K) := by
  refine F.ok scLE (fun vs H Q E h => ?_) (fun cdv A outer s H vs Q E hr h => ?_)
  · obtain ⟨a, C, y, rfl, _⟩ := h
    rfl
  · obtain ⟨a, C, y, rfl, T, hw, ha, k⟩ := h
    refine ⟨_, pss_one (ps_ost (pv 0) (pv 1)), ?_⟩
    exact ⟨_, rfl, _, rfl, a, C, rfl, T, hw, .inl ⟨ha, fun dx h1 h2 => k dx h1 h2⟩⟩
theorem scBV : FnScope ["self", "why"] ["self", "why"] (defScope sBV) := ⟨rfl, rfl, rfl, by decide +kernel, rfl, by decide +kernel, by decide +kernel⟩
theorem ok_BV {C f : Addr} {fd : FuncData} {d : V} (R : Ers K mg C) (F : FD K "__init__" "BadValue.__init__" sBV [d] [] f fd) : FnOk P w K mg base CX0 2 f fd ["self", "why"] (spBV K C) := by
  obtain ⟨L, g, gd, d2, mL, kL, rL, cL, kG, FL⟩ := R.base
  have GL : FnOk P w K mg base CX0 1 g gd ["self", "why"] (spLE K) := ok_LE FL
  refine F.ok scBV (fun vs H Q E h => ?_) (fun cdv A outer s H vs Q E hr h => ?_)
  · obtain ⟨a, y, rfl, _⟩ := h
    rfl
  · obtain ⟨a, y, rfl, ha, k⟩ := h
    have bL : Binds K gd ["self", "why"] [] := bind2 FL
    refine ⟨_, pss_one (ps_expr (pe_clsfn (E := E0) (pe_glob (v := .ref L) (by rfl) mL rfl) rL cL GL (hr.mono (by decide)) kG bL .nil pass0 (pa_cons (pv 0) (pa_cons (pv 1) pa_nil)))), ?_⟩
    refine ⟨rfl, _, rfl, _, rfl, ?_⟩
    refine ⟨a, C, _, rfl, R.T, R.why, ha, fun dx h1 h2 => ?_⟩
    exact k dx _ h1 h2
theorem s_mkBad {C : Addr} {σ : L2.St} {H : Hp} {te : TE} {Pp : Hp → V → Prop} {Q : XK} (h : EvP te σ H Pp)
    (k : ∀ d z H1 H2, Ex H H1 → Ex H1 H2 → H2 d = some (.xd [("why", z)]) → Q (.ref C) (some d) H2) : tMkO C (spBV K C) [] (tCons te tNil) σ H Q :=
  h H (Ex.refl H) _ fun y H1 e p => ⟨(by simp : ([y] : List V).length ≤ 1000), fun a ha => ⟨a, y, rfl, upd_same, fun dx z h1 h2 => by
    have h1' : H1 dx = none := by rw [upd_ne h2] at h1; exact h1
    refine ⟨rfl, dx, _, ?_, (upd_ne h2).trans upd_same, h1', k dx z H1 _ e (fun b o hb => ?_) upd_same⟩
    · exact upd_same
    · have na : b ≠ a := ne_of_none hb ha
      have nd : b ≠ dx := ne_of_none hb h1'
      rw [upd_ne nd, del_ne na, upd_ne na, upd_ne nd, upd_ne na]
      exact hb⟩⟩
/-- what is wanted when BadValue(..) leaves -/
def Bad (C : Addr) (H : Hp) (E : XK) : Prop := ∀ d z H2, Ex H H2 → H2 d = some (.xd [("why", z)]) → E (.ref C) (some d) H2
theorem Bad.mono {C : Addr} {H H' : Hp} {E : XK} (e : Ex H H') (h : Bad C H E) : Bad C H' E := fun d z H2 e2 => h d z H2 (e.trans e2)
theorem s_bad {C : Addr} {σ : L2.St} {H : Hp} {te : TE} {v : V} {E : XK} (h : Ev te σ H v) (b : Bad C H E) : tMkO C (spBV K C) [] (tCons te tNil) σ H E :=
  s_mkBad (evp (P := fun _ _ => True) h fun _ _ => trivial) fun d z H1 H2 e e2 q => b d z H2 (e.trans e2) q
/-- the rule for raise BadValue(e) -/
theorem ps_bad {C fB : Addr} {dB : FuncData} {X : Cx} {W : WX} {e : Expr} {te : TE} {p pos pos2 : Pos} (hc : X.calm = true) (R : Ers X.K X.mg C) (G : FnOk X.prog X.w X.K X.mg X.base CX0 2 fB dB ["self", "why"] (spBV X.K C)) (b : Binds X.K dB ["self", "why"] [])
    (iC : PySem.W.findIn X.K (.ref C) "__init__" = some (some (.ref fB))) (tI : PySem.W.typeIn X.K (.ref fB) = some (.type "function")) (hr : Room 3 X.A) (tk : Takes X W) (he : PE X e te) (hg : Gl X "BadValue")
    (hst : starEach (e :: []) X.env = (false, eval e X.env) :: starEach [] X.env := by rfl) (hpl : (backTo pos (starEach [] X.env)).any (·.1) = false := by rfl) :
    PS X (.Raise (some (.Call (.Name "BadValue" p) [e] [] pos)) none pos2) (fun _ σ H => tMkO C (spBV X.K C) [] (tCons te tNil) σ H fun cls d H' => W cls d σ H') :=
  ps_raise hc tk (pmk_oex R.T iC tI G hr b .nil (fun _ _ _ _ _ _ _ h => h.elim) hg R.m_BadValue (pa_cons he pa_nil hst) (by decide) hst hpl)
structure Errs (P : Program) (w : World) (K : PySem.W.Frag) (mg : Str → Option Value) (base : Heap) (C fB : Addr) (dB : FuncData) : Prop where
  R : Ers K mg C
  G : FnOk P w K mg base CX0 2 fB dB ["self", "why"] (spBV K C)
  b : Binds K dB ["self", "why"] []
  iC : PySem.W.findIn K (.ref C) "__init__" = some (some (.ref fB))
  tI : PySem.W.typeIn K (.ref fB) = some (.type "function")
theorem errs {C : Addr} (R : Ers K mg C) : ∃ fB dB, Errs P w K mg base C fB dB := by
  obtain ⟨f, fd, d, i, t, F⟩ := R.ini
  exact ⟨f, fd, R, ok_BV R F, bind2 F, i, t⟩
end
/-- a def that may raise -/
theorem Df.okX {P : Program} {w : World} {K : PySem.W.Frag} {mg : Str → Option Value} {base : Heap} {nm : Str} {st : Stmt} {N ps : List Str} {k : Nat} {sp : Sp} (F : Df K mg nm st ps) (S : FnScope N ps (defScope st)) (len : ∀ vs H Q E, sp vs H Q E → vs.length = ps.length)
    (hbody : ∀ (f : Addr) (cdv : Value) (A : Around) (outer : List Env) (s : Shared) (H : Hp) (vs : List V) (Q : VK) (E : XK), Room k (A.deeper (envOfC nm (defScope st) s.heap.objs.size f cdv)) → sp vs H Q E →
      ∃ t, PSs (cxOf (L2.CX P w) P w K mg base N nm (defScope st) f cdv A outer s H E) (defBody st) t ∧ t { nx := fun _ H' => Q .non H', rt := Q } (start N vs) H) : Okd P w K mg base (L2.CX P w) (k + 1) nm ps sp := by
  obtain ⟨f, fd, h1, h2, h3⟩ := F.ex
  exact ⟨f, fd, h1, h3.kp, h2, h3.okX S len (hbody f)⟩
end K4
/-! is_whole, is_entry of any datum; check_rows, check_whole, check_swept, which may raise. -/
namespace K4
open PySem L2 Evl PySem.Spec PyProof.Rows
def isWh : D → Bool | .int _ => true | _ => false
def isEn : D → Bool | .tup [a, b] => isWh a && isWh b | _ => false
def isLst : D → Bool | .lst => true | _ => false
def PD2 (d : P) : D := .tup [.int d.1, .int d.2]
theorem PrV.rp {K : PySem.W.Frag} {H : Hp} {d : P} {v : V} (h : PrV H d v) : Rp K H (PD2 d) v := by
  obtain ⟨a, rfl, h2⟩ := h
  exact .tup h2 (.cons (.int _) (.cons (.int _) .nil))
theorem Prs.rps {K : PySem.W.Frag} {H : Hp} : ∀ {ds : List P} {vs : List V}, Prs H ds vs → Rps K H (ds.map PD2) vs
  | _, _, .nil => .nil
  | _, _, .cons q t => .cons q.rp (Prs.rps t)
theorem isWh_eq (d : D) : (isIn d && !(isBl d)) = isWh d := by cases d <;> rfl
section
variable {K : PySem.W.Frag} {H : Hp} {σ : L2.St} {ta te tl : TE} {tz : TS} {Dd : Ends} {v z : V}
def inT2 : Tg → Bool | .tup => true | .lst => true | _ => false
theorem kitT_lst (t : Tg) : kitB (tyT t) "list" = some (match t with | .lst => true | _ => false) := by cases t <;> decide +kernel
theorem kit_lst (d : D) : kitB (tyD d) "list" = some (isLst d) := by
  rw [ty_eq, kitT_lst]
  cases d <;> rfl
theorem ev_isi2 {d : D} (hd : Rp K H d v) (ha : Ev ta σ H v) : Ev (tCB (rIsiT K) (tCons ta (tCons (tTup (tCons (tC (.ty "tuple")) (tCons (tC (.ty "list")) tNil))) tNil))) σ H (.bl (isTup d || isLst d)) := fun H1 e Q q =>
  ha H1 e _ fun H2 e2 => ⟨sz_of (by simp), fun p np => ⟨v, p, [.ty "tuple", .ty "list"], _, [.type "tuple", .type "list"], _, rfl, upd_same, .cons (.ty "tuple") (.cons (.ty "list") .nil), (hd.mono ((e.trans e2).trans (Ex.new np))).ty,
    kitAny_cons (kit_ty (kit_tup d)) (fun h => kitAny_cons (kit_ty (kit_lst d)) (fun h2 => by rw [h, h2]; exact kitAny_nil) fun h2 => by rw [h2, Bool.or_true]) fun h => by (rw [h]; rfl), q _ (e2.trans (Ex.new np))⟩⟩
/-- a walk over a list or a tuple -/
def iSeq (K : PySem.W.Frag) (te : TE) : TI := fun σ H R => iList K te σ H R ∨ iTup K te σ H R
theorem pi_seq {X : Cx} {tg l : Expr} (hl : PE X l tl) : PI X tg l (iSeq X.K tl) :=
  ⟨fun pins s σ H R I h => h.elim (fun h => (pi_list hl).run pins s σ H R I h) (fun h => (pi_tup hl).run pins s σ H R I h)⟩
/-- a list or a tuple of vs -/
def SqA (H : Hp) (p : Addr) (vs : List V) : Prop := H p = some (.lst vs) ∨ H p = some (.tup vs)
theorem SqA.ex {H H2 : Hp} {p : Addr} {vs : List V} (e : Ex H H2) (h : SqA H p vs) : SqA H2 p vs := h.imp (e _ _) (e _ _)
theorem wk_seq {p : Addr} {xs : List V} (h : Ev tl σ H (.ref p)) (hs : SqA H p xs) : Wk (iSeq K tl) σ H xs.length (fun i _ x => xs[i]? = some x) := by
  rcases hs with hs | hs
  · exact fun H1 e R k => .inl (wk_lst h hs H1 e R k)
  · exact fun H1 e R k => .inr (h H1 e _ fun H2 e2 => ⟨p, rfl, ⟨xs, st_of (e2 _ _ (e _ _ hs))⟩, k _ _ _ H2 e2 walk_tup (fun H3 e3 => st_of (e3 _ _ (e2 _ _ (e _ _ hs)))) fun i H3 x H4 hi e3 y => by
      obtain ⟨e4, hx⟩ := y
      subst e4
      exact ⟨Ex.refl _, hx⟩⟩)
/-- all(test of x for x in ..): a walk over data -/
theorem ev_allW {wi : TI} {j : Nat} {vs : List Nat} {xs : List V} {ds : List D} {f : D → Bool} (W : Wk wi σ H xs.length (fun i _ x => xs[i]? = some x)) (r : Rps K H ds xs) (hn : ds.length ≤ 40000) (hw : ∀ x, wipe ((wipe σ vs).set j (some x)) vs = wipe σ vs)
    (he : ∀ d x H1, d ∈ ds → Ex H H1 → Rp K H1 d x → Ev te ((wipe σ vs).set j (some x)) H1 (.bl (f d))) : Ev (tCB (rAll K) (tCons (tLc wi (gName j) tYes te vs) tNil)) σ H (.bl (ds.all f)) := by
  have e : ds.all f = ((List.range xs.length).map fun i => match ds[i]? with | some d => f d | none => true).all id := by
    rw [r.len]
    exact (all_range_list fun i d h => by rw [h]).symm
  rw [e]
  refine ev_allB (el_lcB _ W (by rw [r.len]; exact hn) hw fun i x H1 hi e px => ?_)
  obtain ⟨d, h1, h2⟩ := r.at_ px
  show Ev _ _ _ (.bl (match ds[i]? with | some d => f d | none => true))
  rw [h1]
  exact he d x H1 (List.mem_of_getElem? h1) e (h2.mono e)
theorem q_callDrop {sp : Sp} {t : TA} {vs dvs : List V} {E : XK} (h : EvA t σ H vs) (k : ∀ H1, Ex H H1 → sp (vs ++ dvs) H1 (fun _ H2 => tz Dd σ H2) E) : tSeq (tDrop (tCall sp dvs E t)) tz Dd σ H := h H (Ex.refl H) _ fun H1 e => k H1 e
theorem Rp.ofTup {vs : List D} {v : V} (r : Rp K H (.tup vs) v) : ∃ a us, v = .ref a ∧ H a = some (.tup us) ∧ Rps K H vs us := by
  cases r with
  | tup h rs => exact ⟨_, _, rfl, h, rs⟩
end
/-- a list of data -/
def LsD (K : PySem.W.Frag) (H : Hp) (ds : List D) (v : V) : Prop := ∃ p vs, v = .ref p ∧ H p = some (.lst vs) ∧ Rps K H ds vs
/-- a list or a tuple of data -/
def SqD (K : PySem.W.Frag) (H : Hp) (ds : List D) (v : V) : Prop := ∃ p vs, v = .ref p ∧ SqA H p vs ∧ Rps K H ds vs
theorem LsD.ex {K : PySem.W.Frag} {H H2 : Hp} {ds : List D} {v : V} (e : Ex H H2) (h : LsD K H ds v) : LsD K H2 ds v := by
  obtain ⟨p, vs, h1, h2, h3⟩ := h
  exact ⟨p, vs, h1, e _ _ h2, h3.mono e⟩
theorem SqD.ex {K : PySem.W.Frag} {H H2 : Hp} {ds : List D} {v : V} (e : Ex H H2) (h : SqD K H ds v) : SqD K H2 ds v := by
  obtain ⟨p, vs, h1, h2, h3⟩ := h
  exact ⟨p, vs, h1, h2.ex e, h3.mono e⟩
theorem IsL.lsd {K : PySem.W.Frag} {H : Hp} {ds : List P} {v : V} (h : IsL ds H v) : LsD K H (ds.map PD2) v := by
  obtain ⟨p, vs, h1, h2, h3⟩ := h
  exact ⟨p, vs, h1, h2, h3.rps⟩
def okRows (ds : List D) : Bool := decide (ds.length ≤ 5000) && ds.all isEn
theorem okRows_pairs {ds : List P} (h : ds.length ≤ 5000) : okRows (ds.map PD2) = true := by
  unfold okRows
  rw [List.length_map, decide_eq_true h, List.all_map, Bool.true_and, List.all_eq_true]
  intro d _
  rfl
/-- what check_rows, check_whole, check_swept take and refuse -/
def RowsIn (K : PySem.W.Frag) (C : Addr) (z : V) (H : Hp) (E : XK) (G : Prop) : Prop := (∃ d, Rp K H d z ∧ isLst d = false ∧ Bad C H E) ∨ ∃ ds, LsD K H ds z ∧ ds.length ≤ 20000 ∧ (okRows ds = true → G) ∧ (okRows ds = false → Bad C H E)
def WhIn (K : PySem.W.Frag) (C : Addr) (z : V) (H : Hp) (E : XK) (G : Int → Prop) : Prop := ∃ d, Rp K H d z ∧ (isWh d = false → Bad C H E) ∧ ∀ i, d = .int i → G i
def GoneIn (K : PySem.W.Frag) (C : Addr) (g : V) (H : Hp) (E : XK) (G : Prop) : Prop := (∃ d, Rp K H d g ∧ (isTup d || isLst d) = false ∧ Bad C H E) ∨ ∃ ds, SqD K H ds g ∧ ds.length ≤ 20000 ∧ (ds.all isWh = true → G) ∧ (ds.all isWh = false → Bad C H E)
def CntIn (K : PySem.W.Frag) (C : Addr) (c : V) (H : Hp) (E : XK) (G : Prop) : Prop := WhIn K C c H E fun i => (i < 0 → Bad C H E) ∧ (0 ≤ i → G)
def spChk (K : PySem.W.Frag) (C : Addr) : Sp := fun args H Q E => ∃ z, args = [z] ∧ RowsIn K C z H E (RetV .non H Q)
def spChkI (K : PySem.W.Frag) (C : Addr) : Sp := fun args H Q E => ∃ z, args = [z] ∧ WhIn K C z H E fun _ => RetV .non H Q
def spChkS (K : PySem.W.Frag) (C : Addr) : Sp := fun args H Q E => ∃ g c, args = [g, c] ∧ GoneIn K C g H E (CntIn K C c H E (RetV .non H Q))
theorem RowsIn.ex {K : PySem.W.Frag} {C : Addr} {z : V} {H H2 : Hp} {E : XK} {G G2 : Prop} (e : Ex H H2) (h : RowsIn K C z H E G) (k : G → G2) : RowsIn K C z H2 E G2 :=
  h.imp (fun ⟨d, r, h1, b⟩ => ⟨d, r.mono e, h1, b.mono e⟩) fun ⟨ds, l, h1, h2, h3⟩ => ⟨ds, l.ex e, h1, fun h => k (h2 h), fun h => (h3 h).mono e⟩
theorem WhIn.ex {K : PySem.W.Frag} {C : Addr} {z : V} {H H2 : Hp} {E : XK} {G G2 : Int → Prop} (e : Ex H H2) (h : WhIn K C z H E G) (k : ∀ i, G i → G2 i) : WhIn K C z H2 E G2 := by
  obtain ⟨d, r, h1, h2⟩ := h
  exact ⟨d, r.mono e, fun h => (h1 h).mono e, fun i hi => k i (h2 i hi)⟩
theorem GoneIn.ex {K : PySem.W.Frag} {C : Addr} {z : V} {H H2 : Hp} {E : XK} {G G2 : Prop} (e : Ex H H2) (h : GoneIn K C z H E G) (k : G → G2) : GoneIn K C z H2 E G2 :=
  h.imp (fun ⟨d, r, h1, b⟩ => ⟨d, r.mono e, h1, b.mono e⟩) fun ⟨ds, l, h1, h2, h3⟩ => ⟨ds, l.ex e, h1, fun h => k (h2 h), fun h => (h3 h).mono e⟩
section
variable {P : Program} {w : World} {K : PySem.W.Frag} {mg : Str → Option Value} {base : Heap} {C fB : Addr} {dB : FuncData}
theorem sc15 : FnScope ["value"] ["value"] (defScope (top 15)) := ⟨rfl, rfl, rfl, by decide +kernel, rfl, by decide +kernel, by decide +kernel⟩
theorem ok_whole (B : Bm mg) (F : Df K mg "is_whole" (top 15) ["value"]) : Okd P w K mg base CX0 1 "is_whole" ["value"] (spB1 K (fun _ => True) isWh) := by
  refine F.ok sc15 (fun vs H Q E h => spB1_len h) (fun f cdv A outer s H vs Q E hr h => ?_)
  obtain ⟨d, v, rfl, r, _, k⟩ := h
  refine ⟨_, (pss_one (ps_ret (pe_and (pe_callB call_isi (by rfl) B.isinstance boot_isinstance (pa_cons (pv 0) (pa_cons (pe_bltn (v := .ty "int") (by rfl) B.int boot_int rfl) pa_nil))) (pe_one (pe_not (pe_callB call_isi (by rfl) B.isinstance boot_isinstance (pa_cons (pv 0) (pa_cons (pe_bltn (v := .ty "bool") (by rfl) B.bool boot_bool rfl) pa_nil)))))))), ?_⟩
  exact s_ret (ev_is (ev_andV (ev_isi r (ev_var rfl) (kit_in _)) (fun _ => ev_notV (ev_isi r (ev_var rfl) (kit_bl _)))) (by rw [isWh_eq])) fun H1 e => k H1 e
theorem sc18 : FnScope ["entry"] ["entry"] (defScope (top 18)) := ⟨rfl, rfl, rfl, by decide +kernel, rfl, by decide +kernel, by decide +kernel⟩
theorem ok_entry (B : Bm mg) (F : Df K mg "is_entry" (top 18) ["entry"]) (O : Okd P w K mg base CX0 1 "is_whole" ["value"] (spB1 K (fun _ => True) isWh)) : Okd P w K mg base CX0 2 "is_entry" ["entry"] (spB1 K (fun _ => True) isEn) := by
  refine F.ok sc18 (fun vs H Q E h => spB1_len h) (fun f cdv A outer s H vs Q E hr h => ?_)
  obtain ⟨d, v, rfl, r, _, k⟩ := h
  obtain ⟨f_is_whole, d_is_whole, m_is_whole, k_is_whole, b_is_whole, G_is_whole⟩ := O.ex
  refine ⟨_, (pss_one (ps_ret (pe_and (pe_callB call_isi (by rfl) B.isinstance boot_isinstance (pa_cons (pv 0) (pa_cons (pe_bltn (v := .ty "tuple") (by rfl) B.tuple boot_tuple rfl) pa_nil))) (pe_and (pe_cmpR op_eq (pe_callB call_lenQ (by rfl) B.len PySem.boot_len (pa_cons (pv 0) pa_nil)) pe_int (nomark _)) (pe_and (pe_call G_is_whole (hr.mono (by first | decide | omega)) (by rfl) m_is_whole k_is_whole b_is_whole .nil pass0 (pa_cons (pe_ix ix_tup (pv 0) pe_int (fun _ _ => rfl)) pa_nil)) (pe_one (pe_call G_is_whole (hr.mono (by first | decide | omega)) (by rfl) m_is_whole k_is_whole b_is_whole .nil pass0 (pa_cons (pe_ix ix_tup (pv 0) pe_int (fun _ _ => rfl)) pa_nil)))))))), ?_⟩
  by_cases ht : isTup d = true
  · obtain ⟨ds, rfl⟩ : ∃ ds, d = .tup ds := by
      cases d <;> first | exact ⟨_, rfl⟩ | cases ht
    have hr2 := r
    obtain ⟨a, us, rfl, ha, rs⟩ := r.ofTup
    have hlen := rs.len
    refine s_ret (ev_is (ev_andV (b := decide (us.length = 2) && (isWh (ds.getD 0 .non) && isWh (ds.getD 1 .non))) (ev_isi hr2 (ev_var rfl) (kit_tup _)) fun _ => ev_andV (a := decide (us.length = 2)) (b := isWh (ds.getD 0 .non) && isWh (ds.getD 1 .non)) (ev_is (ev_op (ev_lenT (ev_var rfl) (st_of ha)) ev_c (rv_eq rfl)) (by congr 1; simp; omega)) fun h2 => ?_) (w := .bl (isEn (.tup ds))) ?_) fun H1 e => k H1 e
    · have h2 : us.length = 2 := of_decide_eq_true h2
      obtain ⟨u1, u2, rfl⟩ : ∃ u1 u2, us = [u1, u2] := by
        match us, h2 with
        | [u1, u2], _ => exact ⟨u1, u2, rfl⟩
      cases rs with
      | cons r1 t => cases t with
        | cons r2 t2 =>
        cases t2
        exact ev_andV (ev_call (ea_cons (ev_op (ev_var rfl) ev_c (rv_ixT (st_of ha) (atI_nat (j := 0) rfl))) ea_nil) (spB1_v r1 trivial)) fun _ => ev_call (ea_cons (ev_op (ev_var rfl) ev_c (rv_ixT (st_of ha) (atI_nat (j := 1) rfl))) ea_nil) (spB1_v r2 trivial)
    · congr 1
      rw [hlen]
      match ds with
      | [] => rfl
      | [_] => rfl
      | [_, _] => rfl
      | _ :: _ :: _ :: l =>
        show (true && (decide (l.length + 3 = 2) && _)) = false
        rw [decide_eq_false (by omega)]
        rfl
  · have ht' : isTup d = false := by simpa using ht
    refine s_ret (ev_is (ev_andV (b := false) (ev_isi r (ev_var rfl) (kit_tup _)) fun h => by rw [ht'] at h; cases h) (w := .bl (isEn d)) ?_) fun H1 e => k H1 e
    rw [ht']
    congr 1
    cases d <;> first | rfl | cases ht'
theorem sc19 : FnScope ["rows", "entry"] ["rows"] (defScope (top 19)) := ⟨rfl, rfl, rfl, by decide +kernel, rfl, by decide +kernel, by decide +kernel⟩
theorem ok_chk (B : Bm mg) (Cn : Cn mg) (ER : Errs P w K mg base C fB dB) (F : Df K mg "check_rows" (top 19) ["rows"]) (O : Okd P w K mg base CX0 2 "is_entry" ["entry"] (spB1 K (fun _ => True) isEn)) : Okd P w K mg base (L2.CX P w) 4 "check_rows" ["rows"] (spChk K C) := by
  refine F.okX sc19 (fun vs H Q E h => by obtain ⟨_, rfl, _⟩ := h; rfl) (fun f cdv A outer s H vs Q E hr h => ?_)
  obtain ⟨z, rfl, h⟩ := h
  obtain ⟨f_is_entry, d_is_entry, m_is_entry, k_is_entry, b_is_entry, G_is_entry⟩ := O.ex
  obtain ⟨u_MOST_ROWS, c_MOST_ROWS, r_MOST_ROWS⟩ := Cn.most
  refine ⟨_, (pss_one (ps_if (PW.pt (pw_or (pt_not (pt_val (pe_callB call_isi (by rfl) B.isinstance boot_isinstance (pa_cons (pv 0) (pa_cons (pe_bltn (v := .ty "list") (by rfl) B.list boot_list rfl) pa_nil))))) (pw_or (pt_cmpR op_gt1 (pe_callB call_lenQ (by rfl) B.len PySem.boot_len (pa_cons (pv 0) pa_nil)) (pe_glob (by rfl) c_MOST_ROWS r_MOST_ROWS) (nomark _)) (pw_or1 (pt_not (pt_val (pe_callB (cr_all rfl) (by rfl) B.all boot_all (pa_cons (pe_lc (own := [("entry", 1)]) (g := gName 1) (tt := tYes) rfl sc19.nd (pi_list (pv 0)) (blkOk_by (N := ["rows", "entry"]) (sc := defScope (top 19)) (by decide +kernel)) (fun _ _ _ _ _ => (pg_name (i := 1) sc19.nd rfl (Or.inl rfl))) (fun _ _ _ _ _ => pts_nil) (fun _ _ _ _ _ => (pe_call G_is_entry (hr.mono (by first | decide | omega)) (by rfl) m_is_entry k_is_entry b_is_entry .nil pass0 (pa_cons (pv 1) pa_nil)))) pa_nil)))))))) (pss_one (ps_bad rfl ER.R ER.G ER.b ER.iC ER.tI (hr.mono (by decide)) (takes_of rfl rfl rfl rfl) pe_str (by rfl))) pss_nil)), ?_⟩
  rcases h with ⟨d, r, hd, bad⟩ | ⟨ds, ⟨p, vs, rfl, hp, rs⟩, hl, ok, bad⟩
  · exact s_when (b := true) (et_is (et_or (b := true) (et_not (et_B (ev_isi r (ev_var rfl) (kit_lst d)))) (fun z => by rw [hd] at z; cases z)) (by rw [hd]; rfl)) (fun _ H1 e => s_bad ev_c (bad.mono e)) (fun hb => by cases hb)
  · have rl : Rp K H .lst (.ref p) := .lst hp
    have hlv := rs.len
    refine s_when (b := !(okRows ds)) (et_is (et_or (et_not (et_B (ev_isi rl (ev_var rfl) (kit_lst _)))) fun _ => et_or (et_test (ev_op (ev_lenL (ev_var rfl) hp) ev_c rv_I0)) fun _ => et_not (et_B (ev_allW (f := isEn) (wk_lst (ev_var rfl) hp) rs (by omega) (fun _ => rfl) fun d x H1 hd e rx => ev_call (ea_cons (ev_var rfl) ea_nil) (spB1_v rx trivial)))) ?_) (fun hb H1 e => s_bad ev_c ((bad ?_).mono e)) (fun hb H1 e => ok ?_ H1 e)
    · show (false || (decide ((5000 : Int) < (vs.length : Int)) || !(ds.all isEn))) = !(okRows ds)
      unfold okRows
      rw [Bool.false_or, Bool.not_and]
      congr 1
      by_cases h5 : ds.length ≤ 5000
      · rw [decide_eq_true h5, decide_eq_false (by omega)]; rfl
      · rw [decide_eq_false h5, decide_eq_true (by omega)]; rfl
    · simpa using hb
    · simpa using hb
end
end K4
/-! is_heap, pushed, popped, heaped. -/
namespace K4
open PySem L2 Evl PySem.Spec PyProof.Rows
/-- a new list of ds -/
def NewL (ds : List P) (H : Hp) (Q : VK) : Prop := ∀ l vs H2, H l = none → Ex H H2 → H2 l = some (.lst vs) → Prs H2 ds vs → Q (.ref l) H2
theorem rows_good {K : PySem.W.Frag} {C : Addr} {H : Hp} {E : XK} {G : Prop} {ds : List P} {v : V} (h : IsL ds H v) (hl : ds.length ≤ 5000) (g : G) : RowsIn K C v H E G :=
  .inr ⟨_, h.lsd, by rw [List.length_map]; omega, fun _ => g, fun h => by rw [okRows_pairs hl] at h; cases h⟩
/-- whether the rows are a heap -/
def hpB (ds : List P) : Bool := (List.range (ds.length - 1)).all fun i => !decide ((at_ ds (1 + i)).1 < (at_ ds (i / 2)).1)
def spIsH (K : PySem.W.Frag) (C : Addr) : Sp := fun args H Q E => ∃ r, args = [r] ∧ ((∃ (p : Addr) (vs : List V) (ds : List P), r = .ref p ∧ H p = some (.lst vs) ∧ Prs H ds vs ∧ ds.length ≤ 5000 ∧ RetV (.bl (hpB ds)) H Q) ∨ RowsIn K C r H E False)
def spPushed (K : PySem.W.Frag) (C : Addr) : Sp := fun args H Q E => ∃ r e, args = [r, e] ∧ ((∃ (p : Addr) (d : P) (vs : List V) (ds : List P), r = .ref p ∧ H p = some (.lst vs) ∧ Prs H ds vs ∧ PrV H d e ∧ ds.length ≤ 5000 ∧ NewL (push ds d) H Q) ∨ RowsIn K C r H E (∃ d, Rp K H d e ∧ isEn d = false ∧ Bad C H E))
def spPopped (K : PySem.W.Frag) (C : Addr) : Sp := fun args H Q E => ∃ r, args = [r] ∧ ((∃ (p : Addr) (vs : List V) (ds : List P), r = .ref p ∧ H p = some (.lst vs) ∧ Prs H ds vs ∧ ds ≠ [] ∧ ds.length ≤ 5000 ∧
  ∀ t l v us H2, H t = none → H l = none → Ex H H2 → H2 t = some (.tup [v, .ref l]) → H2 l = some (.lst us) → Prs H2 (pop ds).2 us → PrV H2 (pop ds).1 v → Q (.ref t) H2) ∨ RowsIn K C r H E (∃ p, r = .ref p ∧ H p = some (.lst []) ∧ Bad C H E))
def spHeaped (K : PySem.W.Frag) (C : Addr) : Sp := fun args H Q E => ∃ r, args = [r] ∧ ((∃ (p : Addr) (vs : List V) (ds : List P), r = .ref p ∧ H p = some (.lst vs) ∧ Prs H ds vs ∧ ds.length ≤ 5000 ∧ NewL (heapify ds) H Q) ∨ RowsIn K C r H E False)
theorem PrV.en {K : PySem.W.Frag} {H : Hp} {d : P} {v : V} (h : PrV H d v) : Rp K H (PD2 d) v ∧ isEn (PD2 d) = true := ⟨h.rp, rfl⟩
section
variable {P : Program} {w : World} {K : PySem.W.Frag} {mg : Str → Option Value} {base : Heap} {C fB : Addr} {dB : FuncData}
theorem rG {fE : Addr} : L2.RelV (.ref fE) (.ref fE) := rfl
theorem sc20 : FnScope ["rows", "at"] ["rows"] (defScope (top 20)) := ⟨rfl, rfl, rfl, by decide +kernel, rfl, by decide +kernel, by decide +kernel⟩
theorem fn_isH {f : Addr} {fd : FuncData} (B : Bm mg) (F : Fun K "is_heap" "is_heap" (top 20) f fd) (O1 : Okd P w K mg base (L2.CX P w) 4 "check_rows" ["rows"] (spChk K C)) (O2 : Okd P w K mg base CX0 1 "is_earlier" ["entry", "other"] spLt) : FnOk P w K mg base (L2.CX P w) 5 f fd ["rows"] (spIsH K C) := by
  refine F.okX sc20 (fun vs H Q E h => by obtain ⟨_, rfl, _⟩ := h; rfl) (fun cdv A outer s H vs Q E hr h => ?_)
  obtain ⟨r, rfl, h⟩ := h
  obtain ⟨f_check_rows, d_check_rows, m_check_rows, k_check_rows, b_check_rows, G_check_rows⟩ := O1.ex
  obtain ⟨f_is_earlier, d_is_earlier, m_is_earlier, k_is_earlier, b_is_earlier, G_is_earlier⟩ := O2.ex
  refine ⟨_, (pss_cons (ps_expr (pe_call G_check_rows (hr.mono (by first | decide | omega)) (by rfl) m_check_rows k_check_rows b_check_rows .nil (passes_call (takes_of rfl rfl rfl rfl) fun _ _ _ _ h => h) (pa_cons (pv 0) pa_nil)))
      (pss_one (ps_ret (pe_not (pe_callB (cr_any rfl) (by rfl) B.any boot_any (pa_cons (pe_lc (own := [("at", 1)]) (g := gName 1) (tt := tYes) rfl sc20.nd (pi_range2 (by rfl) B.range (pa_cons pe_int (pa_cons (pe_callB call_lenQ (by rfl) B.len PySem.boot_len (pa_cons (pv 0) pa_nil)) pa_nil))) (blkOk_by (N := ["rows", "at"]) (sc := defScope (top 20)) (by decide +kernel)) (fun _ _ _ _ _ => (pg_name (i := 1) sc20.nd rfl (Or.inl rfl))) (fun _ _ _ _ _ => pts_nil) (fun _ _ _ _ _ => (pe_call G_is_earlier (hr.mono (by first | decide | omega)) (by rfl) m_is_earlier k_is_earlier b_is_earlier .nil pass0 (pa_cons (pe_ix (r := rIxL K) ix_list (pv 0) (pv 1) (fun _ _ => rfl)) (pa_cons (pe_ix (r := rIxL K) ix_list (pv 0) (pe_op op_fdiv (pe_op op_sub (pv 1) pe_int) pe_int) (fun _ _ => rfl)) pa_nil))))) pa_nil)))))), ?_⟩
  rcases h with ⟨p, vs, ds, rfl, hp, pr, hl, k⟩ | bad
  case inr => exact q_callDrop (ea_cons (ev_var rfl) ea_nil) fun H1 e1 => ⟨r, rfl, bad.ex e1 fun g => g.elim⟩
  have hlv := pr.len
  refine q_callDrop (ea_cons (ev_var rfl) ea_nil) fun H1a e1a => ⟨_, rfl, rows_good ⟨p, vs, rfl, e1a _ _ hp, pr.ex e1a⟩ hl fun H1 e1b => ?_⟩
  have e1 := e1a.trans e1b
  have hp1 := e1 _ _ hp
  have pr1 := pr.ex e1
  refine s_ret (ev_is (ev_notV (ev_anyB (el_lcB (fun i => decide ((at_ ds (1 + i)).1 < (at_ ds (i / 2)).1)) (wk_rng2 (lo := 1) (n := (vs.length : Int)) (ea_cons ev_c (ea_cons (ev_lenL (ev_var rfl) hp1) ea_nil)) (by omega)) (by omega) (fun _ => rfl) fun i x H2 hi e2 hx => ?_))) (w := .bl (hpB ds)) ?_) fun H2 e2 => k H2 (e1.trans e2)
  · subst hx
    have hi1 : 1 + i < ds.length := by omega
    have hi2 : i / 2 < ds.length := by omega
    have pr2 := pr1.ex e2
    have hp2 := e2 _ _ hp1
    obtain ⟨x, hx1, hx2⟩ := pr2.at_ hi1
    obtain ⟨y, hy1, hy2⟩ := pr2.at_ hi2
    have ex1 : (1 : Int) + (i : Int) = ((1 + i : Nat) : Int) := by omega
    have ex2 : ((1 : Int) + (i : Int) - 1) / 2 = ((i / 2 : Nat) : Int) := by omega
    exact ev_call (ea_cons (ev_row (k := 1 + i) (ev_var rfl) (ev_is (ev_var rfl) (by rw [ex1])) hp2 hx1) (ea_cons (ev_row (k := i / 2) (ev_var rfl) (ev_is (ev_op (ev_op (ev_var rfl) ev_c rv_I0) ev_c (rv_I ⟨by decide, by decide⟩)) (by rw [ex2])) hp2 hy1) ea_nil)) (spLt_v hx2 hy2)
  · congr 1
    unfold hpB
    rw [show ((vs.length : Int) - 1).toNat = ds.length - 1 by omega, List.any_map, List.not_any_eq_all_not]
    rfl
theorem sc21 : FnScope ["rows", "entry", "heap"] ["rows", "entry"] (defScope (top 21)) := ⟨rfl, rfl, rfl, by decide +kernel, rfl, by decide +kernel, by decide +kernel⟩
theorem fn_pushed {f : Addr} {fd : FuncData} (B : Bm mg) (ER : Errs P w K mg base C fB dB) {fE : Addr} (R : Ear P w K mg base fE) (F : Fun K "pushed" "pushed" (top 21) f fd) (O1 : Okd P w K mg base (L2.CX P w) 4 "check_rows" ["rows"] (spChk K C)) (O2 : Okd P w K mg base CX0 2 "is_entry" ["entry"] (spB1 K (fun _ => True) isEn)) (O3 : Okd P w K mg base CX0 3 "push" ["rows", "entry", "comes_first"] (spPush fE)) :
    FnOk P w K mg base (L2.CX P w) 5 f fd ["rows", "entry"] (spPushed K C) := by
  refine F.okX sc21 (fun vs H Q E h => by obtain ⟨_, _, rfl, _⟩ := h; rfl) (fun cdv A outer s H vs Q E hr h => ?_)
  obtain ⟨r, en, rfl, h⟩ := h
  obtain ⟨f_check_rows, d_check_rows, m_check_rows, k_check_rows, b_check_rows, G_check_rows⟩ := O1.ex
  obtain ⟨f_is_entry, d_is_entry, m_is_entry, k_is_entry, b_is_entry, G_is_entry⟩ := O2.ex
  obtain ⟨f_push, d_push, m_push, k_push, b_push, G_push⟩ := O3.ex
  have c_is_earlier := R.G
  have r_is_earlier : L2.RelV (.ref fE) (.ref fE) := rG
  refine ⟨_, (pss_cons (ps_expr (pe_call G_check_rows (hr.mono (by first | decide | omega)) (by rfl) m_check_rows k_check_rows b_check_rows .nil (passes_call (takes_of rfl rfl rfl rfl) fun _ _ _ _ h => h) (pa_cons (pv 0) pa_nil)))
      (pss_cons (ps_if (pt_not (pt_val (pe_call G_is_entry (hr.mono (by first | decide | omega)) (by rfl) m_is_entry k_is_entry b_is_entry .nil pass0 (pa_cons (pv 1) pa_nil)))) (pss_one (ps_bad rfl ER.R ER.G ER.b ER.iC ER.tI (hr.mono (by decide)) (takes_of rfl rfl rfl rfl) pe_str (by rfl))) pss_nil)
      (pss_cons (ps_set (i := 2) sc21.nd rfl (Or.inl rfl) (pe_callTy call_listQ (by rfl) B.list boot_list (pa_cons (pv 0) pa_nil)))
      (pss_cons (ps_expr (pe_call G_push (hr.mono (by first | decide | omega)) (by rfl) m_push k_push b_push .nil pass0 (pa_cons (pv 2) (pa_cons (pv 1) (pa_cons (pe_glob (by rfl) c_is_earlier r_is_earlier) pa_nil)))))
      (pss_one (ps_ret (pv 2))))))), ?_⟩
  rcases h with ⟨p, d, vs, ds, rfl, hp, pr, hd, hl, k⟩ | bad
  case inr => exact q_callDrop (ea_cons (ev_var rfl) ea_nil) fun H1 e1 => ⟨r, rfl, bad.ex e1 fun ⟨d, rd, hd, b⟩ H2 e2 => q_when (b := true) (et_is (et_not (et_B (ev_call (ea_cons (ev_var rfl) ea_nil) (spB1_v (rd.mono (e1.trans e2)) trivial)))) (by rw [hd]; rfl)) (fun _ H3 e3 => s_bad ev_c (b.mono ((e1.trans e2).trans e3))) (fun hb => by cases hb)⟩
  have hlv := pr.len
  refine q_callDrop (ea_cons (ev_var rfl) ea_nil) fun H1a e1a => ⟨_, rfl, rows_good ⟨p, vs, rfl, e1a _ _ hp, pr.ex e1a⟩ hl fun H1 e1b => ?_⟩
  have e1 := e1a.trans e1b
  refine q_when (b := false) (et_is (et_not (et_B (ev_call (ea_cons (ev_var rfl) ea_nil) (spB1_v (hd.ex e1).rp trivial)))) rfl) (fun hb => by cases hb) (fun _ H2 e2 => ?_)
  have e12 := e1.trans e2
  refine q_asgL (el_list (ev_var rfl) (sq_of (e12 _ _ hp))) fun l H3 nl e3 hl3 => ?_
  have e13 := e12.trans e3
  refine q_call (ea_cons (ev_var rfl) (ea_cons (ev_var rfl) (ea_cons ev_c ea_nil))) fun H4 e4 => ?_
  have e14 := e13.trans e4
  refine ⟨l, en, d, vs, ds, rfl, e4 _ _ hl3, pr.ex e14, hd.ex e14, by omega, fun us H5 k5 hp5 pr5 => ?_⟩
  have nl0 : H l = none := fresh_back e12 nl
  refine s_ret (ev_var rfl) fun H6 e6 => k l us H6 nl0 ((Kw.ex nl0 e14 k5).trans e6) (e6 _ _ hp5) (pr5.ex e6)
theorem sc22 : FnScope ["rows", "heap", "first"] ["rows"] (defScope (top 22)) := ⟨rfl, rfl, rfl, by decide +kernel, rfl, by decide +kernel, by decide +kernel⟩
theorem fn_popped {f : Addr} {fd : FuncData} (B : Bm mg) (ER : Errs P w K mg base C fB dB) {fE : Addr} (R : Ear P w K mg base fE) (F : Fun K "popped" "popped" (top 22) f fd) (O1 : Okd P w K mg base (L2.CX P w) 4 "check_rows" ["rows"] (spChk K C)) (O3 : Okd P w K mg base CX0 4 "take_first" ["rows", "comes_first"] (spTake fE)) :
    FnOk P w K mg base (L2.CX P w) 5 f fd ["rows"] (spPopped K C) := by
  refine F.okX sc22 (fun vs H Q E h => by obtain ⟨_, rfl, _⟩ := h; rfl) (fun cdv A outer s H vs Q E hr h => ?_)
  obtain ⟨r, rfl, h⟩ := h
  obtain ⟨f_check_rows, d_check_rows, m_check_rows, k_check_rows, b_check_rows, G_check_rows⟩ := O1.ex
  obtain ⟨f_take_first, d_take_first, m_take_first, k_take_first, b_take_first, G_take_first⟩ := O3.ex
  have c_is_earlier := R.G
  have r_is_earlier : L2.RelV (.ref fE) (.ref fE) := rG
  refine ⟨_, (pss_cons (ps_expr (pe_call G_check_rows (hr.mono (by first | decide | omega)) (by rfl) m_check_rows k_check_rows b_check_rows .nil (passes_call (takes_of rfl rfl rfl rfl) fun _ _ _ _ h => h) (pa_cons (pv 0) pa_nil)))
      (pss_cons (ps_if (pt_not (pt_truth (pv 0) (by intro _; rfl))) (pss_one (ps_bad rfl ER.R ER.G ER.b ER.iC ER.tI (hr.mono (by decide)) (takes_of rfl rfl rfl rfl) pe_str (by rfl))) pss_nil)
      (pss_cons (ps_set (i := 1) sc22.nd rfl (Or.inl rfl) (pe_callTy call_listQ (by rfl) B.list boot_list (pa_cons (pv 0) pa_nil)))
      (pss_cons (ps_set (i := 2) sc22.nd rfl (Or.inl rfl) (pe_call G_take_first (hr.mono (by first | decide | omega)) (by rfl) m_take_first k_take_first b_take_first .nil pass0 (pa_cons (pv 1) (pa_cons (pe_glob (by rfl) c_is_earlier r_is_earlier) pa_nil))))
      (pss_one (ps_ret (pe_tup (pa_cons (pv 2) (pa_cons (pv 1) pa_nil))))))))), ?_⟩
  rcases h with ⟨p, vs, ds, rfl, hp, pr, hne, hl, k⟩ | bad
  case inr => exact q_callDrop (ea_cons (ev_var rfl) ea_nil) fun H1 e1 => ⟨r, rfl, bad.ex e1 fun ⟨p, hr, hp, b⟩ H2 e2 => by
    subst hr
    exact q_when (b := true) (et_is (et_not (et_truL (ev_var rfl) ((e1.trans e2) _ _ hp))) rfl) (fun _ H3 e3 => s_bad ev_c (b.mono ((e1.trans e2).trans e3))) (fun hb => by cases hb)⟩
  have hlv := pr.len
  have hpos := List.length_pos_iff.mpr hne
  refine q_callDrop (ea_cons (ev_var rfl) ea_nil) fun H1a e1a => ⟨_, rfl, rows_good ⟨p, vs, rfl, e1a _ _ hp, pr.ex e1a⟩ hl fun H1 e1b => ?_⟩
  have e1 := e1a.trans e1b
  refine q_when (b := false) (et_is (et_not (et_truL (ev_var rfl) (e1 _ _ hp))) ?_) (fun hb => by cases hb) (fun _ H2 e2 => ?_)
  · cases vs with
    | nil => simp at hlv; omega
    | cons a l => rfl
  have e12 := e1.trans e2
  refine q_asgL (el_list (ev_var rfl) (sq_of (e12 _ _ hp))) fun l H3 nl e3 hl3 => ?_
  have e13 := e12.trans e3
  have nl0 : H l = none := fresh_back e12 nl
  refine q_asgC (ea_cons (ev_var rfl) (ea_cons ev_c ea_nil)) fun H4 e4 => ?_
  have e14 := e13.trans e4
  refine ⟨l, vs, ds, rfl, e4 _ _ hl3, pr.ex e14, hne, by omega, fun v us H5 k5 hp5 pr5 hv5 => ?_⟩
  have e15 := Kw.ex nl0 e14 k5
  refine s_retU (eu_tup (ea_cons (ev_var rfl) (ea_cons (ev_var rfl) ea_nil)) (by simp)) fun t H6 nt e6 ht => ?_
  exact k t l v us H6 (fresh_back e15 nt) nl0 (e15.trans e6) ht (e6 _ _ hp5) (pr5.ex e6) (hv5.ex e6)
theorem sc23 : FnScope ["rows", "heap"] ["rows"] (defScope (top 23)) := ⟨rfl, rfl, rfl, by decide +kernel, rfl, by decide +kernel, by decide +kernel⟩
theorem fn_heaped {f : Addr} {fd : FuncData} (B : Bm mg) {fE : Addr} (R : Ear P w K mg base fE) (F : Fun K "heaped" "heaped" (top 23) f fd) (O1 : Okd P w K mg base (L2.CX P w) 4 "check_rows" ["rows"] (spChk K C)) (O3 : Okd P w K mg base CX0 4 "make_heap" ["rows", "comes_first"] (spMake fE)) :
    FnOk P w K mg base (L2.CX P w) 5 f fd ["rows"] (spHeaped K C) := by
  refine F.okX sc23 (fun vs H Q E h => by obtain ⟨_, rfl, _⟩ := h; rfl) (fun cdv A outer s H vs Q E hr h => ?_)
  obtain ⟨r, rfl, h⟩ := h
  obtain ⟨f_check_rows, d_check_rows, m_check_rows, k_check_rows, b_check_rows, G_check_rows⟩ := O1.ex
  obtain ⟨f_make_heap, d_make_heap, m_make_heap, k_make_heap, b_make_heap, G_make_heap⟩ := O3.ex
  have c_is_earlier := R.G
  have r_is_earlier : L2.RelV (.ref fE) (.ref fE) := rG
  refine ⟨_, (pss_cons (ps_expr (pe_call G_check_rows (hr.mono (by first | decide | omega)) (by rfl) m_check_rows k_check_rows b_check_rows .nil (passes_call (takes_of rfl rfl rfl rfl) fun _ _ _ _ h => h) (pa_cons (pv 0) pa_nil)))
      (pss_cons (ps_set (i := 1) sc23.nd rfl (Or.inl rfl) (pe_callTy call_listQ (by rfl) B.list boot_list (pa_cons (pv 0) pa_nil)))
      (pss_cons (ps_expr (pe_call G_make_heap (hr.mono (by first | decide | omega)) (by rfl) m_make_heap k_make_heap b_make_heap .nil pass0 (pa_cons (pv 1) (pa_cons (pe_glob (by rfl) c_is_earlier r_is_earlier) pa_nil))))
      (pss_one (ps_ret (pv 1)))))), ?_⟩
  rcases h with ⟨p, vs, ds, rfl, hp, pr, hl, k⟩ | bad
  case inr => exact q_callDrop (ea_cons (ev_var rfl) ea_nil) fun H1 e1 => ⟨r, rfl, bad.ex e1 fun g => g.elim⟩
  have hlv := pr.len
  refine q_callDrop (ea_cons (ev_var rfl) ea_nil) fun H1a e1a => ⟨_, rfl, rows_good ⟨p, vs, rfl, e1a _ _ hp, pr.ex e1a⟩ hl fun H1 e1b => ?_⟩
  have e1 := e1a.trans e1b
  refine q_asgL (el_list (ev_var rfl) (sq_of (e1 _ _ hp))) fun l H3 nl e3 hl3 => ?_
  have e13 := e1.trans e3
  have nl0 : H l = none := fresh_back e1 nl
  refine q_call (ea_cons (ev_var rfl) (ea_cons ev_c ea_nil)) fun H4 e4 => ?_
  have e14 := e13.trans e4
  refine ⟨l, vs, ds, rfl, e4 _ _ hl3, pr.ex e14, by omega, fun us H5 k5 hp5 pr5 => ?_⟩
  refine s_ret (ev_var rfl) fun H6 e6 => k l us H6 nl0 ((Kw.ex nl0 e14 k5).trans e6) (e6 _ _ hp5) (pr5.ex e6)
end
end K4
/-! The law's own moves: _law_up, _law_down, _law_push, _law_pop, _law_made. -/
namespace K4
open PySem L2 Evl PySem.Spec PyProof.Rows
def spUp : Sp := fun args H Q _ => ∃ (p : Addr) (top k : Nat) (vs : List V) (ds : List P), args = [.ref p, .int (top : Int), .int (k : Int)] ∧ H p = some (.lst vs) ∧ Prs H ds vs ∧ k < ds.length ∧ ds.length ≤ 10000 ∧ NewL (rise top k ds) H Q
def spDown : Sp := fun args H Q _ => ∃ (p : Addr) (top : Nat) (vs : List V) (ds : List P), args = [.ref p, .int (top : Int)] ∧ H p = some (.lst vs) ∧ Prs H ds vs ∧ top < ds.length ∧ ds.length ≤ 10000 ∧ NewL (sink top ds) H Q
def spPushL : Sp := fun args H Q _ => ∃ (p : Addr) (v : V) (d : P) (vs : List V) (ds : List P), args = [.ref p, v] ∧ H p = some (.lst vs) ∧ Prs H ds vs ∧ PrV H d v ∧ ds.length < 10000 ∧ NewL (push ds d) H Q
def spPopL : Sp := fun args H Q _ => ∃ (p : Addr) (vs : List V) (ds : List P), args = [.ref p] ∧ H p = some (.lst vs) ∧ Prs H ds vs ∧ ds ≠ [] ∧ ds.length ≤ 10000 ∧
  ∀ t l v us H2, H l = none → Ex H H2 → H2 t = some (.tup [v, .ref l]) → H2 l = some (.lst us) → Prs H2 (pop ds).2 us → PrV H2 (pop ds).1 v → Q (.ref t) H2
def spMadeL : Sp := fun args H Q _ => ∃ (p : Addr) (vs : List V) (ds : List P), args = [.ref p] ∧ H p = some (.lst vs) ∧ Prs H ds vs ∧ ds.length ≤ 10000 ∧ NewL (heapify ds) H Q
theorem up_turn {k i n : Nat} (h : k * 2 ^ i ≤ n) (h0 : 0 < k) : (k - 1) / 2 * 2 ^ (i + 1) ≤ n := by
  rw [pow_grow]
  have h1 : (k - 1) / 2 * 2 ≤ k := by omega
  calc (k - 1) / 2 * (2 * 2 ^ i) = ((k - 1) / 2 * 2) * 2 ^ i := by rw [Nat.mul_assoc]
    _ ≤ k * 2 ^ i := Nat.mul_le_mul_right _ h1
    _ ≤ n := h
section
variable {K : PySem.W.Frag} {H : Hp} {σ : L2.St} {ta te tl : TE} {tz tbd : TS} {Dd : Ends}
theorem ev_halfI {k : Nat} {i : Nat} (h : σ[i]? = some (some (.int (k : Int)))) : Ev (tOp (rI CDiv fun i j => V.int (i / j)) (tOp (rI0 fun i j => V.int (i - j)) (tVar i) (tC (.int 1))) (tC (.int 2))) σ H (.int (((k : Int) - 1) / 2)) :=
  ev_op (ev_op (ev_var h) ev_c rv_I0) ev_c (rv_I ⟨by decide, by decide⟩)
end
section
variable {P : Program} {w : World} {K : PySem.W.Frag} {mg : Str → Option Value} {base : Heap}
theorem sc28 : FnScope ["_law_lot", "_law_top", "_law_place", "_law_found", "_law_turn", "_law_above"] ["_law_lot", "_law_top", "_law_place"] (defScope (top 28)) := ⟨rfl, rfl, rfl, by decide +kernel, rfl, by decide +kernel, by decide +kernel⟩
theorem ok_up (B : Bm mg) (F : Df K mg "_law_up" (top 28) ["_law_lot", "_law_top", "_law_place"]) : Okd P w K mg base CX0 1 "_law_up" ["_law_lot", "_law_top", "_law_place"] spUp := by
  refine F.ok sc28 (fun vs H Q E h => by obtain ⟨_, _, _, _, _, rfl, _⟩ := h; rfl) (fun f cdv A outer s H vs Q E hr h => ?_)
  obtain ⟨p, tp, k, vs, ds, rfl, hp, pr, hk, hl, q⟩ := h
  refine ⟨_, (pss_cons (ps_set (i := 3) sc28.nd rfl (Or.inl rfl) (pe_callTy call_listQ (by rfl) B.list boot_list (pa_cons (pv 0) pa_nil)))
      (pss_cons (ps_for PassesOwn.never rfl (pi_range1 (by rfl) B.range (pa_cons pe_int pa_nil)) (pg_name (i := 4) sc28.nd rfl (Or.inl rfl)) (pss_cons (ps_set (i := 5) sc28.nd rfl (Or.inl rfl) (pe_op op_fdiv (pe_op op_sub (pv 2) pe_int) pe_int))
      (pss_cons (ps_if (PW.pt (pw_or (pt_cmpR op_le2 (pv 2) (pv 1) (nomark _)) (pw_or1 (pt_cmpR op_ge1 (pe_ix ix_tup (pe_ix ix_list (pv 3) (pv 2) (fun _ _ => rfl)) pe_int (fun _ _ => rfl)) (pe_ix ix_tup (pe_ix ix_list (pv 3) (pv 5) (fun _ _ => rfl)) pe_int (fun _ _ => rfl)) (nomark _))))) (pss_one (ps_ret (pv 3))) pss_nil)
      (pss_cons (ps_asg (pe_tup (pa_cons (pe_ix ix_list (pv 3) (pv 5) (fun _ _ => rfl)) (pa_cons (pe_ix ix_list (pv 3) (pv 2) (fun _ _ => rfl)) pa_nil))) (pg_tup (by rfl) (pgs_cons (pg_sub (pv 3) (pv 2) set_list) (pgs_cons (pg_sub (pv 3) (pv 5) set_list) pgs_nil))))
      (pss_one (ps_set (i := 2) sc28.nd rfl (Or.inl rfl) (pv 5)))))))
      (pss_one (ps_ret (pv 3))))), ?_⟩
  have hlv := pr.len
  refine q_asgL (el_list (ev_var rfl) (sq_of hp)) fun l H1 nl e1 hl1 => ?_
  refine q_forR1 (n := 64) (ea_cons ev_c ea_nil) (by omega)
    (fun i σ' H' => ∃ (k' : Nat) (vs' : List V) (ds' : List K4.P) (x4 x5 : Option V), σ' = [some (.ref p), some (.int (tp : Int)), some (.int (k' : Int)), some (.ref l), x4, x5] ∧ Kw l H1 H' ∧ H' l = some (.lst vs') ∧ Prs H' ds' vs' ∧ k' < ds'.length ∧ ds'.length = ds.length ∧ k' * 2 ^ i ≤ k ∧ rise tp k' ds' = rise tp k ds)
    (fun H2 e2 => ⟨k, vs, ds, _, _, rfl, Kw.of e2, e2 _ _ hl1, pr.ex (e1.trans e2), hk, rfl, by simp, rfl⟩) ?_ ?_
  · rintro i σ' H' hi ⟨k', vs', ds', x4, x5, rfl, kw, hp', pr', hk', hl', hpw, he⟩
    refine q_asg (ev_halfI rfl) fun H2 e2 => ?_
    have hp2 := e2 _ _ hp'
    have pr2 := pr'.ex e2
    refine q_when (b := decide (¬ (tp < k' ∧ (at_ ds' k').1 < (at_ ds' ((k' - 1) / 2)).1))) (et_is (et_or (b := decide (¬ (at_ ds' k').1 < (at_ ds' ((k' - 1) / 2)).1)) (et_test (ev_op (ev_var rfl) (ev_var rfl) rv_le)) fun hb => ?_) ?_) (fun hb H3 e3 => ?_) (fun hb H3 e3 => ?_)
    · have hlt : tp < k' := by have := of_decide_eq_false hb; omega
      obtain ⟨x, hx1, hx2⟩ := pr2.at_ hk'
      obtain ⟨y, hy1, hy2⟩ := pr2.at_ (k := (k' - 1) / 2) (by omega)
      refine et_is (et_test (ev_op (ev_fst (ev_row (ev_var rfl) (ev_var rfl) hp2 hx1) hx2) (ev_fst (ev_row (k := (k' - 1) / 2) (ev_var rfl) (ev_is (ev_var rfl) (by congr 1; omega)) hp2 hy1) hy2) rv_I0)) ?_
      exact decide_eq_decide.mpr (by omega)
    · by_cases h1 : tp < k'
      · rw [decide_eq_false (by omega)]
        simp [h1]
      · rw [decide_eq_true (by omega)]
        simp [h1]
    · have hb' := of_decide_eq_true hb
      refine s_ret (ev_var rfl) fun H4 e4 => ?_
      have e24 := e2.trans (e3.trans e4)
      refine q l vs' H4 nl (Kw.ex nl e1 (kw.trans (Kw.of e24))) (e24 _ _ hp') ?_
      rw [← he]
      have : rise tp k' ds' = ds' := by
        unfold rise
        split
        · rename_i h1
          rw [if_neg (fun z => hb' ⟨h1, z⟩)]
        · rfl
      rw [this]
      exact pr'.ex e24
    · have hb' : tp < k' ∧ (at_ ds' k').1 < (at_ ds' ((k' - 1) / 2)).1 := Classical.byContradiction fun z => absurd (decide_eq_true z) (by rw [hb]; decide)
      obtain ⟨hlt, hlt2⟩ := hb'
      have hp3 := e3 _ _ hp2
      have pr3 := pr2.ex e3
      have hlv' := pr'.len
      obtain ⟨x, hx1, hx2⟩ := pr3.at_ hk'
      obtain ⟨c, hc⟩ : ∃ c, c = (k' - 1) / 2 := ⟨_, rfl⟩
      have hcz : ((k' : Int) - 1) / 2 = (c : Int) := by omega
      rw [hcz]
      obtain ⟨y, hy1, hy2⟩ := pr3.at_ (k := c) (by omega)
      refine q_swap (i := k') (j := c) hp3 (ev_row (ev_var rfl) (ev_var rfl) hp3 hy1) (ev_row (ev_var rfl) (ev_var rfl) hp3 hx1) (fun _ => ev_var rfl) (fun _ => ev_var rfl) (fun _ => ev_var rfl) (fun _ => ev_var rfl) (by omega) (by omega) fun H4 k4 hp4 => ?_
      refine s_asg (ev_var rfl) fun H5 e5 => ?_
      refine ⟨c, _, swp ds' k' c, _, _, rfl, (kw.trans (Kw.of (e2.trans e3))).trans (k4.trans (Kw.of e5)), e5 _ _ hp4, (pr3.swap hx2 hy2).kw hp3 (k4.trans (Kw.of e5)), by rw [swp_len]; omega, by rw [swp_len]; exact hl', ?_, ?_⟩
      · rw [hc]; exact up_turn hpw (by omega)
      · rw [← he]
        conv => rhs; unfold rise
        rw [if_pos hlt, ← hc, if_pos (by rw [hc]; exact hlt2)]
  · rintro σ' H' ⟨k', vs', ds', x4, x5, rfl, kw, hp', pr', hk', hl', hpw, he⟩
    have h0 : k' = 0 := by
      rcases Nat.eq_zero_or_pos k' with z | z
      · exact z
      · exfalso
        have h1 : 1 * 2 ^ (64 : Int).toNat ≤ k' * 2 ^ (64 : Int).toNat := Nat.mul_le_mul_right _ z
        have h2 : (10000 : Nat) < 1 * 2 ^ (64 : Int).toNat := by decide
        omega
    subst h0
    refine s_ret (ev_var rfl) fun H4 e4 => q l vs' H4 nl (Kw.ex nl e1 (kw.trans (Kw.of e4))) (e4 _ _ hp') ?_
    rw [← he]
    have : rise tp 0 ds' = ds' := rise_zero tp ds'
    rw [this]
    exact pr'.ex e4
theorem sc29 : FnScope ["_law_lot", "_law_top", "_law_found", "_law_place", "_law_turn", "_law_left", "_law_lesser"] ["_law_lot", "_law_top"] (defScope (top 29)) := ⟨rfl, rfl, rfl, by decide +kernel, rfl, by decide +kernel, by decide +kernel⟩
theorem ok_down (B : Bm mg) (F : Df K mg "_law_down" (top 29) ["_law_lot", "_law_top"]) (O : Okd P w K mg base CX0 1 "_law_up" ["_law_lot", "_law_top", "_law_place"] spUp) : Okd P w K mg base CX0 2 "_law_down" ["_law_lot", "_law_top"] spDown := by
  refine F.ok sc29 (fun vs H Q E h => by obtain ⟨_, _, _, _, rfl, _⟩ := h; rfl) (fun f cdv A outer s H vs Q E hr h => ?_)
  obtain ⟨p, tp, vs, ds, rfl, hp, pr, hk, hl, q⟩ := h
  obtain ⟨f__law_up, d__law_up, m__law_up, k__law_up, b__law_up, G__law_up⟩ := O.ex
  refine ⟨_, (pss_cons (ps_set (i := 2) sc29.nd rfl (Or.inl rfl) (pe_callTy call_listQ (by rfl) B.list boot_list (pa_cons (pv 0) pa_nil)))
      (pss_cons (ps_set (i := 3) sc29.nd rfl (Or.inl rfl) (pv 1))
      (pss_cons (ps_for PassesOwn.never rfl (pi_range1 (by rfl) B.range (pa_cons pe_int pa_nil)) (pg_name (i := 4) sc29.nd rfl (Or.inl rfl)) (pss_cons (ps_set (i := 5) sc29.nd rfl (Or.inl rfl) (pe_op op_add (pe_op op_mul pe_int (pv 3)) pe_int))
      (pss_cons (ps_if (pt_cmpR op_ge1 (pv 5) (pe_callB call_lenQ (by rfl) B.len PySem.boot_len (pa_cons (pv 2) pa_nil)) (nomark _)) (pss_one (ps_ret (pe_call G__law_up (hr.mono (by first | decide | omega)) (by rfl) m__law_up k__law_up b__law_up .nil pass0 (pa_cons (pv 2) (pa_cons (pv 1) (pa_cons (pv 3) pa_nil)))))) pss_nil)
      (pss_cons (ps_set (i := 6) sc29.nd rfl (Or.inl rfl) (pv 5))
      (pss_cons (ps_if (PW.pt (pw_and (pt_cmpR op_lt2 (pe_op op_add (pv 5) pe_int) (pe_callB call_lenQ (by rfl) B.len PySem.boot_len (pa_cons (pv 2) pa_nil)) (nomark _)) (pw_and1 (pt_cmpR op_ge1 (pe_ix ix_tup (pe_ix ix_list (pv 2) (pv 5) (fun _ _ => rfl)) pe_int (fun _ _ => rfl)) (pe_ix ix_tup (pe_ix ix_list (pv 2) (pe_op op_add (pv 5) pe_int) (fun _ _ => rfl)) pe_int (fun _ _ => rfl)) (nomark _))))) (pss_one (ps_set (i := 6) sc29.nd rfl (Or.inl rfl) (pe_op op_add (pv 5) pe_int))) pss_nil)
      (pss_cons (ps_asg (pe_tup (pa_cons (pe_ix ix_list (pv 2) (pv 6) (fun _ _ => rfl)) (pa_cons (pe_ix ix_list (pv 2) (pv 3) (fun _ _ => rfl)) pa_nil))) (pg_tup (by rfl) (pgs_cons (pg_sub (pv 2) (pv 3) set_list) (pgs_cons (pg_sub (pv 2) (pv 6) set_list) pgs_nil))))
      (pss_one (ps_set (i := 3) sc29.nd rfl (Or.inl rfl) (pv 6)))))))))
      (pss_one (ps_ret (pv 2)))))), ?_⟩
  have hlv := pr.len
  refine q_asgL (el_list (ev_var rfl) (sq_of hp)) fun l H1 nl e1 hl1 => ?_
  refine q_asg (ev_var rfl) fun H1b e1b => ?_
  have e01 := e1.trans e1b
  refine q_forR1 (n := 64) (ea_cons ev_c ea_nil) (by omega)
    (fun i σ' H' => ∃ (k' : Nat) (vs' : List V) (ds' : List K4.P) (x4 x5 x6 : Option V), σ' = [some (.ref p), some (.int (tp : Int)), some (.ref l), some (.int (k' : Int)), x4, x5, x6] ∧ Kw l H1b H' ∧ H' l = some (.lst vs') ∧ Prs H' ds' vs' ∧ k' < ds'.length ∧ ds'.length = ds.length ∧ 2 ^ i ≤ k' + 1 ∧ down k' ds' = down tp ds)
    (fun H2 e2 => ⟨tp, vs, ds, _, _, _, rfl, Kw.of e2, (e1b.trans e2) _ _ hl1, pr.ex (e01.trans e2), hk, rfl, by simp, rfl⟩) ?_ ?_
  · rintro i σ' H' hi ⟨k', vs', ds', x4, x5, x6, rfl, kw, hp', pr', hk', hl', hpw, he⟩
    have hlv' := pr'.len
    have e21 : ((2 * k' + 1 : Nat) : Int) = (2 : Int) * (k' : Int) + 1 := by omega
    refine q_asg (ev_is (ev_op (ev_op ev_c (ev_var rfl) (rv_I (.inl (by decide)))) ev_c rv_I0) (w := .int ((2 * k' + 1 : Nat) : Int)) (by rw [e21])) fun H2 e2 => ?_
    have hp2 := e2 _ _ hp'
    have pr2 := pr'.ex e2
    refine q_when (et_test (ev_op (ev_var rfl) (ev_lenL (ev_var rfl) hp2) rv_I0)) (fun hb H3 e3 => ?_) (fun hb H3 e3 => ?_)
    · have hge : ¬ 2 * k' + 1 < ds'.length := by have := of_decide_eq_true hb; omega
      refine raw_call (ea_cons (ev_var rfl) (ea_cons (ev_var rfl) (ea_cons (ev_var rfl) ea_nil))) fun H4 e4 => ?_
      have e24 := e2.trans (e3.trans e4)
      refine ⟨l, tp, k', vs', ds', rfl, e24 _ _ hp', pr'.ex e24, hk', by omega, fun l2 ws H5 nl2 e5 hl5 pr5 => ?_⟩
      have e15 : Ex H H5 := (Kw.ex nl e01 (kw.trans (Kw.of e24))).trans e5
      refine q l2 ws H5 (fresh_back (Kw.ex nl e01 (kw.trans (Kw.of e24))) nl2) e15 hl5 ?_
      have : sink tp ds = rise tp k' ds' := by
        unfold sink
        rw [← he, down_stop hge]
      rw [this]
      exact pr5
    · have hlt : 2 * k' + 1 < ds'.length := by have := of_decide_eq_false hb; omega
      have e23 := e2.trans e3
      refine q_asg (ev_var rfl) fun H4 e4 => ?_
      have e24 := e23.trans e4
      have hp4 := e24 _ _ hp'
      have pr4 := pr'.ex e24
      obtain ⟨x, hx1, hx2⟩ := pr4.at_ hk'
      have hco := child_or ds' k'
      have hc := child_lt hlt
      obtain ⟨y, hy1, hy2⟩ := pr4.at_ hc
      obtain ⟨c, hce⟩ : ∃ c, c = child ds' k' := ⟨_, rfl⟩
      rw [← hce] at hco hc hy1 hy2
      refine q_ifAsg (b := decide (c = 2 * k' + 2)) (v := .int (c : Int)) (et_is (et_and (b := decide (¬ (at_ ds' (2 * k' + 1)).1 < (at_ ds' (2 * k' + 2)).1)) (et_test (ev_op (ev_op (ev_var rfl) ev_c rv_I0) (ev_lenL (ev_var rfl) hp4) rv_lt)) fun hb => ?_) ?_) (fun hb => ?_) (fun hb => ?_) fun H5 e5 => ?_
      · have hb' := of_decide_eq_true hb
        obtain ⟨y1, hz1, hz2⟩ := pr4.at_ hlt
        obtain ⟨y2, hw1, hw2⟩ := pr4.at_ (k := 2 * k' + 2) (by omega)
        refine et_is (et_test (ev_op (ev_fst (ev_row (k := 2 * k' + 1) (ev_var rfl) (ev_var rfl) hp4 hz1) hz2) (ev_fst (ev_row (k := 2 * k' + 2) (ev_var rfl) (ev_is (ev_op (ev_var rfl) ev_c rv_I0) (by congr 1)) hp4 hw1) hw2) rv_I0)) ?_
        exact decide_eq_decide.mpr (by omega)
      · rw [hce]
        unfold child
        by_cases h1 : 2 * k' + 2 < ds'.length
        · rw [decide_eq_true (by omega), Bool.true_and]
          refine decide_eq_decide.mpr ?_
          by_cases h2 : (at_ ds' (2 * k' + 1)).1 < (at_ ds' (2 * k' + 2)).1
          · rw [if_neg (fun z => z.2 h2)]
            exact ⟨fun z => absurd h2 z, fun z => by omega⟩
          · rw [if_pos ⟨h1, h2⟩]
            exact ⟨fun _ => rfl, fun _ => h2⟩
        · rw [decide_eq_false (by omega), if_neg (fun z => h1 z.1), Bool.false_and]
          exact (decide_eq_false (by omega)).symm
      · have hc2 := of_decide_eq_true hb
        exact ev_is (ev_op (ev_var rfl) ev_c rv_I0) (by rw [hc2]; congr 1)
      · have hc2 : c = 2 * k' + 1 := by have := of_decide_eq_false hb; omega
        subst hc2
        rfl
      have hp5 := e5 _ _ hp4
      refine q_swap (i := k') (j := c) hp5 (ev_row (ev_var rfl) (ev_var rfl) hp5 hy1) (ev_row (ev_var rfl) (ev_var rfl) hp5 hx1) (fun _ => ev_var rfl) (fun _ => ev_var rfl) (fun _ => ev_var rfl) (fun _ => ev_var rfl) (by omega) (by omega) fun H6 k6 hp6 => ?_
      refine s_asg (ev_var rfl) fun H7 e7 => ?_
      refine ⟨c, _, swp ds' k' c, _, _, _, rfl, (kw.trans (Kw.of (e24.trans e5))).trans (k6.trans (Kw.of e7)), e7 _ _ hp6, ((pr4.ex e5).swap (hx2.ex e5) (hy2.ex e5)).kw hp5 (k6.trans (Kw.of e7)), by rw [swp_len]; omega, by rw [swp_len]; exact hl', ?_, ?_⟩
      · rw [pow_grow]
        omega
      · rw [← he, down_go hlt, ← hce]
  · rintro σ' H' ⟨k', vs', ds', x4, x5, x6, rfl, kw, hp', pr', hk', hl', hpw, he⟩
    exfalso
    have h2 : (10001 : Nat) < 2 ^ (64 : Int).toNat := by decide
    omega
end
section
variable {K : PySem.W.Frag} {H : Hp} {σ : L2.St} {ta tb te tl : TE} {tz tbd : TS} {Dd : Ends}
theorem el_upC {E : XK} {ds : List P} {tp k : Nat} {t2 t3 : TE} (h : EvP ta σ H (IsL ds)) (h2 : ∀ H1, Ex H H1 → Ev t2 σ H1 (.int (tp : Int))) (h3 : ∀ H1, Ex H H1 → Ev t3 σ H1 (.int (k : Int))) (hk : k < ds.length) (hl : ds.length ≤ 10000) :
    EvLP (tCall spUp [] E (tCons ta (tCons t2 (tCons t3 tNil)))) σ H (fun H1 vs => Prs H1 (rise tp k ds) vs) := fun H1 e Q q =>
  h H1 e _ fun v H2 e2 ⟨p, vs, rv, hp, pr⟩ => h2 H2 (e.trans e2) H2 (Ex.refl _) _ fun H3 e3 => h3 H3 ((e.trans e2).trans e3) H3 (Ex.refl _) _ fun H4 e4 =>
    ⟨p, tp, k, vs, ds, by rw [rv]; rfl, (e3.trans e4) _ _ hp, pr.ex (e3.trans e4), hk, hl, fun l us H5 nl e5 hl5 pr5 => q l us H5 (fresh_back ((e2.trans e3).trans e4) nl) (((e2.trans e3).trans e4).trans e5) hl5 pr5⟩
theorem el_downC {E : XK} {ds : List P} {tp : Nat} (h : EvP ta σ H (IsL ds)) (h2 : ∀ H1, Ex H H1 → Ev tb σ H1 (.int (tp : Int))) (hk : tp < ds.length) (hl : ds.length ≤ 10000) :
    EvLP (tCall spDown [] E (tCons ta (tCons tb tNil))) σ H (fun H1 vs => Prs H1 (sink tp ds) vs) := fun H1 e Q q =>
  h H1 e _ fun v H2 e2 ⟨p, vs, rv, hp, pr⟩ => h2 H2 (e.trans e2) H2 (Ex.refl _) _ fun H3 e3 =>
    ⟨p, tp, vs, ds, by rw [rv]; rfl, e3 _ _ hp, pr.ex e3, hk, hl, fun l us H5 nl e5 hl5 pr5 => q l us H5 (fresh_back (e2.trans e3) nl) ((e2.trans e3).trans e5) hl5 pr5⟩
theorem s_retLP {Pl : Hp → List V → Prop} (h : EvLP te σ H Pl) (k : ∀ p xs H1, H p = none → Ex H H1 → H1 p = some (.lst xs) → Pl H1 xs → Dd.rt (.ref p) H1) : tRet te Dd σ H := h H (Ex.refl H) _ fun p xs H1 hp e hl pl => k p xs H1 hp e hl pl
theorem q_forDown {t : TA} {j n : Nat} (h : EvA t σ H [.int ((n : Int) - 1), .int (-1), .int (-1)]) (hn : n ≤ 100000) (Pv : Nat → L2.St → Hp → Prop) (h0 : ∀ H1, Ex H H1 → Pv 0 σ H1)
    (hs : ∀ (i : Nat) σ' H', i < n → Pv i σ' H' → tbd { Dd with nx := Pv (i + 1), ct := Pv (i + 1), bk := tz Dd } (σ'.set j (some (.int ((n - 1 - i : Nat) : Int)))) H') (hd : ∀ σ' H', Pv n σ' H' → tz Dd σ' H') : tSeq (tFor (iRng3 t) (gName j) tbd) tz Dd σ H :=
  h H (Ex.refl H) _ fun H1 e => ⟨(n : Int) - 1, -1, -1, n, rfl, by
    have e0 : ((n : Int) - 1 - (-1)).toNat = n := by omega
    have := RgC.neg (i := (n : Int) - 1) (j := -1) (by omega) (by omega) (by omega) (by omega)
    rw [e0] at this
    exact this, for_rangeC (lo := (n : Int) - 1) (c := -1) (n := n) (D := { Dd with nx := tz Dd }) Pv (h0 H1 e) (fun i σ' H' hi p => by
      have e0 : (n : Int) - 1 + (i : Nat) * (-1) = ((n - 1 - i : Nat) : Int) := by omega
      show tbd { Dd with nx := Pv (i + 1), ct := Pv (i + 1), bk := tz Dd } (σ'.set j (some (.int ((n : Int) - 1 + (i : Nat) * (-1))))) H'
      rw [e0]
      exact hs i σ' H' hi p) hd⟩
end
theorem cut_mid {xs : List V} (h : 2 ≤ xs.length) : cutV xs (some 1) (some (-1)) = (xs.drop 1).dropLast := by
  unfold cutV
  have e1 : HT.sIx xs.length 0 (some 1) = 1 := by
    unfold HT.sIx
    simp
    omega
  have e2 : HT.sIx xs.length xs.length (some (-1)) = xs.length - 1 := by
    unfold HT.sIx
    simp
    omega
  rw [e1, e2, List.dropLast_eq_take, List.length_drop]
theorem Prs.drop {H : Hp} : ∀ {ds : List P} {vs : List V} (n : Nat), Prs H ds vs → Prs H (ds.drop n) (vs.drop n)
  | _, _, 0, r => r
  | _, _, _ + 1, .nil => .nil
  | _, _, n + 1, .cons _ t => Prs.drop n t
section
variable {P : Program} {w : World} {K : PySem.W.Frag} {mg : Str → Option Value} {base : Heap}
theorem sc30 : FnScope ["_law_lot", "_law_pair"] ["_law_lot", "_law_pair"] (defScope (top 30)) := ⟨rfl, rfl, rfl, by decide +kernel, rfl, by decide +kernel, by decide +kernel⟩
theorem ok_pushL (B : Bm mg) (F : Df K mg "_law_push" (top 30) ["_law_lot", "_law_pair"]) (O : Okd P w K mg base CX0 1 "_law_up" ["_law_lot", "_law_top", "_law_place"] spUp) : Okd P w K mg base CX0 2 "_law_push" ["_law_lot", "_law_pair"] spPushL := by
  refine F.ok sc30 (fun vs H Q E h => by obtain ⟨_, _, _, _, _, rfl, _⟩ := h; rfl) (fun f cdv A outer s H vs Q E hr h => ?_)
  obtain ⟨p, v, d, vs, ds, rfl, hp, pr, hd, hl, q⟩ := h
  obtain ⟨f__law_up, d__law_up, m__law_up, k__law_up, b__law_up, G__law_up⟩ := O.ex
  refine ⟨_, (pss_one (ps_ret (pe_call G__law_up (hr.mono (by first | decide | omega)) (by rfl) m__law_up k__law_up b__law_up .nil pass0 (pa_cons (pe_op op_cat (pv 0) (pe_lst (pa_cons (pv 1) pa_nil))) (pa_cons pe_int (pa_cons (pe_callB call_lenQ (by rfl) B.len PySem.boot_len (pa_cons (pv 0) pa_nil)) pa_nil)))))), ?_⟩
  have hlv := pr.len
  refine s_retLP (el_upC (ds := ds ++ [d]) (tp := 0) (k := ds.length) (isl_new (el_cat (isl_var (ev_var rfl) ⟨p, vs, rfl, hp, pr⟩) (fun H1 e => isl_new (el_one (ev_var rfl) (hd.ex e))) (by simp; omega))) (fun _ _ => ev_c) (fun H1 e => ev_is (ev_lenL (ev_var rfl) (e _ _ hp)) (by rw [hlv])) (by simp) (by simp; omega)) fun l us H1 nl e hl1 pl => q l us H1 nl e hl1 pl
theorem sc31 : FnScope ["_law_lot"] ["_law_lot"] (defScope (top 31)) := ⟨rfl, rfl, rfl, by decide +kernel, rfl, by decide +kernel, by decide +kernel⟩
theorem ok_popL (B : Bm mg) (F : Df K mg "_law_pop" (top 31) ["_law_lot"]) (O : Okd P w K mg base CX0 2 "_law_down" ["_law_lot", "_law_top"] spDown) : Okd P w K mg base CX0 3 "_law_pop" ["_law_lot"] spPopL := by
  refine F.ok sc31 (fun vs H Q E h => by obtain ⟨_, _, _, rfl, _⟩ := h; rfl) (fun f cdv A outer s H vs Q E hr h => ?_)
  obtain ⟨p, vs, ds, rfl, hp, pr, hne, hl, q⟩ := h
  obtain ⟨f__law_down, d__law_down, m__law_down, k__law_down, b__law_down, G__law_down⟩ := O.ex
  refine ⟨_, (pss_cons (ps_if (pt_cmpR op_eq (pe_callB call_lenQ (by rfl) B.len PySem.boot_len (pa_cons (pv 0) pa_nil)) pe_int (nomark _)) (pss_one (ps_ret (pe_tup (pa_cons (pe_ix ix_list (pv 0) pe_int (fun _ _ => rfl)) (pa_cons (pe_lst pa_nil) pa_nil))))) pss_nil)
      (pss_one (ps_ret (pe_tup (pa_cons (pe_ix ix_list (pv 0) pe_int (fun _ _ => rfl)) (pa_cons (pe_call G__law_down (hr.mono (by first | decide | omega)) (by rfl) m__law_down k__law_down b__law_down .nil pass0 (pa_cons (pe_op op_cat (pe_lst (pa_cons (pe_ix ix_list (pv 0) (pe_un un_neg pe_int) (fun _ _ => rfl)) pa_nil)) (pe_slice sl_list (pv 0) (po_some pe_int) (po_some (pe_un un_neg pe_int)))) (pa_cons pe_int pa_nil))) pa_nil)))))), ?_⟩
  have hlv := pr.len
  have hpos := List.length_pos_iff.mpr hne
  obtain ⟨x, hx1, hx2⟩ := pr.at_ (k := 0) hpos
  have hrow : ∀ H1, Ex H H1 → EvP (tOp (rIxL K) (tVar 0) (tC (.int 0))) (start ["_law_lot"] [.ref p]) H1 (fun H2 v => PrV H2 (at_ ds 0) v) := fun H1 e => evp (ev_row (k := 0) (ev_var rfl) ev_c (e _ _ hp) hx1) fun H2 e2 => hx2.ex (e.trans e2)
  refine q_when (et_test (ev_op (ev_lenL (ev_var rfl) hp) ev_c (rv_eq rfl))) (fun hb H1 e1 => ?_) (fun hb H1 e1 => ?_)
  · have h1 : ds.length = 1 := by
      have := of_decide_eq_true hb
      injection this with this
      omega
    have hpop : pop ds = (at_ ds 0, []) := by unfold pop; rw [if_pos (by omega)]
    refine s_retPL (hrow H1 e1) (fun H2 e2 => el_nilL) fun t v m ys H2 H3 e2 pv e3 nm ht hm ⟨H9, p9, e9⟩ => ?_
    exact q t m v ys H3 (fresh_back e1 nm) (e1.trans (e2.trans e3)) ht hm (by rw [hpop]; exact p9.ex e9) (by rw [hpop]; exact pv.ex e3)
  · have h1 : ¬ ds.length = 1 := by
      have := of_decide_eq_false hb
      intro z
      exact this (by rw [hlv, z]; rfl)
    have h2 : 2 ≤ ds.length := by omega
    have hpop : pop ds = (at_ ds 0, sink 0 (ds.dropLast.set 0 (at_ ds (ds.length - 1)))) := by unfold pop; rw [if_neg (by omega)]
    have hde : [at_ ds (ds.length - 1)] ++ (ds.drop 1).dropLast = ds.dropLast.set 0 (at_ ds (ds.length - 1)) := pop_eq2 h2
    obtain ⟨y, hy1, hy2⟩ := pr.at_ (k := ds.length - 1) (by omega)
    refine s_retPL (hrow H1 e1) (fun H2 e2 => el_downC (ds := ds.dropLast.set 0 (at_ ds (ds.length - 1))) (tp := 0) (isl_new ?_) (fun _ _ => ev_c) (by simp; omega) (by simp; omega)) fun t v m ys H2 H3 e2 pv e3 nm ht hm ⟨H9, p9, e9⟩ => ?_
    · have e12 := e1.trans e2
      rw [← hde]
      refine el_cat (isl_new (el_one (v := y) (ev_op (ev_var rfl) (ev_un ev_c ru_neg) (rv_ixL (sq_of (e12 _ _ hp)) ?_)) (hy2.ex e12))) (fun H3 e3 => isl_new ?_) (by simp; omega)
      · unfold atI ixN
        rw [if_neg (by decide), if_pos (by omega)]
        show vs[((vs.length : Int) + -1).toNat]? = some y
        rw [show ((vs.length : Int) + -1).toNat = ds.length - 1 by omega]
        exact hy1
      · have hsl := el_sl (K := K) (σ := start ["_law_lot"] [.ref p]) (H := H3) (te := tVar 0) (a := p) (xs := vs) (lo := some 1) (hi := some (-1)) (ev_var rfl) (eo_some ev_c) (eo_some (ev_un ev_c ru_neg)) (sq_of ((e12.trans e3) _ _ hp))
        rw [cut_mid (by omega)] at hsl
        exact fun H4 e4 Q q => hsl H4 e4 Q fun l H5 nl e5 hl5 => q l _ H5 nl e5 hl5 ((pr.drop 1).dropLast.ex ((e12.trans e3).trans (e4.trans e5)))
    · exact q t m v ys H3 (fresh_back e1 nm) (e1.trans (e2.trans e3)) ht hm (by rw [hpop]; exact p9.ex e9) (by rw [hpop]; exact pv.ex e3)
theorem sc32 : FnScope ["_law_lot", "_law_found", "_law_place"] ["_law_lot"] (defScope (top 32)) := ⟨rfl, rfl, rfl, by decide +kernel, rfl, by decide +kernel, by decide +kernel⟩
theorem ok_madeL (B : Bm mg) (F : Df K mg "_law_made" (top 32) ["_law_lot"]) (O : Okd P w K mg base CX0 2 "_law_down" ["_law_lot", "_law_top"] spDown) : Okd P w K mg base CX0 3 "_law_made" ["_law_lot"] spMadeL := by
  refine F.ok sc32 (fun vs H Q E h => by obtain ⟨_, _, _, rfl, _⟩ := h; rfl) (fun f cdv A outer s H vs Q E hr h => ?_)
  obtain ⟨p, vs, ds, rfl, hp, pr, hl, q⟩ := h
  obtain ⟨f__law_down, d__law_down, m__law_down, k__law_down, b__law_down, G__law_down⟩ := O.ex
  refine ⟨_, (pss_cons (ps_set (i := 1) sc32.nd rfl (Or.inl rfl) (pe_callTy call_listQ (by rfl) B.list boot_list (pa_cons (pv 0) pa_nil)))
      (pss_cons (ps_for PassesOwn.never rfl (pi_range3 (by rfl) B.range (pa_cons (pe_op op_sub (pe_op op_fdiv (pe_callB call_lenQ (by rfl) B.len PySem.boot_len (pa_cons (pv 0) pa_nil)) pe_int) pe_int) (pa_cons (pe_un un_neg pe_int) (pa_cons (pe_un un_neg pe_int) pa_nil)))) (pg_name (i := 2) sc32.nd rfl (Or.inl rfl)) (pss_one (ps_set (i := 1) sc32.nd rfl (Or.inl rfl) (pe_call G__law_down (hr.mono (by first | decide | omega)) (by rfl) m__law_down k__law_down b__law_down .nil pass0 (pa_cons (pv 1) (pa_cons (pv 2) pa_nil))))))
      (pss_one (ps_ret (pv 1))))), ?_⟩
  have hlv := pr.len
  refine q_asgL (el_list (ev_var rfl) (sq_of hp)) fun l H1 nl e1 hl1 => ?_
  refine q_forDown (n := ds.length / 2) (ea_cons (ev_is (ev_op (ev_op (ev_lenL (ev_var rfl) (e1 _ _ hp)) ev_c (rv_I ⟨by decide, by decide⟩)) ev_c rv_I0) (by congr 1; omega)) (ea_cons (ev_un ev_c ru_neg) (ea_cons (ev_un ev_c ru_neg) ea_nil))) (by omega)
    (fun i σ' H' => ∃ (x2 : Option V) (l' : Addr) (vs' : List V) (ds' : List K4.P), σ' = [some (.ref p), some (.ref l'), x2] ∧ Ex H H' ∧ H l' = none ∧ H' l' = some (.lst vs') ∧ Prs H' ds' vs' ∧ ds'.length = ds.length ∧ mk (ds.length / 2 - i) ds' = heapify ds)
    (fun H2 e2 => ⟨_, l, vs, ds, rfl, e1.trans e2, nl, e2 _ _ hl1, pr.ex (e1.trans e2), rfl, rfl⟩) ?_ ?_
  · rintro i σ' H' hi ⟨x2, l', vs', ds', rfl, ex, nl', hp', pr', hl', he⟩
    refine s_asgLP (el_downC (ds := ds') (tp := ds.length / 2 - 1 - i) (isl_var (ev_var rfl) ⟨l', vs', rfl, hp', pr'⟩) (fun _ _ => ev_var rfl) (by omega) (by omega)) fun m us H2 nm e2 hm pm => ?_
    refine ⟨_, m, us, _, rfl, ex.trans e2, fresh_back ex nm, hm, pm, by rw [sink_len (by omega)]; exact hl', ?_⟩
    rw [← he]
    rw [show ds.length / 2 - (i + 1) = ds.length / 2 - 1 - i by omega]
    conv => rhs; rw [show ds.length / 2 - i = (ds.length / 2 - 1 - i) + 1 by omega]
    rfl
  · rintro σ' H' ⟨x2, l', vs', ds', rfl, ex, nl', hp', pr', hl', he⟩
    rw [Nat.sub_self] at he
    have he' : ds' = heapify ds := he
    rw [he'] at pr'
    refine s_ret (ev_var rfl) fun H2 e2 => q l' vs' H2 nl' (ex.trans e2) (e2 _ _ hp') (pr'.ex e2)
end
end K4
/-! Lambdas that are kept: made, put into a list, called out of a comprehension's block. -/
namespace K13
open PySem PySem.Spec PyProof.Rows L2 LamX
/-- a kept lambda: what it is made of -/
structure LF where
  params : Arguments
  body : Expr
  scope : Scope
  qual : Str
  cl : List (Str × Addr)
  c : Addr
def LfO (f : Addr) (F : LF) : HO := .ext fun h => ∃ pm ctv : Value, h.get? f = some (PySem.W.kla_obj "<lambda>" F.qual F.params F.body F.scope F.cl pm F.c ctv)
theorem lfO_tbl {f : Addr} {F : LF} (ps : Array Value) : LfO f F ≠ .tbl ps := by
  intro z; unfold LfO at z; cases z
theorem lfO_read {P : Program} {w : World} {H : Hp} {h : Heap} {f : Addr} {F : LF} (k : HOk P w H h) (e : H f = some (LfO f F)) : ∃ pm ctv : Value, h.get? f = some (PySem.W.kla_obj "<lambda>" F.qual F.params F.body F.scope F.cl pm F.c ctv) := (k f _ e).1
section
variable {X : Cx} {pins : List (Addr × Obj)} {σ : L2.St} {H : Hp} {s : Shared}
/-- a new lambda is told from now on -/
theorem lf_new {F : LF} {pm ctv : Value} {t' : Nat} (I : Inv X pins σ H s) :
    Inv X pins σ (upd H s.heap.objs.size (LfO s.heap.objs.size F)) { s with heap := s.heap.push (PySem.W.kla_obj "<lambda>" F.qual F.params F.body F.scope F.cl pm F.c ctv), toks := t' } := by
  have g : (s.heap.push (PySem.W.kla_obj "<lambda>" F.qual F.params F.body F.scope F.cl pm F.c ctv)).get? s.heap.objs.size = some (PySem.W.kla_obj "<lambda>" F.qual F.params F.body F.scope F.cl pm F.c ctv) := Heap.get?_push_size _ rfl
  exact I.laid (fun b u e => Heap.get?_push_of_some _ e) (Nat.le_refl _) ⟨⟨pm, ctv, g⟩, ⟨_, g⟩, fun h1 h2 ⟨p, c, z⟩ keep => ⟨p, c, keep _ z⟩⟩
/-- a table with one more row -/
theorem tabs_row {T : List (Addr × Str)} {P c : Addr} {q : Str} {ps : Array Value} {pos : Pos} (hu : ∀ p ∈ T, p.1 = P → p.2 = q) (hT : Tabs T H) (hP : H P = some (.tbl ps)) (ok : TriplesOk ps.toList) (nC : H c = none)
    (ha : ∀ (p' : Pos) (cv : Value), codeAmong p' ps.toList = some cv → ∃ c0, cv = .ref c0 ∧ H c0 = some (CodeO c0 q)) :
    ExtN H (upd (upd H P (.tbl (ps ++ #[rawInt pos.line, rawInt pos.col, .ref c]))) c (CodeO c q)) ∧ Tabs T (upd (upd H P (.tbl (ps ++ #[rawInt pos.line, rawInt pos.col, .ref c]))) c (CodeO c q)) := by
  have hE : ExtN H (upd (upd H P (.tbl (ps ++ #[rawInt pos.line, rawInt pos.col, .ref c]))) c (CodeO c q)) := by
    intro b o e n
    have b1 : b ≠ c := ne_of_none e nC
    have b2 : b ≠ P := by
      rintro rfl
      exact n ps (Option.some.inj (e.symm.trans hP))
    rw [upd_ne b1, upd_ne b2, e]
  refine ⟨hE, ?_⟩
  rintro ⟨P', q'⟩ hp
  by_cases hb : P' = P
  · have hq : q' = q := hu _ hp hb
    subst hb hq
    have els : (ps ++ #[rawInt pos.line, rawInt pos.col, Value.ref c]).toList = ps.toList ++ [rawInt pos.line, rawInt pos.col, .ref c] := by simp
    refine ⟨ps ++ #[rawInt pos.line, rawInt pos.col, .ref c], ?_, ?_, ?_⟩
    · show upd _ c _ P' = _
      rw [upd_ne (ne_of_none hP nC), upd_same]
    · rw [els]; exact PySem.TriplesOk_snoc _ _ _ _ ok
    · intro p' cv hcv
      rw [els] at hcv
      rcases among_app _ ok hcv with z | rfl
      · obtain ⟨c0, e1, e2⟩ := ha p' cv z
        exact ⟨c0, e1, hE _ _ e2 codeO_ne⟩
      · exact ⟨c, rfl, upd_same⟩
  · obtain ⟨ps', a1, a2, a3⟩ := hT _ hp
    refine ⟨ps', ?_, a2, ?_⟩
    · show upd _ c _ P' = _
      rw [upd_ne (ne_of_none a1 nC), upd_ne hb]
      exact a1
    · intro p' cv hcv
      obtain ⟨c0, e1, e2⟩ := a3 p' cv hcv
      exact ⟨c0, e1, hE _ _ e2 codeO_ne⟩
theorem none_of_upd {a b : Addr} {o : HO} (e : upd H a o b = none) : H b = none := by
  by_cases z : b = a
  · rw [z, upd_same] at e
    cases e
  · rw [upd_ne z] at e
    exact e
/-- the making of a lambda that is kept -/
theorem lf_make {T : List (Addr × Str)} {c P : Addr} {params : Arguments} {body : Expr} {scope : Scope} {pos : Pos} {E Q : Value → Shared → Prop} (I : Inv X pins σ H s) (TB : TabB X.base X.mg c P) (hcode : X.env.code = .ref c)
    (hm : (P, X.env.qual ++ "<lambda>") ∈ T) (hu : ∀ p ∈ T, p.1 = P → p.2 = X.env.qual ++ "<lambda>") (hT : Tabs T H) (hdef : defaultsOf params X.env = ([], [])) (hfree : ∀ y ∈ scope.names, y.2 = .free → ∃ c, X.env.cells.lookup y.1 = some c)
    (h : ∀ (f c' : Addr) (H1 : Hp) (s' : Shared), Inv X pins σ H1 s' → ExtN H H1 → (∀ b, H1 b = none → H b = none) → Tabs T H1 → H f = none →
      H1 f = some (LfO f ⟨params, body, scope, X.env.qual ++ "<lambda>", cloFrom X.env.cells scope.names [], c'⟩) → H1 c' = some (CodeO c' (X.env.qual ++ "<lambda>")) → Q (.ref f) s') :
    wpAny (model X.prog X.w) X.A (eval (.Lambda params body scope pos) X.env) Q E s := by
  obtain ⟨ps, hP, ok, ha⟩ := (show TabS H P (X.env.qual ++ "<lambda>") from hT _ hm)
  have bi : s.heap.BuiltinsAt X.mg P := TB.bm.keeps I.bk
  have oP : s.heap.get? P = some { cls := .none, data := .fields ps } := I.hok P _ hP
  have CH := TB.code.keeps I.bk
  have NG := I.mod.glob.keeps I.bk
  refine PySem.W.kla_eval hdef ?_
  rcases hc : codeAmong pos ps.toList with _ | cv
  · refine PySem.W.kla_makeFunction (closure_ok hfree) I.ok.glob NG hcode CH oP ok hc TB.gP bi fun c' ctv h' tk hx hge hlt hrec htb => ?_
    obtain ⟨c2, oc, vs, t, ce, hoc, hd, hv⟩ := hrec
    obtain rfl : c' = c2 := by injection ce
    have nC : H c' = none := I.hok.fresh hge
    obtain ⟨hE, hT'⟩ := tabs_row (pos := pos) hu hT hP ok nC ha
    have I1 := inv_table (t' := tk) I hP (fun b o hb e => hx b o hb e) htb hge ⟨oc, vs, t, hoc, hd, hv⟩
    have nF := I1.hok.fresh (Nat.le_refl _)
    have I2 := lf_new (F := ⟨params, body, scope, X.env.qual ++ "<lambda>", cloFrom X.env.cells scope.names [], c'⟩) (t' := tk) (pm := (X.mg "__name__").getD .none) (ctv := ctv) I1
    refine h _ c' _ _ I2 (fun b o e n => ?_) (fun b e => none_of_upd (none_of_upd (none_of_upd e))) (hT'.ext fun b o e => ?_) (I.hok.fresh (Nat.le_trans hge (Nat.le_of_lt hlt))) upd_same ?_
    · have e1 := hE b o e n
      rw [upd_ne (ne_of_none e1 nF)]
      exact e1
    · rw [upd_ne (ne_of_none e nF)]
      exact e
    · rw [upd_ne (Nat.ne_of_lt hlt)]
      exact upd_same
  · obtain ⟨c', rfl, hco⟩ := ha pos cv hc
    refine PySem.W.kla_makeFunctionHit (closure_ok hfree) I.ok.glob NG hcode CH oP ok hc bi fun ctv h' tk hx hsz => ?_
    have I1 : Inv X pins σ H { s with heap := h', toks := tk } := I.kept hx
    have nF : H h'.objs.size = none := I1.hok.fresh (Nat.le_refl _)
    have I2 := lf_new (F := ⟨params, body, scope, X.env.qual ++ "<lambda>", cloFrom X.env.cells scope.names [], c'⟩) (t' := tk) (pm := (X.mg "__name__").getD .none) (ctv := ctv) I1
    have up : ∀ b o, H b = some o → upd H h'.objs.size (LfO h'.objs.size ⟨params, body, scope, X.env.qual ++ "<lambda>", cloFrom X.env.cells scope.names [], c'⟩) b = some o := fun b o e => by
      rw [upd_ne (ne_of_none e nF)]; exact e
    exact h _ c' _ _ I2 (fun b o e _ => up b o e) (fun b e => none_of_upd e) (hT.ext up) nF upd_same (up _ _ hco)
end
/-- reading of «lambda: body», the function kept -/
def tLmK (T : List (Addr × Str)) (mk : Addr → LF) : TE := fun _ H Q => Tabs T H ∧ ∀ (f c' : Addr) (H1 : Hp), ExtN H H1 → (∀ b, H1 b = none → H b = none) → Tabs T H1 → H f = none → H1 f = some (LfO f (mk c')) → H1 c' = some (CodeO c' (mk c').qual) → Q (.ref f) H1
theorem pe_lmK {X : Cx} {T : List (Addr × Str)} {c P : Addr} {params : Arguments} {body : Expr} {scope : Scope} {pos : Pos} (TB : TabB X.base X.mg c P) (hcode : X.env.code = .ref c)
    (hm : (P, X.env.qual ++ "<lambda>") ∈ T) (hu : ∀ p ∈ T, p.1 = P → p.2 = X.env.qual ++ "<lambda>") (L : LamS X.env.scope scope) (hdef : defaultsOf params X.env = ([], [])) :
    PE X (.Lambda params body scope pos) (tLmK T fun c' => ⟨params, body, scope, X.env.qual ++ "<lambda>", cloFrom X.env.cells scope.names [], c'⟩) := by
  refine ⟨fun pins s σ H Q I ⟨hT, h⟩ => ?_⟩
  exact lf_make I TB hcode hm hu hT hdef (L.has I.ok) fun f c' H1 s' I1 e n t f0 f1 c1 => ⟨.ref f, H1, I1, rfl, h f c' H1 e n t f0 f1 c1⟩
/-! ### a comprehension whose element may ask what the maker's names hold -/
section
variable {X : Cx} {pins : List (Addr × Obj)} {σ : L2.St}
/-- what a turn of the block is to bring about -/
def TurnOk (g : TG) (tt : TT) (te : TE) (vs : List Nat) (σ : L2.St) (D : Addr) (J : It) (W : Nat → Nat → Hp → Prop) (Qd : Hp → Prop) : Prop := ∀ i m H, W i m H →
  (J.stop i H ∧ Qd H) ∨ (J.go i H ∧ ∃ Nx : Hp → Prop, (∀ H', Nx H' → ∃ m', m' < m ∧ W (i + 1) m' H') ∧ ∀ x H', J.yld i H x H' →
    g x (wipe σ vs) H' fun σ2 H2 => wipe σ2 vs = wipe σ vs ∧ tt σ2 H2 fun b H3 => if b = true then te σ2 H3 fun y H4 => ∃ acc, H4 D = some (.lst acc) ∧ acc.length < sizeLine ∧ Nx (upd H4 D (.lst (acc ++ [y]))) else Nx H3)
variable {H0 : Hp} {s0 s4 : Shared} {scope : Scope} {own : List (Str × Nat)} {ce : Env} {fp : List Addr} {it D : Addr} {J : It} {tn : Nat → Heap → Prop} {elt tg iter : Expr} {ifs : List Expr} {pos : Pos} {g : TG} {tt : TT} {te : TE} {Qd : Hp → Prop} {R : Result → Shared → Prop} {W : Nat → Nat → Hp → Prop} {m0 : Nat}
theorem fp_blk {σ' : L2.St} {H' : Hp} {s' : Shared} (B : Inv (X.blk s0 H0 scope ce fp) [] σ' H' s') (n : ∀ b ∈ fp, H' b = none) : ∀ b ∈ fp, FpOk (X.blk s0 H0 scope ce fp) [] H' b := by
  intro b hb
  have o1 := B.ok.exf b hb
  refine ⟨n b hb, o1.1, B.ok.exfs b hb, Or.inl hb, o1.2, fun p hp => ?_⟩
  cases hp
/-- the loop in the block -/
theorem block_loop (calm : X.calm = true) (I0 : Inv X pins σ H0 s0) (F0 : ∀ b ∈ fp, FpOk X pins H0 b) (T : Turn X.prog X.w X.K tg J fp it tn) (cL : ce.locals = s0.heap.objs.size)
    (I4 : Inv (X.blk s0 H0 scope ce fp) [] (wipe σ (own.map (·.2))) H0 s4) (t4 : tn 0 s4.heap) (w0 : W 0 m0 H0)
    (pg : PG (X.blk s0 H0 scope ce fp) tg g) (pt : PTs (X.blk s0 H0 scope ce fp) ifs tt) (pe : PE (X.blk s0 H0 scope ce fp) elt te)
    (turn : TurnOk g tt te (own.map (·.2)) σ D J W Qd)
    (fin : ∀ H' s' m, Inv X pins σ H' s' → Qd H' → s'.heap.Ns s0.heap.objs.size m → FpOk X pins H' s0.heap.objs.size → R (.ok .next) s') :
    codeAny (model X.prog X.w) X.A (.compLoop (.ListComp elt [⟨tg, iter, ifs, 0⟩] scope pos) 0 (.ref it) (.ref D) ce) R s4 := by
  refine compLoop_any (fun m s' => ∃ i H', W i m H' ∧ tn i s'.heap ∧ (∀ b ∈ fp, H' b = none) ∧ Inv (X.blk s0 H0 scope ce fp) [] (wipe σ (own.map (·.2))) H' s') (fun m s5 hyp => ?_) m0 ⟨0, H0, w0, t4, fun b hb => (F0 b hb).1, I4⟩
  obtain ⟨i, H5, w5, t5, n5, I5⟩ := hyp
  have f5 := fp_blk I5 n5
  cases turn i m H5 w5 with
  | inl st =>
    refine thnF (T.done (X.blk s0 H0 scope ce fp) rfl rfl rfl calm i [] s5 _ H5 (fun _ _ => False) I5 f5 t5 st.1) fun r s6 h6 => ?_
    obtain ⟨er, I6⟩ := h6
    subst er
    obtain ⟨m6, ns6, _⟩ := I6.loc
    have fr6 : H5 ce.locals = none := I6.free
    rw [cL] at fr6
    have ns6' : s6.heap.Ns ce.locals m6 := ns6
    rw [cL] at ns6'
    have back : Inv X pins σ H5 s6 := I0.call' (ch := fp) I6.os I6.base I6.hok I6.bare fun b hb => by
      obtain ⟨_, q1, _, q3, q4, q5⟩ := F0 b hb
      exact ⟨q3, q1, q4, q5⟩
    exact fin H5 s6 m6 back st.2 ns6' (I0.fpOk (Nat.le_refl _) fr6)
  | inr st =>
    obtain ⟨hgo, Nx, hNx, hyl⟩ := st
    refine thnF (T.item (X.blk s0 H0 scope ce fp) rfl rfl rfl calm i [] s5 _ H5 (fun _ _ => False) I5 f5 t5 hgo) fun r s6 h6 => ?_
    obtain ⟨u, er, h6⟩ := h6
    subst er
    refine thnF h6 fun _ s7 h7 => ?_
    obtain ⟨x, H7, I7, rx, y7, t7, n7⟩ := h7
    have P7 := I7.pinned (fp_blk I7 n7) (T.obj _ _ t7)
    refine thnF (pg.run _ s7 _ H7 x u _ P7 rx (hyl x H7 y7)) fun _ s8 h8 => ?_
    obtain ⟨σ8, H8, I8, hw, h8⟩ := h8
    refine thnF (pt.run _ s8 σ8 H8 _ I8 h8) fun b s9 h9 => ?_
    obtain ⟨H9, I9, h9⟩ := h9
    have next : ∀ (s' : Shared) (H' : Hp), Inv (X.blk s0 H0 scope ce fp) ([] ++ pinsAt fp s7.heap) σ8 H' s' → Nx H' →
        ∃ m', m' < m ∧ ∃ i H', W i m' H' ∧ tn i s'.heap ∧ (∀ b ∈ fp, H' b = none) ∧ Inv (X.blk s0 H0 scope ce fp) [] (wipe σ (own.map (·.2))) H' s' := by
      intro s' H' I' hN
      obtain ⟨m', hm, w'⟩ := hNx H' hN
      have stays : ∀ b ∈ fp, ∀ o, s7.heap.get? b = some o → s'.heap.get? b = some o ∧ H' b = none := by
        intro b hb o e
        have q := I'.pin (b, o) (List.mem_append_right _ (List.mem_append_right _ (mem_pinsAt hb e)))
        exact ⟨q.1, q.2.1⟩
      have n' : ∀ b ∈ fp, H' b = none := fun b hb => by
        obtain ⟨o, e, _⟩ := T.obj _ _ t7 b hb
        exact (stays b hb o e).2
      have U' : Inv (X.blk s0 H0 scope ce fp) [] σ8 H' s' := Inv.unpinned (pins := []) I'
      refine ⟨m', hm, i + 1, H', w', T.keep _ _ _ t7 (fun b hb o e => (stays b hb o e).1), n', U'.weak ?_ ?_⟩
      · rw [← hw, wipe_length]
      · intro j v e
        rw [← hw] at e
        exact (wipe_some e).1
    cases b with
    | false =>
      rw [if_neg Bool.false_ne_true] at h9 ⊢
      exact next s9 H9 I9 h9
    | true =>
      rw [if_pos rfl] at h9 ⊢
      refine thnF (pe.run _ s9 σ8 H9 _ I9 h9) fun z s10 h10 => ?_
      obtain ⟨y, H10, I10, ry, acc, hacc, hsz, hN⟩ := h10
      exact app_ok (X := X.blk s0 H0 scope ce fp) I10 hacc hsz ry fun s11 I11 => next s11 _ I11 hN
/-- the reading: as a comprehension's, the element's reading by the maker's slots -/
def tLcS (wi : TI) (g : TG) (tt : TT) (te : L2.St → TE) (vs : List Nat) : TE := fun σ H Q => tLc wi g tt (te σ) vs σ H Q
theorem pe_lcS {wi : TI} {te : L2.St → TE} (calm : X.calm = true) (hN : X.N.Nodup) (hi : PI X tg iter wi) (ok : BlkOk X.N X.env.scope scope own)
    (hg : ∀ (s : Shared) (H : Hp) (C : Addr) (cl : List (Str × Addr)) (fp : List Addr), PG (X.blk s H scope (compEnvC scope cl C X.env) fp) tg g) (ht : ∀ (s : Shared) (H : Hp) (C : Addr) (cl : List (Str × Addr)) (fp : List Addr), PTs (X.blk s H scope (compEnvC scope cl C X.env) fp) ifs tt)
    (he : ∀ (pins : List (Addr × Obj)) (σ : L2.St) (s : Shared) (H : Hp) (C : Addr) (cl : List (Str × Addr)) (fp : List Addr), Inv X pins σ H s → (∀ b ∈ fp, FpOk X pins H b) → PE (X.blk s H scope (compEnvC scope cl C X.env) fp) elt (te σ))
    (hs : ∀ x, foldedSetIterable iter X.env x = pure x := by intro _; rfl) : PE X (.ListComp elt [⟨tg, iter, ifs, 0⟩] scope pos) (tLcS wi g tt te (own.map (·.2))) := by
  refine ⟨fun pins s σ H Q I h => ?_⟩
  rw [eval_ListComp]
  have free : ∀ y ∈ scope.names, y.2 = .free → ∃ c, X.env.cells.lookup y.1 = some c := fun y hy e => (ok.free y hy e).elim (fun k => I.ok.has _ (.inl k)) (fun k => I.ok.has _ (.inr k))
  refine wpAny_comprehension_free (use := none) rfl hs (closure_ok free) ok.kind (fun y hy e => (ok.uniq y hy).trans (congrArg some e)) (thn (hi.run pins s σ H _ I h) fun v s1 h1 => thn h1 fun iv s2 h2 => ?_)
  obtain ⟨it, fp, tn, J, H2, ei, I2, T, t2, f2, h2⟩ := h2
  subst ei
  refine wpAny_newObj_type (newEnv_comp ?_) (by show 0 ≤ sizeLine; decide)
  obtain ⟨D, hD⟩ : ∃ D, D = s2.heap.objs.size := ⟨_, rfl⟩
  have nD : H2 D = none := I2.hok.fresh (Nat.le_of_eq hD.symm)
  obtain ⟨W, ⟨m0, w0⟩, turn⟩ := h2 D nD
  obtain ⟨s3, hs3⟩ : ∃ s3 : Shared, s3 = { s2 with heap := s2.heap.push { cls := .type "list", data := .seq ([] : List Value).toArray } } := ⟨_, rfl⟩
  have hp3 : s3.heap = s2.heap.push { cls := .type "list", data := .seq ([] : List Value).toArray } := by rw [hs3]
  have up : ∀ b o, s2.heap.get? b = some o → s3.heap.get? b = some o := fun b o e => by rw [hp3]; exact Heap.get?_push_of_some _ e
  have I3 : Inv X pins σ (upd H2 D (.lst [])) s3 := by
    have z := I2.laid (a := D) (o := .lst []) (h' := s3.heap) (t' := s2.toks) up (Nat.le_of_eq hD.symm) ⟨Nat.zero_le _, [], 0, .nil, by rw [hD, hp3]; exact Heap.get?_push_size _ rfl⟩
    rw [hp3] at z
    rw [hs3]
    exact z
  have lt2 : ∀ b ∈ fp, b < s2.heap.objs.size := fun b hb => by
    obtain ⟨o, e, _⟩ := T.obj _ _ t2 b hb
    exact Heap.lt_size e
  have f3 : ∀ b ∈ fp, FpOk X pins (upd H2 D (.lst [])) b := fun b hb => by
    refine ⟨?_, (f2 b hb).2⟩
    rw [upd_ne (by rw [hD]; exact Nat.ne_of_lt (lt2 b hb))]
    exact (f2 b hb).1
  have lt3 : ∀ b ∈ fp, b < s3.heap.objs.size := fun b hb => by
    rw [hp3, Heap.size_push]
    exact Nat.lt_succ_of_lt (lt2 b hb)
  have I4 := block_start I3 ok hN (fun b hb => ⟨f3 b hb, lt3 b hb⟩)
  have t4 : tn 0 (pushCells (s3.heap.push { cls := .type "dict", data := .dict #[] }) scope.names) := T.keep _ _ _ t2 fun b _ o e => pushCells_keeps _ _ _ _ (Heap.get?_push_of_some _ (up b o e))
  rw [← hs3, ← hD]
  have loop := block_loop (R := compPost (model X.prog X.w) X.A X.xe none (EP X pins σ Q) (.ref D) s3.heap.objs.size) (Qd := fun H' => Q (.ref D) H') (pos := pos) (iter := iter) calm I3 f3 T rfl I4 t4 w0 (hg _ _ _ _ _) (ht _ _ _ _ _) (he pins σ _ _ _ _ _ I3 f3) turn fun H' s' m I' q ns f => ⟨m, ns, fun h'' sb => by
    obtain ⟨q0, q1, q2, q3, q4, q5⟩ := f
    refine ⟨.ref D, H', ?_, rfl, q⟩
    exact I'.turned (t' := s'.toks) (fun b o hb e => (sb.2 b hb).trans e) q0 q1 q3 q4 q5⟩
  exact codeAny_compStart_list loop (T.self X.A 0 _ _ _ t4 loop)
end
end K13
/-! Kept lambdas called, from a block, by a def that takes one. -/
namespace K13
open PySem PySem.Spec PyProof.Rows L2 LamX
/-- the function object of a lambda of X's def -/
abbrev lfOf (X : Cx) (params : Arguments) (body : Expr) (scope : Scope) (c' : Addr) : LF := ⟨params, body, scope, X.env.qual ++ "<lambda>", cloFrom X.env.cells scope.names [], c'⟩
/-- what is known of such a lambda: its body's reading -/
structure Kept (X : Cx) (k : Nat) (params : Arguments) (body : Expr) (scope : Scope) (tl : XK → TE) : Prop where
  L : LamS X.env.scope scope
  none : ∀ (q : Str) (cl : List (Str × Addr)) (pm cv ctv : Value), bindArgs (PySem.W.kla_fn "<lambda>" q params body scope cl pm cv ctv) ⟨[], []⟩ = pure []
  run : ∀ (A : Around) (outer : List Env) (s : Shared) (H : Hp) (E : XK) (f c' : Addr), Room k (A.deeper (lamEnv X scope s.heap.objs.size f c')) → PE (lamCx X A outer s H E scope f c') body (tl E)
section
variable {X : Cx} {pins : List (Addr × Obj)} {σ : L2.St} {H : Hp} {s : Shared}
/-- the call a(), a the parameter that holds a kept lambda -/
theorem pe_actK {Ng : List Str} {qg : Str} {sg : Scope} {g f c' : Addr} {cdg : Value} {CXg : CXT} {Eg : XK} {params : Arguments} {body : Expr} {scope : Scope} {tl : XK → TE} {k : Nat} {a : Str} {pn : List (Addr × Obj)} {xe : Value → Shared → Prop} {W : WX} {E : XK} {p1 p2 : Pos}
    (I : Inv X pins σ H s) (Kp : Kept X k params body scope tl) (tk : Takes ((cxOf CXg X.prog X.w X.K X.mg X.base Ng qg sg g cdg X.A X.stack s H Eg).tr pn xe) W) (hW : ∀ cls d σ' H', E cls d H' → W cls d σ' H')
    (hr : Room (k + 1) (X.A.deeper (envOfC qg sg s.heap.objs.size g cdg))) (hN : Ng[0]? = some a) (hv : Vis sg a) (hd : (a == ("__debug__" : Str)) = false) (hcd : (a == ("__classdict__" : Str)) = false) :
    PE ((cxOf CXg X.prog X.w X.K X.mg X.base Ng qg sg g cdg X.A X.stack s H Eg).tr pn xe) (.Call (.Name a p1) [] [] p2)
      (fun σZ HZ Q => σZ[0]? = some (some (.ref f)) ∧ HZ c' = some (CodeO c' (X.env.qual ++ "<lambda>")) ∧ HZ f = some (LfO f (lfOf X params body scope c')) ∧ tl E σ HZ Q) := by
  refine ⟨fun pinsZ sZ σZ HZ Q IZ hyp => ?_⟩
  obtain ⟨slot, code, lam, body_⟩ := hyp
  have ld := (pe_var (pos := p1) (i := 0) hN hv hd hcd).run pinsZ sZ σZ HZ (fun v H1 => H1 = HZ ∧ v = .ref f) IZ ⟨.ref f, slot, rfl, rfl⟩
  refine wpAny_Call_Name_kw (thn ld fun u s1 got => ?_)
  obtain ⟨v, H1, I1, ru, e1, e2⟩ := got
  subst e1
  subst e2
  cases (show u = Value.ref f from ru)
  obtain ⟨pm, ctv, obj⟩ := lfO_read I1.hok lam
  refine PySem.W.callWith_F0 ⟨_, _, _, _, obj⟩ ?_
  have un : Un (frs X.stack) [] H H1 s.heap s1.heap := I1.base
  obtain ⟨oc, vs, t, oc1, oc2, oc3⟩ := (I1.hok c' _ code).1
  have passes : Passes (L2.CX X.prog X.w) ((cxOf CXg X.prog X.w X.K X.mg X.base Ng qg sg g cdg X.A X.stack s H Eg).tr pn xe) E := passes_call tk hW
  have running : codeAny (model X.prog X.w) (X.A.deeper (envOfC qg sg s.heap.objs.size g cdg)) (.call (.ref f) ⟨[], []⟩) (CR (L2.CX X.prog X.w) (envOfC qg sg s.heap.objs.size g cdg :: X.stack) X.prog X.w H1 s1 Q E) s1 := by
    refine PySem.W.kla_callFunE hr.depth obj rfl Kp.L.co Kp.L.gen rfl ⟨c', oc, vs, t, rfl, oc1, oc2, oc3⟩ ?_
    rw [Kp.none]
    refine wpAny_pure (wpAny_newFunctionEnv (fun y hy => (Kp.L.own y hy).2) (fun y hy => nomatch hy) (fun h1 ns sb => ⟨I1.nolimit.fresh _ sb, ?_⟩) Kp.L.kind)
    have kept : ∀ b o, s1.heap.get? b = some o → h1.get? b = some o := fun b o e => by
      refine sb.extBut b o (fun z => ?_) (Heap.get?_push_of_some _ e)
      rw [z] at e
      exact Nat.lt_irrefl _ (Heap.lt_size e)
    have J := lam_start2 (E := E) (f := f) (c' := c') (tk := s1.toks + ([] : List (Str × Value)).length) I Kp.L I1.env0 hr.hd un ns kept
    refine PySem.W.kla_codeExpr (wpAny_mono ((Kp.run _ _ s1 H1 E f c' (hr.deeper _)).run [] _ _ H1 Q J body_) (fun v s2 q => ?_) fun _ _ q => q)
    obtain ⟨w', H2, J2, rv, q⟩ := q
    exact ⟨w', H2, J2.os, J2.bare, J2.base, J2.hok, rv, q⟩
  refine wpAny_call (codeAny_mono running fun r s2 q => ?_)
  match r, q with
  | .error e, q => exact passes pinsZ σZ H1 s1 e s2 I1 q
  | .ok (.ret u), q => exact I1.after q
/-- the reading of g(a), a a name of the block that holds a kept lambda: TT what g makes of it; σ0 the maker's slots -/
def tKept (X : Cx) (k j : Nat) (TT : (XK → Hp → VK → Prop) → Hp → VK → Prop) : L2.St → TE := fun σ0 σ H Q =>
  ∃ (f c' : Addr) (params : Arguments) (body : Expr) (scope : Scope) (tl : XK → TE), σ[j]? = some (some (.ref f)) ∧ Kept X k params body scope tl ∧ H f = some (LfO f (lfOf X params body scope c')) ∧ H c' = some (CodeO c' (X.env.qual ++ "<lambda>")) ∧
    TT (fun E H' Q' => H' f = some (LfO f (lfOf X params body scope c')) ∧ tl E σ0 H' Q') H Q
theorem pe_kept {TT : (XK → Hp → VK → Prop) → Hp → VK → Prop} {x a y : Str} {g : Addr} {k j : Nat} {pg : Arguments} {bg : List Stmt} {sg : Scope} {dV kV doc pm cdv ct oc : Value} {an od : Option Addr} {osl : Array (Option Value)} {Ng : List Str} {p q pos : Pos}
    {H0 : Hp} {s0 : Shared} {scope0 : Scope} {ce : Env} {fp : List Addr} (I0 : Inv X pins σ H0 s0) (F0 : ∀ b ∈ fp, FpOk X pins H0 b) (hg : Gl (X.blk s0 H0 scope0 ce fp) x) (hm : X.mg x = some (.ref g)) (hk : PySem.W.keepIn X.K (.ref g) = true)
    (lk : X.K.lookup g = some ⟨oc, od, .func (PySem.W.fnOf x x pg bg sg dV kV doc pm an cdv ct), osl⟩) (hcg : PySem.W.codeIn X.K cdv x = true) (hb : L2.Binds X.K (PySem.W.fnOf x x pg bg sg dV kV doc pm an cdv ct) [a] []) (Sg : FnScope Ng [a] sg) (hNg : Ng[0]? = some a) (hva : Vis sg a)
    (hG : GivesTo X Ng x sg g cdv bg a (X.env.qual ++ "<lambda>") TT) (hr : Room (k + 2) X.A) (hj : X.N[j]? = some y) (hy : Vis ce.scope y)
    (hdb : (x == ("__debug__" : Str)) = false := by decide) (hd : (a == ("__debug__" : Str)) = false := by decide) (hcd : (a == ("__classdict__" : Str)) = false := by decide) (hyd : (y == ("__debug__" : Str)) = false := by decide) (hycd : (y == ("__classdict__" : Str)) = false := by decide) :
    PE (X.blk s0 H0 scope0 ce fp) (.Call (.Name x p) [.Name y q] [] pos) (tKept X k j TT σ) := by
  refine ⟨fun pins1 s1 σ1 H1 Q I1 hyp => ?_⟩
  obtain ⟨f, c', params, body, scope, tl, slot, Kp, lam, code, act⟩ := hyp
  refine wpAny_Call_Name_kw (ld_glob I1 hg hm ?_ hdb)
  refine PySem.W.callWith_K (h₀ := X.base) I1.ok.mod.kin hk ?_ (by rfl) (by rfl)
  have ld := (pe_var (X := X.blk s0 H0 scope0 ce fp) (pos := q) (i := j) hj hy hyd hycd).run pins1 s1 σ1 H1 (fun v H2 => H2 = H1 ∧ v = .ref f) I1 ⟨.ref f, slot, rfl, rfl⟩
  show wpAny _ _ (spliced ((false, eval (.Name y q) _) :: backTo pos (starEach [] _))) _ _ s1
  refine Calls.spliced_cons (thn ld fun u s2 got => ?_)
  obtain ⟨v, H2, I2, ru, e1, e2⟩ := got
  subst e1
  subst e2
  cases (show u = Value.ref f from ru)
  refine Calls.spliced_nil ⟨I2.kIn, ?_⟩
  have IX : Inv X pins σ H2 s2 := I0.call' (ch := fp) I2.os I2.base I2.hok I2.bare fun b hb => by
    obtain ⟨_, q1, _, q3, q4, q5⟩ := F0 b hb
    exact ⟨q3, q1, q4, q5⟩
  have running : codeAny (model X.prog X.w) X.A (.call (.ref g) ⟨[.ref f], []⟩) (CR C8.CX0 X.stack X.prog X.w H2 s2 Q C8.E0) s2 := by
    refine run_ofS (k := k + 1) (ps := [a]) (us := [.ref f]) (vs := [.ref f]) lk hcg Sg hr IX.env0 (hb s2 [.ref f] IX.kIn rfl) (.cons rfl .nil) rfl fun room => ?_
    obtain ⟨t, ht, q⟩ := hG f c' s2 H2 Q (fun E H' Q' => H' f = some (LfO f (lfOf X params body scope c')) ∧ tl E σ H' Q') (fun W pn xe E p1 p2 tk hW => pe_actK IX Kp tk hW room hNg hva hd hcd) code act
    exact ⟨t, ht.nox, q⟩
  refine wpAny_call (codeAny_mono running fun r s3 q => ?_)
  match r, q with
  | .error e, q => exact (show False from q).elim
  | .ok (.ret u), q => exact I2.after q
end
/-! ### try: a() / except x: return True; return False -/
def TTref (K : PySem.W.Frag) (CS : Addr) : (XK → Hp → VK → Prop) → Hp → VK → Prop := fun tl H Q =>
  tl (fun cls _ H' => ∃ b, PySem.W.exmOne K cls (.ref CS) = some b ∧ (b = true → Q (.bl true) H') ∧ (b = false → False)) H (fun _ H' => Q (.bl false) H')
theorem ref_gives {X : Cx} {Ng : List Str} {x a e q : Str} {sg : Scope} {g CS : Addr} {cdg : Value} {j1 j2 : Nat} {p1 p2 p3 p4 p5 p6 p7 p8 p9 p10 : Pos} (hge : sg.names.lookup e = some .globalImplicit) (hme : X.mg e = some (.ref CS)) (hde : (e == ("__debug__" : Str)) = false) (h0 : ∀ f : Addr, (L2.start Ng [V.ref f])[0]? = some (some (V.ref f))) :
    GivesTo X Ng x sg g cdg [.Try [.Expr (.Call (.Name a p1) [] [] p2) p3] [.ExceptHandler (some (.Name e p4)) none [.Return (some (.Constant (.bool true) j1 p5)) p6] p7] [] [] p8, .Return (some (.Constant (.bool false) j2 p9)) p10] a q (TTref X.K CS) := by
  intro f c' s H Q tl act hc hyp
  have gl : Gl (cxOf C8.CX0 X.prog X.w X.K X.mg X.base Ng x sg g cdg X.A X.stack s H C8.E0).nox e := hge
  refine ⟨_, pss_cons (ps_try_only (X := (cxOf C8.CX0 X.prog X.w X.K X.mg X.base Ng x sg g cdg X.A X.stack s H C8.E0).nox) (c := .ref CS)
    (tb := fun W D σ H => ∃ Ec : XK, (∀ cls d σ' H', Ec cls d H' → W cls d σ' H') ∧ σ[0]? = some (some (.ref f)) ∧ H c' = some (CodeO c' q) ∧ tl Ec H (fun _ H' => D.nx σ H'))
    rfl rfl ⟨gl, hde, .inl hme⟩ LamX.takes0 (fun W pn xe tk _ => ⟨fun pins s' σ H' D I h' => ?_⟩) (fun a oe cls d pn _ _ => pss_one (ps_ret pe_bl))) (pss_one (ps_ret pe_bl)), ?_⟩
  · obtain ⟨Ec, hW, h1, h2, h3⟩ := h'
    exact (pss_one (ps_expr (pos := p3) (act W pn xe Ec p1 p2 tk hW))).run pins s' σ H' D I ⟨h1, h2, h3⟩
  · exact ⟨fun cls _ H' => ∃ b, PySem.W.exmOne X.K cls (.ref CS) = some b ∧ (b = true → Q (.bl true) H') ∧ (b = false → False), fun cls d σ' H' ⟨b, z1, z2, z3⟩ => ⟨b, z1, fun hb _ _ => z2 hb, z3⟩, h0 f, hc, hyp⟩
end K13
/-! Kept lambdas, their facts in one; calls by keywords alone. -/
namespace K13
open PySem PySem.Spec PyProof.Rows L2 LamX
/-- a lambda of X's def stands at f, tl its body's reading -/
def KeptAt (X : Cx) (k : Nat) (H : Hp) (f : Addr) (tl : XK → TE) : Prop := ∃ (c' : Addr) (params : Arguments) (body : Expr) (scope : Scope), Kept X k params body scope tl ∧ H f = some (LfO f (lfOf X params body scope c')) ∧ H c' = some (CodeO c' (X.env.qual ++ "<lambda>"))
/-- all but the well at wa, and the tables, stays -/
def Go (wa : Addr) (H H2 : Hp) : Prop := ∀ b o, H b = some o → b ≠ wa → (∀ ps, o ≠ .tbl ps) → H2 b = some o
theorem Go.refl (wa : Addr) (H : Hp) : Go wa H H := fun _ _ h _ _ => h
theorem Go.trans {wa : Addr} {H H2 H3 : Hp} (a : Go wa H H2) (b : Go wa H2 H3) : Go wa H H3 := fun c o h n t => b c o (a c o h n t) n t
theorem Go.ex {wa : Addr} {H H2 : Hp} (e : Evl.Ex H H2) : Go wa H H2 := fun b o h _ _ => e b o h
theorem Go.kw {wa : Addr} {H H2 : Hp} (e : K4.Kw wa H H2) : Go wa H H2 := fun b o h n _ => e b o h n
theorem Go.extN {wa : Addr} {H H2 : Hp} (e : ExtN H H2) : Go wa H H2 := fun b o h _ t => e b o h t
/-- an object that is no list is not the well -/
theorem wl_not {wa b : Addr} {H : Hp} {z : Nat} {o : HO} (wl : K4.Wl wa H z) (h : H b = some o) (n : ∀ xs, o ≠ .lst xs) : b ≠ wa := fun e => by
  obtain ⟨_, _, q⟩ := wl
  rw [e, q] at h
  cases h
  exact n _ rfl
theorem KeptAt.go {X : Cx} {k : Nat} {H H2 : Hp} {f wa : Addr} {tl : XK → TE} {z : Nat} (wl : K4.Wl wa H z) (g : Go wa H H2) (h : KeptAt X k H f tl) : KeptAt X k H2 f tl := by
  obtain ⟨c', params, body, scope, a, b, c⟩ := h
  refine ⟨c', params, body, scope, a, g _ _ b (wl_not wl b fun xs e => ?_) lfO_tbl, g _ _ c (wl_not wl c fun xs e => ?_) codeO_ne⟩
  · unfold LfO at e; cases e
  · unfold CodeO at e; cases e
theorem tabs_go {T : List (Addr × Str)} {H H2 : Hp} {wa : Addr} {z : Nat} (wl : K4.Wl wa H z) (k : K4.Kw wa H H2) (t : Tabs T H) : Tabs T H2 := fun p hp => by
  obtain ⟨ps, h1, h2, h3⟩ := t p hp
  refine ⟨ps, k _ _ h1 (wl_not wl h1 fun xs e => nomatch e), h2, fun pos cv hc => ?_⟩
  obtain ⟨c, e1, e2⟩ := h3 pos cv hc
  refine ⟨c, e1, k _ _ e2 (wl_not wl e2 fun xs e => ?_)⟩
  unfold CodeO at e; cases e
/-- reading of «lambda: body», kept -/
def tLmP (X : Cx) (T : List (Addr × Str)) (k : Nat) (tl : XK → TE) : TE := fun _ H Q => Tabs T H ∧ ∀ (f : Addr) (H1 : Hp), ExtN H H1 → (∀ b, H1 b = none → H b = none) → Tabs T H1 → H f = none → KeptAt X k H1 f tl → Q (.ref f) H1
theorem pe_lmP {X : Cx} {T : List (Addr × Str)} {c P : Addr} {params : Arguments} {body : Expr} {scope : Scope} {pos : Pos} {k : Nat} {tl : XK → TE} (TB : TabB X.base X.mg c P) (hcode : X.env.code = .ref c)
    (hm : (P, X.env.qual ++ "<lambda>") ∈ T) (hu : ∀ p ∈ T, p.1 = P → p.2 = X.env.qual ++ "<lambda>") (hdef : defaultsOf params X.env = ([], [])) (Kp : Kept X k params body scope tl) :
    PE X (.Lambda params body scope pos) (tLmP X T k tl) :=
  ⟨fun pins s σ H Q I ⟨hT, h⟩ => (pe_lmK (pos := pos) TB hcode hm hu Kp.L hdef).run pins s σ H Q I ⟨hT, fun f c' H1 e n t f0 f1 c1 => h f H1 e n t f0 ⟨c', params, body, scope, Kp, f1, c1⟩⟩⟩
/-- the reading of g(a), a a name of the block that holds a kept lambda -/
def tKeptP (X : Cx) (k j : Nat) (TT : (XK → Hp → VK → Prop) → Hp → VK → Prop) : L2.St → TE := fun σ0 σ H Q =>
  ∃ (f : Addr) (tl : XK → TE), σ[j]? = some (some (.ref f)) ∧ KeptAt X k H f tl ∧ ∀ G : Hp → Prop, G H → TT (fun E H' Q' => G H' ∧ tl E σ0 H' Q') H Q
theorem pe_keptP {X : Cx} {pins : List (Addr × Obj)} {σ : L2.St} {TT : (XK → Hp → VK → Prop) → Hp → VK → Prop} {x a y : Str} {g : Addr} {k j : Nat} {pg : Arguments} {bg : List Stmt} {sg : Scope} {dV kV doc pm cdv ct oc : Value} {an od : Option Addr} {osl : Array (Option Value)} {Ng : List Str} {p q pos : Pos}
    {H0 : Hp} {s0 : Shared} {scope0 : Scope} {ce : Env} {fp : List Addr} (I0 : Inv X pins σ H0 s0) (F0 : ∀ b ∈ fp, FpOk X pins H0 b) (hg : Gl (X.blk s0 H0 scope0 ce fp) x) (hm : X.mg x = some (.ref g)) (hk : PySem.W.keepIn X.K (.ref g) = true)
    (lk : X.K.lookup g = some ⟨oc, od, .func (PySem.W.fnOf x x pg bg sg dV kV doc pm an cdv ct), osl⟩) (hcg : PySem.W.codeIn X.K cdv x = true) (hb : L2.Binds X.K (PySem.W.fnOf x x pg bg sg dV kV doc pm an cdv ct) [a] []) (Sg : FnScope Ng [a] sg) (hNg : Ng[0]? = some a) (hva : Vis sg a)
    (hG : GivesTo X Ng x sg g cdv bg a (X.env.qual ++ "<lambda>") TT) (hr : Room (k + 2) X.A) (hj : X.N[j]? = some y) (hy : Vis ce.scope y)
    (hdb : (x == ("__debug__" : Str)) = false := by decide) (hd : (a == ("__debug__" : Str)) = false := by decide) (hcd : (a == ("__classdict__" : Str)) = false := by decide) (hyd : (y == ("__debug__" : Str)) = false := by decide) (hycd : (y == ("__classdict__" : Str)) = false := by decide) :
    PE (X.blk s0 H0 scope0 ce fp) (.Call (.Name x p) [.Name y q] [] pos) (tKeptP X k j TT σ) := by
  refine ⟨fun pins1 s1 σ1 H1 Q I1 hyp => ?_⟩
  obtain ⟨f, tl, slot, ⟨c', params, body, scope, Kp, lam, code⟩, act⟩ := hyp
  exact (pe_kept (p := p) (q := q) (pos := pos) I0 F0 hg hm hk lk hcg hb Sg hNg hva hG hr hj hy hdb hd hcd hyd hycd).run pins1 s1 σ1 H1 Q I1 ⟨f, c', params, body, scope, tl, slot, Kp, lam, code, act _ lam⟩
/-- f(k = v, ..) -/
theorem pe_callKw {X : Cx} {CX : CXT} {k : Nat} {f : Addr} {fd : FuncData} {ps ks : List Str} {sp : Sp} {E : XK} {x : Str} {p pos : Pos} {kws : List Keyword} {tk : TA} {g : List Value → List Value → List Value} {gV : List V → List V → List V}
    (F : FnOk X.prog X.w X.K X.mg X.base CX k f fd ps sp) (hr : Room k X.A) (hg : Gl X x) (hm : X.mg x = some (.ref f)) (hk : PySem.W.keepIn X.K (.ref f) = true) (hb : KBinds X.K fd ps ks g gV) (hx : Passes CX X E)
    (hkw : PK X kws tk) (hall : (backToKw pos (keywordEach kws X.env)).all (·.1.isSome) = true := by rfl) (hks : (backToKw pos (keywordEach kws X.env)).filterMap (·.1) = ks := by rfl)
    (hdb : (x == ("__debug__" : Str)) = false := by decide) (hpl : ((backTo pos (starEach [] X.env)).any (·.1) || (backToKw pos (keywordEach kws X.env)).any (·.1.isNone)) = false := by rfl) :
    PE X (.Call (.Name x p) [] kws pos) (tCallK sp gV E tNil tk) := by
  refine ⟨fun pins s σ H Q I h => ?_⟩
  refine wpAny_Call_Name_kw (ld_glob I hg hm ?_ hdb)
  refine PySem.W.callWith_KW0 (h₀ := X.base) I.ok.mod.kin hk hall (thn (hkw.run pos pins s σ H _ I h) fun ws s2 ⟨zs, H2, I2, rz, q2⟩ => ⟨I2.kIn, ?_⟩) hpl
  rw [hks]
  exact run_fnk (us := []) F hr hb hx I2 .nil rz q2
end K13
/-! Draws, data that is refused, lambdas in a list. -/
namespace K4
open PySem L2 Evl PySem.Spec PyProof.Rows LamX K13
section
variable {K : PySem.W.Frag} {H : Hp} {σ : L2.St} {ta tb t1 t2 te tl : TE} {tz tbd : TS} {Dd : Ends} {g : TG} {tt : TT} {own : List Nat}
theorem raw_draw {E : XK} {t : TA} {a : Addr} {n : Int} {z : Nat} {Q : VK} (h : EvA t σ H [.ref a, .int n]) (wl : Wl a H z) (hz : z ≤ 1000000) (n0 : 0 < n) (n1 : n < 2 ^ 140) (k : ∀ (r : Int) (z2 : Nat) H2, 0 ≤ r → r < n → z2 ≤ z + 1 → Kw a H H2 → Wl a H2 z2 → Q (.int r) H2) : tCall spDraw [] E t σ H Q :=
  h H (Ex.refl H) _ fun H1 e => ⟨a, n, z, rfl, wl.ex e, hz, n0, n1, fun r z2 H2 r0 r1 hz2 kw wl2 => k r z2 H2 r0 r1 hz2 ((Kw.of e).trans kw) wl2⟩
theorem raw_opE {r : R2} {x : V} {Q : VK} (ha : Ev ta σ H x) (k : ∀ H1, Ex H H1 → tb σ H1 fun y H2 => r x y H2 Q) : tOp r ta tb σ H Q := ha H (Ex.refl _) _ k
theorem raw_cons {x : V} {tr : TA} {Q : List V → Hp → Prop} (ha : Ev ta σ H x) (k : ∀ H1, Ex H H1 → tr σ H1 fun xs H2 => Q (x :: xs) H2) : tCons ta tr σ H Q := ha H (Ex.refl _) _ k
theorem raw_a {vs : List V} {tr : TA} {Q : List V → Hp → Prop} (ha : EvA tr σ H vs) (k : ∀ H1, Ex H H1 → Q vs H1) : tr σ H Q := ha H (Ex.refl _) _ k
theorem lc_bind {Q : VK} (h : tl σ H fun x H1 => tLc (iList K (tC x)) g tt te own σ H1 Q) : tLc (iList K tl) g tt te own σ H Q := h
theorem q_lcBind {i : Nat} (h : tl σ H fun x H1 => tLc (iList K (tC x)) g tt te own σ H1 fun v H2 => tz Dd (σ.set i (some v)) H2) : tSeq (tAsg (tLc (iList K tl) g tt te own) (gName i)) tz Dd σ H := h
/-- a well is no list of entries, none of ints but three -/
theorem wl_ne {a l : Addr} {z : Nat} (h : Wl a H z) (hn : H l = none) : l ≠ a := fun e => by
  obtain ⟨_, _, h⟩ := h
  rw [e, h] at hn
  cases hn
theorem wl_ne2 {a l : Addr} {z : Nat} {H2 : Hp} {o : HO} (h : Wl a H z) (e : Ex H H2) (hl : H2 l = some o) (hn : H l = none) : l ≠ a := wl_ne h hn
end
theorem mem3 {x a b c : V} (h : x ∈ [a, b, c]) : x = a ∨ x = b ∨ x = c := by simpa using h
section
variable {K : PySem.W.Frag} {H : Hp} {σ : L2.St} {ta tb t1 t2 t3 te tl : TE} {tz tbd : TS} {Dd : Ends}
theorem q_about {E : XK} {t : TA} {a : Addr} {n m c : Int} {z i : Nat} (h1 : Ev t1 σ H (.int n)) (h : EvA t σ H [.ref a, .int m]) (wl : Wl a H z) (hz : z ≤ 1000000) (m0 : 0 < m) (m1 : m < 2 ^ 140)
    (k : ∀ (r : Int) (z2 : Nat) H2, 0 ≤ r → r < m → z2 ≤ z + 1 → Kw a H H2 → Wl a H2 z2 → tz Dd (σ.set i (some (.int (n + r - c)))) H2) :
    tSeq (tAsg (tOp (rI0 fun i j => .int (i - j)) (tOp (rI0 fun i j => .int (i + j)) t1 (tCall spDraw [] E t)) (tC (.int c))) (gName i)) tz Dd σ H :=
  h1 H (Ex.refl _) _ fun H1 e1 => raw_draw (h.mono e1) (wl.ex e1) hz m0 m1 fun r z2 H2 r0 r1 hz2 kw wl2 => ⟨n, r, rfl, rfl, n + r, c, rfl, rfl, k r z2 H2 r0 r1 hz2 ((Kw.of e1).trans kw) wl2⟩
theorem q_pick3 {E E2 : XK} {t : TA} {a : Addr} {m : Int} {z i : Nat} {v1 v3 : V} (hw : σ[0]? = some (some (.ref a))) (h1 : Ev t1 σ H v1) (wl : Wl a H z) (hz : z ≤ 200000) (m0 : 0 < m) (m1 : m < 2 ^ 140) (h2 : ∀ H1, Ex H H1 → EvA t σ H1 [.ref a, .int m]) (h3 : ∀ H1, Kw a H H1 → Ev t3 σ H1 v3)
    (k : ∀ (x : V) (z2 : Nat) H2, (x = v1 ∨ (∃ r : Int, x = .int r ∧ 0 ≤ r ∧ r < m) ∨ x = v3) → z2 ≤ z + 2 → Kw a H H2 → Wl a H2 z2 → tz Dd (σ.set i (some x)) H2) :
    tSeq (tAsg (tCall (spPick K) [] E (tCons (tVar 0) (tCons (tLst (tCons t1 (tCons (tCall spDraw [] E2 t) (tCons t3 tNil)))) tNil))) (gName i)) tz Dd σ H :=
  ⟨.ref a, hw, h1 H (Ex.refl _) _ fun H1 e1 => raw_draw (h2 H1 e1) (wl.ex e1) (by omega) m0 m1 fun r z2 H2 r0 r1 hz2 k2 wl2 => h3 H2 ((Kw.of e1).trans k2) H2 (Ex.refl _) _ fun H3 e3 => ⟨sz_of (by simp), fun pk npk =>
    ⟨a, pk, [v1, .int r, v3], z2, rfl, (wl2.ex e3).ex (Ex.new npk), by omega, wl_ne (wl2.ex e3) npk, .inl upd_same, by simp, by simp, fun x z4 H4 hx hz4 k4 wl4 => k x z4 H4 (by
      rcases mem3 hx with h | h | h
      · exact .inl h
      · exact .inr (.inl ⟨r, h, r0, r1⟩)
      · exact .inr (.inr h)) (by omega) ((((Kw.of e1).trans k2).trans (Kw.of (e3.trans (Ex.new npk)))).trans k4) wl4⟩⟩⟩
end
theorem cut_take {xs : List V} (k : Nat) : cutV xs none (some (k : Int)) = xs.take k := by
  unfold cutV
  rw [HT.sIx_nat, HT.sIx_none, Nat.sub_zero, List.drop_zero]
  by_cases h : k ≤ xs.length
  · rw [Nat.min_eq_left h]
  · rw [Nat.min_eq_right (by omega), List.take_of_length_le (Nat.le_refl _), List.take_of_length_le (by omega)]
theorem Prs.take {H : Hp} : ∀ {ds : List P} {vs : List V} (n : Nat), Prs H ds vs → Prs H (ds.take n) (vs.take n)
  | _, _, 0, _ => .nil
  | _, _, _ + 1, .nil => .nil
  | _, _, n + 1, .cons r t => .cons r (Prs.take n t)
theorem rep_one (x : V) (n : Nat) : (List.replicate n [x]).flatten = List.replicate n x := by
  induction n with
  | zero => rfl
  | succ n ih => rw [List.replicate_succ, List.flatten_cons, ih]; rfl
theorem kw_fresh {a l : Addr} {H H2 : Hp} (k : Kw a H H2) (na : l ≠ a) (h : H2 l = none) : H l = none := by
  cases e : H l with
  | none => rfl
  | some o => rw [k _ _ e na] at h; cases h
theorem mem6 {x a b c d e f : V} (h : x ∈ [a, b, c, d, e, f]) : x = a ∨ x = b ∨ x = c ∨ x = d ∨ x = e ∨ x = f := by simpa using h
theorem flat_ints (ns : List Int) : (ns.map V.int).all flatV = true := by rw [List.all_map, List.all_eq_true]; intro x _; rfl
theorem eqV_int (i j : Int) : eqV (.int i) (.int j) = decide (i = j) := by
  by_cases h : i = j
  · subst h; rw [decide_eq_true rfl]; simp [eqV]
  · rw [decide_eq_false h]; simp [eqV, h]
theorem inV_int (k : Int) (ns : List Int) : inV (.int k) (ns.map V.int) = decide (k ∈ ns) := by
  unfold inV
  rw [List.any_map]
  induction ns with
  | nil => rfl
  | cons n ns ih =>
    rw [List.any_cons, ih]
    show (eqV (.int n) (.int k) || _) = _
    rw [eqV_int, ← Bool.decide_or]
    refine decide_eq_decide.mpr ?_
    rw [List.mem_cons]
    exact or_congr ⟨Eq.symm, Eq.symm⟩ Iff.rfl
def gRev2 {α : Type} : List α → List α → List α
  | [], [a, b] => [b, a]
  | _, _ => []
def gRev3 {α : Type} : List α → List α → List α
  | [], [a, b, c] => [c, b, a]
  | _, _ => []
/-! ### what stands -/
/-- all but what stands at mu, and the tables, stays -/
def Gm (mu : List Addr) (H H2 : Hp) : Prop := ∀ b o, H b = some o → b ∉ mu → (∀ ps, o ≠ .tbl ps) → H2 b = some o
def Gw (mu : List Addr) (H H2 : Hp) : Prop := Ew H H2 ∧ Gm mu H H2
theorem Gw.refl (mu : List Addr) (H : Hp) : Gw mu H H := ⟨Ew.refl H, fun _ _ h _ _ => h⟩
theorem Gw.trans {mu : List Addr} {H H2 H3 : Hp} (a : Gw mu H H2) (b : Gw mu H2 H3) : Gw mu H H3 := ⟨a.1.trans b.1, fun c o h n t => b.2 c o (a.2 c o h n t) n t⟩
theorem Gw.ex {mu : List Addr} {H H2 : Hp} (e : Ex H H2) : Gw mu H H2 := ⟨Ew.of e, fun b o h _ _ => e b o h⟩
theorem ew_kw {wa : Addr} {H H2 : Hp} {z z2 : Nat} (wl : Wl wa H z) (wl2 : Wl wa H2 z2) (k : Kw wa H H2) : Ew H H2 := fun a => by
  obtain ⟨x, y, h⟩ := wl
  obtain ⟨x2, y2, h2⟩ := wl2
  by_cases e : a = wa
  · subst e
    refine ⟨fun xs q => ?_, fun xs q => ⟨_, h2⟩, fun xs q => ?_⟩ <;> (rw [h] at q; cases q)
  · exact ⟨fun xs q => k a _ q e, fun xs q => ⟨xs, k a _ q e⟩, fun xs q => ⟨xs, k a _ q e⟩⟩
theorem Gw.kw {mu : List Addr} {wa : Addr} {H H2 : Hp} {z z2 : Nat} (wl : Wl wa H z) (wl2 : Wl wa H2 z2) (hm : wa ∈ mu) (k : Kw wa H H2) : Gw mu H H2 := ⟨ew_kw wl wl2 k, fun b o h n _ => k b o h fun e => n (e ▸ hm)⟩
theorem Gw.extN {mu : List Addr} {H H2 : Hp} (e : ExtN H H2) : Gw mu H H2 :=
  ⟨fun a => ⟨fun xs q => e a _ q fun ps z => (nomatch z), fun xs q => ⟨xs, e a _ q fun ps z => (nomatch z)⟩, fun xs q => ⟨xs, e a _ q fun ps z => (nomatch z)⟩⟩, fun b o h _ t => e b o h t⟩
theorem Gw.lst {mu : List Addr} {H : Hp} {q : Addr} {xs ys : List V} (h : H q = some (.lst xs)) (hm : q ∈ mu) : Gw mu H (upd H q (.lst ys)) := ⟨Ew.lst h, fun b o hb n _ => by rw [upd_ne (fun e => n (by rw [e]; exact hm))]; exact hb⟩
theorem Gw.sub {mu nu : List Addr} {H H2 : Hp} (h : ∀ b ∈ mu, b ∈ nu) (g : Gw mu H H2) : Gw nu H H2 := ⟨g.1, fun b o hb n t => g.2 b o hb (fun m => n (h b m)) t⟩
theorem Gw.l {mu : List Addr} {H H2 : Hp} {p : Addr} {vs : List V} (g : Gw mu H H2) (h : H p = some (.lst vs)) (n : p ∉ mu) : H2 p = some (.lst vs) := g.2 _ _ h n fun ps z => nomatch z
theorem prs_gw {mu : List Addr} {H H2 : Hp} (g : Gw mu H H2) {ds : List P} {vs : List V} (h : Prs H ds vs) : Prs H2 ds vs := L2.Paired.mapP h fun _ _ ⟨a, h1, h2⟩ => ⟨a, h1, (g.1 a).1 _ h2⟩
/-- what stands at mu are lists -/
def MuL (mu : List Addr) (H : Hp) : Prop := ∀ b ∈ mu, ∃ xs, H b = some (.lst xs)
theorem MuL.gw {mu nu : List Addr} {H H2 : Hp} (m : MuL mu H) (g : Gw nu H H2) : MuL mu H2 := fun b hb => by
  obtain ⟨xs, h⟩ := m b hb
  exact (g.1 b).2.1 xs h
theorem MuL.not {mu : List Addr} {H : Hp} (m : MuL mu H) {b : Addr} {o : HO} (h : H b = some o) (n : ∀ xs, o ≠ .lst xs) : b ∉ mu := fun hb => by
  obtain ⟨xs, q⟩ := m b hb
  rw [q] at h
  exact n xs (Option.some.inj h).symm
theorem MuL.fresh {mu : List Addr} {H : Hp} (m : MuL mu H) {b : Addr} (h : H b = none) : b ∉ mu := fun hb => by
  obtain ⟨xs, q⟩ := m b hb
  rw [q] at h
  cases h
theorem keptAt_gw {X : Cx} {k : Nat} {mu : List Addr} {H H2 : Hp} {f : Addr} {tl : XK → TE} (m : MuL mu H) (g : Gw mu H H2) (h : KeptAt X k H f tl) : KeptAt X k H2 f tl := by
  obtain ⟨c', params, body, scope, a, b, c⟩ := h
  refine ⟨c', params, body, scope, a, g.2 _ _ b (m.not b fun xs e => ?_) lfO_tbl, g.2 _ _ c (m.not c fun xs e => ?_) codeO_ne⟩
  · unfold LfO at e; cases e
  · unfold CodeO at e; cases e
theorem keptAt_ex {X : Cx} {k : Nat} {H H2 : Hp} {f : Addr} {tl : XK → TE} (e : Ex H H2) (h : KeptAt X k H f tl) : KeptAt X k H2 f tl := keptAt_gw (mu := []) (fun _ h => nomatch h) (Gw.ex e) h
/-! ### data that is refused -/
def NoEn (K : PySem.W.Frag) (H : Hp) (v : V) : Prop := ∃ d, Rp K H d v ∧ isEn d = false
def NoRows (K : PySem.W.Frag) (mu : List Addr) (H : Hp) (v : V) : Prop := (∃ d, Rp K H d v ∧ isLst d = false) ∨ ∃ p vs ds, v = .ref p ∧ p ∉ mu ∧ H p = some (.lst vs) ∧ Rps K H ds vs ∧ ds.length ≤ 20000 ∧ okRows ds = false
section
variable {K : PySem.W.Frag} {mu : List Addr} {H H2 : Hp} {v : V}
theorem NoEn.gw (g : Gw mu H H2) (h : NoEn K H v) : NoEn K H2 v := by
  obtain ⟨d, r, n⟩ := h
  exact ⟨d, r.ew g.1, n⟩
theorem NoRows.gw (g : Gw mu H H2) (h : NoRows K mu H v) : NoRows K mu H2 v := by
  rcases h with ⟨d, r, n⟩ | ⟨p, vs, ds, e, n, s, rs, r⟩
  · exact .inl ⟨d, r.ew g.1, n⟩
  · exact .inr ⟨p, vs, ds, e, n, g.l s n, rs.ew g.1, r⟩
theorem NoRows.bad {C : Addr} {E : XK} {G : Prop} (h : NoRows K mu H v) (b : Bad C H E) : RowsIn K C v H E G := by
  rcases h with ⟨d, r, n⟩ | ⟨p, vs, ds, e, n, s, rs, hl, r⟩
  · exact .inl ⟨d, r, n, b⟩
  · exact .inr ⟨ds, ⟨p, vs, e, s, rs⟩, hl, fun z => (by rw [r] at z; cases z), fun _ => b⟩
end
/-! ### what is compared -/
section
variable {K : PySem.W.Frag} {H H2 : Hp} {σ : L2.St} {ta tb t1 t2 t3 te tl : TE} {tz tbd : TS} {Dd : Ends} {v : V} {C : Addr}
theorem ev_neSame {P1 : Hp → V → Prop} {d : PyData} (ha : EvP ta σ H P1) (hb : ∀ H1, Ex H H1 → EvP tb σ H1 P1) (m : ∀ v H1 H2, Ex H1 H2 → P1 H1 v → P1 H2 v) (dp : ∀ H v, P1 H v → Dp K H v d) (sh : SeqAt.shaped d = true) (cl : PyData.canLay0 d = true) : Ev (tOp (rNeD K) ta tb) σ H (.bl false) :=
  ev_op2 ha hb m fun x y H1 _ p1 p2 => rv_val fun H2 e Q q => ⟨d, d, dp _ _ (m _ _ _ e p1), dp _ _ (m _ _ _ e p2), sh, sh, by rw [SeqAt.eqv_refl d cl]; exact q⟩
/-- tuple(xs) of a list -/
def rTupOf (K : PySem.W.Frag) : List V → Hp → VK → Prop := fun xs H Q => ∃ p ys, xs = [.ref p] ∧ ((SqL K H p ys ∧ ∀ l, H l = none → Q (.ref l) (upd H l (.tup ys))) ∨ (SqT K H p ys ∧ Q (.ref p) H))
theorem call_tupOf {X : Cx} : CallR X (.type "tuple") (rTupOf X.K) := call_tuple_of
theorem eu_tupOf {p : Addr} {xs : List V} (h : Ev ta σ H (.ref p)) (hp : H p = some (.lst xs)) : EvU (tCB (rTupOf K) (tCons ta tNil)) σ H xs := fun H1 e Q q =>
  h H1 e _ fun H2 e2 => ⟨p, xs, rfl, .inl ⟨sq_of ((e.trans e2) _ _ hp), fun l nl => q l _ (fresh_back e2 nl) (e2.trans (Ex.new nl)) upd_same⟩⟩
/-! ### what is picked -/
theorem q_pickP {E : XK} {a : Addr} {i z : Nat} {PX : Hp → V → Prop} (hw : Ev t1 σ H (.ref a)) (wl : Wl a H z) (hz : z ≤ 200000) (h : EvLP te σ H (fun H1 xs => (xs ≠ [] ∧ xs.length ≤ 1000) ∧ ∀ x ∈ xs, PX H1 x)) (st : ∀ H1 H2 x z1 z2, Wl a H1 z1 → Wl a H2 z2 → Kw a H1 H2 → PX H1 x → PX H2 x)
    (k : ∀ (x : V) (z2 : Nat) H2, PX H2 x → z2 ≤ z + 1 → Kw a H H2 → Wl a H2 z2 → tz Dd (σ.set i (some x)) H2) : tSeq (tAsg (tCall (spPick K) [] E (tCons t1 (tCons te tNil))) (gName i)) tz Dd σ H :=
  hw H (Ex.refl _) _ fun H1 e1 => h H1 e1 _ fun p xs H2 np e2 hp ⟨⟨hne, hl⟩, px⟩ => ⟨a, p, xs, z, rfl, wl.ex (e1.trans e2), by omega, wl_ne (wl.ex e1) np, .inl hp, hne, by omega, fun x z2 H3 hx hz2 k3 wl3 =>
    k x z2 H3 (st _ _ _ _ _ (wl.ex (e1.trans e2)) wl3 k3 (px x hx)) hz2 ((Kw.of (e1.trans e2)).trans k3) wl3⟩
theorem eaq_nil {PX : Hp → V → Prop} : EvAP tNil σ H (fun H1 vs => vs.length = 0 ∧ ∀ x ∈ vs, PX H1 x) := fun H1 _ Q q => q [] H1 (Ex.refl _) ⟨rfl, fun x h => nomatch h⟩
theorem eaq_cons {ta : TA} {PX : Hp → V → Prop} {n : Nat} (m : ∀ v H1 H2, Ex H1 H2 → PX H1 v → PX H2 v) (h : EvP te σ H PX) (hr : EvAP ta σ H (fun H1 vs => vs.length = n ∧ ∀ x ∈ vs, PX H1 x)) : EvAP (tCons te ta) σ H (fun H1 vs => vs.length = n + 1 ∧ ∀ x ∈ vs, PX H1 x) := fun H1 e Q q =>
  h H1 e _ fun v H2 e2 p => hr H2 (e.trans e2) _ fun vs H3 e3 ⟨hn, ps⟩ => q (v :: vs) H3 (e2.trans e3) ⟨by rw [List.length_cons, hn], fun x hx => by
    rcases List.mem_cons.mp hx with h | h
    · rw [h]; exact m _ _ _ e3 p
    · exact ps x h⟩
theorem elq {ta : TA} {PX : Hp → V → Prop} {n : Nat} (m : ∀ v H1 H2, Ex H1 H2 → PX H1 v → PX H2 v) (h : EvAP ta σ H (fun H1 vs => vs.length = n ∧ ∀ x ∈ vs, PX H1 x)) (h0 : 0 < n) (h1 : n ≤ 1000) : EvLP (tLst ta) σ H (fun H1 xs => (xs ≠ [] ∧ xs.length ≤ 1000) ∧ ∀ x ∈ xs, PX H1 x) := fun H1 e Q q =>
  h H1 e _ fun vs H2 e2 ⟨hn, ps⟩ => ⟨sz_of (by omega), fun p np => q p vs _ (fresh_back e2 np) (e2.trans (Ex.new np)) upd_same ⟨⟨fun z => by rw [z] at hn; simp at hn; omega, by omega⟩, fun x hx => m _ _ _ (Ex.new np) (ps x hx)⟩⟩
theorem q_subDraw {E : XK} {t : TA} {a : Addr} {n m : Int} {z i : Nat} (h1 : Ev t1 σ H (.int n)) (h : EvA t σ H [.ref a, .int m]) (wl : Wl a H z) (hz : z ≤ 1000000) (m0 : 0 < m) (m1 : m < 2 ^ 140)
    (k : ∀ (r : Int) (z2 : Nat) H2, 0 ≤ r → r < m → z2 ≤ z + 1 → Kw a H H2 → Wl a H2 z2 → tz Dd (σ.set i (some (.int (n - r)))) H2) :
    tSeq (tAsg (tOp (rI0 fun i j => .int (i - j)) t1 (tCall spDraw [] E t)) (gName i)) tz Dd σ H :=
  h1 H (Ex.refl _) _ fun H1 e1 => raw_draw (h.mono e1) (wl.ex e1) hz m0 m1 fun r z2 H2 r0 r1 hz2 kw wl2 => ⟨n, r, rfl, rfl, k r z2 H2 r0 r1 hz2 ((Kw.of e1).trans kw) wl2⟩
/-! ### lambdas in a list -/
theorem q_lm1 {X : Cx} {T : List (Addr × Str)} {k i : Nat} {tl : XK → TE} (hT : Tabs T H) (kk : ∀ (f q : Addr) H2, H q = none → ExtN H H2 → Tabs T H2 → KeptAt X k H2 f tl → H2 q = some (.lst [.ref f]) → tz Dd (σ.set i (some (.ref q))) H2) :
    tSeq (tAsg (tLst (tCons (tLmP X T k tl) tNil)) (gName i)) tz Dd σ H := ⟨hT, fun f H1 e n t1 f0 kp => ⟨sz_of (by simp), fun q nq => kk f q _ (n q nq) (e.trans (ExtN.of (Ex.new nq))) (t1.ext (Ex.new nq)) (keptAt_ex (Ex.new nq) kp) upd_same⟩⟩
theorem q_lmApp {X : Cx} {T : List (Addr × Str)} {k : Nat} {tl : XK → TE} {q : Addr} {xs : List V} {mu : List Addr} (hT : Tabs T H) (hv : Ev ta σ H (.ref q)) (hq : H q = some (.lst xs)) (hm : q ∈ mu) (hz : xs.length < 100000) (mul : MuL mu H) (kk : ∀ (f : Addr) H2, Gw mu H H2 → Tabs T H2 → KeptAt X k H2 f tl → H2 q = some (.lst (xs ++ [.ref f])) → tz Dd σ H2) :
    tSeq (tDrop (tBM K "list" rAppend ta (tCons (tLmP X T k tl) tNil))) tz Dd σ H := hv H (Ex.refl _) _ fun H0 e0 =>
  ⟨.inl ⟨rfl, xs, sq_of (e0 _ _ hq)⟩, hT.ext e0, fun f H1 e n t1 f0 kp => by
    have hq1 : H1 q = some (.lst xs) := e _ _ (e0 _ _ hq) fun ps z => nomatch z
    have g1 : Gw mu H H1 := (Gw.ex e0).trans (Gw.extN e)
    have g2 : Gw mu H1 (upd H1 q (.lst (xs ++ [.ref f]))) := Gw.lst hq1 hm
    refine ⟨q, xs, .ref f, rfl, rfl, hq1, sz_lt hz, kk f _ (g1.trans g2) ?_ (keptAt_gw (mul.gw g1) g2 kp) upd_same⟩
    intro p hp
    obtain ⟨ps, a1, a2, a3⟩ := t1 p hp
    refine ⟨ps, ?_, a2, fun pos cv hc => ?_⟩
    · rw [upd_ne (fun z => by rw [z, hq1] at a1; cases a1)]; exact a1
    · obtain ⟨c, e1, e2⟩ := a3 pos cv hc
      refine ⟨c, e1, ?_⟩
      rw [upd_ne (fun z => by rw [z, hq1] at e2; unfold CodeO at e2; cases e2)]
      exact e2⟩
theorem mul_ex {mu : List Addr} (m : MuL mu H) (e : Ex H H2) : MuL mu H2 := m.gw (nu := []) (Gw.ex e)
theorem rows_flat {mu : List Addr} {d : D} {x : V} (h : ∀ H', Rp K H' d x) (n : isLst d = false) : EvP (tC x) σ H (NoRows K mu) := evp ev_c fun _ _ => .inl ⟨d, h _, n⟩
/-- a list of one new thing -/
theorem lst_one {Pe : Hp → V → Prop} (m : ∀ v H1 H2, Ex H1 H2 → Pe H1 v → Pe H2 v) (h : EvP te σ H Pe) : EvLP (tLst (tCons te tNil)) σ H (fun H1 xs => ∃ v, xs = [v] ∧ Pe H1 v) := fun H1 e Q q =>
  h H1 e _ fun v H2 e2 p => ⟨sz_of (by simp), fun r nr => q r [v] _ (fresh_back e2 nr) (e2.trans (Ex.new nr)) upd_same ⟨v, rfl, m _ _ _ (Ex.new nr) p⟩⟩
theorem rp_tup {ta : TA} {ds : List D} {vs : List V} (h : EvA ta σ H vs) (rs : ∀ H', Rps K H' ds vs) (h2 : vs.length ≤ 100000) : EvP (tTup ta) σ H (fun H1 v => Rp K H1 (.tup ds) v) := fun H1 e Q q => eu_tup h h2 H1 e _ fun p H2 np e2 hp => q _ H2 e2 (.tup hp (rs _))
theorem rp_lst {ta : TA} {vs : List V} (h : EvA ta σ H vs) (h2 : vs.length ≤ 100000) : EvP (tLst ta) σ H (fun H1 v => Rp K H1 .lst v) := fun H1 e Q q => el_lst h h2 H1 e _ fun p H2 np e2 hp => q _ H2 e2 (.lst hp)
theorem rp_ex {d : D} : ∀ v H1 H2, Ex H1 H2 → Rp K H1 d v → Rp K H2 d v := fun _ _ _ e h => h.mono e
theorem rows_one {mu : List Addr} {d : D} (m : MuL mu H) (h : EvP te σ H (fun H1 v => Rp K H1 d v)) (n : isEn d = false) : EvP (tLst (tCons te tNil)) σ H (NoRows K mu) := fun H1 e Q q =>
  lst_one rp_ex h H1 e _ fun p xs H2 np e2 hp ⟨v, hx, r⟩ => q _ H2 e2 (.inr ⟨p, xs, [d], rfl, (mul_ex m e).fresh np, hp, by rw [hx]; exact .cons r .nil, by simp, by unfold okRows; simp [n]⟩)
theorem rows_cat {mu : List Addr} {es fs : List D} (m : MuL mu H) (ha : EvP ta σ H (fun H1 v => LsD K H1 es v)) (hb : ∀ H1, Ex H H1 → EvP tb σ H1 (fun H1 v => LsD K H1 fs v)) (hl : es.length + fs.length ≤ 20000) (n : (es ++ fs).all isEn = false) : EvP (tOp rCat ta tb) σ H (NoRows K mu) := fun H1 e Q q =>
  ha H1 e _ fun x H2 e2 p1 => hb H2 (e.trans e2) H2 (Ex.refl _) _ fun y H3 e3 ⟨p, vs, r1, h1, h2⟩ => by
    obtain ⟨p', vs', r2, h3, h4⟩ := p1.ex e3
    refine ⟨p', p, vs', vs, r2, r1, h3, h1, sz_of (by rw [h4.len, h2.len]; omega), fun q' hn => ?_⟩
    exact q _ _ ((e2.trans e3).trans (Ex.new hn)) (.inr ⟨q', _, es ++ fs, rfl, (mul_ex m ((e.trans e2).trans e3)).fresh hn, upd_same, (h4.app h2).mono (Ex.new hn), by rw [List.length_append]; exact hl, by unfold okRows; rw [n, Bool.and_false]⟩)
theorem lsd_one {d : D} (h : EvP te σ H (fun H1 v => Rp K H1 d v)) : EvP (tLst (tCons te tNil)) σ H (fun H1 v => LsD K H1 [d] v) := fun H1 e Q q =>
  lst_one rp_ex h H1 e _ fun p xs H2 np e2 hp ⟨v, hx, r⟩ => q _ H2 e2 ⟨p, xs, rfl, hp, by rw [hx]; exact .cons r .nil⟩
end
end K4
/-! _law_time, _law_rows, _law_is_heap, _law_odd. -/
namespace K4
open PySem L2 Evl PySem.Spec PyProof.Rows LamX K13
def spTime : Sp := fun args H Q _ => ∃ (a : Addr) (way : Int) (z : Nat), args = [.ref a, .int way] ∧ 0 ≤ way ∧ way < 3 ∧ Wl a H z ∧ z ≤ 100000 ∧ ∀ (i : Int) (z2 : Nat) H2, z2 ≤ z + 3 → Kw a H H2 → Wl a H2 z2 → Q (.int i) H2
def spRows : Sp := fun args H Q _ => ∃ (a : Addr) (z : Nat), args = [.ref a, .int 70] ∧ Wl a H z ∧ z ≤ 50000 ∧ ∀ (l : Addr) (us : List V) (ds : List P) (z2 : Nat) H2, z2 ≤ z + 400 → Kw a H H2 → Wl a H2 z2 → H l = none → H2 l = some (.lst us) → Prs H2 ds us → ds.length ≤ 70 → Q (.ref l) H2
def spIsHL : Sp := fun args H Q _ => ∃ (p : Addr) (vs : List V) (ds : List P), args = [.ref p] ∧ H p = some (.lst vs) ∧ Prs H ds vs ∧ ds.length ≤ 5000 ∧ RetV (.bl (hpB ds)) H Q
def spOdd (K : PySem.W.Frag) : Sp := fun args H Q _ => ∃ (a p : Addr) (vs : List V) (ds : List P) (z : Nat), args = [.ref a, .ref p] ∧ p ≠ a ∧ H p = some (.lst vs) ∧ Prs H ds vs ∧ ds.length ≤ 70 ∧ Wl a H z ∧ z ≤ 100000 ∧ ∀ (v : V) (z2 : Nat) H2, z2 ≤ z + 3 → Kw a H H2 → Wl a H2 z2 → NoRows K [a] H2 v → Q v H2
theorem paired_ints {H : Hp} {f : Nat → Int} : ∀ {l : List Nat} {ys : List V}, Paired (fun i y => y = V.int (f i)) l ys → ys = (l.map f).map V.int
  | _, _, .nil => rfl
  | _, _, .cons q t => by rw [q, paired_ints (H := H) t]; rfl
section
variable {K : PySem.W.Frag} {H : Hp} {σ : L2.St} {ta tb t1 t2 t3 te tl : TE} {tz tbd : TS} {Dd : Ends}
theorem raw_time {E : XK} {t : TA} {a : Addr} {way : Int} {z : Nat} {Q : VK} (h : EvA t σ H [.ref a, .int way]) (w0 : 0 ≤ way) (w1 : way < 3) (wl : Wl a H z) (hz : z ≤ 100000) (k : ∀ (i : Int) (z2 : Nat) H2, z2 ≤ z + 3 → Kw a H H2 → Wl a H2 z2 → Q (.int i) H2) : tCall spTime [] E t σ H Q :=
  h H (Ex.refl H) _ fun H1 e => ⟨a, way, z, rfl, w0, w1, wl.ex e, hz, fun r z2 H2 hz2 kw wl2 => k r z2 H2 hz2 ((Kw.of e).trans kw) wl2⟩
theorem s_retPickP {E : XK} {a : Addr} {z : Nat} {PX : Hp → V → Prop} (hw : Ev t1 σ H (.ref a)) (wl : Wl a H z) (hz : z ≤ 200000) (h : EvLP te σ H (fun H1 xs => (xs ≠ [] ∧ xs.length ≤ 1000) ∧ ∀ x ∈ xs, PX H1 x)) (st : ∀ H1 H2 x z1 z2, Wl a H1 z1 → Wl a H2 z2 → Kw a H1 H2 → PX H1 x → PX H2 x)
    (k : ∀ (x : V) (z2 : Nat) H2, PX H2 x → z2 ≤ z + 1 → Kw a H H2 → Wl a H2 z2 → Dd.rt x H2) : tRet (tCall (spPick K) [] E (tCons t1 (tCons te tNil))) Dd σ H :=
  hw H (Ex.refl _) _ fun H1 e1 => h H1 e1 _ fun p xs H2 np e2 hp ⟨⟨hne, hl⟩, px⟩ => ⟨a, p, xs, z, rfl, wl.ex (e1.trans e2), by omega, wl_ne (wl.ex e1) np, .inl hp, hne, by omega, fun x z2 H3 hx hz2 k3 wl3 =>
    k x z2 H3 (st _ _ _ _ _ (wl.ex (e1.trans e2)) wl3 k3 (px x hx)) hz2 ((Kw.of (e1.trans e2)).trans k3) wl3⟩
theorem ev_eqI {ds es : List Int} (ha : EvP ta σ H (IsI ds)) (hb : ∀ H1, Ex H H1 → EvP tb σ H1 (IsI es)) : Ev (tOp (rEqD K) ta tb) σ H (.bl (decide (ds = es))) :=
  ev_op2 ha hb (fun _ _ _ e h => h.ex e) fun x y H1 _ p1 p2 => rv_val fun H2 e Q q => ⟨_, _, (p1.ex e).dp, (p2.ex e).dp, shaped_ints _, shaped_ints _, by
    rw [show PyData.eqv (.list (ds.map PyData.int)) (.list (es.map PyData.int)) = decide (ds = es) from eqv_ints ds es]
    exact q⟩
theorem q_rowsMany {E : XK} {a : Addr} {i z : Nat} (h0 : Ev t1 σ H (.ref a)) (h1 : Ev t2 σ H (.int 70)) (wl : Wl a H z) (hz : z ≤ 100000) (k : ∀ (r : Int) (z2 : Nat) H2, 0 ≤ r → r < 71 → z2 ≤ z + 1 → Kw a H H2 → Wl a H2 z2 → tz Dd (σ.set i (some (.int r))) H2) :
    tSeq (tAsg (tCall spDraw [] E (tCons t1 (tCons (tOp (rI0 fun i j => .int (i + j)) t2 (tC (.int 1))) tNil))) (gName i)) tz Dd σ H :=
  raw_draw (ea_cons h0 (ea_cons (ev_op h1 ev_c rv_I0) ea_nil)) wl (by omega) (by decide) (by decide) fun r z2 H2 r0 r1 hz2 kw wl2 => k r z2 H2 r0 r1 hz2 kw wl2
theorem q_spot {E : XK} {a : Addr} {n i z : Nat} (h0 : Ev t1 σ H (.ref a)) (h1 : Ev t2 σ H (.int (n : Int))) (wl : Wl a H z) (hz : z ≤ 500000) (hn : n ≤ 100000) (k : ∀ (r : Int) (z2 : Nat) H2, 0 ≤ r → r ≤ (n : Int) → z2 ≤ z + 1 → Kw a H H2 → Wl a H2 z2 → tz Dd (σ.set i (some (.int r))) H2) :
    tSeq (tAsg (tCall spDraw [] E (tCons t1 (tCons (tOp (rI0 fun i j => .int (i + j)) t2 (tC (.int 1))) tNil))) (gName i)) tz Dd σ H :=
  raw_draw (ea_cons h0 (ea_cons (ev_op h1 ev_c rv_I0) ea_nil)) wl (by omega) (by omega) (by omega) fun r z2 H2 r0 r1 hz2 kw wl2 => k r z2 H2 r0 (by omega) hz2 kw wl2
theorem q_rowsComp {wi : TI} {g : TG} {tt : TT} {own : List Nat} {i : Nat} (h : tLc wi g tt te own σ H fun v H2 => tz Dd (σ.set i (some v)) H2) : tSeq (tAsg (tLc wi g tt te own) (gName i)) tz Dd σ H := h
theorem el_madeL {E : XK} {ds : List P} (h : EvP ta σ H (IsL ds)) (hl : ds.length ≤ 10000) : EvLP (tCall spMadeL [] E (tCons ta tNil)) σ H (fun H1 vs => Prs H1 (heapify ds) vs) := fun H1 e Q q =>
  h H1 e _ fun v H2 e2 ⟨p, vs, rv, hp, pr⟩ => ⟨p, vs, ds, by rw [rv]; rfl, hp, pr, hl, fun l us H5 nl e5 hl5 pr5 => q l us H5 (fresh_back e2 nl) (e2.trans e5) hl5 pr5⟩
theorem cut_drop {xs : List V} {k : Nat} (h : k ≤ xs.length) : cutV xs (some (k : Int)) none = xs.drop k := by
  unfold cutV
  rw [HT.sIx_nat, HT.sIx_none, Nat.min_eq_left h, List.take_of_length_le (by rw [List.length_drop]; exact Nat.le_refl _)]
theorem lsd_cat {es fs : List D} (ha : EvP ta σ H (fun H1 v => LsD K H1 es v)) (hb : ∀ H1, Ex H H1 → EvP tb σ H1 (fun H1 v => LsD K H1 fs v)) (hl : es.length + fs.length ≤ 20000) : EvP (tOp rCat ta tb) σ H (fun H1 v => LsD K H1 (es ++ fs) v) := fun H1 e Q q =>
  ha H1 e _ fun x H2 e2 p1 => hb H2 (e.trans e2) H2 (Ex.refl _) _ fun y H3 e3 ⟨p, vs, r1, h1, h2⟩ => by
    obtain ⟨p', vs', r2, h3, h4⟩ := p1.ex e3
    refine ⟨p', p, vs', vs, r2, r1, h3, h1, sz_of (by rw [h4.len, h2.len]; omega), fun q' hn => ?_⟩
    exact q _ _ ((e2.trans e3).trans (Ex.new hn)) ⟨q', _, rfl, upd_same, (h4.app h2).mono (Ex.new hn)⟩
end
section
variable {P : Program} {w : World} {K : PySem.W.Frag} {mg : Str → Option Value} {base : Heap}
theorem sc33 : FnScope ["_law_well_here", "_law_way"] ["_law_well_here", "_law_way"] (defScope (top 33)) := ⟨rfl, rfl, rfl, by decide +kernel, rfl, by decide +kernel, by decide +kernel⟩
theorem ok_time (B : Bm mg) (F : Df K mg "_law_time" (top 33) ["_law_well_here", "_law_way"]) (O1 : Okd P w K mg base CX0 1 "_law_draw" ["_law_well_here", "_law_many"] spDraw) : Okd P w K mg base CX0 2 "_law_time" ["_law_well_here", "_law_way"] spTime := by
  refine F.ok sc33 (fun vs H Q E h => by obtain ⟨_, _, _, rfl, _⟩ := h; rfl) (fun f cdv A outer s H vs Q E hr h => ?_)
  obtain ⟨a, way, z, rfl, w0, w1, wl, hz, k⟩ := h
  obtain ⟨f__law_draw, d__law_draw, m__law_draw, k__law_draw, b__law_draw, G__law_draw⟩ := O1.ex
  refine ⟨_, (pss_one (ps_ret (pe_ix ix_list (pe_lst (pa_cons (pe_call G__law_draw (hr.mono (by first | decide | omega)) (by rfl) m__law_draw k__law_draw b__law_draw .nil pass0 (pa_cons (pv 0) (pa_cons pe_int pa_nil))) (pa_cons (pe_op op_sub (pe_call G__law_draw (hr.mono (by first | decide | omega)) (by rfl) m__law_draw k__law_draw b__law_draw .nil pass0 (pa_cons (pv 0) (pa_cons pe_int pa_nil))) pe_int) (pa_cons (pe_op op_sub (pe_call G__law_draw (hr.mono (by first | decide | omega)) (by rfl) m__law_draw k__law_draw b__law_draw .nil pass0 (pa_cons (pv 0) (pa_cons (pe_op op_pow pe_int pe_int) pa_nil))) (pe_op op_mul pe_int (pe_op op_pow pe_int pe_int))) pa_nil)))) (pv 1) (fun _ _ => rfl)))), ?_⟩
  have hp40 : CPow 10 40 := ⟨by decide, by decide, by decide⟩
  have hp39 : CPow 10 39 := ⟨by decide, by decide, by decide⟩
  show tCall spDraw [] E0 (tCons (tVar 0) (tCons (tC (.int 4)) tNil)) _ H _
  refine raw_draw (ea_cons (ev_var rfl) (ea_cons ev_c ea_nil)) wl (by omega) (by decide) (by decide) fun r1 z1 H1 r10 r11 hz1 k1 wl1 => ?_
  show tCall spDraw [] E0 (tCons (tVar 0) (tCons (tC (.int 99)) tNil)) _ H1 _
  refine raw_draw (ea_cons (ev_var rfl) (ea_cons ev_c ea_nil)) wl1 (by omega) (by decide) (by decide) fun r2 z2 H2 r20 r21 hz2 k2 wl2 => ⟨r2, 50, rfl, rfl, ?_⟩
  show tCall spDraw [] E0 (tCons (tVar 0) (tCons (tOp (rI CPow fun i j => .int (i ^ j.toNat)) (tC (.int 10)) (tC (.int 40))) tNil)) _ H2 _
  refine raw_draw (ea_cons (ev_var rfl) (ea_cons (ev_op ev_c ev_c (rv_I hp40)) ea_nil)) wl2 (by omega) (by decide) (by decide) fun r3 z3 H3 r30 r31 hz3 k3 wl3 => ?_
  refine ⟨10, 39, rfl, rfl, hp39, 5, _, rfl, rfl, .inl ⟨by decide, by decide⟩, r3, _, rfl, rfl, sz_of (by simp), fun p np => ⟨.int way, rfl, ?_⟩⟩
  have fin : ∀ (i : Int), Q (.int i) (upd H3 p (.lst [.int r1, .int (r2 - 50), .int (r3 - 5 * 10 ^ Int.toNat 39)])) := fun i => k i z3 _ (by omega) (((k1.trans k2).trans k3).trans (Kw.of (Ex.new np))) (wl3.ex (Ex.new np))
  rcases (by omega : way = 0 ∨ way = 1 ∨ way = 2) with h | h | h <;> subst h
  · exact ⟨p, _, 0, .int r1, rfl, rfl, sq_of upd_same, rfl, fin _⟩
  · exact ⟨p, _, 1, .int (r2 - 50), rfl, rfl, sq_of upd_same, rfl, fin _⟩
  · exact ⟨p, _, 2, .int (r3 - 5 * 10 ^ Int.toNat 39), rfl, rfl, sq_of upd_same, rfl, fin _⟩
theorem sc34 : FnScope ["_law_well_here", "_law_most", "_law_way", "_law_many", "_law_lot", "_law_k"] ["_law_well_here", "_law_most"] (defScope (top 34)) := ⟨rfl, rfl, rfl, by decide +kernel, rfl, by decide +kernel, by decide +kernel⟩
theorem ok_rows (B : Bm mg) (F : Df K mg "_law_rows" (top 34) ["_law_well_here", "_law_most"]) (O1 : Okd P w K mg base CX0 1 "_law_draw" ["_law_well_here", "_law_many"] spDraw) (O2 : Okd P w K mg base CX0 2 "_law_time" ["_law_well_here", "_law_way"] spTime) (O3 : Okd P w K mg base CX0 3 "_law_made" ["_law_lot"] spMadeL) :
    Okd P w K mg base CX0 4 "_law_rows" ["_law_well_here", "_law_most"] spRows := by
  refine F.ok sc34 (fun vs H Q E h => by obtain ⟨_, _, rfl, _⟩ := h; rfl) (fun f cdv A outer s H vs Q E hr h => ?_)
  obtain ⟨a, z, rfl, wl, hz, k⟩ := h
  obtain ⟨f__law_draw, d__law_draw, m__law_draw, k__law_draw, b__law_draw, G__law_draw⟩ := O1.ex
  obtain ⟨f__law_time, d__law_time, m__law_time, k__law_time, b__law_time, G__law_time⟩ := O2.ex
  obtain ⟨f__law_made, d__law_made, m__law_made, k__law_made, b__law_made, G__law_made⟩ := O3.ex
  refine ⟨_, (pss_cons (ps_set (i := 2) sc34.nd rfl (Or.inr rfl) (pe_call G__law_draw (hr.mono (by first | decide | omega)) (by rfl) m__law_draw k__law_draw b__law_draw .nil pass0 (pa_cons (pv 0) (pa_cons pe_int pa_nil))))
      (pss_cons (ps_set (i := 3) sc34.nd rfl (Or.inl rfl) (pe_call G__law_draw (hr.mono (by first | decide | omega)) (by rfl) m__law_draw k__law_draw b__law_draw .nil pass0 (pa_cons (pv 0) (pa_cons (pe_op op_add (pv 1) pe_int) pa_nil))))
      (pss_cons (ps_setLc (i := 4) (own := [("_law_k", 5)]) (g := gName 5) (tt := tYes) rfl sc34.nd rfl rfl (sw_true rfl rfl rfl (by decide +kernel)) (pi_range1 (by rfl) B.range (pa_cons (pv 3) pa_nil)) (blkOk_by (N := ["_law_well_here", "_law_most", "_law_way", "_law_many", "_law_lot", "_law_k"]) (sc := defScope (top 34)) (by decide +kernel)) (fun _ _ _ _ _ => (pg_name (i := 5) sc34.nd rfl (Or.inl rfl))) (fun _ _ _ _ _ => pts_nil) (fun _ _ _ _ _ => (pe_tup (pa_cons (pe_call G__law_time (hr.mono (by first | decide | omega)) (by rfl) m__law_time k__law_time b__law_time .nil pass0 (pa_cons (pv 0) (pa_cons (pv 2) pa_nil))) (pa_cons (pv 5) pa_nil)))))
      (pss_one (ps_ret (pe_ix ix_list (pe_lst (pa_cons (pv 4) (pa_cons (pe_call G__law_made (hr.mono (by first | decide | omega)) (by rfl) m__law_made k__law_made b__law_made .nil pass0 (pa_cons (pv 4) pa_nil)) pa_nil))) (pe_call G__law_draw (hr.mono (by first | decide | omega)) (by rfl) m__law_draw k__law_draw b__law_draw .nil pass0 (pa_cons (pv 0) (pa_cons pe_int pa_nil))) (fun _ _ => rfl))))))), ?_⟩
  show tCall spDraw [] E0 (tCons (tVar 0) (tCons (tC (.int 3)) tNil)) _ H _
  refine raw_draw (ea_cons (ev_var rfl) (ea_cons ev_c ea_nil)) wl (by omega) (by decide) (by decide) fun way z1 H1 w0 w1 hz1 k1 wl1 => ?_
  refine q_rowsMany (a := a) (ev_var rfl) (ev_var rfl) wl1 (by omega) fun r2 z2 H2 r20 r21 hz2 k2 wl2 => ?_
  obtain ⟨many, rfl⟩ := Int.eq_ofNat_of_zero_le r20
  refine q_rowsComp ⟨.int (many : Int), rfl, (many : Int), rfl, by omega, by omega, fun D hD => ?_⟩
  have hDa : D ≠ a := wl_ne wl2 hD
  refine lc_range (lo := 0) (n := (many : Int).toNat) (fun i H' => ∃ (vs : List V) (ds : List K4.P) (zz : Nat), H' D = some (.lst vs) ∧ Prs H' ds vs ∧ ds.length = i ∧ Kw a H2 H' ∧ Wl a H' zz ∧ zz ≤ z2 + 3 * i) ⟨[], [], z2, upd_same, .nil, rfl, Kw.of (Ex.new hD), wl2.ex (Ex.new hD), Nat.le_refl _⟩ ?_ ?_
  · rintro i H' hi ⟨vs, ds, zz, hvs, pr, hln, kk, wlk, hzk⟩
    have hmany : (many : Int).toNat = many := rfl
    refine ⟨rfl, ?_⟩
    show tCall spTime [] E0 (tCons (tVar 0) (tCons (tVar 2) tNil)) _ H' _
    refine raw_time (ea_cons (ev_var rfl) (ea_cons (ev_var rfl) ea_nil)) w0 w1 wlk (by omega) fun t zz2 H8 hzz2 k8 wl8 => ⟨.int ((0 : Int) + (i : Int)), rfl, sz_of (by simp), fun u nu => ?_⟩
    have eu := Ex.new (o := .tup [.int t, .int ((0 : Int) + (i : Int))]) nu
    have hD8 := eu _ _ (k8 _ _ hvs hDa)
    have hlv := pr.len
    obtain ⟨wx, wy, hw⟩ := wlk
    have pr9 := (pr.kw hw k8).ex eu
    refine ⟨vs, hD8, sz_lt (by omega), vs ++ [.ref u], ds ++ [(t, (0 : Int) + (i : Int))], zz2, upd_same, ?_, by rw [List.length_append, List.length_singleton, hln], ?_, ?_, by omega⟩
    · have kD : Kw D (upd H8 u (.tup [.int t, .int ((0 : Int) + (i : Int))])) (upd (upd H8 u (.tup [.int t, .int ((0 : Int) + (i : Int))])) D (.lst (vs ++ [.ref u]))) := Kw.upd (Ex.refl _)
      exact (pr9.kw hD8 kD).app (.one (PrV.kw hD8 kD ⟨u, rfl, upd_same⟩))
    · intro b o hb hn
      by_cases hbD : b = D
      · rw [hbD, hD] at hb; cases hb
      · rw [upd_ne hbD]; exact eu _ _ (k8 b o (kk b o hb hn) hn)
    · obtain ⟨wx, wy, h⟩ := wl8.ex eu
      exact ⟨wx, wy, by rw [upd_ne (Ne.symm hDa)]; exact h⟩
  · rintro HC ⟨vs, ds, zC, hvs, pr, hln, kC, wlC, hzC⟩
    have hln' : ds.length = many := hln
    have hzC' : zC ≤ z2 + 3 * many := hzC
    have nD : H D = none := kw_fresh (k1.trans k2) hDa hD
    refine ⟨.ref D, rfl, ?_⟩
    refine el_madeL (isl_var (ev_var rfl) ⟨D, vs, rfl, hvs, pr⟩) (by omega) HC (Ex.refl _) _ fun m ws HD nm eD hm pm => ⟨sz_of (by simp), fun p np => ?_⟩
    have eE := Ex.new (o := .lst [.ref D, .ref m]) np
    show tCall spDraw [] E0 (tCons (tVar 0) (tCons (tC (.int 2)) tNil)) _ (upd HD p (.lst [.ref D, .ref m])) _
    refine raw_draw (ea_cons (ev_var rfl) (ea_cons ev_c ea_nil)) (wlC.ex (eD.trans eE)) (by omega) (by decide) (by decide) fun r zF HF r0 r1 hzF kF wlF => ?_
    have hpa : p ≠ a := wl_ne (wlC.ex eD) np
    have hma : m ≠ a := wl_ne wlC nm
    have hpF := kF _ _ upd_same hpa
    have kwF : Kw a H HF := ((k1.trans k2).trans kC).trans ((Kw.of (eD.trans eE)).trans kF)
    obtain ⟨wx, wy, hw⟩ := wlC.ex (eD.trans eE)
    have prF : Prs HF ds vs := (pr.ex (eD.trans eE)).kw hw kF
    have pmF : Prs HF (heapify ds) ws := (pm.ex eE).kw hw kF
    have nm0 : H m = none := kw_fresh ((k1.trans k2).trans kC) hma nm
    rcases (by omega : r = 0 ∨ r = 1) with h | h <;> subst h
    · exact ⟨p, _, 0, .ref D, rfl, rfl, sq_of hpF, rfl, k D vs ds zF HF (by omega) kwF wlF nD (kF _ _ ((eD.trans eE) _ _ hvs) hDa) prF (by omega)⟩
    · exact ⟨p, _, 1, .ref m, rfl, rfl, sq_of hpF, rfl, k m ws (heapify ds) zF HF (by omega) kwF wlF nm0 (kF _ _ (eE _ _ hm) hma) pmF (by rw [heapify_len]; omega)⟩
theorem sc35 : FnScope ["_law_lot", "_law_k"] ["_law_lot"] (defScope (top 35)) := ⟨rfl, rfl, rfl, by decide +kernel, rfl, by decide +kernel, by decide +kernel⟩
theorem ok_isHL (B : Bm mg) (F : Df K mg "_law_is_heap" (top 35) ["_law_lot"]) : Okd P w K mg base CX0 1 "_law_is_heap" ["_law_lot"] spIsHL := by
  refine F.ok sc35 (fun vs H Q E h => by obtain ⟨_, _, _, rfl, _⟩ := h; rfl) (fun f cdv A outer s H vs Q E hr h => ?_)
  obtain ⟨p, vs, ds, rfl, hp, pr, hl, k⟩ := h
  have hu := hr.units
  refine ⟨_, (pss_one (ps_ret (pe_cmpR (op_eqD hu) (pe_lc (own := [("_law_k", 1)]) (g := gName 1) rfl sc35.nd (pi_range2 (by rfl) B.range (pa_cons pe_int (pa_cons (pe_callB call_lenQ (by rfl) B.len PySem.boot_len (pa_cons (pv 0) pa_nil)) pa_nil))) (blkOk_by (N := ["_law_lot", "_law_k"]) (sc := defScope (top 35)) (by decide +kernel)) (fun _ _ _ _ _ => (pg_name (i := 1) sc35.nd rfl (Or.inl rfl))) (fun _ _ _ _ _ => (pts_one (pt_cmpR op_lt2 (pe_ix (r := rIxT K) ix_tup (pe_ix (r := rIxL K) ix_list (pv 0) (pv 1) (fun _ _ => rfl)) pe_int (fun _ _ => rfl)) (pe_ix (r := rIxT K) ix_tup (pe_ix (r := rIxL K) ix_list (pv 0) (pe_op op_fdiv (pe_op op_sub (pv 1) pe_int) pe_int) (fun _ _ => rfl)) pe_int (fun _ _ => rfl)) (nomark _)))) (fun _ _ _ _ _ => (pv 1))) (pe_lst pa_nil) (nomark _)))), ?_⟩
  have hlv := pr.len
  have hcomp : EvLP (tLc (iRng2 (tCons (tC (.int 1)) (tCons (tCB (rLenQ K) (tCons (tVar 0) tNil)) tNil))) (gName 1) (tTest (tOp rLt (tOp (rIxT K) (tOp (rIxL K) (tVar 0) (tVar 1)) (tC (.int 0))) (tOp (rIxT K) (tOp (rIxL K) (tVar 0) (tOp (rI CDiv fun i j => V.int (i / j)) (tOp (rI0 fun i j => V.int (i - j)) (tVar 1) (tC (.int 1))) (tC (.int 2)))) (tC (.int 0))))) (tVar 1) [1]) (start ["_law_lot", "_law_k"] [.ref p]) H
      (fun _ ys => ys = ((kept (fun i => decide ((at_ ds (1 + i)).1 < (at_ ds (i / 2)).1)) (ds.length - 1)).map fun i : Nat => (1 : Int) + (i : Int)).map V.int) := fun H0 e0 Q q =>
    el_lc (fun i => decide ((at_ ds (1 + i)).1 < (at_ ds (i / 2)).1)) (fun i _ y => y = V.int ((1 : Int) + (i : Int))) (n := ds.length - 1) (P := fun i _ x => x = .int (1 + (i : Int))) (by
        have := wk_rng2 (σ := start ["_law_lot", "_law_k"] [.ref p]) (H := H) (lo := 1) (n := (vs.length : Int)) (ta := tCons (tC (.int 1)) (tCons (tCB (rLenQ K) (tCons (tVar 0) tNil)) tNil)) (ea_cons ev_c (ea_cons (ev_lenL (ev_var rfl) hp) ea_nil)) (by omega)
        rw [show ((vs.length : Int) - 1).toNat = ds.length - 1 by omega] at this
        exact this) (by omega) (fun _ _ _ _ _ h => h) (fun i x H1 hi e hx Z kk => by
        subst hx
        have hi1 : 1 + i < ds.length := by omega
        have hi2 : i / 2 < ds.length := by omega
        have pr2 := pr.ex e
        have hp2 := e _ _ hp
        obtain ⟨x, hx1, hx2⟩ := pr2.at_ hi1
        obtain ⟨y, hy1, hy2⟩ := pr2.at_ hi2
        have ex1 : (1 : Int) + (i : Int) = ((1 + i : Nat) : Int) := by omega
        have ex2 : ((1 : Int) + (i : Int) - 1) / 2 = ((i / 2 : Nat) : Int) := by omega
        exact kk _ H1 (Ex.refl _) (show wipe ((wipe (start ["_law_lot", "_law_k"] [.ref p]) [1]).set 1 (some (V.int ((1 : Int) + (i : Int))))) [1] = wipe (start ["_law_lot", "_law_k"] [.ref p]) [1] from rfl) (et_test (ev_op (ev_fst (ev_row (k := 1 + i) (ev_var rfl) (ev_is (ev_var rfl) (by rw [ex1])) hp2 hx1) hx2) (ev_fst (ev_row (k := i / 2) (ev_var rfl) (ev_is (ev_op (ev_op (ev_var rfl) ev_c rv_I0) ev_c (rv_I ⟨by decide, by decide⟩)) (by rw [ex2])) hp2 hy1) hy2) rv_lt)) fun _ => evp (ev_var rfl) fun _ _ => rfl) H0 e0 Q fun l xs H2 nl e2 hl2 pl => q l xs H2 nl e2 hl2 (paired_ints (H := H2) pl)
  refine s_ret (ev_is (ev_eqI (isi_new hcomp) (fun H1 e => isi_new el_nilI)) (w := .bl (hpB ds)) ?_) fun H1 e => k H1 e
  congr 1
  unfold hpB kept
  rw [Bool.eq_iff_iff, decide_eq_true_iff, List.map_eq_nil_iff, List.filter_eq_nil_iff, List.all_eq_true]
  exact ⟨fun h i hi => by simpa using h i hi, fun h i hi => by simpa using h i hi⟩
theorem sc37 : FnScope ["_law_well_here", "_law_lot", "_law_bad", "_law_spot"] ["_law_well_here", "_law_lot"] (defScope (top 37)) := ⟨rfl, rfl, rfl, by decide +kernel, rfl, by decide +kernel, by decide +kernel⟩
theorem ok_odd (B : Bm mg) (F : Df K mg "_law_odd" (top 37) ["_law_well_here", "_law_lot"]) (O1 : Okd P w K mg base CX0 1 "_law_draw" ["_law_well_here", "_law_many"] spDraw) (O2 : Okd P w K mg base CX0 2 "_law_pick" ["_law_well_here", "_law_some"] (spPick K)) :
    Okd P w K mg base CX0 3 "_law_odd" ["_law_well_here", "_law_lot"] (spOdd K) := by
  refine F.ok sc37 (fun vs H Q E h => by obtain ⟨_, _, _, _, _, rfl, _⟩ := h; rfl) (fun f cdv A outer s H vs Q E hr h => ?_)
  obtain ⟨a, p, vs, ds, z, rfl, pa, hp, pr, hl, wl, hz, k⟩ := h
  obtain ⟨f__law_draw, d__law_draw, m__law_draw, k__law_draw, b__law_draw, G__law_draw⟩ := O1.ex
  obtain ⟨f__law_pick, d__law_pick, m__law_pick, k__law_pick, b__law_pick, G__law_pick⟩ := O2.ex
  refine ⟨_, (pss_cons (ps_set (i := 2) sc37.nd rfl (Or.inl rfl) (pe_call G__law_pick (hr.mono (by first | decide | omega)) (by rfl) m__law_pick k__law_pick b__law_pick .nil pass0 (pa_cons (pv 0) (pa_cons (pe_lst (pa_cons (pe_tup (pa_cons pe_int pa_nil)) (pa_cons (pe_tup (pa_cons pe_int (pa_cons pe_int (pa_cons pe_int pa_nil)))) (pa_cons (pe_lst (pa_cons pe_int (pa_cons pe_int pa_nil))) (pa_cons (pe_tup (pa_cons pe_bl (pa_cons pe_int pa_nil))) (pa_cons (pe_tup (pa_cons pe_int (pa_cons pe_non pa_nil))) (pa_cons (pe_tup (pa_cons pe_str (pa_cons pe_int pa_nil))) (pa_cons pe_non (pa_cons pe_int (pa_cons pe_str (pa_cons (pe_tup (pa_cons pe_int (pa_cons pe_bl pa_nil))) pa_nil))))))))))) pa_nil))))
      (pss_cons (ps_set (i := 3) sc37.nd rfl (Or.inl rfl) (pe_call G__law_draw (hr.mono (by first | decide | omega)) (by rfl) m__law_draw k__law_draw b__law_draw .nil pass0 (pa_cons (pv 0) (pa_cons (pe_op op_add (pe_callB call_lenQ (by rfl) B.len PySem.boot_len (pa_cons (pv 1) pa_nil)) pe_int) pa_nil))))
      (pss_one (ps_ret (pe_call G__law_pick (hr.mono (by first | decide | omega)) (by rfl) m__law_pick k__law_pick b__law_pick .nil pass0 (pa_cons (pv 0) (pa_cons (pe_lst (pa_cons (pe_op op_cat (pe_op op_cat (pe_slice sl_list (pv 1) po_none (po_some (pv 3))) (pe_lst (pa_cons (pv 2) pa_nil))) (pe_slice sl_list (pv 1) (po_some (pv 3)) po_none)) (pa_cons (pe_op op_cat (pv 1) (pe_lst (pa_cons (pv 2) pa_nil))) (pa_cons (pe_callTy call_tupOf (by rfl) B.tuple boot_tuple (pa_cons (pv 1) pa_nil)) (pa_cons pe_non (pa_cons pe_str (pa_cons pe_dnewK (pa_cons pe_int pa_nil)))))))) pa_nil))))))), ?_⟩
  have hlv := pr.len
  have mE : ∀ (v : V) (H1 H2 : Hp), Ex H1 H2 → NoEn K H1 v → NoEn K H2 v := fun v H1 H2 e h => h.gw (mu := []) (Gw.ex e)
  have et : ∀ {σ' : L2.St} {H0 : Hp} {ta : TA} {es : List D} {us : List V}, EvA ta σ' H0 us → (∀ H', Rps K H' es us) → isEn (.tup es) = false → us.length ≤ 100000 → EvP (tTup ta) σ' H0 (NoEn K) := fun h rs n h2 H1 e Q q => rp_tup h rs h2 H1 e Q fun v H2 e2 r => q v H2 e2 ⟨_, r, n⟩
  have ec : ∀ {σ' : L2.St} {H0 : Hp} {d : D} {x : V}, (∀ H', Rp K H' d x) → isEn d = false → EvP (tC x) σ' H0 (NoEn K) := fun h n => evp ev_c fun _ _ => ⟨_, h _, n⟩
  refine q_pickP (PX := NoEn K) (ev_var rfl) wl (by omega) (elq mE (eaq_cons mE (et (ea_cons ev_c ea_nil) (fun _ => .cons (.int 1) .nil) rfl (by simp)) (eaq_cons mE (et (ea_cons ev_c (ea_cons ev_c (ea_cons ev_c ea_nil))) (fun _ => .cons (.int 1) (.cons (.int 2) (.cons (.int 3) .nil))) rfl (by simp))
    (eaq_cons mE (fun H1 e Q q => rp_lst (ea_cons (ev_c (v := .int 1)) (ea_cons (ev_c (v := .int 2)) ea_nil)) (by simp) H1 e Q fun v H2 e2 r => q v H2 e2 ⟨_, r, rfl⟩) (eaq_cons mE (et (ea_cons ev_c (ea_cons ev_c ea_nil)) (fun _ => .cons (.bl true) (.cons (.int 1) .nil)) rfl (by simp))
    (eaq_cons mE (et (ea_cons ev_c (ea_cons ev_c ea_nil)) (fun _ => .cons (.int 1) (.cons .non .nil)) rfl (by simp)) (eaq_cons mE (et (ea_cons ev_c (ea_cons ev_c ea_nil)) (fun _ => .cons (.str "1") (.cons (.int 2) .nil)) rfl (by simp))
    (eaq_cons mE (ec (fun _ => .non) rfl) (eaq_cons mE (ec (fun _ => .int 5) rfl) (eaq_cons mE (ec (fun _ => .str "ab") rfl) (eaq_cons mE (et (ea_cons ev_c (ea_cons ev_c ea_nil)) (fun _ => .cons (.int 1) (.cons (.bl false) .nil)) rfl (by simp)) eaq_nil)))))))))) (by omega) (by omega))
    (fun H1 H2 x z1 z2 w1 w2 kk h => h.gw (Gw.kw (mu := [a]) w1 w2 (List.mem_singleton.mpr rfl) kk)) fun bad z1 H1 hbad hz1 k1 wl1 => ?_
  obtain ⟨bd, rb, nb⟩ := hbad
  have hp1 := k1 _ _ hp pa
  have pr1 : Prs H1 ds vs := by
    obtain ⟨_, _, h⟩ := wl
    exact pr.kw h k1
  refine q_spot (a := a) (n := vs.length) (ev_var rfl) (ev_lenL (ev_var rfl) hp1) wl1 (by omega) (by omega) fun sp z2 H2 s0 s1 hz2 k2 wl2 => ?_
  obtain ⟨sn, rfl⟩ := Int.eq_ofNat_of_zero_le s0
  have hp2 := k2 _ _ hp1 pa
  have pr2 : Prs H2 ds vs := by
    obtain ⟨_, _, h⟩ := wl1
    exact pr1.kw h k2
  have rb2 : Rp K H2 bd bad := rb.ew (ew_kw wl1 wl2 k2)
  have mul2 : MuL [a] H2 := fun b hb => by
    obtain ⟨_, _, h⟩ := wl2
    rw [List.mem_singleton.mp hb]
    exact ⟨_, h⟩
  have mR : ∀ (v : V) (H1 H2 : Hp), Ex H1 H2 → NoRows K [a] H1 v → NoRows K [a] H2 v := fun v H1 H2 e h => h.gw (Gw.ex e)
  have hlot : ∀ {σ' : L2.St}, σ'[1]? = some (some (.ref p)) → ∀ H1, Ex H2 H1 → EvP (tVar 1) σ' H1 (fun H3 v => LsD K H3 (ds.map PD2) v) := fun hs H1 e => evp (ev_var hs) fun H3 e3 => ⟨p, vs, rfl, (e.trans e3) _ _ hp2, ((pr2.ex e).ex e3).rps⟩
  have hone : ∀ {σ' : L2.St}, σ'[2]? = some (some bad) → ∀ H1, Ex H2 H1 → EvP (tLst (tCons (tVar 2) tNil)) σ' H1 (fun H3 v => LsD K H3 [bd] v) := fun hs H1 e => lsd_one (evp (ev_var hs) fun H3 e3 => (rb2.mono e).mono e3)
  have htk : ∀ {σ' : L2.St}, σ'[1]? = some (some (.ref p)) → σ'[3]? = some (some (.int (sn : Int))) → ∀ H1, Ex H2 H1 → EvP (tSl (rSlL K) (tVar 1) tNoPart (tPart (tVar 3))) σ' H1 (fun H3 v => LsD K H3 ((ds.take sn).map PD2) v) := fun hs h3 H1 e H4 e4 Q q =>
    el_sl (ev_var hs) eo_none (eo_some (ev_var h3)) (sq_of (e _ _ hp2)) H4 e4 _ fun l H5 nl e5 hl5 => q _ H5 e5 ⟨l, _, rfl, hl5, by rw [cut_take]; exact ((pr2.take sn).ex ((e.trans e4).trans e5)).rps⟩
  have hdp : ∀ {σ' : L2.St}, σ'[1]? = some (some (.ref p)) → σ'[3]? = some (some (.int (sn : Int))) → ∀ H1, Ex H2 H1 → EvP (tSl (rSlL K) (tVar 1) (tPart (tVar 3)) tNoPart) σ' H1 (fun H3 v => LsD K H3 ((ds.drop sn).map PD2) v) := fun hs h3 H1 e H4 e4 Q q =>
    el_sl (ev_var hs) (eo_some (ev_var h3)) eo_none (sq_of (e _ _ hp2)) H4 e4 _ fun l H5 nl e5 hl5 => q _ H5 e5 ⟨l, _, rfl, hl5, by rw [cut_drop (by omega)]; exact ((pr2.drop sn).ex ((e.trans e4).trans e5)).rps⟩
  have hf1 : ∀ es fs : List D, (es ++ [bd] ++ fs).all isEn = false := fun es fs => by rw [List.all_append, List.all_append]; simp [nb]
  have hf2 : ∀ es : List D, (es ++ [bd]).all isEn = false := fun es => by rw [List.all_append]; simp [nb]
  refine s_retPickP (PX := NoRows K [a]) (ev_var rfl) wl2 (by omega) (elq mR (eaq_cons mR (rows_cat mul2 (lsd_cat (htk rfl rfl _ (Ex.refl _)) (fun H1 e => hone rfl H1 e) (by simp; omega)) (fun H1 e => hdp rfl rfl H1 e) (by simp; omega) (hf1 _ _)) (eaq_cons mR (rows_cat mul2 (hlot rfl _ (Ex.refl _)) (fun H1 e => hone rfl H1 e) (by simp; omega) (hf2 _))
    (eaq_cons mR (fun H1 e Q q => eu_tupOf (ev_var rfl) hp2 H1 e _ fun u H3 nu e3 hu => q _ H3 e3 (.inl ⟨.tup (ds.map PD2), .tup hu ((pr2.ex (e.trans e3)).rps), rfl⟩)) (eaq_cons mR (rows_flat (fun _ => .non) rfl) (eaq_cons mR (rows_flat (fun _ => .str "rows") rfl)
    (eaq_cons mR (fun H1 e Q q => fun d nd => q _ _ (Ex.new nd) (.inl ⟨.dct, .dct upd_same, rfl⟩)) (eaq_cons mR (rows_flat (fun _ => .int 7) rfl) eaq_nil))))))) (by omega) (by omega))
    (fun H1 H2 x z1 z2 w1 w2 kk h => h.gw (Gw.kw (mu := [a]) w1 w2 (List.mem_singleton.mpr rfl) kk)) fun v z3 H3 hv hz3 k3 wl3 => k v z3 H3 (by omega) ((k1.trans k2).trans k3) wl3 hv
end
end K4
/-! try .. except X as e: .. except ..: ..; what a caught error of an own class with own fields is. -/
namespace PySem.W
open PySem PySem.Spec PySem.Calls PyProof.Rows
section
variable {K : Frag} {xa D : Addr} {ob od : Obj}
/-- __class__ of an error with own fields -/
theorem exd_class {pr : Program} {wo : World} {Ar : Around} {Er : Value → Shared → Prop} {sh : Shared} {Qo : Option Value → Shared → Prop} (Z : L2.ExcC K D)
    (kin : K.In sh.heap) (inst : InstAt sh.heap xa ob D (some od)) (post : Qo (some (.ref D)) { sh with toks := sh.toks + 1 }) : wpAny (model pr wo) Ar (getAttr? (.ref xa) "__class__") Qo Er sh := by
  have found : findObj K D (some od) "__class__" = some (.bind (.builtin "getset_descriptor.__get__") (.builtin "object.__class__")) := by
    refine findObj_data ?_ Z.ha Z.hn Z.ht
    obtain ⟨cd, e, _⟩ := any_some Z.hd
    rw [e]
    rfl
  obtain ⟨hp, gs, dr, tk, oo⟩ := sh
  have ty := inst.type (M := model pr wo)
  have own := looks_findIn (M := model pr wo) kin Z.hg
  have hook := looks_findIn (M := model pr wo) kin Z.hk
  have attr := looks_find (M := model pr wo) kin inst found
  have isE : Looks (model pr wo) hp (isInstance (.ref xa) (.type "BaseException")) true := ty.andThen (looks_subIn kin Z.hs)
  have ne : (Value.builtin "BaseException.__getattribute__" == Value.builtin "object.__getattribute__") = false := by decide +kernel
  have cond : (onTheHeap (Value.ref D) && Value.builtin "BaseException.__getattribute__" == Value.builtin "object.__getattribute__") = false := by
    rw [ne]
    rfl
  have no : (false && onTheHeap (Value.builtin "BaseException.__getattribute__")) = false := rfl
  unfold getAttr? getAttrBy? getAttrBy
  refine wpAny_bind (wpAny_mkText (wpAny_bind ?_))
  refine wpAny_attempt (wpAny_holding (wpAny_bind ?_))
  refine ty.at (wpAny_bind (own.at ?_))
  show wpAny _ _ (if (onTheHeap (Value.ref D) &&
    Value.builtin "BaseException.__getattribute__" == Value.builtin "object.__getattribute__") = true then _ else _) _ _ _
  rw [cond, if_neg Bool.false_ne_true]
  unfold getAttrByItsOwn hookBefore
  refine wpAny_bind ?_
  have onh : onTheHeap (Value.ref D) = true := rfl
  rw [if_pos onh]
  refine hook.at ?_
  refine wpAny_bind (wpAny_attempt ?_)
  refine wpAny_holding ?_
  unfold callGetattribute
  rw [no, if_neg Bool.false_ne_true]
  unfold boundAndCalled
  rw [PySem.F.excAttr_ValueError.ga.bind (.ref xa)]
  refine wpAny_bind (wpAny_pure ?_)
  show wpAny _ _ (call (.builtin "BaseException.__getattribute__") [.ref xa, .str "__class__" tk]) _ _ _
  refine wpAny_call (codeAny_call_builtin
    PySem.F.excAttr_ValueError.ga.plain PySem.F.entry_bexc_ga ?_)
  refine @check_slot (model pr wo) _ _ ⟨hp, gs, dr, tk + 1, oo⟩ "BaseException.__getattribute__" "BaseException" "__getattribute__"
    (.ref xa) [.str "__class__" tk] [] _ (by decide +kernel) (by decide +kernel) isE (PySem.F.args_bexc_ga (.ref xa) (.str "__class__" tk)) ?_
  unfold Builtin.«object.__getattribute__»
  refine wpAny_bind (wpAny_of_eq (a := ((Value.ref xa : Value), [Value.str "__class__" tk])) (by first | rfl | (simp only [slotArgs]; rfl)) ?_)
  refine wpAny_bind (wpAny_pure (wpAny_bind ?_))
  refine ty.at (wpAny_bind (attr.at ?_))
  show wpAny _ _ (holding [Value.builtin "object.__class__"]
    (call (.builtin "getset_descriptor.__get__") [.builtin "object.__class__", .ref xa, .ref D]) >>= ret) _ _ _
  refine wpAny_bind (wpAny_holding (wpAny_call ?_))
  refine class_get (s := ⟨hp, gs, dr, tk + 1, oo⟩) (ox := ob) (od := some od) kin inst Z.hm ?_
  refine wpAny_pure ?_
  show wpAny _ _ (handedOut (.ref D)) _ _ _
  rw [handedOut_of (v := .ref D) rfl]
  first
    | exact wpAny_pure (wpAny_pure post)
    | exact wpAny_pure post
    | exact wpAny_pure (wpAny_bind (wpAny_pure (wpAny_pure post)))
/-- isinstance may ask such an error -/
theorem exd_kit (Z : L2.ExcC K D) : KitX K (.ref xa) (.ref D) (fun h => InstAt h xa ob D (some od)) where
  ty := fun _ _ _ i => i.type
  it := fun mo hp kin _ => by
    obtain ⟨cd, e, _⟩ := any_some Z.hd
    unfold clsIn at e
    split at e
    · rename_i found
      intro Ar Qo Er sh keep post
      unfold isType loadHead
      exact wpAny_bind (wpAny_loadPart (keep _ _ (kin _ _ found)) (wpAny_pure post))
    · cases e
  ne := fun hp tp dd its n sl kin at_ => by
    obtain ⟨cd, e, _⟩ := any_some Z.hd
    rw [Bool.eq_false_iff]
    intro same
    have same : D = tp := Value.ref.inj (beq_iff_eq.mp same)
    rw [← same] at at_
    unfold clsIn at e
    split at e
    · rename_i found
      have two := (kin _ _ found).symm.trans at_
      cases two
    · cases e
  ca := fun kin inst post => exd_class Z kin inst post
end
end PySem.W
namespace K13
open PySem PySem.Spec PyProof.Rows L2 LamX
/-- isinstance(e, (C1, ..)), e the caught error, its fields at dx -/
def rIsTd (K : PySem.W.Frag) (D a dx : Addr) : List V → Hp → VK → Prop := fun xs H Q => ∃ (tp : Addr) (cs : List V) (us : List Value) (b : Bool) (fs : List (Str × V)), xs = [.ref a, .ref tp] ∧ H tp = some (.tup cs) ∧ Paired ClsV cs us ∧ PySem.W.kitAny K (.ref D) us = some b ∧ H dx = some (.xd fs) ∧ Q (.bl b) H
theorem call_isTd {X : Cx} {a D dx : Addr} {oe : Obj} {pn : List (Addr × Obj)} (C : ExcC X.K D) (hz : Zc (.ref D) (some dx) oe) (hf : ∃ vs, oe.data = .fields vs) : CallR (X.suite a ((a, oe) :: pn)) (.builtin "isinstance") (rIsTd X.K D a dx) := by
  intro pins s σ H xs us Q I r hyp
  obtain ⟨tp, cs, ws, b, fs, rfl, tup, cls, any, xd, post⟩ := hyp
  obtain ⟨u1, u2, rfl, r1, r2⟩ := vals2 r
  cases (show u1 = Value.ref a from r1)
  cases (show u2 = Value.ref tp from r2)
  have mem : (a, oe) ∈ ((a, oe) :: pn) ++ pins := List.mem_append_left _ (List.mem_cons_self ..)
  have there := (I.pin (a, oe) mem).1
  obtain ⟨mA, ⟨od, es, ep, hod, _⟩, _⟩ := I.hok dx _ xd
  obtain ⟨vs, hv⟩ := hf
  obtain ⟨oc, odd, oda, osl⟩ := oe
  obtain ⟨z1, z2⟩ := hz
  have z1 : oc = .ref D := z1
  have z2 : odd = some dx := z2
  have hv : oda = .fields vs := hv
  subst z1 z2 hv
  have inst : PySem.W.InstAt s.heap a ⟨.ref D, some dx, .fields vs, osl⟩ D (some od) := ⟨there, rfl, rfl, hod⟩
  obtain ⟨_, its, rv, ot, ht1, ht2, n, ht3⟩ := I.hok tp _ tup
  have same := ClsV.all cls rv
  subst same
  obtain ⟨tc, td, tda, tsl⟩ := ot
  have ht2 : tc = .type "tuple" := ht2
  have ht3 : tda = .seq its.toArray n := ht3
  subst ht2 ht3
  exact PySem.W.kia_tup (PySem.W.exd_kit C) I.kIn inst ht1 any (fun z => nomatch z) fun tk => ⟨.bl b, H, I.tok tk, rfl, post⟩
/-- what «except x as n», the first of several clauses, wishes: it is this clause that catches -/
def wFirst (K : PySem.W.Frag) (c : Value) (i len : Nat) (ts : Addr → Value → Option Addr → TS) (D : Ends) : WX := fun cls d σ H => PySem.W.exmOne K cls c = some true ∧
  ∀ a, H a = none → σ.length = len → ts a cls d { nx := fun σ' H' => D.nx (σ'.set i none) H', rt := D.rt, bk := fun σ' H' => D.bk (σ'.set i none) H', ct := fun σ' H' => D.ct (σ'.set i none) H' } (σ.set i (some (.ref a))) H
theorem ps_try_first {X : Cx} {x n : Str} {c : Value} {i : Nat} {body rest : List Stmt} {b0 : Stmt} {np pos pos1 : Pos} {more : List ExceptHandler} {tb : WX → TS} {ts : Addr → Value → Option Addr → TS}
    (hs : X.stack = X.env :: X.outer) (hf : X.env.frame = some X.env.locals) (nd : X.N.Nodup) (hi : X.N[i]? = some n) (loc : X.env.kindOf n = some .local) (names : Names X x c)
    (inner : ∀ (W : WX) (pn : List (Addr × Obj)) (xe : Value → Shared → Prop), Takes (X.tr pn xe) W → PassesOwn (model X.prog X.w) X.A X.env xe → PSs (X.tr pn xe) body (tb W))
    (suite : ∀ (a : Addr) (oe : Obj) (cls : Value) (d : Option Addr) (pn : List (Addr × Obj)), Zc cls d oe → (∃ vs, oe.data = .fields vs) → PSs (X.suite a ((a, oe) :: pn)) (b0 :: rest) (ts a cls d)) :
    PS X (.Try body (.ExceptHandler (some (.Name x np)) (some n) (b0 :: rest) pos1 :: more) [] [] pos) (fun D σ H => tb (wFirst X.K c i X.N.length ts D) D σ H) := by
  refine ⟨fun pins s σ H D I hyp => ?_⟩
  have good := I.ok
  have frames : X.A.frames = some (X.env :: X.outer) := by
    rw [good.frames, hs]
  refine wpAny_Try_except ?_
  have run := (inner (wFirst X.K c i X.N.length ts D) (X.pn ++ pins)
    (fun e s1 => wpAny (model X.prog X.w) X.A (noteFrame e X.env)
      (fun _ s2 => wpAny (model X.prog X.w) X.A (setFlight e none)
        (fun _ s3 => wpAny (model X.prog X.w) X.A (handleBy e X.env (.ExceptHandler (some (.Name x np)) (some n) (b0 :: rest) pos1 :: more)) (SP X pins D) X.xe s3)
        X.xe s2) X.xe s1) (fun u s' caught => ?_) PassesOwn.looking).run [] s σ H D (I.toTry _) hyp
  · refine wpAny_mono run (fun fl s1 out => ?_) (fun e s1 z => z)
    cases fl with
    | next =>
      obtain ⟨σ2, H2, I2, q⟩ := out
      exact wpAny_execs_nil ⟨σ2, H2, I2.ofTry good, q⟩
    | brk =>
      obtain ⟨σ2, H2, I2, q⟩ := out
      exact ⟨σ2, H2, I2.ofTry good, q⟩
    | cont =>
      obtain ⟨σ2, H2, I2, q⟩ := out
      exact ⟨σ2, H2, I2.ofTry good, q⟩
    | ret u =>
      obtain ⟨v, σ2, H2, I2, r, q⟩ := out
      exact ⟨v, σ2, H2, I2.ofTry good, r, q⟩
  · obtain ⟨a, Bk, sI, pins2, σ2, H2, cls, d, rfl, I2, nb, up, sky, none_, os, bare, one, yes⟩ := caught
    have I3 : Inv X pins σ2 H2 sI := I2.ofTry good
    have sky3 : Sky Bk (X.env :: X.outer) a (Zc cls d) X.env.locals s'.heap := by
      rw [← hs]
      exact sky
    show wpAny (model X.prog X.w) X.A (noteFrame (.ref a) X.env) _ _ _
    refine Sky.land Zc.steady frames hf sky3 fun g3 land3 up3 => ?_
    have I4 : Inv X pins σ2 H2 { s' with heap := g3 } :=
      I3.landed nb land3.1 (up.trans up3) os bare
    obtain ⟨o3, v3, at3, z3, dat3⟩ := land3.there
    have outside : a ∉ frs (X.env :: X.outer) := fun hm => by
      obtain ⟨_, o9, at9, bad⟩ := land3.2.2.1.mem hm
      rw [at3] at at9
      cases at9
      exact bad _ dat3
    have notLoc : a ≠ X.env.locals := fun same => outside (List.mem_filterMap.mpr
      ⟨X.env, List.mem_cons_self, by rw [hf, same]⟩)
    have notFs : a ∉ X.fs := fun hm => by
      obtain ⟨e9, in9, q9⟩ := List.mem_filterMap.mp hm
      exact outside (List.mem_filterMap.mpr ⟨e9, List.mem_cons_of_mem _ in9, q9⟩)
    have I5 := I4.suite at3 dat3 none_ notLoc notFs
    refine wpAny_handleBy_cons (codeAny_handlers_test ?_) (fun z => nomatch z)
    have looks : PySem.W.Looks (model X.prog X.w) g3 (typeOf (.ref a)) cls := fun A9 Q9 E9 s9 keep q9 =>
      wpAny_typeOf_ref (keep _ _ at3) (by rw [z3.1]; exact q9)
    have match_ := PySem.W.exm_one (M := model X.prog X.w) I4.kIn looks one
    have ask : ∀ {Q9 : Value → Shared → Prop} {E9 : Value → Shared → Prop}, Q9 c { s' with heap := g3 } →
        wpAny (model X.prog X.w) (X.A.mark (some (.ref a))) (eval (.Name x np) X.env) Q9 E9 { s' with heap := g3 } := fun {Q9 E9} q9 => by
      obtain ⟨gl, dbg, own | ⟨nown, blt, nn⟩⟩ := names
      · exact ld_glob (X := X.suite a ((a, o3) :: (X.pn ++ pins))) I5 gl own q9 dbg
      · exact ld_blt (X := X.suite a ((a, o3) :: (X.pn ++ pins))) I5 gl nown blt q9 nn dbg
    refine ask (match_.here (codeAny_handlers_suite_as ?_))
    refine HandSPX.lands_againZ land3 fun g4 land4 up4 => ?_
    have I6 : Inv X pins σ2 H2 { s' with heap := g4 } :=
      I3.landed nb land4.1 ((up.trans up3).trans up4) os bare
    obtain ⟨o4, v4, at4, z4, dat4⟩ := land4.there
    have I7 := I6.suite at4 dat4 none_ notLoc notFs
    refine store_ok (X := X.suite a ((a, o4) :: (X.pn ++ pins))) (v := .ref a)
      I7 nd hi (.inl loc) rfl (fun s5 I8 => ?_) (.inr loc)
    have body_ := (suite a o4 cls d (X.pn ++ pins) z4 ⟨_, dat4⟩).run [] s5 _ H2 _ I8 (yes a none_ I3.len)
    refine wpAny_mono body_ (fun fl s6 out => ?_) (fun _ _ z => z.elim)
    have leave : ∀ {σ6 : L2.St} {H6 : Hp} {Q6 : Shared → Prop}, Inv (X.suite a ((a, o4) :: (X.pn ++ pins))) [] σ6 H6 s6 → (∀ s7, Inv X pins (σ6.set i none) H6 s7 → Q6 s7) →
        wpAny (model X.prog X.w) X.A (do bindName X.env n .none; unbindBehindTheSuite X.env n pos1) (fun _ s7 => Q6 s7) X.xe s6 := fun {σ6 H6 Q6} I9 q9 =>
      gone_ok (I9.unsuite good) nd hi loc q9
    cases fl with
    | next =>
      obtain ⟨σ6, H6, I9, q9⟩ := out
      exact leave I9 fun s7 I10 => ⟨_, _, I10, q9⟩
    | brk =>
      obtain ⟨σ6, H6, I9, q9⟩ := out
      exact leave I9 fun s7 I10 => ⟨_, _, I10, q9⟩
    | cont =>
      obtain ⟨σ6, H6, I9, q9⟩ := out
      exact leave I9 fun s7 I10 => ⟨_, _, I10, q9⟩
    | ret u =>
      obtain ⟨v9, σ6, H6, I9, r9, q9⟩ := out
      exact leave I9 fun s7 I10 => ⟨_, _, _, I10, r9, q9⟩
end K13
/-! _law_told: what is refused is told as ("bad", False). -/
namespace K4
open PySem L2 Evl PySem.Spec PyProof.Rows LamX K13
def IsBad (H : Hp) (v : V) : Prop := ∃ t, v = .ref t ∧ H t = some (.tup [.str "bad", .bl false])
theorem IsBad.ex {H H2 : Hp} {v : V} (e : Ex H H2) (h : IsBad H v) : IsBad H2 v := by
  obtain ⟨t, h1, h2⟩ := h
  exact ⟨t, h1, e _ _ h2⟩
/-- what is wished of the lambda: that it refuses -/
def EBad (C : Addr) (Q : VK) : XK := fun cls d H' => ∃ dx z, cls = .ref C ∧ d = some dx ∧ H' dx = some (.xd [("why", z)]) ∧ ∀ v H2, Ex H' H2 → IsBad H2 v → Q v H2
def TTbad (C : Addr) : (XK → Hp → VK → Prop) → Hp → VK → Prop := fun tl H Q => ∀ Qn : VK, tl (EBad C Q) H Qn
/-- what the top says of the errors that _law_told knows -/
structure Tld (K : PySem.W.Frag) (mg : Str → Option Value) (C : Addr) : Prop where
  EC : ExcC K C
  EX : PySem.W.exmOne K (.ref C) (.ref C) = some true
  bv : mg "BadValue" = some (.ref C)
  ex : ∃ c1 c2 c3 c4, mg "BadProgram" = some (.ref c1) ∧ mg "Raised" = some (.ref c2) ∧ mg "Stuck" = some (.ref c3) ∧ mg "TooLong" = some (.ref c4) ∧ PySem.W.kitAny K (.ref C) [.ref c1, .ref c2, .ref c3, .ref c4] = some false
section
variable {X : Cx} {C g : Addr} {q : Str} {cdg : Value}
theorem sc36 : FnScope ["_law_ask", "e", "_law_found"] ["_law_ask"] (defScope (top 36)) := ⟨rfl, rfl, rfl, by decide +kernel, rfl, by decide +kernel, by decide +kernel⟩
abbrev toldCx (X : Cx) (g : Addr) (cdg : Value) (s : Shared) (H : Hp) : Cx := (cxOf C8.CX0 X.prog X.w X.K X.mg X.base ["_law_ask", "e", "_law_found"] "_law_told" (defScope (top 36)) g cdg X.A X.stack s H C8.E0).nox
theorem told_gives (isi : X.mg "isinstance" = none) (T : Tld X.K X.mg C) : GivesTo X ["_law_ask", "e", "_law_found"] "_law_told" (defScope (top 36)) g cdg (defBody (top 36)) "_law_ask" q (TTbad C) := by
  intro f c' s H Q tl act hc hyp
  obtain ⟨c1, c2, c3, c4, m1, m2, m3, m4, any⟩ := T.ex
  refine ⟨_, pss_cons (ps_try_first (X := (cxOf C8.CX0 X.prog X.w X.K X.mg X.base ["_law_ask", "e", "_law_found"] "_law_told" (defScope (top 36)) g cdg X.A X.stack s H C8.E0).nox) (c := .ref C) (i := 1)
    (tb := fun W D σ H => ∃ Ec : XK, (∀ cls d σ' H', Ec cls d H' → W cls d σ' H') ∧ σ[0]? = some (some (.ref f)) ∧ H c' = some (CodeO c' q) ∧ ∀ Qn : VK, tl Ec H Qn)
    (ts := fun a cls d D σ H => ∃ dx, cls = .ref C ∧ d = some dx ∧ tAsg (tTup (tCons (tC (.str "bad")) (tCons (tCB (rIsTd X.K C a dx) (tCons (tVar 1) (tCons (tTup (tCons (tC (.ref c1)) (tCons (tC (.ref c2)) (tCons (tC (.ref c3)) (tCons (tC (.ref c4)) tNil))))) tNil))) tNil))) (gName 2) D σ H)
    rfl rfl sc36.nd rfl rfl ⟨by rfl, by decide, .inl T.bv⟩ (fun W pn xe tk _ => ⟨fun pins s' σ H' D I h' => ?_⟩) (fun a oe cls d pn hz hf => ⟨fun pins s' σ H' D I h' => ?_⟩)) (pss_one (ps_ret (pv 2))), ?_⟩
  · obtain ⟨Ec, hW, h1, h2, h3⟩ := h'
    exact (pss_one (ps_set (i := 2) sc36.nd rfl (.inl rfl) (pe_tup (pa_cons pe_str (pa_cons (act W pn xe Ec _ _ tk hW) pa_nil))))).run pins s' σ H' D I ⟨h1, h2, h3 _⟩
  · obtain ⟨dx, e1, e2, h⟩ := h'
    subst e1 e2
    exact (pss_one (ps_set (i := 2) sc36.nd rfl (.inl rfl) (pe_tup (pa_cons pe_str (pa_cons (pe_callB (call_isTd (X := toldCx X g cdg s H) (pn := pn) T.EC hz hf) (by rfl) isi PyProof.Rows.boot_isinstance (pa_cons (pv 1) (pa_cons (pe_tup (pa_cons (pe_glob (v := .ref c1) (by rfl) m1 rfl) (pa_cons (pe_glob (v := .ref c2) (by rfl) m2 rfl) (pa_cons (pe_glob (v := .ref c3) (by rfl) m3 rfl) (pa_cons (pe_glob (v := .ref c4) (by rfl) m4 rfl) pa_nil))))) pa_nil))) pa_nil))))).run pins s' σ H' D I h
  · refine ⟨EBad C Q, fun cls d σ' H' ⟨dx, z, e1, e2, hx, k⟩ => ?_, rfl, hc, hyp⟩
    subst e1 e2
    refine ⟨T.EX, fun a na hlen => ⟨dx, rfl, rfl, ?_⟩⟩
    obtain ⟨y0, y1, y2, rfl⟩ : ∃ y0 y1 y2, σ' = [y0, y1, y2] := by
      match σ', hlen with
      | [y0, y1, y2], _ => exact ⟨y0, y1, y2, rfl⟩
    refine ⟨.ref a, rfl, sz_of (by simp), fun t0 n0 => ?_⟩
    have e0 := Ex.new (o := .tup [.ref c1, .ref c2, .ref c3, .ref c4]) n0
    refine ⟨t0, [.ref c1, .ref c2, .ref c3, .ref c4], [.ref c1, .ref c2, .ref c3, .ref c4], false, _, rfl, upd_same, .cons (.own c1) (.cons (.own c2) (.cons (.own c3) (.cons (.own c4) .nil))), any, e0 _ _ hx, sz_of (by simp), fun t nt => ?_⟩
    exact ⟨.ref t, rfl, k _ _ (e0.trans (Ex.new nt)) ⟨t, rfl, upd_same⟩⟩
end
end K4
/-! The statements of _law_right and _law_bound_right in short. -/
namespace K4
open PySem L2 Evl PySem.Spec PyProof.Rows LamX K13
def gOne {α : Type} : List α → List α → List α
  | [], [a] => [a]
  | _, _ => []
theorem one_rel {vs : List V} {us : List Value} {zs : List V} {ws : List Value} (r : Vals vs us) (q : Vals zs ws) : Vals (gOne vs zs) (gOne us ws) := by
  cases r with
  | cons _ _ => exact .nil
  | nil => cases q with
    | nil => exact .nil
    | cons a t => cases t with
      | nil => exact .cons a .nil
      | cons _ _ => exact .nil
theorem rev2_rel {vs : List V} {us : List Value} {zs : List V} {ws : List Value} (r : Vals vs us) (q : Vals zs ws) : Vals (gRev2 vs zs) (gRev2 us ws) := by
  cases r with
  | cons _ _ => exact .nil
  | nil => cases q with
    | nil => exact .nil
    | cons a t => cases t with
      | nil => exact .nil
      | cons b t2 => cases t2 with
        | nil => exact .cons b (.cons a .nil)
        | cons _ _ => exact .nil
theorem paired_all {α β : Type} {F : α → β → Prop} : ∀ {l : List α} {m : List β}, Paired F l m → ∀ y ∈ m, ∃ x, F x y
  | _, _, .nil, _, h => nomatch h
  | _, _, .cons q t, y, h => by
    rcases List.mem_cons.mp h with e | e
    · rw [e]; exact ⟨_, q⟩
    · exact paired_all t y e
/-- what was not there may change -/
theorem Gw.hide {mu : List Addr} {q : Addr} {H0 H1 H2 : Hp} (g : Gw mu H0 H1) (g2 : Gw (q :: mu) H1 H2) (nq : H1 q = none) : Gw mu H0 H2 := ⟨g.1.trans g2.1, fun b o hb n t => by
  have h1 := g.2 b o hb n t
  refine g2.2 b o h1 (fun hm => ?_) t
  rcases List.mem_cons.mp hm with e | e
  · rw [e, nq] at h1; cases h1
  · exact n e⟩
theorem NoRows.more {K : PySem.W.Frag} {mu : List Addr} {H : Hp} {v : V} {q : Addr} (h : NoRows K mu H v) (nq : H q = none) : NoRows K (q :: mu) H v := by
  rcases h with ⟨d, r, n⟩ | ⟨p, vs, ds, e, n, s, rs, r⟩
  · exact .inl ⟨d, r, n⟩
  · refine .inr ⟨p, vs, ds, e, fun hm => ?_, s, rs, r⟩
    rcases List.mem_cons.mp hm with z | z
    · rw [z, nq] at s; cases s
    · exact n z
theorem prv_gw {mu : List Addr} {H H2 : Hp} (g : Gw mu H H2) {d : P} {v : V} (h : PrV H d v) : PrV H2 d v := by
  obtain ⟨a, h1, h2⟩ := h
  exact ⟨a, h1, (g.1 a).1 _ h2⟩
/-- what stands within the law's turn -/
structure St (T : List (Addr × Str)) (mu : List Addr) (wa l : Addr) (us : List V) (ds : List P) (H : Hp) (z : Nat) : Prop where
  wl : Wl wa H z
  mul : MuL mu H
  tab : Tabs T H
  hl : H l = some (.lst us)
  pr : Prs H ds us
  n : l ∉ mu
section
variable {T : List (Addr × Str)} {mu : List Addr} {wa l : Addr} {us : List V} {ds : List P} {H H2 : Hp} {z z2 : Nat}
theorem St.gw (s : St T mu wa l us ds H z) (g : Gw mu H H2) (wl2 : Wl wa H2 z2) (t2 : Tabs T H2) : St T mu wa l us ds H2 z2 := ⟨wl2, s.mul.gw g, t2, g.l s.hl s.n, prs_gw g s.pr, s.n⟩
theorem St.ex (s : St T mu wa l us ds H z) (e : Ex H H2) : St T mu wa l us ds H2 z := s.gw (Gw.ex e) (s.wl.ex e) (s.tab.ext e)
theorem St.kw (s : St T mu wa l us ds H z) (hm : wa ∈ mu) (k : Kw wa H H2) (wl2 : Wl wa H2 z2) : St T mu wa l us ds H2 z2 := s.gw (Gw.kw s.wl wl2 hm k) wl2 (tabs_go s.wl k s.tab)
theorem St.isl (s : St T mu wa l us ds H z) : IsL ds H (.ref l) := ⟨l, us, rfl, s.hl, s.pr⟩
/-- tables have grown -/
theorem St.extN (s : St T mu wa l us ds H z) (e : ExtN H H2) (t2 : Tabs T H2) : St T mu wa l us ds H2 z := by
  obtain ⟨x, y, w⟩ := s.wl
  exact s.gw (Gw.extN e) ⟨x, y, e _ _ w fun ps z => nomatch z⟩ t2
/-- a new list that may change -/
theorem St.add {q : Addr} {xs : List V} (s : St T mu wa l us ds H z) (e : ExtN H H2) (t2 : Tabs T H2) (nq : H q = none) (hq : H2 q = some (.lst xs)) : St T (q :: mu) wa l us ds H2 z := by
  have s2 := s.extN e t2
  refine ⟨s2.wl, fun b hb => ?_, t2, s2.hl, s2.pr, fun hm => ?_⟩
  · rcases List.mem_cons.mp hb with h | h
    · rw [h]; exact ⟨_, hq⟩
    · exact s2.mul b h
  · rcases List.mem_cons.mp hm with h | h
    · have := s.hl; rw [h, nq] at this; cases this
    · exact s.n h
theorem St.app {q : Addr} (s : St T (q :: mu) wa l us ds H z) (g : Gw [q] H H2) (t2 : Tabs T H2) (qw : wa ≠ q) : St T (q :: mu) wa l us ds H2 z := by
  obtain ⟨x, y, w⟩ := s.wl
  exact s.gw (g.sub fun b hb => by rw [List.mem_singleton.mp hb]; exact List.mem_cons_self ..) ⟨x, y, g.l w (by simpa using qw)⟩ t2
theorem mul_one {q : Addr} {xs : List V} (h : H q = some (.lst xs)) : MuL [q] H := fun b hb => by
  rw [List.mem_singleton.mp hb]
  exact ⟨_, h⟩
end
/-! ### what is compared -/
def PpD (p : P × List P) : PyData := .tuple [PD p.1, .list (p.2.map PD)]
def BD : PyData := .tuple [.str "bad", .bool false]
theorem dep_list (ds : List P) : PyData.depthAll (ds.map PD) ≤ 1 := by
  induction ds with
  | nil => simp [PyData.depthAll]
  | cons a l ih => simp [PyData.depthAll, PyData.depth, PD, ih]
theorem can_list (ds : List P) : PyData.canLayAll0 (ds.map PD) = true := by
  induction ds with
  | nil => rfl
  | cons a l ih => simp [PyData.canLayAll0, PyData.canLay0, PD, ih]
theorem can_pp (p : P × List P) : PyData.canLay0 (PpD p) = true := by simp [PpD, PD, PyData.canLay0, PyData.canLayAll0, can_list]
theorem shaped_pp (p : P × List P) : SeqAt.shaped (PpD p) = true := by
  have := dep_list p.2
  have h2 : PyData.depth (PpD p) ≤ 64 := by
    simp only [PpD, PD, PyData.depth, PyData.depthAll]
    omega
  simp only [SeqAt.shaped, can_pp, Bool.true_and, decide_eq_true h2]
theorem can_l (ds : List P) : PyData.canLay0 (.list (ds.map PD)) = true := by simp [PyData.canLay0, can_list]
theorem can_bd : PyData.canLay0 BD = true := by decide +kernel
theorem shaped_bd : SeqAt.shaped BD = true := by decide +kernel
theorem can_bds : ∀ n, PyData.canLayAll0 (List.replicate n BD) = true
  | 0 => rfl
  | n + 1 => by rw [List.replicate_succ]; simp [PyData.canLayAll0, can_bd, can_bds n]
theorem dep_bds : ∀ n, PyData.depthAll (List.replicate n BD) ≤ 1
  | 0 => by simp [PyData.depthAll]
  | n + 1 => by
    have := dep_bds n
    rw [List.replicate_succ]
    simp only [PyData.depthAll, BD, PyData.depth]
    have : PyData.depthAll (List.replicate n BD) ≤ 1 := dep_bds n
    simp only [BD] at this
    omega
theorem shaped_bds (n : Nat) : SeqAt.shaped (.list (List.replicate n BD)) = true := by
  have := dep_bds n
  have h2 : PyData.depth (.list (List.replicate n BD)) ≤ 64 := by
    simp only [PyData.depth]
    omega
  have h3 : PyData.canLay0 (.list (List.replicate n BD)) = true := by simp [PyData.canLay0, can_bds]
  simp only [SeqAt.shaped, h3, Bool.true_and, decide_eq_true h2]
def IsPp (p : P × List P) (H : Hp) (v : V) : Prop := ∃ t x l us, v = .ref t ∧ H t = some (.tup [x, .ref l]) ∧ PrV H p.1 x ∧ H l = some (.lst us) ∧ Prs H p.2 us
/-- a list of n that are bad -/
def IsBads (n : Nat) (H : Hp) (v : V) : Prop := ∃ l ys, v = .ref l ∧ H l = some (.lst ys) ∧ ys.length = n ∧ ∀ y ∈ ys, IsBad H y
section
variable {K : PySem.W.Frag} {H H2 : Hp} {σ : L2.St} {ta tb t1 t2 t3 te tl : TE} {tu : TT} {tz tbd : TS} {Dd : Ends} {v : V} {C : Addr}
theorem IsPp.ex {p : P × List P} (e : Ex H H2) (h : IsPp p H v) : IsPp p H2 v := by
  obtain ⟨t, x, l, us, h1, h2, h3, h4, h5⟩ := h
  exact ⟨t, x, l, us, h1, e _ _ h2, h3.ex e, e _ _ h4, h5.ex e⟩
theorem IsPp.dp {p : P × List P} (h : IsPp p H v) : Dp K H v (PpD p) := by
  obtain ⟨t, x, l, us, rfl, h2, h3, h4, h5⟩ := h
  exact .tup (st_of h2) (.cons h3.dp (.cons (.lst (sq_of h4) h5.dp) .nil))
theorem IsBad.dp (h : IsBad H v) : Dp K H v BD := by
  obtain ⟨t, rfl, h2⟩ := h
  exact .tup (st_of h2) (.cons (.str _) (.cons (.bl _) .nil))
theorem bads_dp : ∀ {ys : List V}, (∀ y ∈ ys, IsBad H y) → DpAll K H ys (List.replicate ys.length BD)
  | [], _ => .nil
  | y :: ys, h => .cons (h y (by simp)).dp (bads_dp fun z hz => h z (List.mem_cons_of_mem _ hz))
theorem IsBads.dp {n : Nat} (h : IsBads n H v) : Dp K H v (.list (List.replicate n BD)) := by
  obtain ⟨l, ys, rfl, h2, h3, h4⟩ := h
  rw [← h3]
  exact .lst (sq_of h2) (bads_dp h4)
theorem IsBads.ex {n : Nat} (e : Ex H H2) (h : IsBads n H v) : IsBads n H2 v := by
  obtain ⟨l, ys, h1, h2, h3, h4⟩ := h
  exact ⟨l, ys, h1, e _ _ h2, h3, fun y hy => (h4 y hy).ex e⟩
theorem ev_nePp {p : P × List P} (ha : EvP ta σ H (IsPp p)) (hb : ∀ H1, Ex H H1 → EvP tb σ H1 (IsPp p)) : Ev (tOp (rNeD K) ta tb) σ H (.bl false) := ev_neSame ha hb (fun _ _ _ e h => h.ex e) (fun _ _ h => h.dp) (shaped_pp p) (can_pp p)
theorem ev_neLL {ds : List P} (ha : EvP ta σ H (IsL ds)) (hb : ∀ H1, Ex H H1 → EvP tb σ H1 (IsL ds)) : Ev (tOp (rNeD K) ta tb) σ H (.bl false) := ev_neSame ha hb (fun _ _ _ e h => h.ex e) (fun _ _ h => h.dp) (shaped_list ds) (can_l ds)
theorem ev_eqBads {n : Nat} (ha : EvP ta σ H (IsBads n)) (hb : ∀ H1, Ex H H1 → EvP tb σ H1 (IsBads n)) : Ev (tOp (rEqD K) ta tb) σ H (.bl true) :=
  ev_op2 ha hb (fun _ _ _ e h => h.ex e) fun x y H1 _ p1 p2 => rv_val fun H2 e Q q => ⟨_, _, (p1.ex e).dp, (p2.ex e).dp, shaped_bds n, shaped_bds n, by
    rw [SeqAt.eqv_refl _ (by simp [PyData.canLay0, can_bds])]; exact q⟩
/-! ### what is called -/
theorem evp_pushed {E : XK} {l : Addr} {us : List V} {ds : List P} {d : P} {x : V} (h1 : Ev t1 σ H (.ref l)) (h2 : Ev t2 σ H x) (hl : H l = some (.lst us)) (pr : Prs H ds us) (hd : PrV H d x) (n : ds.length ≤ 5000) : EvP (tCall (spPushed K C) [] E (tCons t1 (tCons t2 tNil))) σ H (IsL (push ds d)) := fun H1 e Q q =>
  ea_cons h1 (ea_cons h2 ea_nil) H1 e _ fun H2 e2 => ⟨.ref l, x, rfl, .inl ⟨l, d, us, ds, rfl, (e.trans e2) _ _ hl, pr.ex (e.trans e2), hd.ex (e.trans e2), n, fun m ws H3 _ e3 hm pm => q _ H3 (e2.trans e3) ⟨m, ws, rfl, hm, pm⟩⟩⟩
theorem evp_pushedK {E : XK} {l : Addr} {us : List V} {ds : List P} {d : P} {x : V} (h1 : Ev t1 σ H (.ref l)) (h2 : Ev t2 σ H x) (hl : H l = some (.lst us)) (pr : Prs H ds us) (hd : PrV H d x) (n : ds.length ≤ 5000) : EvP (tCallK (spPushed K C) gRev2 E tNil (tCons t2 (tCons t1 tNil))) σ H (IsL (push ds d)) := fun H1 e Q q =>
  h2 H1 e _ fun H2 e2 => h1 H2 (e.trans e2) _ fun H3 e3 => ⟨.ref l, x, rfl, .inl ⟨l, d, us, ds, rfl, (e.trans (e2.trans e3)) _ _ hl, pr.ex (e.trans (e2.trans e3)), hd.ex (e.trans (e2.trans e3)), n, fun m ws H4 _ e4 hm pm => q _ H4 ((e2.trans e3).trans e4) ⟨m, ws, rfl, hm, pm⟩⟩⟩
theorem evp_pushL {E : XK} {l : Addr} {us : List V} {ds : List P} {d : P} {x : V} (h1 : Ev t1 σ H (.ref l)) (h2 : Ev t2 σ H x) (hl : H l = some (.lst us)) (pr : Prs H ds us) (hd : PrV H d x) (n : ds.length < 10000) : EvP (tCall spPushL [] E (tCons t1 (tCons t2 tNil))) σ H (IsL (push ds d)) := fun H1 e Q q =>
  ea_cons h1 (ea_cons h2 ea_nil) H1 e _ fun H2 e2 => ⟨l, x, d, us, ds, rfl, (e.trans e2) _ _ hl, pr.ex (e.trans e2), hd.ex (e.trans e2), n, fun m ws H3 _ e3 hm pm => q _ H3 (e2.trans e3) ⟨m, ws, rfl, hm, pm⟩⟩
theorem evp_popped {E : XK} {l : Addr} {us : List V} {ds : List P} (h1 : Ev t1 σ H (.ref l)) (hl : H l = some (.lst us)) (pr : Prs H ds us) (hne : ds ≠ []) (n : ds.length ≤ 5000) : EvP (tCall (spPopped K C) [] E (tCons t1 tNil)) σ H (IsPp (pop ds)) := fun H1 e Q q =>
  ea_cons h1 ea_nil H1 e _ fun H2 e2 => ⟨.ref l, rfl, .inl ⟨l, us, ds, rfl, (e.trans e2) _ _ hl, pr.ex (e.trans e2), hne, n, fun t m x ws H3 _ _ e3 ht hm pm hx => q _ H3 (e2.trans e3) ⟨t, x, m, ws, rfl, ht, hx, hm, pm⟩⟩⟩
theorem evp_popL {E : XK} {l : Addr} {us : List V} {ds : List P} (h1 : Ev t1 σ H (.ref l)) (hl : H l = some (.lst us)) (pr : Prs H ds us) (hne : ds ≠ []) (n : ds.length ≤ 10000) : EvP (tCall spPopL [] E (tCons t1 tNil)) σ H (IsPp (pop ds)) := fun H1 e Q q =>
  ea_cons h1 ea_nil H1 e _ fun H2 e2 => ⟨l, us, ds, rfl, (e.trans e2) _ _ hl, pr.ex (e.trans e2), hne, n, fun t m x ws H3 _ e3 ht hm pm hx => q _ H3 (e2.trans e3) ⟨t, x, m, ws, rfl, ht, hx, hm, pm⟩⟩
theorem ev_isH {E : XK} {l : Addr} {us : List V} {ds : List P} (h1 : Ev t1 σ H (.ref l)) (hl : H l = some (.lst us)) (pr : Prs H ds us) (n : ds.length ≤ 5000) : Ev (tCall (spIsH K C) [] E (tCons t1 tNil)) σ H (.bl (hpB ds)) := fun H1 e Q q =>
  ea_cons h1 ea_nil H1 e _ fun H2 e2 => ⟨.ref l, rfl, .inl ⟨l, us, ds, rfl, (e.trans e2) _ _ hl, pr.ex (e.trans e2), n, fun H3 e3 => q H3 (e2.trans e3)⟩⟩
theorem ev_isHK {E : XK} {l : Addr} {us : List V} {ds : List P} (h1 : Ev t1 σ H (.ref l)) (hl : H l = some (.lst us)) (pr : Prs H ds us) (n : ds.length ≤ 5000) : Ev (tCallK (spIsH K C) gOne E tNil (tCons t1 tNil)) σ H (.bl (hpB ds)) := fun H1 e Q q =>
  h1 H1 e _ fun H2 e2 => ⟨.ref l, rfl, .inl ⟨l, us, ds, rfl, (e.trans e2) _ _ hl, pr.ex (e.trans e2), n, fun H3 e3 => q H3 (e2.trans e3)⟩⟩
theorem ev_isHL {E : XK} {l : Addr} {us : List V} {ds : List P} (h1 : Ev t1 σ H (.ref l)) (hl : H l = some (.lst us)) (pr : Prs H ds us) (n : ds.length ≤ 5000) : Ev (tCall spIsHL [] E (tCons t1 tNil)) σ H (.bl (hpB ds)) := fun H1 e Q q =>
  ea_cons h1 ea_nil H1 e _ fun H2 e2 => ⟨l, us, ds, rfl, (e.trans e2) _ _ hl, pr.ex (e.trans e2), n, fun H3 e3 => q H3 (e2.trans e3)⟩
theorem elp_heaped {E : XK} {l : Addr} {us : List V} {ds : List P} (h1 : Ev t1 σ H (.ref l)) (hl : H l = some (.lst us)) (pr : Prs H ds us) (n : ds.length ≤ 5000) : EvLP (tCall (spHeaped K C) [] E (tCons t1 tNil)) σ H (fun H1 vs => Prs H1 (heapify ds) vs) := fun H1 e Q q =>
  ea_cons h1 ea_nil H1 e _ fun H2 e2 => ⟨.ref l, rfl, .inl ⟨l, us, ds, rfl, (e.trans e2) _ _ hl, pr.ex (e.trans e2), n, fun m ws H3 nm e3 hm pm => q m ws H3 (fresh_back e2 nm) (e2.trans e3) hm pm⟩⟩
theorem elp_heapedK {E : XK} {l : Addr} {us : List V} {ds : List P} (h1 : Ev t1 σ H (.ref l)) (hl : H l = some (.lst us)) (pr : Prs H ds us) (n : ds.length ≤ 5000) : EvLP (tCallK (spHeaped K C) gOne E tNil (tCons t1 tNil)) σ H (fun H1 vs => Prs H1 (heapify ds) vs) := fun H1 e Q q =>
  h1 H1 e _ fun H2 e2 => ⟨.ref l, rfl, .inl ⟨l, us, ds, rfl, (e.trans e2) _ _ hl, pr.ex (e.trans e2), n, fun m ws H3 nm e3 hm pm => q m ws H3 (fresh_back e2 nm) (e2.trans e3) hm pm⟩⟩
/-! ### what is refused -/
def Refuses (C : Addr) (tl : XK → TE) (σ0 : L2.St) (H : Hp) : Prop := ∀ H1, Ex H H1 → ∀ (E : XK) (Q : VK), Bad C H1 E → tl E σ0 H1 Q
theorem ref_isH {i : Nat} {r : V} {mu : List Addr} (si : σ[i]? = some (some r)) (ho : NoRows K mu H r) : Refuses C (fun E => tCall (spIsH K C) [] E (tCons (tVar i) tNil)) σ H := fun H1 e E Q b =>
  ea_cons (ev_var si) ea_nil H1 (Ex.refl _) _ fun H2 e2 => ⟨r, rfl, .inr ((ho.gw (Gw.ex (e.trans e2))).bad (b.mono e2))⟩
theorem ref_popped {i : Nat} {r : V} {mu : List Addr} (si : σ[i]? = some (some r)) (ho : NoRows K mu H r) : Refuses C (fun E => tCall (spPopped K C) [] E (tCons (tVar i) tNil)) σ H := fun H1 e E Q b =>
  ea_cons (ev_var si) ea_nil H1 (Ex.refl _) _ fun H2 e2 => ⟨r, rfl, .inr ((ho.gw (Gw.ex (e.trans e2))).bad (b.mono e2))⟩
theorem ref_heaped {i : Nat} {r : V} {mu : List Addr} (si : σ[i]? = some (some r)) (ho : NoRows K mu H r) : Refuses C (fun E => tCall (spHeaped K C) [] E (tCons (tVar i) tNil)) σ H := fun H1 e E Q b =>
  ea_cons (ev_var si) ea_nil H1 (Ex.refl _) _ fun H2 e2 => ⟨r, rfl, .inr ((ho.gw (Gw.ex (e.trans e2))).bad (b.mono e2))⟩
theorem ref_pushed1 {i j : Nat} {r x : V} {mu : List Addr} (si : σ[i]? = some (some r)) (sj : σ[j]? = some (some x)) (ho : NoRows K mu H r) : Refuses C (fun E => tCall (spPushed K C) [] E (tCons (tVar i) (tCons (tVar j) tNil))) σ H := fun H1 e E Q b =>
  ea_cons (ev_var si) (ea_cons (ev_var sj) ea_nil) H1 (Ex.refl _) _ fun H2 e2 => ⟨r, x, rfl, .inr ((ho.gw (Gw.ex (e.trans e2))).bad (b.mono e2))⟩
theorem ref_pushed2 {i j : Nat} {l : Addr} {x : V} {ds : List P} (si : σ[i]? = some (some (.ref l))) (sj : σ[j]? = some (some x)) (hl : IsL ds H (.ref l)) (n : ds.length ≤ 5000) (ho : NoEn K H x) : Refuses C (fun E => tCall (spPushed K C) [] E (tCons (tVar i) (tCons (tVar j) tNil))) σ H := fun H1 e E Q b =>
  ea_cons (ev_var si) (ea_cons (ev_var sj) ea_nil) H1 (Ex.refl _) _ fun H2 e2 => by
    obtain ⟨d, r, hd⟩ := ho
    exact ⟨.ref l, x, rfl, .inr (rows_good (hl.ex (e.trans e2)) n ⟨d, r.mono (e.trans e2), hd, b.mono e2⟩)⟩
theorem ref_empty {i : Nat} {l : Addr} (si : σ[i]? = some (some (.ref l))) (hl : H l = some (.lst [])) : Refuses C (fun E => tCall (spPopped K C) [] E (tCons (tVar i) tNil)) σ H := fun H1 e E Q b =>
  ea_cons (ev_var si) ea_nil H1 (Ex.refl _) _ fun H2 e2 => ⟨.ref l, rfl, .inr (rows_good (ds := []) ⟨l, [], rfl, (e.trans e2) _ _ hl, .nil⟩ (by simp) ⟨l, rfl, (e.trans e2) _ _ hl, b.mono e2⟩)⟩
theorem tt_bad {tl : XK → TE} (h : Refuses C tl σ H) {Q : VK} (k : ∀ v H2, Ex H H2 → IsBad H2 v → Q v H2) : TTbad C (fun E H' Q' => tl E σ H' Q') H Q := fun Qn =>
  h H (Ex.refl _) _ Qn fun d z H2 e hx => ⟨d, z, rfl, rfl, hx, fun v H3 e3 hb => k v H3 (e.trans e3) hb⟩
/-- told(lambda: ..) != ("bad", False) behind an and -/
theorem q_andTold {T : List (Addr × Str)} {t : XK → TE} {tr : TS} {tt : TT} (h1 : EvT tt σ H true) (tab : Tabs T H) (hr : ∀ H1, ExtN H H1 → Refuses C t σ H1) (k : ∀ H2, ExtN H H2 → Tabs T H2 → tz Dd σ H2) :
    tSeq (tIfS (tAnd tt (tTest (tOp (rNeD K) (tLam T (TTbad C) t) (tTup (tCons (tC (.str "bad")) (tCons (tC (.bl false)) tNil)))))) tr tNext) tz Dd σ H :=
  h1 H (Ex.refl _) _ fun H1 e1 => iteT ⟨tab.ext e1, fun H2 e2 t2 => tt_bad (hr H2 ((ExtN.of e1).trans e2)) fun v H3 e3 hb => ⟨sz_of (by simp), fun p np => ⟨BD, BD, (hb.ex (Ex.new np)).dp, IsBad.dp ⟨p, rfl, upd_same⟩, shaped_bd, shaped_bd, by
    have e : (!PyData.eqv BD BD) = false := by rw [SeqAt.eqv_refl _ can_bd]; rfl
    rw [e]
    exact ⟨false, rfl, iteF (k _ (((ExtN.of e1).trans e2).trans (ExtN.of (e3.trans (Ex.new np)))) (t2.ext (e3.trans (Ex.new np))))⟩⟩⟩⟩
/-- [told(f) for f in fs] -/
theorem bads_lc {X : Cx} {k j : Nat} {q : Addr} {fs : List Addr} (hq : H q = some (.lst (fs.map V.ref))) (hv : Ev tl σ H (.ref q)) (hl : fs.length ≤ 1000) (hw : ∀ x, wipe ((wipe σ [j]).set j (some x)) [j] = wipe σ [j]) (hj : ∀ x, ((wipe σ [j]).set j (some x))[j]? = some (some x))
    (h : ∀ f ∈ fs, ∃ tl, KeptAt X k H f tl ∧ Refuses C tl σ H) : EvP (tLcS (iList K tl) (gName j) tYes (tKeptP X k j (TTbad C)) [j]) σ H (IsBads fs.length) := fun H0 e0 Q q0 =>
  show tLc (iList K tl) (gName j) tYes (tKeptP X k j (TTbad C) σ) [j] σ H0 Q from el_lc (fun _ => true) (fun _ H1 y => IsBad H1 y) (wk_lst hv hq) (by rw [List.length_map]; omega) (fun _ H1 H2 y e ⟨t, h1, h2⟩ => ⟨t, h1, (e t).1 _ h2⟩)
    (fun i x H1 hi e hx Z kk => kk _ H1 (Ex.refl _) (hw x) (fun H2 e2 Q q => q H2 (Ex.refl _)) fun _ H2 e2 Q qq => by
      rw [List.getElem?_map] at hx
      cases hf : fs[i]? with
      | none => rw [hf] at hx; cases hx
      | some f =>
        rw [hf] at hx
        cases hx
        obtain ⟨tl, kp, rf⟩ := h f (List.mem_of_getElem? hf)
        have rf2 : Refuses C tl σ H2 := fun H3 e3 => rf H3 ((e.trans e2).trans e3)
        exact ⟨f, tl, hj _, keptAt_ex (e.trans e2) kp, fun G g => fun Qn => ⟨g, rf2 H2 (Ex.refl _) _ Qn fun d z H3 e3 hx => ⟨d, z, rfl, rfl, hx, fun v H4 e4 hb => qq v H4 (e3.trans e4) hb⟩⟩⟩) H0 e0 Q fun p xs H2 np e2 hp pl => q0 _ H2 e2 ⟨p, xs, rfl, hp, by
      have := pl.length
      rw [kept_all, List.length_range, List.length_map] at this
      exact this.symm, fun y hy => by
        obtain ⟨i, hb⟩ := paired_all pl y hy
        exact hb⟩
theorem bads_rep {n : Nat} (hn : n ≤ 1000) : EvP (tOp rRep (tLst (tCons (tTup (tCons (tC (.str "bad")) (tCons (tC (.bl false)) tNil))) tNil)) (tC (.int (n : Int)))) σ H (IsBads n) := fun H1 e Q q =>
  (show EvLP (tLst (tCons (tTup (tCons (tC (.str "bad")) (tCons (tC (.bl false)) tNil))) tNil)) σ H1 (fun H2 xs => ∃ v, xs = [v] ∧ IsBad H2 v) from lst_one (Pe := IsBad) (fun _ _ _ e h => h.ex e) (fun H2 e2 Q q => eu_tup (vs := [.str "bad", .bl false]) (ea_cons ev_c (ea_cons ev_c ea_nil)) (by simp) H2 e2 _ fun p H3 np e3 hp => q _ H3 e3 ⟨p, rfl, hp⟩)) H1 (Ex.refl _) _ fun l xs H2 nl e2 hl ⟨v, hx, hb⟩ => by
    subst hx
    refine ⟨l, (n : Int), [v], rfl, rfl, hl, by omega, by omega, sz_of (by simp; omega), fun p np => q _ _ (e2.trans (Ex.new np)) ⟨p, _, rfl, upd_same, by rw [rep_one]; simp, fun y hy => ?_⟩⟩
    rw [rep_one] at hy
    rw [List.eq_of_mem_replicate hy]
    exact hb.ex (Ex.new np)
theorem q_pairPick {E1 E2 E3 : XK} {a : Addr} {i z : Nat} {n : Int} (h0 : ∀ H1, Ev t1 σ H1 (.ref a)) (wl : Wl a H z) (hz : z ≤ 50000) (k : ∀ (t : Addr) (x : Int) (z2 : Nat) H2, z2 ≤ z + 7 → Kw a H H2 → Wl a H2 z2 → H2 t = some (.tup [.int x, .int n]) → tz Dd (σ.set i (some (.ref t))) H2) :
    tSeq (tAsg (tTup (tCons (tCall (spPick K) [] E1 (tCons t1 (tCons (tLst (tCons (tCall spTime [] E2 (tCons t1 (tCons (tC (.int 0)) tNil))) (tCons (tCall spTime [] E3 (tCons t1 (tCons (tC (.int 1)) tNil))) tNil))) tNil))) (tCons (tC (.int n)) tNil))) (gName i)) tz Dd σ H :=
  h0 H H (Ex.refl _) _ fun H0 e0 => raw_time (ea_cons (h0 _) (ea_cons ev_c ea_nil)) (by decide) (by decide) (wl.ex e0) (by omega) fun i1 z1 H1 hz1 k1 wl1 => raw_time (ea_cons (h0 _) (ea_cons ev_c ea_nil)) (by decide) (by decide) wl1 (by omega) fun i2 z2 H2 hz2 k2 wl2 =>
    ⟨sz_of (by simp), fun pk npk => ⟨a, pk, [.int i1, .int i2], z2, rfl, wl2.ex (Ex.new npk), by omega, wl_ne wl2 npk, .inl upd_same, by simp, by simp, fun x z3 H3 hx hz3 k3 wl3 => ⟨sz_of (by simp), fun t nt => by
      obtain ⟨j, hj⟩ : ∃ j : Int, x = .int j := by
        rcases List.mem_cons.mp hx with h | h
        · exact ⟨_, h⟩
        · exact ⟨_, List.mem_singleton.mp h⟩
      subst hj
      exact k t j z3 _ (by omega) (((Kw.of e0).trans (k1.trans k2)).trans ((Kw.of (Ex.new npk)).trans (k3.trans (Kw.of (Ex.new nt))))) (wl3.ex (Ex.new nt)) upd_same⟩⟩⟩
theorem q_andTold2 {T : List (Addr × Str)} {t : XK → TE} {tr : TS} {tt : TT} {b : Bool} (h1 : EvT tt σ H b) (tab : Tabs T H) (hr : b = true → ∀ H1, ExtN H H1 → Refuses C t σ H1) (k : ∀ H2, ExtN H H2 → Tabs T H2 → tz Dd σ H2) :
    tSeq (tIfS (tAnd tt (tTest (tOp (rNeD K) (tLam T (TTbad C) t) (tTup (tCons (tC (.str "bad")) (tCons (tC (.bl false)) tNil)))))) tr tNext) tz Dd σ H := by
  cases b with
  | true => exact q_andTold h1 tab (hr rfl) k
  | false => exact h1 H (Ex.refl _) _ fun H1 e1 => iteF (iteF (k H1 (ExtN.of e1) (tab.ext e1)))
theorem Gw.kwl {mu : List Addr} {p : Addr} {xs ys : List V} (h1 : H p = some (.lst xs)) (h2 : H2 p = some (.lst ys)) (hm : p ∈ mu) (k : Kw p H H2) : Gw mu H H2 := by
  refine ⟨fun a => ?_, fun b o hb n _ => k b o hb fun e => n (by rw [e]; exact hm)⟩
  by_cases e : a = p
  · subst e
    refine ⟨fun xs q => ?_, fun xs q => ⟨_, h2⟩, fun xs q => ?_⟩ <;> (rw [h1] at q; cases q)
  · exact ⟨fun xs q => k a _ q e, fun xs q => ⟨xs, k a _ q e⟩, fun xs q => ⟨xs, k a _ q e⟩⟩
theorem hpB_of {ds : List P} (h : Hf 0 ds) : hpB ds = true := by
  unfold hpB
  rw [List.all_eq_true]
  intro i hi
  have hi := List.mem_range.mp hi
  have := h (1 + i) (by omega) (by omega) (Nat.zero_le _)
  rw [show (1 + i - 1) / 2 = i / 2 by omega] at this
  rw [decide_eq_false (by omega)]
  rfl
end
end K4
/-! _law_right. -/
namespace K4
open PySem L2 Evl PySem.Spec PyProof.Rows LamX K13
structure OkdK (P : Program) (w : World) (K : PySem.W.Frag) (mg : Str → Option Value) (base : Heap) (CX : CXT) (k : Nat) (nm : Str) (ps ks : List Str) (g : List Value → List Value → List Value) (gV : List V → List V → List V) (sp : Sp) : Prop where
  ex : ∃ f fd, mg nm = some (.ref f) ∧ PySem.W.keepIn K (.ref f) = true ∧ Binds K fd ps [] ∧ KBinds K fd ps ks g gV ∧ FnOk P w K mg base CX k f fd ps sp
theorem kept_by {X : Cx} {k : Nat} {params : Arguments} {body : Expr} {scope : Scope} {tl : XK → TE} (L : LamS X.env.scope scope)
    (n : ∀ (q : Str) (cl : List (Str × Addr)) (pm cv ctv : Value), bindArgs (PySem.W.kla_fn "<lambda>" q params body scope cl pm cv ctv) ⟨[], []⟩ = pure [])
    (r : ∀ (A : Around) (outer : List Env) (s : Shared) (H : Hp) (E : XK) (f c' : Addr), Room k (A.deeper (lamEnv X scope s.heap.objs.size f c')) → PE (lamCx X A outer s H E scope f c') body (tl E)) : Kept X k params body scope tl := ⟨L, n, r⟩
def spRight (T : List (Addr × Str)) : Sp := fun args H Q _ => ∃ wa, args = [.ref wa] ∧ Wl wa H 0 ∧ Tabs T H ∧ ∀ H2, Gw [wa] H H2 → Tabs T H2 → Q (.bl true) H2
/-- the name that lambdas of a def bear -/
def lamQ (nm : Str) (st : Stmt) : Str := (envOfC nm (defScope st) 0 0 .none).qual ++ "<lambda>"
section
variable {P : Program} {w : World} {K : PySem.W.Frag} {mg : Str → Option Value} {base : Heap} {C fB : Addr} {dB : FuncData}
theorem sc38 : FnScope ["_law_well_here", "_law_lot", "_law_pair", "_law_kept", "_law_heard", "_law_odd_here", "_law_none", "_law_asks", "_law_ask"] ["_law_well_here"] (defScope (top 38)) := ⟨rfl, rfl, rfl, by decide +kernel, rfl, by decide +kernel, by decide +kernel⟩
theorem ok_right (B : Bm mg) (TL : Tld K mg C) {f c Pt : Addr} {oc : Value} {od an : Option Addr} {osl : Array (Option Value)} {kV doc pm ct : Value}
    (lk : K.lookup f = some ⟨oc, od, .func (PySem.W.fnOf "_law_right" "_law_right" (defArgs (top 38)) (defBody (top 38)) (defScope (top 38)) .none kV doc pm an (.ref c) ct), osl⟩) (hcd : PySem.W.codeIn K (.ref c) "_law_right" = true) (TB : TabB base mg c Pt)
    {T : List (Addr × Str)} (hmT0 : (Pt, lamQ "_law_right" (top 38)) ∈ T) (huT0 : ∀ p ∈ T, p.1 = Pt → p.2 = lamQ "_law_right" (top 38))
    (O1 : Okd P w K mg base CX0 4 "_law_rows" ["_law_well_here", "_law_most"] spRows) (O2 : Okd P w K mg base CX0 2 "_law_pick" ["_law_well_here", "_law_some"] (spPick K)) (O3 : Okd P w K mg base CX0 2 "_law_time" ["_law_well_here", "_law_way"] spTime) (O4 : Okd P w K mg base CX0 1 "_law_is_heap" ["_law_lot"] spIsHL)
    (O5 : Okd P w K mg base CX0 2 "_law_push" ["_law_lot", "_law_pair"] spPushL) (O6 : Okd P w K mg base CX0 3 "_law_pop" ["_law_lot"] spPopL) (O7 : Okd P w K mg base CX0 3 "_law_made" ["_law_lot"] spMadeL) (O8 : Okd P w K mg base CX0 3 "_law_odd" ["_law_well_here", "_law_lot"] (spOdd K))
    (Q1 : OkdK P w K mg base (L2.CX P w) 5 "is_heap" ["rows"] ["rows"] gOne gOne (spIsH K C)) (Q2 : OkdK P w K mg base (L2.CX P w) 5 "pushed" ["rows", "entry"] ["entry", "rows"] gRev2 gRev2 (spPushed K C)) (Q3 : OkdK P w K mg base (L2.CX P w) 5 "popped" ["rows"] ["rows"] gOne gOne (spPopped K C)) (Q4 : OkdK P w K mg base (L2.CX P w) 5 "heaped" ["rows"] ["rows"] gOne gOne (spHeaped K C))
    (O9 : Df K mg "_law_told" (top 36) ["_law_ask"]) :
    FnOk P w K mg base CX0 9 f (PySem.W.fnOf "_law_right" "_law_right" (defArgs (top 38)) (defBody (top 38)) (defScope (top 38)) .none kV doc pm an (.ref c) ct) ["_law_well_here"] (spRight T) := by
  refine fn_of lk hcd sc38 (fun vs H Q E h => by obtain ⟨_, rfl, _⟩ := h; rfl) fun A outer s H vs Q E hr h => ?_
  obtain ⟨wa, rfl, wl0, tab0, k⟩ := h
  obtain ⟨f__law_rows, d__law_rows, m__law_rows, k__law_rows, b__law_rows, G__law_rows⟩ := O1.ex
  obtain ⟨f__law_pick, d__law_pick, m__law_pick, k__law_pick, b__law_pick, G__law_pick⟩ := O2.ex
  obtain ⟨f__law_time, d__law_time, m__law_time, k__law_time, b__law_time, G__law_time⟩ := O3.ex
  obtain ⟨f__law_is_heap, d__law_is_heap, m__law_is_heap, k__law_is_heap, b__law_is_heap, G__law_is_heap⟩ := O4.ex
  obtain ⟨f__law_push, d__law_push, m__law_push, k__law_push, b__law_push, G__law_push⟩ := O5.ex
  obtain ⟨f__law_pop, d__law_pop, m__law_pop, k__law_pop, b__law_pop, G__law_pop⟩ := O6.ex
  obtain ⟨f__law_made, d__law_made, m__law_made, k__law_made, b__law_made, G__law_made⟩ := O7.ex
  obtain ⟨f__law_odd, d__law_odd, m__law_odd, k__law_odd, b__law_odd, G__law_odd⟩ := O8.ex
  obtain ⟨f_is_heap, d_is_heap, m_is_heap, k_is_heap, b_is_heap, kb_is_heap, G_is_heap⟩ := Q1.ex
  obtain ⟨f_pushed, d_pushed, m_pushed, k_pushed, b_pushed, kb_pushed, G_pushed⟩ := Q2.ex
  obtain ⟨f_popped, d_popped, m_popped, k_popped, b_popped, kb_popped, G_popped⟩ := Q3.ex
  obtain ⟨f_heaped, d_heaped, m_heaped, k_heaped, b_heaped, kb_heaped, G_heaped⟩ := Q4.ex
  obtain ⟨f_told, d_told, m_told, b_told, F_told⟩ := O9.ex
  obtain ⟨oc_r, od_r, kV_r, doc_r, pm_r, an_r, cdv_r, ct_r, osl_r, rfl, lk_told, hcg_told⟩ := F_told.ex
  have k_told := F_told.kp
  have hu := hr.units
  have hmT : (Pt, (cxOf CX0 P w K mg base ["_law_well_here", "_law_lot", "_law_pair", "_law_kept", "_law_heard", "_law_odd_here", "_law_none", "_law_asks", "_law_ask"] "_law_right" (defScope (top 38)) f (.ref c) A outer s H E).nox.env.qual ++ "<lambda>") ∈ T := hmT0
  have huT : ∀ p ∈ T, p.1 = Pt → p.2 = (cxOf CX0 P w K mg base ["_law_well_here", "_law_lot", "_law_pair", "_law_kept", "_law_heard", "_law_odd_here", "_law_none", "_law_asks", "_law_ask"] "_law_right" (defScope (top 38)) f (.ref c) A outer s H E).nox.env.qual ++ "<lambda>" := huT0
  have go : ∀ t : TS, PSs (cxOf CX0 P w K mg base ["_law_well_here", "_law_lot", "_law_pair", "_law_kept", "_law_heard", "_law_odd_here", "_law_none", "_law_asks", "_law_ask"] "_law_right" (defScope (top 38)) f (.ref c) A outer s H E).nox (defBody (top 38)) t → t { nx := fun _ H' => Q .non H', rt := Q } (start ["_law_well_here", "_law_lot", "_law_pair", "_law_kept", "_law_heard", "_law_odd_here", "_law_none", "_law_asks", "_law_ask"] [.ref wa]) H → ∃ t, PSs (cxOf CX0 P w K mg base ["_law_well_here", "_law_lot", "_law_pair", "_law_kept", "_law_heard", "_law_odd_here", "_law_none", "_law_asks", "_law_ask"] "_law_right" (defScope (top 38)) f (.ref c) A outer s H E) (defBody (top 38)) t ∧ t { nx := fun _ H' => Q .non H', rt := Q } (start ["_law_well_here", "_law_lot", "_law_pair", "_law_kept", "_law_heard", "_law_odd_here", "_law_none", "_law_asks", "_law_ask"] [.ref wa]) H := fun t h1 h2 => ⟨t, h1.nox, h2⟩
  refine go _ (pss_cons (ps_set (i := 1) sc38.nd rfl (Or.inr rfl) (pe_call G__law_rows (hr.mono (by first | decide | omega)) (by rfl) m__law_rows k__law_rows b__law_rows .nil pass0 (pa_cons (pv 0) (pa_cons pe_int pa_nil))))
      (pss_cons (ps_set (i := 2) sc38.nd rfl (Or.inr rfl) (pe_tup (pa_cons (pe_call G__law_pick (hr.mono (by first | decide | omega)) (by rfl) m__law_pick k__law_pick b__law_pick .nil pass0 (pa_cons (pv 0) (pa_cons (pe_lst (pa_cons (pe_call G__law_time (hr.mono (by first | decide | omega)) (by rfl) m__law_time k__law_time b__law_time .nil pass0 (pa_cons (pv 0) (pa_cons pe_int pa_nil))) (pa_cons (pe_call G__law_time (hr.mono (by first | decide | omega)) (by rfl) m__law_time k__law_time b__law_time .nil pass0 (pa_cons (pv 0) (pa_cons pe_int pa_nil))) pa_nil))) pa_nil))) (pa_cons pe_int pa_nil))))
      (pss_cons (ps_set (i := 3) sc38.nd rfl (Or.inl rfl) (pe_callTy call_listQ (by rfl) B.list boot_list (pa_cons (pv 1) pa_nil)))
      (pss_cons (ps_if (PW.pt (pw_or (pt_cmpR op_ne (pe_call G_is_heap (hr.mono (by first | decide | omega)) (by rfl) m_is_heap k_is_heap b_is_heap .nil (passes_call LamX.takes0 fun _ _ _ _ h => h) (pa_cons (pv 1) pa_nil)) (pe_call G__law_is_heap (hr.mono (by first | decide | omega)) (by rfl) m__law_is_heap k__law_is_heap b__law_is_heap .nil pass0 (pa_cons (pv 1) pa_nil)) (nomark _)) (pw_or1 (pt_cmpR (op_neD hu) (pe_call G_pushed (hr.mono (by first | decide | omega)) (by rfl) m_pushed k_pushed b_pushed .nil (passes_call LamX.takes0 fun _ _ _ _ h => h) (pa_cons (pv 1) (pa_cons (pv 2) pa_nil))) (pe_call G__law_push (hr.mono (by first | decide | omega)) (by rfl) m__law_push k__law_push b__law_push .nil pass0 (pa_cons (pv 1) (pa_cons (pv 2) pa_nil))) (nomark _))))) (pss_one (ps_ret pe_bl)) pss_nil)
      (pss_cons (ps_if (PW.pt (pw_and (pt_cmpR (op_neD hu) (pv 1) (pe_lst pa_nil) (nomark _)) (pw_and1 (pt_cmpR (op_neD hu) (pe_call G_popped (hr.mono (by first | decide | omega)) (by rfl) m_popped k_popped b_popped .nil (passes_call LamX.takes0 fun _ _ _ _ h => h) (pa_cons (pv 1) pa_nil)) (pe_call G__law_pop (hr.mono (by first | decide | omega)) (by rfl) m__law_pop k__law_pop b__law_pop .nil pass0 (pa_cons (pv 1) pa_nil)) (nomark _))))) (pss_one (ps_ret pe_bl)) pss_nil)
      (pss_cons (ps_if (PW.pt (pw_and (pt_cmpR (op_eqD hu) (pv 1) (pe_lst pa_nil) (nomark _)) (pw_and1 (pt_cmpR (op_neD hu) (LamX.pe_lamcall (k := 6) (T := T) (by rfl) m_told k_told lk_told hcg_told b_told sc36 rfl (.inl rfl) (told_gives B.isinstance TL) TB rfl hmT huT (hr.mono (by decide)) (lamS_by (show lamSB (defScope (top 38)) _ = true by decide +kernel)) rfl (fun _ _ _ _ _ => rfl) (fun A outer s H E f c hr => (pe_call G_popped (hr.mono (by first | decide | omega)) (by rfl) m_popped k_popped b_popped .nil (passes_call (takes_of rfl rfl rfl rfl) fun _ _ _ _ h => h) (pa_cons (pv 1) pa_nil)))) (pe_tup (pa_cons pe_str (pa_cons pe_bl pa_nil))) (nomark _))))) (pss_one (ps_ret pe_bl)) pss_nil)
      (pss_cons (ps_set (i := 4) sc38.nd rfl (Or.inl rfl) (pe_call G_heaped (hr.mono (by first | decide | omega)) (by rfl) m_heaped k_heaped b_heaped .nil (passes_call LamX.takes0 fun _ _ _ _ h => h) (pa_cons (pv 1) pa_nil)))
      (pss_cons (ps_if (PW.pt (pw_or (pt_cmpR (op_neD hu) (pv 4) (pe_call G__law_made (hr.mono (by first | decide | omega)) (by rfl) m__law_made k__law_made b__law_made .nil pass0 (pa_cons (pv 1) pa_nil)) (nomark _)) (pw_or (pt_not (pt_val (K13.pe_callKw G_is_heap (hr.mono (by first | decide | omega)) (by rfl) m_is_heap k_is_heap kb_is_heap (passes_call LamX.takes0 fun _ _ _ _ h => h) (pk_cons (pv 4) pk_nil)))) (pw_or1 (pt_cmpR (op_neD hu) (pv 1) (pv 3) (nomark _)))))) (pss_one (ps_ret pe_bl)) pss_nil)
      (pss_cons (ps_expr (pe_bm PySem.F.plainAttrs_list PySem.F.slot_list_append PySem.F.type_list_append mt_append (pv 4) (pa_cons pe_non pa_nil)))
      (pss_cons (ps_if (PW.pt (pw_or (pt_cmpR (op_neD hu) (K13.pe_callKw G_heaped (hr.mono (by first | decide | omega)) (by rfl) m_heaped k_heaped kb_heaped (passes_call LamX.takes0 fun _ _ _ _ h => h) (pk_cons (pv 1) pk_nil)) (pe_call G__law_made (hr.mono (by first | decide | omega)) (by rfl) m__law_made k__law_made b__law_made .nil pass0 (pa_cons (pv 1) pa_nil)) (nomark _)) (pw_or1 (pt_cmpR (op_neD hu) (K13.pe_callKw G_pushed (hr.mono (by first | decide | omega)) (by rfl) m_pushed k_pushed kb_pushed (passes_call LamX.takes0 fun _ _ _ _ h => h) (pk_cons (pv 2) (pk_cons (pv 1) pk_nil))) (pe_call G__law_push (hr.mono (by first | decide | omega)) (by rfl) m__law_push k__law_push b__law_push .nil pass0 (pa_cons (pv 1) (pa_cons (pv 2) pa_nil))) (nomark _))))) (pss_one (ps_ret pe_bl)) pss_nil)
      (pss_cons (ps_set (i := 5) sc38.nd rfl (Or.inr rfl) (pe_call G__law_odd (hr.mono (by first | decide | omega)) (by rfl) m__law_odd k__law_odd b__law_odd .nil pass0 (pa_cons (pv 0) (pa_cons (pv 1) pa_nil))))
      (pss_cons (ps_set (i := 6) sc38.nd rfl (Or.inr rfl) (pe_call G__law_pick (hr.mono (by first | decide | omega)) (by rfl) m__law_pick k__law_pick b__law_pick .nil pass0 (pa_cons (pv 0) (pa_cons (pe_lst (pa_cons (pe_tup (pa_cons pe_int pa_nil)) (pa_cons (pe_lst (pa_cons pe_int (pa_cons pe_int pa_nil))) (pa_cons (pe_tup (pa_cons pe_bl (pa_cons pe_int pa_nil))) (pa_cons (pe_tup (pa_cons pe_int (pa_cons pe_str pa_nil))) (pa_cons pe_non (pa_cons pe_int (pa_cons (pe_tup pa_nil) pa_nil)))))))) pa_nil))))
      (pss_cons (ps_set (i := 7) sc38.nd rfl (Or.inl rfl) (pe_lst (pa_cons (K13.pe_lmP TB rfl hmT huT rfl (kept_by (k := 6) (lamS_by (show lamSB (defScope (top 38)) _ = true by decide +kernel)) (fun _ _ _ _ _ => rfl) fun A outer s H E f c hr => (pe_call G_is_heap (hr.mono (by first | decide | omega)) (by rfl) m_is_heap k_is_heap b_is_heap .nil (passes_call (takes_of rfl rfl rfl rfl) fun _ _ _ _ h => h) (pa_cons (pv 5) pa_nil)))) pa_nil)))
      (pss_cons (ps_expr (pe_bm PySem.F.plainAttrs_list PySem.F.slot_list_append PySem.F.type_list_append mt_append (pv 7) (pa_cons (K13.pe_lmP TB rfl hmT huT rfl (kept_by (k := 6) (lamS_by (show lamSB (defScope (top 38)) _ = true by decide +kernel)) (fun _ _ _ _ _ => rfl) fun A outer s H E f c hr => (pe_call G_pushed (hr.mono (by first | decide | omega)) (by rfl) m_pushed k_pushed b_pushed .nil (passes_call (takes_of rfl rfl rfl rfl) fun _ _ _ _ h => h) (pa_cons (pv 5) (pa_cons (pv 2) pa_nil))))) pa_nil)))
      (pss_cons (ps_expr (pe_bm PySem.F.plainAttrs_list PySem.F.slot_list_append PySem.F.type_list_append mt_append (pv 7) (pa_cons (K13.pe_lmP TB rfl hmT huT rfl (kept_by (k := 6) (lamS_by (show lamSB (defScope (top 38)) _ = true by decide +kernel)) (fun _ _ _ _ _ => rfl) fun A outer s H E f c hr => (pe_call G_popped (hr.mono (by first | decide | omega)) (by rfl) m_popped k_popped b_popped .nil (passes_call (takes_of rfl rfl rfl rfl) fun _ _ _ _ h => h) (pa_cons (pv 5) pa_nil)))) pa_nil)))
      (pss_cons (ps_expr (pe_bm PySem.F.plainAttrs_list PySem.F.slot_list_append PySem.F.type_list_append mt_append (pv 7) (pa_cons (K13.pe_lmP TB rfl hmT huT rfl (kept_by (k := 6) (lamS_by (show lamSB (defScope (top 38)) _ = true by decide +kernel)) (fun _ _ _ _ _ => rfl) fun A outer s H E f c hr => (pe_call G_heaped (hr.mono (by first | decide | omega)) (by rfl) m_heaped k_heaped b_heaped .nil (passes_call (takes_of rfl rfl rfl rfl) fun _ _ _ _ h => h) (pa_cons (pv 5) pa_nil)))) pa_nil)))
      (pss_cons (ps_expr (pe_bm PySem.F.plainAttrs_list PySem.F.slot_list_append PySem.F.type_list_append mt_append (pv 7) (pa_cons (K13.pe_lmP TB rfl hmT huT rfl (kept_by (k := 6) (lamS_by (show lamSB (defScope (top 38)) _ = true by decide +kernel)) (fun _ _ _ _ _ => rfl) fun A outer s H E f c hr => (pe_call G_pushed (hr.mono (by first | decide | omega)) (by rfl) m_pushed k_pushed b_pushed .nil (passes_call (takes_of rfl rfl rfl rfl) fun _ _ _ _ h => h) (pa_cons (pv 1) (pa_cons (pv 6) pa_nil))))) pa_nil)))
      (pss_one (ps_ret (pe_cmpR (op_eqD hu) (K13.pe_lcS (own := [("_law_ask", 8)]) (g := gName 8) (tt := tYes) rfl sc38.nd (pi_list (pv 7)) (blkOk_by (N := ["_law_well_here", "_law_lot", "_law_pair", "_law_kept", "_law_heard", "_law_odd_here", "_law_none", "_law_asks", "_law_ask"]) (sc := defScope (top 38)) (by decide +kernel)) (fun _ _ _ _ _ => (pg_name (i := 8) sc38.nd rfl (Or.inl rfl))) (fun _ _ _ _ _ => pts_nil) (fun _ _ _ _ _ _ _ I F => K13.pe_keptP (k := 6) (j := 8) I F (by rfl) m_told k_told lk_told hcg_told b_told sc36 rfl (.inl rfl) (told_gives B.isinstance TL) (hr.mono (by decide)) rfl (.inl rfl))) (pe_op op_rep (pe_lst (pa_cons (pe_tup (pa_cons pe_str (pa_cons pe_bl pa_nil))) pa_nil)) pe_int) (nomark _))))))))))))))))))))) ?_
  refine q_asgC (ea_cons (ev_var rfl) (ea_cons ev_c ea_nil)) fun H1 e1 => ⟨wa, 0, rfl, wl0.ex e1, by omega, fun l us ds z2 H2 hz2 k2 wl2 nl hl pr hd => ?_⟩
  have lw : l ≠ wa := wl_ne (wl0.ex e1) nl
  have s2 : St T [wa] wa l us ds H2 z2 := ⟨wl2, fun b hb => by
    obtain ⟨_, _, h⟩ := wl2
    rw [List.mem_singleton.mp hb]
    exact ⟨_, h⟩, tabs_go (wl0.ex e1) k2 (tab0.ext e1), hl, pr, by simp [lw]⟩
  have g2 : Gw [wa] H H2 := (Gw.ex e1).trans (Gw.kw (wl0.ex e1) wl2 (by simp) k2)
  clear e1 k2 wl2 nl hl pr
  refine q_pairPick (fun _ => ev_var rfl) s2.wl (by omega) fun pt px z3 H3 hz3 k3 wl3 hpt => ?_
  have s3 := s2.kw (by simp) k3 wl3
  have g3 := g2.trans (Gw.kw (mu := [wa]) s2.wl wl3 (by simp) k3)
  have pp3 : PrV H3 (px, 99) (.ref pt) := ⟨pt, rfl, hpt⟩
  clear s2 g2 k3 wl3 hpt
  refine q_asgL (el_list (ev_var rfl) (sq_of s3.hl)) fun kp H4 nkp e4 hkp4 => ?_
  have s4 := s3.ex e4
  have g4 := g3.trans (Gw.ex e4)
  have pp4 := pp3.ex e4
  clear s3 g3 pp3 e4 nkp
  refine q_when (b := false) (et_is (et_or (et_is (et_test (ev_op (ev_isH (ev_var rfl) s4.hl s4.pr (by omega)) (ev_isHL (ev_var rfl) s4.hl s4.pr (by omega)) (rv_ne rfl))) (b := false) (by simp)) fun _ => et_test (ev_neLL (evp_pushed (ev_var rfl) (ev_var rfl) s4.hl s4.pr pp4 (by omega)) fun H1 e => evp_pushL (ev_var rfl) (ev_var rfl) (e _ _ s4.hl) (s4.pr.ex e) (pp4.ex e) (by omega))) rfl) (fun hb => by cases hb) fun _ H5 e5 => ?_
  have s5 := s4.ex e5
  have g5 := g4.trans (Gw.ex e5)
  have pp5 := pp4.ex e5
  have hk5 := e5 _ _ hkp4
  clear s4 g4 pp4 e5 hkp4
  refine q_when (b := false) (et_is (et_and (b := false) (et_test (ev_neL (ds := ds) (es := []) (isl_var (ev_var rfl) s5.isl) fun H1 e => isl_new el_nilL)) fun hne => et_test (ev_nePp (evp_popped (ev_var rfl) s5.hl s5.pr (by simpa using hne) (by omega)) fun H1 e => evp_popL (ev_var rfl) (e _ _ s5.hl) (s5.pr.ex e) (by simpa using hne) (by omega))) (by simp)) (fun hb => by cases hb) fun _ H6 e6 => ?_
  have s6 := s5.ex e6
  have g6 := g5.trans (Gw.ex e6)
  have pp6 := pp5.ex e6
  have hk6 := e6 _ _ hk5
  clear s5 g5 pp5 e6 hk5
  refine q_andTold2 (C := C) (b := decide (ds = [])) (et_test (ev_eqL (isl_var (ev_var rfl) s6.isl) fun H1 e => isl_new el_nilL)) s6.tab (fun hb H1 e => ?_) fun H7 e7 tab7 => ?_
  · have h0 := of_decide_eq_true hb
    have hl6 := s6.hl
    have hlv := s6.pr.len
    rw [h0] at hlv
    rw [List.length_eq_zero_iff.mp hlv] at hl6
    exact ref_empty rfl (e _ _ hl6 fun ps z => nomatch z)
  have s7 := s6.extN e7 tab7
  have g7 := g6.trans (Gw.extN e7)
  have pp7 := prv_gw (Gw.extN (mu := []) e7) pp6
  have hk7 := e7 _ _ hk6 fun ps z => nomatch z
  clear s6 g6 pp6 e7 hk6 tab7
  refine q_asgLP (elp_heaped (ev_var rfl) s7.hl s7.pr (by omega)) fun hp hs H8 nh e8 hh ph => ?_
  have s8 : St T [hp, wa] wa l us ds H8 z3 := s7.add (ExtN.of e8) (s7.tab.ext e8) nh hh
  have pp8 := pp7.ex e8
  have hk8 := e8 _ _ hk7
  have gA : Gw [hp, wa] H7 H8 := Gw.ex e8
  have hpw : wa ≠ hp := fun z => wl_ne s7.wl nh z.symm
  have hhl := heapify_len ds
  refine q_when (b := false) (et_is (et_or (et_test (ev_neLL (isl_var (ev_var rfl) ⟨hp, hs, rfl, hh, ph⟩) fun H1 e => isl_new (el_madeL (isl_var (ev_var rfl) (s8.isl.ex e)) (by omega)))) fun _ => et_or (et_is (et_not (et_B (ev_isHK (ev_var rfl) hh ph (by omega)))) (b := false) (by rw [hpB_of (heapify_heap ds)]; rfl)) fun _ => et_test (ev_neLL (isl_var (ev_var rfl) s8.isl) fun H1 e => isl_var (ev_var rfl) ⟨kp, us, rfl, e _ _ hk8, s8.pr.ex e⟩)) rfl) (fun hb => by cases hb) fun _ H9 e9 => ?_
  have s9 := s8.ex e9
  have pp9 := pp8.ex e9
  have hh9 := e9 _ _ hh
  have hlv9 := ph.len
  refine q_appV hh9 (ev_var rfl) ev_c (by omega) fun HA kA hhA => ?_
  have gA2 : Gw [hp] H9 HA := Gw.kwl hh9 hhA (by simp) kA
  have tabA : Tabs T HA := fun p hp' => by
    obtain ⟨ps, h1, h2, h3⟩ := s9.tab p hp'
    refine ⟨ps, kA _ _ h1 (fun z => by rw [z, hh9] at h1; cases h1), h2, fun pos cv hc => ?_⟩
    obtain ⟨c, e1, e2⟩ := h3 pos cv hc
    refine ⟨c, e1, kA _ _ e2 fun z => ?_⟩
    rw [z, hh9] at e2
    unfold CodeO at e2
    cases e2
  have sA' := s9.app gA2 tabA hpw
  have sA : St T [wa] wa l us ds HA z3 := ⟨sA'.wl, fun b hb => sA'.mul b (List.mem_cons_of_mem _ hb), sA'.tab, sA'.hl, sA'.pr, fun hm => sA'.n (List.mem_cons_of_mem _ hm)⟩
  have gA3 : Gw [wa] H HA := g7.hide ((gA.trans (Gw.ex e9)).trans (gA2.sub fun b hb => by rw [List.mem_singleton.mp hb]; simp)) nh
  have ppA := prv_gw gA2 pp9
  clear s7 g7 pp7 hk7 e8 hh ph s8 pp8 hk8 gA e9 s9 pp9 hh9 kA hhA gA2 tabA sA' nh
  refine q_when (b := false) (et_is (et_or (et_test (ev_neLL (isl_new (elp_heapedK (ev_var rfl) sA.hl sA.pr (by omega))) fun H1 e => isl_new (el_madeL (isl_var (ev_var rfl) (sA.isl.ex e)) (by omega)))) fun _ => et_test (ev_neLL (evp_pushedK (ev_var rfl) (ev_var rfl) sA.hl sA.pr ppA (by omega)) fun H1 e => evp_pushL (ev_var rfl) (ev_var rfl) (e _ _ sA.hl) (sA.pr.ex e) (ppA.ex e) (by omega))) rfl) (fun hb => by cases hb) fun _ HB eB => ?_
  have sB := sA.ex eB
  have gB := gA3.trans (Gw.ex eB)
  have ppB := ppA.ex eB
  clear sA gA3 ppA eB
  refine q_asgC (ea_cons (ev_var rfl) (ea_cons (ev_var rfl) ea_nil)) fun HC eC => ⟨wa, l, us, ds, z3, rfl, lw, eC _ _ sB.hl, sB.pr.ex eC, hd, sB.wl.ex eC, by omega, fun odd zD HD hzD kD wlD hoD => ?_⟩
  have sD := (sB.ex eC).kw (by simp) kD wlD
  have gD := gB.trans ((Gw.ex eC).trans (Gw.kw (sB.wl.ex eC) wlD (by simp) kD))
  clear sB gB ppB eC kD wlD
  have mE : ∀ (v : V) (H1 H2 : Hp), Ex H1 H2 → NoEn K H1 v → NoEn K H2 v := fun v H1 H2 e h => h.gw (mu := []) (Gw.ex e)
  have et : ∀ {σ' : L2.St} {H0 : Hp} {ta : TA} {es : List D} {us : List V}, EvA ta σ' H0 us → (∀ H', Rps K H' es us) → isEn (.tup es) = false → us.length ≤ 100000 → EvP (tTup ta) σ' H0 (NoEn K) := fun h rs n h2 H1 e Q q => rp_tup h rs h2 H1 e Q fun v H2 e2 r => q v H2 e2 ⟨_, r, n⟩
  have ec : ∀ {σ' : L2.St} {H0 : Hp} {d : D} {x : V}, (∀ H', Rp K H' d x) → isEn d = false → EvP (tC x) σ' H0 (NoEn K) := fun h n => evp ev_c fun _ _ => ⟨_, h _, n⟩
  refine q_pickP (PX := NoEn K) (ev_var rfl) sD.wl (by omega) (elq mE (eaq_cons mE (et (ea_cons ev_c ea_nil) (fun _ => .cons (.int 1) .nil) rfl (by simp)) (eaq_cons mE (fun H1 e Q q => rp_lst (ea_cons (ev_c (v := .int 1)) (ea_cons (ev_c (v := .int 2)) ea_nil)) (by simp) H1 e Q fun v H2 e2 r => q v H2 e2 ⟨_, r, rfl⟩)
    (eaq_cons mE (et (ea_cons ev_c (ea_cons ev_c ea_nil)) (fun _ => .cons (.bl true) (.cons (.int 1) .nil)) rfl (by simp)) (eaq_cons mE (et (ea_cons ev_c (ea_cons ev_c ea_nil)) (fun _ => .cons (.int 1) (.cons (.str "2") .nil)) rfl (by simp))
    (eaq_cons mE (ec (fun _ => .non) rfl) (eaq_cons mE (ec (fun _ => .int 3) rfl) (eaq_cons mE (et ea_nil (fun _ => .nil) rfl (by simp)) eaq_nil))))))) (by omega) (by omega))
    (fun H1 H2 x z1 z2 w1 w2 kk h => h.gw (Gw.kw (mu := [wa]) w1 w2 (List.mem_singleton.mpr rfl) kk)) fun none zE HE hnE hzE kE wlE => ?_
  have sE := sD.kw (by simp) kE wlE
  have gE' : Gw [wa] HD HE := Gw.kw sD.wl wlE (by simp) kE
  have gE := gD.trans gE'
  have hoE := hoD.gw gE'
  clear sD gD gE' hoD kE wlE
  refine q_lm1 sE.tab fun f1 q HF nq eF tabF kp1 hqF => ?_
  have sF := sE.add eF tabF nq hqF
  have qw : wa ≠ q := fun z => wl_ne sE.wl nq z.symm
  have gF : Gw [q, wa] HE HF := Gw.extN eF
  have hoF := (hoE.more nq).gw gF
  have hnF := hnE.gw gF
  clear hoE hnE eF tabF sE
  refine q_lmApp (mu := [q]) sF.tab (ev_var rfl) hqF (List.mem_singleton.mpr rfl) (by simp) (mul_one hqF) fun f2 HG gg tabG kp2 hqG => ?_
  have sG := sF.app gg tabG qw
  have kp1 := keptAt_gw (mul_one hqF) gg kp1
  have gg2 : Gw [q, wa] HF HG := gg.sub fun b hb => by rw [List.mem_singleton.mp hb]; simp
  have gG := gF.trans gg2
  have hoG := hoF.gw gg2
  have hnG := hnF.gw gg2
  clear hoF hnF gg gg2 tabG sF hqF gF
  refine q_lmApp (mu := [q]) sG.tab (ev_var rfl) hqG (List.mem_singleton.mpr rfl) (by simp) (mul_one hqG) fun f3 HH gg tabG kp3 hqH => ?_
  have sH := sG.app gg tabG qw
  have kp1 := keptAt_gw (mul_one hqG) gg kp1
  have kp2 := keptAt_gw (mul_one hqG) gg kp2
  have gg2 : Gw [q, wa] HG HH := gg.sub fun b hb => by rw [List.mem_singleton.mp hb]; simp
  have gH := gG.trans gg2
  have hoH := hoG.gw gg2
  have hnH := hnG.gw gg2
  clear hoG hnG gg gg2 tabG sG hqG gG
  refine q_lmApp (mu := [q]) sH.tab (ev_var rfl) hqH (List.mem_singleton.mpr rfl) (by simp) (mul_one hqH) fun f4 HI gg tabG kp4 hqI => ?_
  have sI := sH.app gg tabG qw
  have kp1 := keptAt_gw (mul_one hqH) gg kp1
  have kp2 := keptAt_gw (mul_one hqH) gg kp2
  have kp3 := keptAt_gw (mul_one hqH) gg kp3
  have gg2 : Gw [q, wa] HH HI := gg.sub fun b hb => by rw [List.mem_singleton.mp hb]; simp
  have gI := gH.trans gg2
  have hoI := hoH.gw gg2
  have hnI := hnH.gw gg2
  clear hoH hnH gg gg2 tabG sH hqH gH
  refine q_lmApp (mu := [q]) sI.tab (ev_var rfl) hqI (List.mem_singleton.mpr rfl) (by simp) (mul_one hqI) fun f5 HJ gg tabG kp5 hqJ => ?_
  have sJ := sI.app gg tabG qw
  have kp1 := keptAt_gw (mul_one hqI) gg kp1
  have kp2 := keptAt_gw (mul_one hqI) gg kp2
  have kp3 := keptAt_gw (mul_one hqI) gg kp3
  have kp4 := keptAt_gw (mul_one hqI) gg kp4
  have gg2 : Gw [q, wa] HI HJ := gg.sub fun b hb => by rw [List.mem_singleton.mp hb]; simp
  have gJ := gI.trans gg2
  have hoJ := hoI.gw gg2
  have hnJ := hnI.gw gg2
  clear hoI hnI gg gg2 tabG sI hqI gI
  refine s_ret (ev_is (ev_eqBads (bads_lc (fs := [f1, f2, f3, f4, f5]) hqJ (ev_var rfl) (by simp) (fun _ => rfl) (fun _ => rfl) fun f hf => ?_) fun H1 e => bads_rep (n := 5) (by omega)) rfl) fun HK eK => k HK (gE.hide (gJ.trans (Gw.ex eK)) nq) (sJ.tab.ext eK)
  simp only [List.mem_cons, List.not_mem_nil, or_false] at hf
  rcases hf with rfl | rfl | rfl | rfl | rfl
  · exact ⟨_, kp1, ref_isH rfl hoJ⟩
  · exact ⟨_, kp2, ref_pushed1 rfl rfl hoJ⟩
  · exact ⟨_, kp3, ref_popped rfl hoJ⟩
  · exact ⟨_, kp4, ref_heaped rfl hoJ⟩
  · exact ⟨_, kp5, ref_pushed2 rfl rfl sJ.isl (by omega) hnJ⟩
end
end K4
/-! _law_bound_right. -/
namespace K4
open PySem L2 Evl PySem.Spec PyProof.Rows LamX K13
section
variable {K : PySem.W.Frag} {H H2 : Hp} {σ : L2.St} {ta tb t1 t2 t3 te tl : TE} {tu : TT} {tz tbd : TS} {Dd : Ends} {v : V} {C : Addr}
theorem paired_prs {H : Hp} {g : Nat → K4.P} : ∀ {l : List Nat} {ys : List V}, Paired (fun i y => PrV H (g i) y) l ys → Prs H (l.map g) ys
  | _, _, .nil => .nil
  | _, _, .cons q t => .cons q (paired_prs t)
/-- the five thousand -/
def lotOf (when_ : Int) (n : Nat) : List K4.P := (List.range n).map fun i : Nat => (when_ + (i : Int), (i : Int))
theorem lot_len (a : Int) (n : Nat) : (lotOf a n).length = n := by unfold lotOf; simp
theorem lot_at {a : Int} {n i : Nat} (h : i < n) : at_ (lotOf a n) i = (a + (i : Int), (i : Int)) := by
  rw [at_get (by rw [lot_len]; exact h)]
  unfold lotOf
  simp
theorem q_whenLate {E1 E2 : XK} {a : Addr} {i j z : Nat} {m : Int} {ln : Nat} (hln : ln = 2) (h0 : ∀ H1, Ev t1 σ H1 (.ref a)) (wl : Wl a H z) (hz : z ≤ 50000) (m0 : 0 < m) (m1 : m < 2 ^ 140) (k : ∀ (x y : Int) (z2 : Nat) H2, 0 ≤ y → y < m → z2 ≤ z + 4 → Kw a H H2 → Wl a H2 z2 → tz Dd ((σ.set i (some (.int x))).set j (some (.int y))) H2) :
    tSeq (tAsg (tTup (tCons (tCall spTime [] E1 (tCons t1 (tCons (tC (.int 1)) tNil))) (tCons (tCall spDraw [] E2 (tCons t1 (tCons (tC (.int m)) tNil))) tNil))) (gTup K ln (gCons (gName i) (gCons (gName j) gNil)))) tz Dd σ H := by
  subst hln
  exact raw_time (ea_cons (h0 _) (ea_cons ev_c ea_nil)) (by decide) (by decide) wl (by omega) fun x z1 H1 hz1 k1 wl1 => raw_draw (ea_cons (h0 _) (ea_cons ev_c ea_nil)) wl1 (by omega) m0 m1 fun y z2 H2 y0 y1 hz2 k2 wl2 => ⟨sz_of (by simp), fun t nt => ⟨t, [.int x, .int y], rfl, st_of upd_same, rfl, .int x, [.int y], rfl, .int y, [], rfl, rfl,
    k x y z2 _ y0 y1 (by omega) ((k1.trans k2).trans (Kw.of (Ex.new nt))) (wl2.ex (Ex.new nt))⟩⟩
theorem el_lot {a : Int} {n : Nat} {t : TA} {i j : Nat} (hn : n ≤ 40000) (h : EvA t σ H [.int (n : Int)]) (hw : ∀ x, wipe ((wipe σ [j]).set j (some x)) [j] = wipe σ [j]) (h5 : ∀ x, ((wipe σ [j]).set j (some x))[i]? = some (some (.int a))) (h7 : ∀ x, ((wipe σ [j]).set j (some x))[j]? = some (some x)) :
    EvLP (tLc (iRng1 t) (gName j) tYes (tTup (tCons (tOp (rI0 fun i j => .int (i + j)) (tVar i) (tVar j)) (tCons (tVar j) tNil))) [j]) σ H (fun H1 vs => Prs H1 (lotOf a n) vs) := fun H0 e0 Q q =>
  el_lc (fun _ => true) (fun i H1 y => PrV H1 (a + (i : Int), (i : Int)) y) (wk_rng1 h (by omega)) (by omega) (fun _ H1 H2 y e hy => prv_ew e hy)
    (fun i x H1 hi e hx Z kk => kk _ H1 (Ex.refl _) (hw x) (fun H2 e2 Q q => q H2 (Ex.refl _)) fun _ => by
      subst hx
      exact evp_pair (eu_tup (ea_cons (ev_op (ev_var (h5 _)) (ev_var (h7 _)) rv_I0) (ea_cons (ev_var (h7 _)) ea_nil)) (by simp))) H0 e0 Q fun p xs H2 np e2 hp pl => q p xs H2 np e2 hp (by
        rw [kept_all] at pl
        exact paired_prs pl)
theorem lot_heap (a : Int) (n : Nat) : hpB (lotOf a n) = true := hpB_of fun k h0 h1 _ => by
  rw [lot_len] at h1
  rw [lot_at h1, lot_at (by omega)]
  show a + (((k - 1) / 2 : Nat) : Int) ≤ a + (k : Int)
  omega
end
section
variable {P : Program} {w : World} {K : PySem.W.Frag} {mg : Str → Option Value} {base : Heap} {C fB : Addr} {dB : FuncData}
theorem sc39 : FnScope ["_law_well_here", "_law_lot", "_law_pair", "_law_more", "_law_asks", "_law_when", "_law_late", "_law_k", "_law_ask"] ["_law_well_here"] (defScope (top 39)) := ⟨rfl, rfl, rfl, by decide +kernel, rfl, by decide +kernel, by decide +kernel⟩
theorem ok_bound (B : Bm mg) (TL : Tld K mg C) {f c Pt : Addr} {oc : Value} {od an : Option Addr} {osl : Array (Option Value)} {kV doc pm ct : Value}
    (lk : K.lookup f = some ⟨oc, od, .func (PySem.W.fnOf "_law_bound_right" "_law_bound_right" (defArgs (top 39)) (defBody (top 39)) (defScope (top 39)) .none kV doc pm an (.ref c) ct), osl⟩) (hcd : PySem.W.codeIn K (.ref c) "_law_bound_right" = true) (TB : TabB base mg c Pt)
    {T : List (Addr × Str)} (hmT0 : (Pt, lamQ "_law_bound_right" (top 39)) ∈ T) (huT0 : ∀ p ∈ T, p.1 = Pt → p.2 = lamQ "_law_bound_right" (top 39))
    (O2 : Okd P w K mg base CX0 1 "_law_draw" ["_law_well_here", "_law_many"] spDraw) (O3 : Okd P w K mg base CX0 2 "_law_time" ["_law_well_here", "_law_way"] spTime)
    (O5 : Okd P w K mg base CX0 2 "_law_push" ["_law_lot", "_law_pair"] spPushL) (O6 : Okd P w K mg base CX0 3 "_law_pop" ["_law_lot"] spPopL)
    (Q1 : OkdK P w K mg base (L2.CX P w) 5 "is_heap" ["rows"] ["rows"] gOne gOne (spIsH K C)) (Q2 : OkdK P w K mg base (L2.CX P w) 5 "pushed" ["rows", "entry"] ["entry", "rows"] gRev2 gRev2 (spPushed K C)) (Q3 : OkdK P w K mg base (L2.CX P w) 5 "popped" ["rows"] ["rows"] gOne gOne (spPopped K C)) (Q4 : OkdK P w K mg base (L2.CX P w) 5 "heaped" ["rows"] ["rows"] gOne gOne (spHeaped K C))
    (O9 : Df K mg "_law_told" (top 36) ["_law_ask"]) :
    FnOk P w K mg base CX0 9 f (PySem.W.fnOf "_law_bound_right" "_law_bound_right" (defArgs (top 39)) (defBody (top 39)) (defScope (top 39)) .none kV doc pm an (.ref c) ct) ["_law_well_here"] (spRight T) := by
  refine fn_of lk hcd sc39 (fun vs H Q E h => by obtain ⟨_, rfl, _⟩ := h; rfl) fun A outer s H vs Q E hr h => ?_
  obtain ⟨wa, rfl, wl0, tab0, k⟩ := h
  obtain ⟨f__law_draw, d__law_draw, m__law_draw, k__law_draw, b__law_draw, G__law_draw⟩ := O2.ex
  obtain ⟨f__law_time, d__law_time, m__law_time, k__law_time, b__law_time, G__law_time⟩ := O3.ex
  obtain ⟨f__law_push, d__law_push, m__law_push, k__law_push, b__law_push, G__law_push⟩ := O5.ex
  obtain ⟨f__law_pop, d__law_pop, m__law_pop, k__law_pop, b__law_pop, G__law_pop⟩ := O6.ex
  obtain ⟨f_is_heap, d_is_heap, m_is_heap, k_is_heap, b_is_heap, kb_is_heap, G_is_heap⟩ := Q1.ex
  obtain ⟨f_pushed, d_pushed, m_pushed, k_pushed, b_pushed, kb_pushed, G_pushed⟩ := Q2.ex
  obtain ⟨f_popped, d_popped, m_popped, k_popped, b_popped, kb_popped, G_popped⟩ := Q3.ex
  obtain ⟨f_heaped, d_heaped, m_heaped, k_heaped, b_heaped, kb_heaped, G_heaped⟩ := Q4.ex
  obtain ⟨f_told, d_told, m_told, b_told, F_told⟩ := O9.ex
  obtain ⟨oc_r, od_r, kV_r, doc_r, pm_r, an_r, cdv_r, ct_r, osl_r, rfl, lk_told, hcg_told⟩ := F_told.ex
  have k_told := F_told.kp
  have hu := hr.units
  have hmT : (Pt, (cxOf CX0 P w K mg base ["_law_well_here", "_law_lot", "_law_pair", "_law_more", "_law_asks", "_law_when", "_law_late", "_law_k", "_law_ask"] "_law_bound_right" (defScope (top 39)) f (.ref c) A outer s H E).nox.env.qual ++ "<lambda>") ∈ T := hmT0
  have huT : ∀ p ∈ T, p.1 = Pt → p.2 = (cxOf CX0 P w K mg base ["_law_well_here", "_law_lot", "_law_pair", "_law_more", "_law_asks", "_law_when", "_law_late", "_law_k", "_law_ask"] "_law_bound_right" (defScope (top 39)) f (.ref c) A outer s H E).nox.env.qual ++ "<lambda>" := huT0
  have go : ∀ t : TS, PSs (cxOf CX0 P w K mg base ["_law_well_here", "_law_lot", "_law_pair", "_law_more", "_law_asks", "_law_when", "_law_late", "_law_k", "_law_ask"] "_law_bound_right" (defScope (top 39)) f (.ref c) A outer s H E).nox (defBody (top 39)) t → t { nx := fun _ H' => Q .non H', rt := Q } (start ["_law_well_here", "_law_lot", "_law_pair", "_law_more", "_law_asks", "_law_when", "_law_late", "_law_k", "_law_ask"] [.ref wa]) H → ∃ t, PSs (cxOf CX0 P w K mg base ["_law_well_here", "_law_lot", "_law_pair", "_law_more", "_law_asks", "_law_when", "_law_late", "_law_k", "_law_ask"] "_law_bound_right" (defScope (top 39)) f (.ref c) A outer s H E) (defBody (top 39)) t ∧ t { nx := fun _ H' => Q .non H', rt := Q } (start ["_law_well_here", "_law_lot", "_law_pair", "_law_more", "_law_asks", "_law_when", "_law_late", "_law_k", "_law_ask"] [.ref wa]) H := fun t h1 h2 => ⟨t, h1.nox, h2⟩
  refine go _ (pss_cons (ps_asg (pe_tup (pa_cons (pe_call G__law_time (hr.mono (by first | decide | omega)) (by rfl) m__law_time k__law_time b__law_time .nil pass0 (pa_cons (pv 0) (pa_cons pe_int pa_nil))) (pa_cons (pe_call G__law_draw (hr.mono (by first | decide | omega)) (by rfl) m__law_draw k__law_draw b__law_draw .nil pass0 (pa_cons (pv 0) (pa_cons pe_int pa_nil))) pa_nil))) (pg_tup (by rfl) (pgs_cons (pg_name (i := 5) sc39.nd rfl (Or.inr rfl)) (pgs_cons (pg_name (i := 6) sc39.nd rfl (Or.inl rfl)) pgs_nil))))
      (pss_cons (ps_setLc (i := 1) (own := [("_law_k", 7)]) (g := gName 7) (tt := tYes) rfl sc39.nd rfl rfl (sw_true rfl rfl rfl (by decide +kernel)) (pi_range1 (by rfl) B.range (pa_cons pe_int pa_nil)) (blkOk_by (N := ["_law_well_here", "_law_lot", "_law_pair", "_law_more", "_law_asks", "_law_when", "_law_late", "_law_k", "_law_ask"]) (sc := defScope (top 39)) (by decide +kernel)) (fun _ _ _ _ _ => (pg_name (i := 7) sc39.nd rfl (Or.inl rfl))) (fun _ _ _ _ _ => pts_nil) (fun _ _ _ _ _ => (pe_tup (pa_cons (pe_op op_add (pv 5) (pv 7)) (pa_cons (pv 7) pa_nil)))))
      (pss_cons (ps_set (i := 2) sc39.nd rfl (Or.inr rfl) (pe_tup (pa_cons (pe_op op_sub (pe_op op_add (pv 5) (pv 6)) pe_int) (pa_cons pe_int pa_nil))))
      (pss_cons (ps_set (i := 3) sc39.nd rfl (Or.inr rfl) (pe_op op_cat (pv 1) (pe_lst (pa_cons (pv 2) pa_nil))))
      (pss_cons (ps_if (PW.pt (pw_or (pt_cmpR op_notBl (pe_call G_is_heap (hr.mono (by first | decide | omega)) (by rfl) m_is_heap k_is_heap b_is_heap .nil (passes_call LamX.takes0 fun _ _ _ _ h => h) (pa_cons (pv 1) pa_nil)) pe_bl (nomark _)) (pw_or (pt_cmpR (op_neD hu) (pe_call G_pushed (hr.mono (by first | decide | omega)) (by rfl) m_pushed k_pushed b_pushed .nil (passes_call LamX.takes0 fun _ _ _ _ h => h) (pa_cons (pv 1) (pa_cons (pv 2) pa_nil))) (pe_call G__law_push (hr.mono (by first | decide | omega)) (by rfl) m__law_push k__law_push b__law_push .nil pass0 (pa_cons (pv 1) (pa_cons (pv 2) pa_nil))) (nomark _)) (pw_or1 (pt_cmpR (op_neD hu) (pe_call G_popped (hr.mono (by first | decide | omega)) (by rfl) m_popped k_popped b_popped .nil (passes_call LamX.takes0 fun _ _ _ _ h => h) (pa_cons (pv 1) pa_nil)) (pe_call G__law_pop (hr.mono (by first | decide | omega)) (by rfl) m__law_pop k__law_pop b__law_pop .nil pass0 (pa_cons (pv 1) pa_nil)) (nomark _)))))) (pss_one (ps_ret pe_bl)) pss_nil)
      (pss_cons (ps_set (i := 4) sc39.nd rfl (Or.inl rfl) (pe_lst (pa_cons (K13.pe_lmP TB rfl hmT huT rfl (kept_by (k := 6) (lamS_by (show lamSB (defScope (top 39)) _ = true by decide +kernel)) (fun _ _ _ _ _ => rfl) fun A outer s H E f c hr => (pe_call G_is_heap (hr.mono (by first | decide | omega)) (by rfl) m_is_heap k_is_heap b_is_heap .nil (passes_call (takes_of rfl rfl rfl rfl) fun _ _ _ _ h => h) (pa_cons (pv 3) pa_nil)))) pa_nil)))
      (pss_cons (ps_expr (pe_bm PySem.F.plainAttrs_list PySem.F.slot_list_append PySem.F.type_list_append mt_append (pv 4) (pa_cons (K13.pe_lmP TB rfl hmT huT rfl (kept_by (k := 6) (lamS_by (show lamSB (defScope (top 39)) _ = true by decide +kernel)) (fun _ _ _ _ _ => rfl) fun A outer s H E f c hr => (pe_call G_pushed (hr.mono (by first | decide | omega)) (by rfl) m_pushed k_pushed b_pushed .nil (passes_call (takes_of rfl rfl rfl rfl) fun _ _ _ _ h => h) (pa_cons (pv 3) (pa_cons (pv 2) pa_nil))))) pa_nil)))
      (pss_cons (ps_expr (pe_bm PySem.F.plainAttrs_list PySem.F.slot_list_append PySem.F.type_list_append mt_append (pv 4) (pa_cons (K13.pe_lmP TB rfl hmT huT rfl (kept_by (k := 6) (lamS_by (show lamSB (defScope (top 39)) _ = true by decide +kernel)) (fun _ _ _ _ _ => rfl) fun A outer s H E f c hr => (pe_call G_popped (hr.mono (by first | decide | omega)) (by rfl) m_popped k_popped b_popped .nil (passes_call (takes_of rfl rfl rfl rfl) fun _ _ _ _ h => h) (pa_cons (pv 3) pa_nil)))) pa_nil)))
      (pss_cons (ps_expr (pe_bm PySem.F.plainAttrs_list PySem.F.slot_list_append PySem.F.type_list_append mt_append (pv 4) (pa_cons (K13.pe_lmP TB rfl hmT huT rfl (kept_by (k := 6) (lamS_by (show lamSB (defScope (top 39)) _ = true by decide +kernel)) (fun _ _ _ _ _ => rfl) fun A outer s H E f c hr => (pe_call G_heaped (hr.mono (by first | decide | omega)) (by rfl) m_heaped k_heaped b_heaped .nil (passes_call (takes_of rfl rfl rfl rfl) fun _ _ _ _ h => h) (pa_cons (pv 3) pa_nil)))) pa_nil)))
      (pss_one (ps_ret (pe_cmpR (op_eqD hu) (K13.pe_lcS (own := [("_law_ask", 8)]) (g := gName 8) (tt := tYes) rfl sc39.nd (pi_list (pv 4)) (blkOk_by (N := ["_law_well_here", "_law_lot", "_law_pair", "_law_more", "_law_asks", "_law_when", "_law_late", "_law_k", "_law_ask"]) (sc := defScope (top 39)) (by decide +kernel)) (fun _ _ _ _ _ => (pg_name (i := 8) sc39.nd rfl (Or.inl rfl))) (fun _ _ _ _ _ => pts_nil) (fun _ _ _ _ _ _ _ I F => K13.pe_keptP (k := 6) (j := 8) I F (by rfl) m_told k_told lk_told hcg_told b_told sc36 rfl (.inl rfl) (told_gives B.isinstance TL) (hr.mono (by decide)) rfl (.inl rfl))) (pe_op op_rep (pe_lst (pa_cons (pe_tup (pa_cons pe_str (pa_cons pe_bl pa_nil))) pa_nil)) pe_int) (nomark _))))))))))))) ?_
  refine q_whenLate rfl (fun _ => ev_var rfl) wl0 (by omega) (by decide) (by decide) fun wh late z1 H1 l0 l1 hz1 k1 wl1 => ?_
  have tab1 := tabs_go wl0 k1 tab0
  have g1 : Gw [wa] H H1 := Gw.kw wl0 wl1 (by simp) k1
  refine q_asgLP (el_lot (a := wh) (n := 5000) (by omega) (ea_cons ev_c ea_nil) (fun _ => rfl) (fun _ => rfl) (fun _ => rfl)) fun l us H2 nl e2 hl pr => ?_
  refine q_asgU (eu_tup (ea_cons (ev_op (ev_op (ev_var rfl) (ev_var rfl) rv_I0) ev_c rv_I0) (ea_cons ev_c ea_nil)) (by simp)) fun pt H3 npt e3 hpt => ?_
  have hl3 := e3 _ _ hl
  have pr3 := pr.ex e3
  have pp3 : PrV H3 (wh + late - 1, 5000) (.ref pt) := ⟨pt, rfl, hpt⟩
  obtain ⟨d, hd⟩ : ∃ d : K4.P, d = (wh + late - 1, 5000) := ⟨_, rfl⟩
  rw [← hd] at pp3
  have hln := lot_len wh 5000
  obtain ⟨ds, hds⟩ : ∃ ds, ds = lotOf wh 5000 := ⟨_, rfl⟩
  have hhp := lot_heap wh 5000
  rw [← hds] at pr3 hln hhp
  refine q_asgLP (el_cat (isl_var (ev_var rfl) ⟨l, us, rfl, hl3, pr3⟩) (fun H1 e => isl_new (el_one (ev_var rfl) (pp3.ex e))) (by simp; omega)) fun m ms H4 nm e4 hm pm => ?_
  have hl4 := e4 _ _ hl3
  have pr4 := pr3.ex e4
  have pp4 := pp3.ex e4
  have e14 := (e2.trans e3).trans e4
  have hne : ds ≠ [] := fun z => by rw [z] at hln; simp at hln
  refine q_when (b := false) (et_is (et_or (et_is (et_test (ev_op (ev_isH (ev_var rfl) hl4 pr4 (by omega)) ev_c (rv_val fun H1 e Q q => ⟨_, _, rfl, rfl, q⟩))) (b := false) (by rw [hhp]; rfl)) fun _ => et_or (et_test (ev_neLL (evp_pushed (ev_var rfl) (ev_var rfl) hl4 pr4 pp4 (by omega)) fun H1 e => evp_pushL (ev_var rfl) (ev_var rfl) (e _ _ hl4) (pr4.ex e) (pp4.ex e) (by omega))) fun _ => et_test (ev_nePp (evp_popped (ev_var rfl) hl4 pr4 hne (by omega)) fun H1 e => evp_popL (ev_var rfl) (e _ _ hl4) (pr4.ex e) hne (by omega))) rfl) (fun hb => by cases hb) fun _ HE e5 => ?_
  have e15 := e14.trans e5
  have mw : m ≠ wa := wl_ne (wl1.ex (e2.trans e3)) nm
  have sE : St T [wa] wa m ms (ds ++ [d]) HE z1 := ⟨wl1.ex e15, fun b hb => by
    obtain ⟨_, _, h⟩ := wl1.ex e15
    rw [List.mem_singleton.mp hb]
    exact ⟨_, h⟩, tab1.ext e15, e5 _ _ hm, pm.ex e5, by simp [mw]⟩
  have gE := g1.trans (Gw.ex e15)
  clear e2 hl pr e3 npt hpt hl3 pr3 pp3 e4 nm hm pm hl4 pr4 pp4 e14 e5 e15 tab1 g1 k1 wl1 nl
  refine q_lm1 sE.tab fun f1 q HF nq eF tabF kp1 hqF => ?_
  have sF := sE.add eF tabF nq hqF
  have qw : wa ≠ q := fun z => wl_ne sE.wl nq z.symm
  have gF : Gw [q, wa] HE HF := Gw.extN eF
  clear eF tabF sE
  refine q_lmApp (mu := [q]) sF.tab (ev_var rfl) hqF (List.mem_singleton.mpr rfl) (by simp) (mul_one hqF) fun f2 HG gg tabG kp2 hqG => ?_
  have sG := sF.app gg tabG qw
  have kp1 := keptAt_gw (mul_one hqF) gg kp1
  have gg2 : Gw [q, wa] HF HG := gg.sub fun b hb => by rw [List.mem_singleton.mp hb]; simp
  have gG := gF.trans gg2
  clear gg gg2 tabG sF hqF gF
  refine q_lmApp (mu := [q]) sG.tab (ev_var rfl) hqG (List.mem_singleton.mpr rfl) (by simp) (mul_one hqG) fun f3 HH gg tabG kp3 hqH => ?_
  have sH := sG.app gg tabG qw
  have kp1 := keptAt_gw (mul_one hqG) gg kp1
  have kp2 := keptAt_gw (mul_one hqG) gg kp2
  have gg2 : Gw [q, wa] HG HH := gg.sub fun b hb => by rw [List.mem_singleton.mp hb]; simp
  have gH := gG.trans gg2
  clear gg gg2 tabG sG hqG gG
  refine q_lmApp (mu := [q]) sH.tab (ev_var rfl) hqH (List.mem_singleton.mpr rfl) (by simp) (mul_one hqH) fun f4 HI gg tabG kp4 hqI => ?_
  have sI := sH.app gg tabG qw
  have kp1 := keptAt_gw (mul_one hqH) gg kp1
  have kp2 := keptAt_gw (mul_one hqH) gg kp2
  have kp3 := keptAt_gw (mul_one hqH) gg kp3
  have gg2 : Gw [q, wa] HH HI := gg.sub fun b hb => by rw [List.mem_singleton.mp hb]; simp
  have gI := gH.trans gg2
  clear gg gg2 tabG sH hqH gH
  have ho : NoRows K [q, wa] HI (.ref m) := .inr ⟨m, ms, (ds ++ [d]).map PD2, rfl, sI.n, sI.hl, sI.pr.rps, by simp; omega, by
    unfold okRows
    rw [List.length_map, List.length_append, List.length_singleton, decide_eq_false (by omega)]
    rfl⟩
  refine s_ret (ev_is (ev_eqBads (bads_lc (fs := [f1, f2, f3, f4]) hqI (ev_var rfl) (by simp) (fun _ => rfl) (fun _ => rfl) fun f hf => ?_) fun H1 e => bads_rep (n := 4) (by omega)) rfl) fun HK eK => k HK (gE.hide (gI.trans (Gw.ex eK)) nq) (sI.tab.ext eK)
  simp only [List.mem_cons, List.not_mem_nil, or_false] at hf
  rcases hf with rfl | rfl | rfl | rfl
  · exact ⟨_, kp1, ref_isH rfl ho⟩
  · exact ⟨_, kp2, ref_pushed1 rfl rfl ho⟩
  · exact ⟨_, kp3, ref_popped rfl ho⟩
  · exact ⟨_, kp4, ref_heaped rfl ho⟩
end
end K4
/-! law. -/
namespace K4
open PySem L2 Evl PySem.Spec PyProof.Rows LamX K13
def spLaw (K : PySem.W.Frag) (T : List (Addr × Str)) : Sp := fun vs H Q _ => ∃ (a : Addr) (ns : List Int), vs = [.ref a] ∧ SqL K H a (ns.map V.int) ∧ ns.length ≤ 63 ∧ (∀ p ∈ T, H p.1 = some (.tbl #[])) ∧ ∀ H', Q (.bl true) H'
theorem cut_ints {ns : List Int} {lo hi : Option Int} {x : V} (h : x ∈ cutV (ns.map V.int) lo hi) : ∃ c : Int, x = .int c := by
  unfold cutV at h
  have := List.mem_of_mem_drop (List.mem_of_mem_take h)
  obtain ⟨c, _, rfl⟩ := List.mem_map.mp this
  exact ⟨c, rfl⟩
/-- a list that is read, and one of the call's own -/
def rCatQ (K : PySem.W.Frag) : R2 := fun x y H Q => ∃ l b xs zs, x = .ref l ∧ y = .ref b ∧ SqL K H l xs ∧ H b = some (.lst zs) ∧ xs.length + zs.length ≤ sizeLine ∧ ∀ p, H p = none → Q (.ref p) (upd H p (.lst (xs ++ zs)))
theorem op_catQ {X : Cx} : OpR X (binaryOp .Add) (rCatQ X.K) := by
  intro pins s σ H x y v u Q I rx ry h
  obtain ⟨l, b, xs, zs, rfl, rfl, hH, hB, hz, q⟩ := h
  cases rx
  cases ry
  obtain ⟨its, r, ⟨o, n, e, hc, hd, hs⟩, z⟩ := I.list hH
  obtain ⟨z2, its2, n2, r2, hl2, e2⟩ := I.lstM hB
  obtain ⟨cls, dd, data, sl⟩ := o
  simp only at hc hd hs
  subst hc hd hs
  have hl := r.length
  refine concat_meets ⟨_, e, rfl⟩ ⟨_, e2, rfl⟩ noFill_list_add seq_list_add PySem.F.slot_list_add PySem.F.entry_list_add (PySem.F.args_list_add_2 _ _) (list_addW l b its.toArray its2.toArray n n2 none none sl #[] (by rw [List.size_toArray, List.size_toArray]; omega)) ⟨e, e2, ?_⟩
  have ea : its.toArray ++ its2.toArray = (its ++ its2).toArray := by simp
  rw [ea]
  exact ⟨.ref _, _, I.lnew (t' := s.toks) (r.append r2) (by rw [List.length_append]; omega), rfl, q _ I.fresh⟩
theorem sql_gw {K : PySem.W.Frag} {H0 H1 H2 : Hp} {wa a : Addr} {xs : List V} (h : SqL K H0 a xs) (nw : H0 wa = none) (e : Ex H0 H1) (g : Gw [wa] H1 H2) : SqL K H2 a xs := by
  have ne : ∀ {o : HO}, H0 a = some o → a ∉ [wa] := fun {o} q hm => by rw [List.mem_singleton.mp hm, nw] at q; cases q
  rcases h with (h | ⟨o, h⟩) | h
  · exact .inl (.inl (g.2 _ _ (e _ _ h) (ne h) fun ps z => nomatch z))
  · exact .inl (.inr ⟨o, g.2 _ _ (e _ _ h) (ne h) fun ps z => nomatch z⟩)
  · exact .inr h
section
variable {K : PySem.W.Frag} {H : Hp} {σ : L2.St} {ta te : TE} {tu : TS} {Dd : Ends}
theorem s_ifRight {T : List (Addr × Str)} {E1 E2 : XK} {c : Int} (h : Ev te σ H (.int c)) (tab : Tabs T H) (k : ∀ wa H1 H2, H wa = none → Ex H H1 → Gw [wa] H1 H2 → Tabs T H2 → Dd.nx σ H2) :
    tIfS (tNot (tB (tCall (spRight T) [] E1 (tCons (tCall spWell [] E2 (tCons te tNil)) tNil)))) tu tNext Dd σ H :=
  h H (Ex.refl _) _ fun H1 e1 => ⟨c, rfl, fun wa H2 nwa e2 wl2 => ⟨wa, rfl, wl2, (tab.ext e1).ext e2, fun H3 g3 t3 => ⟨true, rfl, iteF (k wa H2 H3 (fresh_back e1 nwa) (e1.trans e2) g3 t3)⟩⟩⟩
theorem s_retBound {T : List (Addr × Str)} {E1 E2 : XK} {c : Int} (h : Ev te σ H (.int c)) (tab : Tabs T H) (k : ∀ H2, Dd.rt (.bl true) H2) : tRet (tCall (spRight T) [] E1 (tCons (tCall spWell [] E2 (tCons te tNil)) tNil)) Dd σ H :=
  h H (Ex.refl _) _ fun H1 e1 => ⟨c, rfl, fun wa H2 nwa e2 wl2 => ⟨wa, rfl, wl2, (tab.ext e1).ext e2, fun H3 g3 t3 => k H3⟩⟩
theorem el_catQ {xs zs : List V} {a : Addr} {tb : TE} (ha : Ev ta σ H (.ref a)) (hx : SqL K H a xs) (hb : ∀ H1, Ex H H1 → EvL tb σ H1 zs) (hl : xs.length + zs.length ≤ 100000) : EvL (tOp (rCatQ K) ta tb) σ H (xs ++ zs) := fun H1 e Q q =>
  ha H1 e _ fun H2 e2 => hb H2 (e.trans e2) H2 (Ex.refl _) _ fun r H3 nr e3 hr => ⟨a, r, xs, zs, rfl, rfl, ex_l ((e.trans e2).trans e3) hx, hr, sz_of hl, fun u nu => q u _ (fresh_back (e2.trans e3) nu) ((e2.trans e3).trans (Ex.new nu)) upd_same⟩
theorem ev_ixE {xs : List V} {i : Int} {v : V} (h : EvL ta σ H xs) (ha : atI xs i = some v) : Ev (tOp (rIxL K) ta (tC (.int i))) σ H v := fun H1 e Q q =>
  h H1 e _ fun p H2 np e2 hp => ⟨p, xs, i, v, rfl, rfl, sq_of hp, ha, q H2 e2⟩
end
section
variable {P : Program} {w : World} {K : PySem.W.Frag} {mg : Str → Option Value} {base : Heap} {C fB : Addr} {dB : FuncData}
theorem sc40 : FnScope ["_law_script", "_law_cell"] ["_law_script"] (defScope (top 40)) := ⟨rfl, rfl, rfl, by decide +kernel, rfl, by decide +kernel, by decide +kernel⟩
theorem ok_law {T : List (Addr × Str)} (O1 : Okd P w K mg base CX0 1 "_law_well" ["_law_cell"] spWell) (O2 : Okd P w K mg base CX0 9 "_law_right" ["_law_well_here"] (spRight T)) (O3 : Okd P w K mg base CX0 9 "_law_bound_right" ["_law_well_here"] (spRight T))
    {f : Addr} {fd : FuncData} (F : Fun K "law" "law" (top 40) f fd) : FnOk P w K mg base CX0 10 f fd ["_law_script"] (spLaw K T) := by
  refine F.ok sc40 (fun vs H Q E h => by obtain ⟨_, _, rfl, _⟩ := h; rfl) fun cdv A outer s H vs Q E hr h => ?_
  obtain ⟨a, ns, rfl, hS, hlen, htab, k⟩ := h
  obtain ⟨f__law_well, d__law_well, m__law_well, k__law_well, b__law_well, G__law_well⟩ := O1.ex
  obtain ⟨f__law_right, d__law_right, m__law_right, k__law_right, b__law_right, G__law_right⟩ := O2.ex
  obtain ⟨f__law_bound_right, d__law_bound_right, m__law_bound_right, k__law_bound_right, b__law_bound_right, G__law_bound_right⟩ := O3.ex
  have hu := hr.units
  refine ⟨_, (pss_cons (ps_for PassesOwn.never rfl (pi_list (pe_op op_cat (pe_slice sl_list (pv 0) po_none (po_some pe_int)) (pe_lst (pa_cons pe_int pa_nil)))) (pg_name (i := 1) sc40.nd rfl (Or.inl rfl)) (pss_one (ps_if (pt_not (pt_val (pe_call G__law_right (hr.mono (by first | decide | omega)) (by rfl) m__law_right k__law_right b__law_right .nil pass0 (pa_cons (pe_call G__law_well (hr.mono (by first | decide | omega)) (by rfl) m__law_well k__law_well b__law_well .nil pass0 (pa_cons (pv 1) pa_nil)) pa_nil)))) (pss_one (ps_ret pe_bl)) pss_nil)))
      (pss_one (ps_ret (pe_call G__law_bound_right (hr.mono (by first | decide | omega)) (by rfl) m__law_bound_right k__law_bound_right b__law_bound_right .nil pass0 (pa_cons (pe_call G__law_well (hr.mono (by first | decide | omega)) (by rfl) m__law_well k__law_well b__law_well .nil pass0 (pa_cons (pe_ix ix_list (pe_op op_catQ (pv 0) (pe_lst (pa_cons pe_int pa_nil))) pe_int (fun _ _ => rfl)) pa_nil)) pa_nil))))), ?_⟩
  have hTabs : Tabs T H := fun p hp => TabS.nil (htab p hp)
  have hcut := cutV_length (ns.map V.int) none (some 8)
  rw [List.length_map] at hcut
  obtain ⟨plx, hplx⟩ : ∃ plx, plx = cutV (ns.map V.int) none (some 8) ++ [V.int 0] := ⟨_, rfl⟩
  refine q_forNLn (K := K) (xs := plx) (by
      rw [hplx]
      exact el_catV (el_sl (ev_var rfl) eo_none (eo_some ev_c) hS) (fun H1 e => el_lst (ea_cons ev_c ea_nil) (by simp)) (by simp; omega))
    (fun pl i σ' H' => ∃ x1 : Option V, σ' = [some (.ref a), x1] ∧ Tabs T H' ∧ H' pl = some (.lst plx) ∧ SqL K H' a (ns.map V.int))
    (fun pl H1 _ e hp => ⟨_, rfl, hTabs.ext e, hp, ex_l e hS⟩) (fun pl i σ' H' _ ⟨_, _, _, h, _⟩ => sq_of h) ?_ ?_
  · rintro pl ii x σ' HB hx ⟨x1, rfl, tabB, hpl, hs⟩
    obtain ⟨cell, rfl⟩ : ∃ cell : Int, x = .int cell := by
      rw [hplx] at hx
      rcases List.mem_append.mp (List.mem_of_getElem? hx) with h | h
      · exact cut_ints h
      · exact ⟨0, by simpa using h⟩
    refine s_ifRight (ev_var rfl) tabB fun wa H1 H2 nwa e1 g2 t2 => ⟨_, rfl, t2, ?_, sql_gw hs nwa e1 g2⟩
    refine g2.l (e1 _ _ hpl) fun hm => ?_
    rw [List.mem_singleton.mp hm, nwa] at hpl
    cases hpl
  · rintro pl σ' H' ⟨x1, rfl, tab, _, hs⟩
    obtain ⟨c, hc⟩ : ∃ c : Int, atI (ns.map V.int ++ [V.int 0]) 0 = some (.int c) := by
      cases ns with
      | nil => exact ⟨0, rfl⟩
      | cons n l => exact ⟨n, atI_nat (j := 0) rfl⟩
    exact s_retBound (ev_ixE (el_catQ (ev_var rfl) hs (fun H1 e => el_lst (ea_cons ev_c ea_nil) (by simp)) (by simp; omega)) hc) tab k
end
end K4
/-! What the top has written. -/
namespace K4
open PySem L2 Evl PySem.Spec PyProof.Rows LamX K13
theorem df_mk {K : PySem.W.Frag} {h : Heap} {mg : Str → Option Value} {nm : Str} {st : Stmt} {ps : List Str} {f : Addr} {od an : Option Addr} {sl : Array (Option Value)} {oc kV dc pm cd ct : Value} (X : K.In h) (G : h.Ns mainGlobals mg)
    (a : PySem.W.nsIn K mainGlobals nm = some (some (.ref f))) (l : K.lookup f = some ⟨oc, od, .func (PySem.W.fnOf nm nm (defArgs st) (defBody st) (defScope st) .none kV dc pm an cd ct), sl⟩) (c : PySem.W.codeIn K cd nm = true) (k : PySem.W.keepIn K (.ref f) = true)
    (hb : ∀ (kV doc pm : Value) (an : Option Addr) (cdv ct : Value) (us : List Value), us.length = ps.length → bindArgs (PySem.W.fnOf nm nm (defArgs st) (defBody st) (defScope st) .none kV doc pm an cdv ct) ⟨us, []⟩ = pure (ps.zip us)) : Df K mg nm st ps := by
  have F := fun_mk (st := st) l c k
  exact ⟨f, _, PySem.W.mg_of X G a, F.binds hb, F⟩
/-- a def that is called by keywords, too -/
theorem okdK_mk {P : Program} {w : World} {base : Heap} {CX : CXT} {n : Nat} {sp : Sp} {ks : List Str} {g : List Value → List Value → List Value} {gV : List V → List V → List V}
    {K : PySem.W.Frag} {h : Heap} {mg : Str → Option Value} {nm : Str} {st : Stmt} {ps : List Str} {f : Addr} {od an : Option Addr} {sl : Array (Option Value)} {oc kV dc pm cd ct : Value} (X : K.In h) (G : h.Ns mainGlobals mg)
    (a : PySem.W.nsIn K mainGlobals nm = some (some (.ref f))) (l : K.lookup f = some ⟨oc, od, .func (PySem.W.fnOf nm nm (defArgs st) (defBody st) (defScope st) .none kV dc pm an cd ct), sl⟩) (c : PySem.W.codeIn K cd nm = true) (k : PySem.W.keepIn K (.ref f) = true)
    (hb : ∀ (kV doc pm : Value) (an : Option Addr) (cdv ct : Value) (us : List Value), us.length = ps.length → bindArgs (PySem.W.fnOf nm nm (defArgs st) (defBody st) (defScope st) .none kV doc pm an cdv ct) ⟨us, []⟩ = pure (ps.zip us))
    (hk : ∀ (kV doc pm : Value) (an : Option Addr) (cdv ct : Value) (us ws : List Value), (g us ws).length = ps.length → bindArgs (PySem.W.fnOf nm nm (defArgs st) (defBody st) (defScope st) .none kV doc pm an cdv ct) ⟨us, ks.zip ws⟩ = pure (ps.zip (g us ws)))
    (rel : ∀ {vs : List V} {us : List Value} {zs : List V} {ws : List Value}, Vals vs us → Vals zs ws → Vals (gV vs zs) (g us ws))
    (F : ∀ {f : Addr} {fd : FuncData}, Fun K nm nm st f fd → FnOk P w K mg base CX n f fd ps sp) : OkdK P w K mg base CX n nm ps ks g gV sp := by
  have F0 := fun_mk (st := st) l c k
  exact ⟨f, _, PySem.W.mg_of X G a, k, F0.binds hb, ⟨fun s us ws _ hl => .of_eq (hk _ _ _ _ _ _ us ws hl), rel⟩, F F0⟩
/-- an error of a class is what an except of that class names -/
theorem exm_same {K : PySem.W.Frag} {C : Addr} (h1 : PySem.W.subIn K (.ref C) (.type "BaseException") = some true) (h2 : PySem.W.isClsIn K C = true) (h3 : PySem.W.typeIn K (.ref C) = some (.type "type")) (h4 : PySem.W.subIn K (.ref C) (.ref C) = some true) : PySem.W.exmOne K (.ref C) (.ref C) = some true := by
  have h2' : (PySem.W.clsIn K C).isSome = true := h2
  have e1 : (PySem.W.subIn K (.ref C) (.type "BaseException") == some true) = true := by rw [h1]; rfl
  have e2 : ((PySem.W.clsIn K C).isSome && PySem.W.typeIn K (.ref C) == some (.type "type")) = true := by rw [h2', h3]; rfl
  exact (if_pos e1).trans ((if_pos e2).trans h4)
theorem ers_mk {K : PySem.W.Frag} {h : Heap} {mg : Str → Option Value} {C L fB fL TB TL : Addr} (X : K.In h) (G : h.Ns mainGlobals mg)
    {nm q : Str} {N : Addr} {bs bm : List Value} {sn : List Str} {sub : List Value} {ab : Bool} {col : Option Bool} {dd : Option Addr} {m0 m1 m2 m3 m5 : Option Value} {od1 an1 od2 od3 an3 od4 : Option Addr} {sl1 sl2 sl3 sl4 : Array (Option Value)} {oc1 kV1 dc1 pm1 cd1 ct1 oc2 oc3 kV3 dc3 pm3 cd3 ct3 oc4 : Value} {n2 n4 : Nat} {tk tk2 : Tok}
    (b1 : PySem.W.nsIn K mainGlobals "BadValue" = some (some (.ref C))) (b2 : K.lookup C = some (excClassObj nm q C N bs bm true sn sub ab col dd m0 m1 m2 m3 m5 "ValueError.__new__")) (b3 : PySem.HandSPX.refsVE bm = true)
    (b4 : PySem.W.findIn K (.ref C) "__setattr__" = some (some (.builtin "object.__setattr__"))) (b5 : PySem.W.subIn K (.ref C) (.type "BaseException") = some true) (b6 : PySem.W.typeIn K (.ref C) = some (.type "type")) (b7 : PySem.W.keepIn K (.ref C) = true)
    (b8 : PySem.W.findIn K (.ref C) "why" = some none) (b10 : PySem.W.findIn K (.ref C) "__init__" = some (some (.ref fB))) (b11 : PySem.W.typeIn K (.ref fB) = some (.type "function"))
    (b12 : K.lookup fB = some ⟨oc1, od1, .func (PySem.W.fnOf "__init__" "BadValue.__init__" (defArgs sBV) (defBody sBV) (defScope sBV) (.ref TB) kV1 dc1 pm1 an1 cd1 ct1), sl1⟩) (b13 : PySem.W.codeIn K cd1 "BadValue.__init__" = true) (b14 : PySem.W.keepIn K (.ref fB) = true) (b15 : K.lookup TB = some ⟨oc2, od2, .seq #[.str "" tk2] n2, sl2⟩)
    (l1 : PySem.W.nsIn K mainGlobals "LoopError" = some (some (.ref L))) (l2 : PySem.W.keepIn K (.ref L) = true) (l3 : PySem.W.readsIn K L (.type "type") = true) (l4 : PySem.W.specialIn K (.ref L) "__getattribute__" = some (some (.builtin "type.__getattribute__"))) (l5 : PySem.W.findCls K (.ref L) (.type "type") "__init__" = some (.val (.ref fL)))
    (l6 : K.lookup fL = some ⟨oc3, od3, .func (PySem.W.fnOf "__init__" "LoopError.__init__" (defArgs sLE) (defBody sLE) (defScope sLE) (.ref TL) kV3 dc3 pm3 an3 cd3 ct3), sl3⟩) (l7 : PySem.W.codeIn K cd3 "LoopError.__init__" = true) (l8 : PySem.W.keepIn K (.ref fL) = true) (l9 : K.lookup TL = some ⟨oc4, od4, .seq #[.str "" tk] n4, sl4⟩) : Ers K mg C :=
  { m_BadValue := PySem.W.mg_of X G b1
    T := ⟨⟨nm, q, N, bs, bm, sn, sub, ab, col, dd, m0, m1, m2, m3, m5, b2, b3⟩, b4, b5, b6, b7⟩
    why := b8
    ini := ⟨fB, _, .str "", b10, b11, ⟨⟨_, _, _, _, _, _, _, _, _, _, rfl, b12, b13, .inr ⟨by simp, TB, _, [.str "" tk2], n2, rfl, b15, rfl, .cons ⟨_, rfl⟩ .nil⟩, .inl rfl⟩, b14⟩⟩
    base := ⟨L, fL, _, .str "", PySem.W.mg_of X G l1, l2, ⟨l3, l4⟩, ⟨l5, rfl⟩, l8, ⟨⟨_, _, _, _, _, _, _, _, _, _, rfl, l6, l7, .inr ⟨by simp, TL, _, [.str "" tk], n4, rfl, l9, rfl, .cons ⟨_, rfl⟩ .nil⟩, .inl rfl⟩, l8⟩⟩ }

theorem kit_not {K : PySem.W.Frag} {C D : Addr} (ne : C ≠ D) (h2 : PySem.W.isClsIn K D = true) (h3 : PySem.W.typeIn K (.ref D) = some (.type "type")) (h4 : PySem.W.subIn K (.ref C) (.ref D) = some false) : PySem.W.kitOne K (.ref C) (.ref D) = some false := by
  have h2' : (PySem.W.clsIn K D).isSome = true := h2
  have e1 : (Value.ref C == Value.ref D) = false := by
    rw [Bool.eq_false_iff]
    exact fun z => ne (Value.ref.inj (beq_iff_eq.mp z))
  have e2 : ((PySem.W.clsIn K D).isSome && PySem.W.typeIn K (.ref D) == some (.type "type")) = true := by rw [h2', h3]; rfl
  have e3 : ¬ ((Value.ref C == Value.ref D) = true) := by rw [e1]; exact Bool.false_ne_true
  exact (if_neg e3).trans ((if_pos e2).trans h4)
theorem tld_mk {K : PySem.W.Frag} {h : Heap} {mg : Str → Option Value} {C c1 c2 c3 c4 : Addr} (X : K.In h) (G : h.Ns mainGlobals mg) (EX : PySem.W.exmOne K (.ref C) (.ref C) = some true)
    (x1 : PySem.W.findIn K (.ref C) "__getattribute__" = some (some (.builtin "BaseException.__getattribute__"))) (x2 : PySem.W.findIn K (.ref C) "__getattr__" = some none) (x3 : PySem.W.subIn K (.ref C) (.type "BaseException") = some true) (x4 : PySem.W.hasDictIn K C = true)
    (x5 : PySem.W.findIn K (.ref C) "__class__" = some (some (.builtin "object.__class__"))) (x6 : PySem.W.specialIn K (.builtin "object.__class__") "__get__" = some (some (.builtin "getset_descriptor.__get__"))) (x7 : PySem.W.takesIn K (.builtin "object.__class__") = some true) (x8 : PySem.W.mroIn K C (.type "object") = some true)
    (n1 : PySem.W.nsIn K mainGlobals "BadProgram" = some (some (.ref c1))) (n2 : PySem.W.nsIn K mainGlobals "Raised" = some (some (.ref c2))) (n3 : PySem.W.nsIn K mainGlobals "Stuck" = some (some (.ref c3))) (n4 : PySem.W.nsIn K mainGlobals "TooLong" = some (some (.ref c4)))
    (d1 : C ≠ c1) (i1 : PySem.W.isClsIn K c1 = true) (y1 : PySem.W.typeIn K (.ref c1) = some (.type "type")) (s1 : PySem.W.subIn K (.ref C) (.ref c1) = some false)
    (d2 : C ≠ c2) (i2 : PySem.W.isClsIn K c2 = true) (y2 : PySem.W.typeIn K (.ref c2) = some (.type "type")) (s2 : PySem.W.subIn K (.ref C) (.ref c2) = some false)
    (d3 : C ≠ c3) (i3 : PySem.W.isClsIn K c3 = true) (y3 : PySem.W.typeIn K (.ref c3) = some (.type "type")) (s3 : PySem.W.subIn K (.ref C) (.ref c3) = some false)
    (d4 : C ≠ c4) (i4 : PySem.W.isClsIn K c4 = true) (y4 : PySem.W.typeIn K (.ref c4) = some (.type "type")) (s4 : PySem.W.subIn K (.ref C) (.ref c4) = some false) (R : Ers K mg C) : Tld K mg C :=
  ⟨⟨x1, x2, x3, x4, x5, x6, x7, x8⟩, EX, R.m_BadValue, c1, c2, c3, c4, PySem.W.mg_of X G n1, PySem.W.mg_of X G n2, PySem.W.mg_of X G n3, PySem.W.mg_of X G n4,
    kitAny_cons (kit_not d1 i1 y1 s1) (fun _ => kitAny_cons (kit_not d2 i2 y2 s2) (fun _ => kitAny_cons (kit_not d3 i3 y3 s3) (fun _ => kitAny_cons (kit_not d4 i4 y4 s4) (fun _ => kitAny_nil) fun z => nomatch z) fun z => nomatch z) fun z => nomatch z) fun z => nomatch z⟩

theorem all_mk {l : PySem.W.OpenLaw} {w : World} {K : PySem.W.Frag} {h : Heap} {mg : Str → Option Value} {fa Cb : Addr} (X : K.In h) (G : h.Ns mainGlobals mg) (hfa : mg "law" = some (.ref fa))
    {f8 : Addr} {od8 an8 : Option Addr} {sl8 : Array (Option Value)} {oc8 kV8 dc8 pm8 ct8 cd8 : Value}
    {f9 : Addr} {od9 an9 : Option Addr} {sl9 : Array (Option Value)} {oc9 kV9 dc9 pm9 ct9 cd9 : Value}
    {f10 : Addr} {od10 an10 : Option Addr} {sl10 : Array (Option Value)} {oc10 kV10 dc10 pm10 ct10 cd10 : Value}
    {f11 : Addr} {od11 an11 : Option Addr} {sl11 : Array (Option Value)} {oc11 kV11 dc11 pm11 ct11 cd11 : Value}
    {f12 : Addr} {od12 an12 : Option Addr} {sl12 : Array (Option Value)} {oc12 kV12 dc12 pm12 ct12 cd12 : Value}
    {f13 : Addr} {od13 an13 : Option Addr} {sl13 : Array (Option Value)} {oc13 kV13 dc13 pm13 ct13 cd13 : Value}
    {f15 : Addr} {od15 an15 : Option Addr} {sl15 : Array (Option Value)} {oc15 kV15 dc15 pm15 ct15 cd15 : Value}
    {f18 : Addr} {od18 an18 : Option Addr} {sl18 : Array (Option Value)} {oc18 kV18 dc18 pm18 ct18 cd18 : Value}
    {f19 : Addr} {od19 an19 : Option Addr} {sl19 : Array (Option Value)} {oc19 kV19 dc19 pm19 ct19 cd19 : Value}
    {f20 : Addr} {od20 an20 : Option Addr} {sl20 : Array (Option Value)} {oc20 kV20 dc20 pm20 ct20 cd20 : Value}
    {f21 : Addr} {od21 an21 : Option Addr} {sl21 : Array (Option Value)} {oc21 kV21 dc21 pm21 ct21 cd21 : Value}
    {f22 : Addr} {od22 an22 : Option Addr} {sl22 : Array (Option Value)} {oc22 kV22 dc22 pm22 ct22 cd22 : Value}
    {f23 : Addr} {od23 an23 : Option Addr} {sl23 : Array (Option Value)} {oc23 kV23 dc23 pm23 ct23 cd23 : Value}
    {f25 : Addr} {od25 an25 : Option Addr} {sl25 : Array (Option Value)} {oc25 kV25 dc25 pm25 ct25 cd25 : Value}
    {f26 : Addr} {od26 an26 : Option Addr} {sl26 : Array (Option Value)} {oc26 kV26 dc26 pm26 ct26 cd26 : Value}
    {f27 : Addr} {od27 an27 : Option Addr} {sl27 : Array (Option Value)} {oc27 kV27 dc27 pm27 ct27 cd27 : Value}
    {f28 : Addr} {od28 an28 : Option Addr} {sl28 : Array (Option Value)} {oc28 kV28 dc28 pm28 ct28 cd28 : Value}
    {f29 : Addr} {od29 an29 : Option Addr} {sl29 : Array (Option Value)} {oc29 kV29 dc29 pm29 ct29 cd29 : Value}
    {f30 : Addr} {od30 an30 : Option Addr} {sl30 : Array (Option Value)} {oc30 kV30 dc30 pm30 ct30 cd30 : Value}
    {f31 : Addr} {od31 an31 : Option Addr} {sl31 : Array (Option Value)} {oc31 kV31 dc31 pm31 ct31 cd31 : Value}
    {f32 : Addr} {od32 an32 : Option Addr} {sl32 : Array (Option Value)} {oc32 kV32 dc32 pm32 ct32 cd32 : Value}
    {f33 : Addr} {od33 an33 : Option Addr} {sl33 : Array (Option Value)} {oc33 kV33 dc33 pm33 ct33 cd33 : Value}
    {f34 : Addr} {od34 an34 : Option Addr} {sl34 : Array (Option Value)} {oc34 kV34 dc34 pm34 ct34 cd34 : Value}
    {f35 : Addr} {od35 an35 : Option Addr} {sl35 : Array (Option Value)} {oc35 kV35 dc35 pm35 ct35 cd35 : Value}
    {f36 : Addr} {od36 an36 : Option Addr} {sl36 : Array (Option Value)} {oc36 kV36 dc36 pm36 ct36 cd36 : Value}
    {f37 : Addr} {od37 an37 : Option Addr} {sl37 : Array (Option Value)} {oc37 kV37 dc37 pm37 ct37 cd37 : Value}
    {f38 : Addr} {od38 an38 : Option Addr} {sl38 : Array (Option Value)} {oc38 kV38 dc38 pm38 ct38 : Value}
    {f39 : Addr} {od39 an39 : Option Addr} {sl39 : Array (Option Value)} {oc39 kV39 dc39 pm39 ct39 : Value}
    {f40 : Addr} {od40 an40 : Option Addr} {sl40 : Array (Option Value)} {oc40 kV40 dc40 pm40 ct40 cd40 : Value}
    {cA PA cB PB : Addr}
    (a8 : PySem.W.nsIn K mainGlobals "rise" = some (some (.ref f8))) (l8 : K.lookup f8 = some ⟨oc8, od8, .func (PySem.W.fnOf "rise" "rise" (defArgs (top 8)) (defBody (top 8)) (defScope (top 8)) .none kV8 dc8 pm8 an8 cd8 ct8), sl8⟩) (c8 : PySem.W.codeIn K cd8 "rise" = true) (k8 : PySem.W.keepIn K (.ref f8) = true)
    (a9 : PySem.W.nsIn K mainGlobals "sink" = some (some (.ref f9))) (l9 : K.lookup f9 = some ⟨oc9, od9, .func (PySem.W.fnOf "sink" "sink" (defArgs (top 9)) (defBody (top 9)) (defScope (top 9)) .none kV9 dc9 pm9 an9 cd9 ct9), sl9⟩) (c9 : PySem.W.codeIn K cd9 "sink" = true) (k9 : PySem.W.keepIn K (.ref f9) = true)
    (a10 : PySem.W.nsIn K mainGlobals "push" = some (some (.ref f10))) (l10 : K.lookup f10 = some ⟨oc10, od10, .func (PySem.W.fnOf "push" "push" (defArgs (top 10)) (defBody (top 10)) (defScope (top 10)) .none kV10 dc10 pm10 an10 cd10 ct10), sl10⟩) (c10 : PySem.W.codeIn K cd10 "push" = true) (k10 : PySem.W.keepIn K (.ref f10) = true)
    (a11 : PySem.W.nsIn K mainGlobals "take_first" = some (some (.ref f11))) (l11 : K.lookup f11 = some ⟨oc11, od11, .func (PySem.W.fnOf "take_first" "take_first" (defArgs (top 11)) (defBody (top 11)) (defScope (top 11)) .none kV11 dc11 pm11 an11 cd11 ct11), sl11⟩) (c11 : PySem.W.codeIn K cd11 "take_first" = true) (k11 : PySem.W.keepIn K (.ref f11) = true)
    (a12 : PySem.W.nsIn K mainGlobals "make_heap" = some (some (.ref f12))) (l12 : K.lookup f12 = some ⟨oc12, od12, .func (PySem.W.fnOf "make_heap" "make_heap" (defArgs (top 12)) (defBody (top 12)) (defScope (top 12)) .none kV12 dc12 pm12 an12 cd12 ct12), sl12⟩) (c12 : PySem.W.codeIn K cd12 "make_heap" = true) (k12 : PySem.W.keepIn K (.ref f12) = true)
    (a13 : PySem.W.nsIn K mainGlobals "is_earlier" = some (some (.ref f13))) (l13 : K.lookup f13 = some ⟨oc13, od13, .func (PySem.W.fnOf "is_earlier" "is_earlier" (defArgs (top 13)) (defBody (top 13)) (defScope (top 13)) .none kV13 dc13 pm13 an13 cd13 ct13), sl13⟩) (c13 : PySem.W.codeIn K cd13 "is_earlier" = true) (k13 : PySem.W.keepIn K (.ref f13) = true)
    (a15 : PySem.W.nsIn K mainGlobals "is_whole" = some (some (.ref f15))) (l15 : K.lookup f15 = some ⟨oc15, od15, .func (PySem.W.fnOf "is_whole" "is_whole" (defArgs (top 15)) (defBody (top 15)) (defScope (top 15)) .none kV15 dc15 pm15 an15 cd15 ct15), sl15⟩) (c15 : PySem.W.codeIn K cd15 "is_whole" = true) (k15 : PySem.W.keepIn K (.ref f15) = true)
    (a18 : PySem.W.nsIn K mainGlobals "is_entry" = some (some (.ref f18))) (l18 : K.lookup f18 = some ⟨oc18, od18, .func (PySem.W.fnOf "is_entry" "is_entry" (defArgs (top 18)) (defBody (top 18)) (defScope (top 18)) .none kV18 dc18 pm18 an18 cd18 ct18), sl18⟩) (c18 : PySem.W.codeIn K cd18 "is_entry" = true) (k18 : PySem.W.keepIn K (.ref f18) = true)
    (a19 : PySem.W.nsIn K mainGlobals "check_rows" = some (some (.ref f19))) (l19 : K.lookup f19 = some ⟨oc19, od19, .func (PySem.W.fnOf "check_rows" "check_rows" (defArgs (top 19)) (defBody (top 19)) (defScope (top 19)) .none kV19 dc19 pm19 an19 cd19 ct19), sl19⟩) (c19 : PySem.W.codeIn K cd19 "check_rows" = true) (k19 : PySem.W.keepIn K (.ref f19) = true)
    (a20 : PySem.W.nsIn K mainGlobals "is_heap" = some (some (.ref f20))) (l20 : K.lookup f20 = some ⟨oc20, od20, .func (PySem.W.fnOf "is_heap" "is_heap" (defArgs (top 20)) (defBody (top 20)) (defScope (top 20)) .none kV20 dc20 pm20 an20 cd20 ct20), sl20⟩) (c20 : PySem.W.codeIn K cd20 "is_heap" = true) (k20 : PySem.W.keepIn K (.ref f20) = true)
    (a21 : PySem.W.nsIn K mainGlobals "pushed" = some (some (.ref f21))) (l21 : K.lookup f21 = some ⟨oc21, od21, .func (PySem.W.fnOf "pushed" "pushed" (defArgs (top 21)) (defBody (top 21)) (defScope (top 21)) .none kV21 dc21 pm21 an21 cd21 ct21), sl21⟩) (c21 : PySem.W.codeIn K cd21 "pushed" = true) (k21 : PySem.W.keepIn K (.ref f21) = true)
    (a22 : PySem.W.nsIn K mainGlobals "popped" = some (some (.ref f22))) (l22 : K.lookup f22 = some ⟨oc22, od22, .func (PySem.W.fnOf "popped" "popped" (defArgs (top 22)) (defBody (top 22)) (defScope (top 22)) .none kV22 dc22 pm22 an22 cd22 ct22), sl22⟩) (c22 : PySem.W.codeIn K cd22 "popped" = true) (k22 : PySem.W.keepIn K (.ref f22) = true)
    (a23 : PySem.W.nsIn K mainGlobals "heaped" = some (some (.ref f23))) (l23 : K.lookup f23 = some ⟨oc23, od23, .func (PySem.W.fnOf "heaped" "heaped" (defArgs (top 23)) (defBody (top 23)) (defScope (top 23)) .none kV23 dc23 pm23 an23 cd23 ct23), sl23⟩) (c23 : PySem.W.codeIn K cd23 "heaped" = true) (k23 : PySem.W.keepIn K (.ref f23) = true)
    (a25 : PySem.W.nsIn K mainGlobals "_law_well" = some (some (.ref f25))) (l25 : K.lookup f25 = some ⟨oc25, od25, .func (PySem.W.fnOf "_law_well" "_law_well" (defArgs (top 25)) (defBody (top 25)) (defScope (top 25)) .none kV25 dc25 pm25 an25 cd25 ct25), sl25⟩) (c25 : PySem.W.codeIn K cd25 "_law_well" = true) (k25 : PySem.W.keepIn K (.ref f25) = true)
    (a26 : PySem.W.nsIn K mainGlobals "_law_draw" = some (some (.ref f26))) (l26 : K.lookup f26 = some ⟨oc26, od26, .func (PySem.W.fnOf "_law_draw" "_law_draw" (defArgs (top 26)) (defBody (top 26)) (defScope (top 26)) .none kV26 dc26 pm26 an26 cd26 ct26), sl26⟩) (c26 : PySem.W.codeIn K cd26 "_law_draw" = true) (k26 : PySem.W.keepIn K (.ref f26) = true)
    (a27 : PySem.W.nsIn K mainGlobals "_law_pick" = some (some (.ref f27))) (l27 : K.lookup f27 = some ⟨oc27, od27, .func (PySem.W.fnOf "_law_pick" "_law_pick" (defArgs (top 27)) (defBody (top 27)) (defScope (top 27)) .none kV27 dc27 pm27 an27 cd27 ct27), sl27⟩) (c27 : PySem.W.codeIn K cd27 "_law_pick" = true) (k27 : PySem.W.keepIn K (.ref f27) = true)
    (a28 : PySem.W.nsIn K mainGlobals "_law_up" = some (some (.ref f28))) (l28 : K.lookup f28 = some ⟨oc28, od28, .func (PySem.W.fnOf "_law_up" "_law_up" (defArgs (top 28)) (defBody (top 28)) (defScope (top 28)) .none kV28 dc28 pm28 an28 cd28 ct28), sl28⟩) (c28 : PySem.W.codeIn K cd28 "_law_up" = true) (k28 : PySem.W.keepIn K (.ref f28) = true)
    (a29 : PySem.W.nsIn K mainGlobals "_law_down" = some (some (.ref f29))) (l29 : K.lookup f29 = some ⟨oc29, od29, .func (PySem.W.fnOf "_law_down" "_law_down" (defArgs (top 29)) (defBody (top 29)) (defScope (top 29)) .none kV29 dc29 pm29 an29 cd29 ct29), sl29⟩) (c29 : PySem.W.codeIn K cd29 "_law_down" = true) (k29 : PySem.W.keepIn K (.ref f29) = true)
    (a30 : PySem.W.nsIn K mainGlobals "_law_push" = some (some (.ref f30))) (l30 : K.lookup f30 = some ⟨oc30, od30, .func (PySem.W.fnOf "_law_push" "_law_push" (defArgs (top 30)) (defBody (top 30)) (defScope (top 30)) .none kV30 dc30 pm30 an30 cd30 ct30), sl30⟩) (c30 : PySem.W.codeIn K cd30 "_law_push" = true) (k30 : PySem.W.keepIn K (.ref f30) = true)
    (a31 : PySem.W.nsIn K mainGlobals "_law_pop" = some (some (.ref f31))) (l31 : K.lookup f31 = some ⟨oc31, od31, .func (PySem.W.fnOf "_law_pop" "_law_pop" (defArgs (top 31)) (defBody (top 31)) (defScope (top 31)) .none kV31 dc31 pm31 an31 cd31 ct31), sl31⟩) (c31 : PySem.W.codeIn K cd31 "_law_pop" = true) (k31 : PySem.W.keepIn K (.ref f31) = true)
    (a32 : PySem.W.nsIn K mainGlobals "_law_made" = some (some (.ref f32))) (l32 : K.lookup f32 = some ⟨oc32, od32, .func (PySem.W.fnOf "_law_made" "_law_made" (defArgs (top 32)) (defBody (top 32)) (defScope (top 32)) .none kV32 dc32 pm32 an32 cd32 ct32), sl32⟩) (c32 : PySem.W.codeIn K cd32 "_law_made" = true) (k32 : PySem.W.keepIn K (.ref f32) = true)
    (a33 : PySem.W.nsIn K mainGlobals "_law_time" = some (some (.ref f33))) (l33 : K.lookup f33 = some ⟨oc33, od33, .func (PySem.W.fnOf "_law_time" "_law_time" (defArgs (top 33)) (defBody (top 33)) (defScope (top 33)) .none kV33 dc33 pm33 an33 cd33 ct33), sl33⟩) (c33 : PySem.W.codeIn K cd33 "_law_time" = true) (k33 : PySem.W.keepIn K (.ref f33) = true)
    (a34 : PySem.W.nsIn K mainGlobals "_law_rows" = some (some (.ref f34))) (l34 : K.lookup f34 = some ⟨oc34, od34, .func (PySem.W.fnOf "_law_rows" "_law_rows" (defArgs (top 34)) (defBody (top 34)) (defScope (top 34)) .none kV34 dc34 pm34 an34 cd34 ct34), sl34⟩) (c34 : PySem.W.codeIn K cd34 "_law_rows" = true) (k34 : PySem.W.keepIn K (.ref f34) = true)
    (a35 : PySem.W.nsIn K mainGlobals "_law_is_heap" = some (some (.ref f35))) (l35 : K.lookup f35 = some ⟨oc35, od35, .func (PySem.W.fnOf "_law_is_heap" "_law_is_heap" (defArgs (top 35)) (defBody (top 35)) (defScope (top 35)) .none kV35 dc35 pm35 an35 cd35 ct35), sl35⟩) (c35 : PySem.W.codeIn K cd35 "_law_is_heap" = true) (k35 : PySem.W.keepIn K (.ref f35) = true)
    (a36 : PySem.W.nsIn K mainGlobals "_law_told" = some (some (.ref f36))) (l36 : K.lookup f36 = some ⟨oc36, od36, .func (PySem.W.fnOf "_law_told" "_law_told" (defArgs (top 36)) (defBody (top 36)) (defScope (top 36)) .none kV36 dc36 pm36 an36 cd36 ct36), sl36⟩) (c36 : PySem.W.codeIn K cd36 "_law_told" = true) (k36 : PySem.W.keepIn K (.ref f36) = true)
    (a37 : PySem.W.nsIn K mainGlobals "_law_odd" = some (some (.ref f37))) (l37 : K.lookup f37 = some ⟨oc37, od37, .func (PySem.W.fnOf "_law_odd" "_law_odd" (defArgs (top 37)) (defBody (top 37)) (defScope (top 37)) .none kV37 dc37 pm37 an37 cd37 ct37), sl37⟩) (c37 : PySem.W.codeIn K cd37 "_law_odd" = true) (k37 : PySem.W.keepIn K (.ref f37) = true)
    (a38 : PySem.W.nsIn K mainGlobals "_law_right" = some (some (.ref f38))) (l38 : K.lookup f38 = some ⟨oc38, od38, .func (PySem.W.fnOf "_law_right" "_law_right" (defArgs (top 38)) (defBody (top 38)) (defScope (top 38)) .none kV38 dc38 pm38 an38 (.ref cA) ct38), sl38⟩) (c38 : PySem.W.codeIn K (.ref cA) "_law_right" = true) (k38 : PySem.W.keepIn K (.ref f38) = true)
    (a39 : PySem.W.nsIn K mainGlobals "_law_bound_right" = some (some (.ref f39))) (l39 : K.lookup f39 = some ⟨oc39, od39, .func (PySem.W.fnOf "_law_bound_right" "_law_bound_right" (defArgs (top 39)) (defBody (top 39)) (defScope (top 39)) .none kV39 dc39 pm39 an39 (.ref cB) ct39), sl39⟩) (c39 : PySem.W.codeIn K (.ref cB) "_law_bound_right" = true) (k39 : PySem.W.keepIn K (.ref f39) = true)
    (a40 : PySem.W.nsIn K mainGlobals "law" = some (some (.ref f40))) (l40 : K.lookup f40 = some ⟨oc40, od40, .func (PySem.W.fnOf "law" "law" (defArgs (top 40)) (defBody (top 40)) (defScope (top 40)) .none kV40 dc40 pm40 an40 cd40 ct40), sl40⟩) (c40 : PySem.W.codeIn K cd40 "law" = true) (k40 : PySem.W.keepIn K (.ref f40) = true)
    (z_isinstance : PySem.W.nsIn K mainGlobals "isinstance" = some none)
    (z_int : PySem.W.nsIn K mainGlobals "int" = some none)
    (z_bool : PySem.W.nsIn K mainGlobals "bool" = some none)
    (z_str : PySem.W.nsIn K mainGlobals "str" = some none)
    (z_tuple : PySem.W.nsIn K mainGlobals "tuple" = some none)
    (z_dict : PySem.W.nsIn K mainGlobals "dict" = some none)
    (z_list : PySem.W.nsIn K mainGlobals "list" = some none)
    (z_len : PySem.W.nsIn K mainGlobals "len" = some none)
    (z_all : PySem.W.nsIn K mainGlobals "all" = some none)
    (z_any : PySem.W.nsIn K mainGlobals "any" = some none)
    (z_sorted : PySem.W.nsIn K mainGlobals "sorted" = some none)
    (z_enumerate : PySem.W.nsIn K mainGlobals "enumerate" = some none)
    (z_zip : PySem.W.nsIn K mainGlobals "zip" = some none)
    (z_set : PySem.W.nsIn K mainGlobals "set" = some none)
    (z_range : PySem.W.nsIn K mainGlobals "range" = some none)
    (z_max : PySem.W.nsIn K mainGlobals "max" = some none)
    (z_repr : PySem.W.nsIn K mainGlobals "repr" = some none)
    (z_reversed : PySem.W.nsIn K mainGlobals "reversed" = some none)
    (z_min : PySem.W.nsIn K mainGlobals "min" = some none)
    {tm : Tok} (zm : PySem.W.nsIn K mainGlobals "MOST_ROWS" = some (some (.int 5000 tm)))
    {eA : Value} {ddA : Option Addr} {vsA : Array Value} {slA : Array (Option Value)} (t0A : K.lookup cA = some ⟨eA, ddA, .fields vsA, slA⟩) (t1A : vsA[11]? = some (.ref PA)) (t2A : PySem.W.codeHdIn K cA PA = true) (t3A : K.lookup PA = none) (t4A : h.get? PA = some { cls := .none, data := .fields #[] })
    {eB : Value} {ddB : Option Addr} {vsB : Array Value} {slB : Array (Option Value)} (t0B : K.lookup cB = some ⟨eB, ddB, .fields vsB, slB⟩) (t1B : vsB[11]? = some (.ref PB)) (t2B : PySem.W.codeHdIn K cB PB = true) (t3B : K.lookup PB = none) (t4B : h.get? PB = some { cls := .none, data := .fields #[] })
    (pne : PA ≠ PB)
    (ER : Ers K mg Cb) (TLf : Ers K mg Cb → Tld K mg Cb) : LawAtS l w K CX0 10 63 "_law_script" mg fa h := by
  have e := hfa.symm.trans (PySem.W.mg_of X G a40)
  cases e
  have D8 : Df K mg "rise" (top 8) ["rows", "low", "at", "comes_first"] := df_mk X G a8 l8 c8 k8 fun _ _ _ _ _ _ us hl => match us, hl with | [_, _, _, _], _ => rfl
  have D9 : Df K mg "sink" (top 9) ["rows", "at", "comes_first"] := df_mk X G a9 l9 c9 k9 fun _ _ _ _ _ _ us hl => match us, hl with | [_, _, _], _ => rfl
  have D10 : Df K mg "push" (top 10) ["rows", "entry", "comes_first"] := df_mk X G a10 l10 c10 k10 fun _ _ _ _ _ _ us hl => match us, hl with | [_, _, _], _ => rfl
  have D11 : Df K mg "take_first" (top 11) ["rows", "comes_first"] := df_mk X G a11 l11 c11 k11 fun _ _ _ _ _ _ us hl => match us, hl with | [_, _], _ => rfl
  have D12 : Df K mg "make_heap" (top 12) ["rows", "comes_first"] := df_mk X G a12 l12 c12 k12 fun _ _ _ _ _ _ us hl => match us, hl with | [_, _], _ => rfl
  have D13 : Df K mg "is_earlier" (top 13) ["entry", "other"] := df_mk X G a13 l13 c13 k13 fun _ _ _ _ _ _ us hl => match us, hl with | [_, _], _ => rfl
  have D15 : Df K mg "is_whole" (top 15) ["value"] := df_mk X G a15 l15 c15 k15 fun _ _ _ _ _ _ us hl => match us, hl with | [_], _ => rfl
  have D18 : Df K mg "is_entry" (top 18) ["entry"] := df_mk X G a18 l18 c18 k18 fun _ _ _ _ _ _ us hl => match us, hl with | [_], _ => rfl
  have D19 : Df K mg "check_rows" (top 19) ["rows"] := df_mk X G a19 l19 c19 k19 fun _ _ _ _ _ _ us hl => match us, hl with | [_], _ => rfl
  have D25 : Df K mg "_law_well" (top 25) ["_law_cell"] := df_mk X G a25 l25 c25 k25 fun _ _ _ _ _ _ us hl => match us, hl with | [_], _ => rfl
  have D26 : Df K mg "_law_draw" (top 26) ["_law_well_here", "_law_many"] := df_mk X G a26 l26 c26 k26 fun _ _ _ _ _ _ us hl => match us, hl with | [_, _], _ => rfl
  have D27 : Df K mg "_law_pick" (top 27) ["_law_well_here", "_law_some"] := df_mk X G a27 l27 c27 k27 fun _ _ _ _ _ _ us hl => match us, hl with | [_, _], _ => rfl
  have D28 : Df K mg "_law_up" (top 28) ["_law_lot", "_law_top", "_law_place"] := df_mk X G a28 l28 c28 k28 fun _ _ _ _ _ _ us hl => match us, hl with | [_, _, _], _ => rfl
  have D29 : Df K mg "_law_down" (top 29) ["_law_lot", "_law_top"] := df_mk X G a29 l29 c29 k29 fun _ _ _ _ _ _ us hl => match us, hl with | [_, _], _ => rfl
  have D30 : Df K mg "_law_push" (top 30) ["_law_lot", "_law_pair"] := df_mk X G a30 l30 c30 k30 fun _ _ _ _ _ _ us hl => match us, hl with | [_, _], _ => rfl
  have D31 : Df K mg "_law_pop" (top 31) ["_law_lot"] := df_mk X G a31 l31 c31 k31 fun _ _ _ _ _ _ us hl => match us, hl with | [_], _ => rfl
  have D32 : Df K mg "_law_made" (top 32) ["_law_lot"] := df_mk X G a32 l32 c32 k32 fun _ _ _ _ _ _ us hl => match us, hl with | [_], _ => rfl
  have D33 : Df K mg "_law_time" (top 33) ["_law_well_here", "_law_way"] := df_mk X G a33 l33 c33 k33 fun _ _ _ _ _ _ us hl => match us, hl with | [_, _], _ => rfl
  have D34 : Df K mg "_law_rows" (top 34) ["_law_well_here", "_law_most"] := df_mk X G a34 l34 c34 k34 fun _ _ _ _ _ _ us hl => match us, hl with | [_, _], _ => rfl
  have D35 : Df K mg "_law_is_heap" (top 35) ["_law_lot"] := df_mk X G a35 l35 c35 k35 fun _ _ _ _ _ _ us hl => match us, hl with | [_], _ => rfl
  have D36 : Df K mg "_law_told" (top 36) ["_law_ask"] := df_mk X G a36 l36 c36 k36 fun _ _ _ _ _ _ us hl => match us, hl with | [_], _ => rfl
  have D37 : Df K mg "_law_odd" (top 37) ["_law_well_here", "_law_lot"] := df_mk X G a37 l37 c37 k37 fun _ _ _ _ _ _ us hl => match us, hl with | [_, _], _ => rfl
  have B : Bm mg := { isinstance := PySem.W.mg_none_of X G z_isinstance, int := PySem.W.mg_none_of X G z_int, bool := PySem.W.mg_none_of X G z_bool, str := PySem.W.mg_none_of X G z_str, tuple := PySem.W.mg_none_of X G z_tuple, dict := PySem.W.mg_none_of X G z_dict, list := PySem.W.mg_none_of X G z_list, len := PySem.W.mg_none_of X G z_len, all := PySem.W.mg_none_of X G z_all, any := PySem.W.mg_none_of X G z_any, sorted := PySem.W.mg_none_of X G z_sorted, enumerate := PySem.W.mg_none_of X G z_enumerate, zip := PySem.W.mg_none_of X G z_zip, set := PySem.W.mg_none_of X G z_set, range := PySem.W.mg_none_of X G z_range, max := PySem.W.mg_none_of X G z_max, repr := PySem.W.mg_none_of X G z_repr, reversed := PySem.W.mg_none_of X G z_reversed, min := PySem.W.mg_none_of X G z_min }
  have C : Cn mg := ⟨⟨_, PySem.W.mg_of X G zm, ⟨_, rfl⟩⟩⟩
  obtain ⟨T, hTT⟩ : ∃ T : List (Addr × Str), T = [(PA, lamQ "_law_right" (top 38)), (PB, lamQ "_law_bound_right" (top 39))] := ⟨_, rfl⟩
  have two : ∀ {α β : Type} {a b p : α × β} {Q : α × β → Prop}, Q a → Q b → p ∈ [a, b] → Q p := fun {α β a b p Q} qa qb hp => by
    rcases List.mem_cons.mp hp with e | e
    · rw [e]; exact qa
    · rw [List.mem_singleton.mp e]; exact qb
  refine ⟨PySem.W.fnOf "law" "law" (defArgs (top 40)) (defBody (top 40)) (defScope (top 40)) .none kV40 dc40 pm40 an40 cd40 ct40, [(cA, PA), (cB, PB)], spLaw K T, fun p hp => ?_, fun p hp => ?_, fun p hp => ?_, fun s v => .of_eq rfl, fun H a ns hl _ hT hS => ⟨a, ns, rfl, hS, hl, fun p hp => ?_, fun _ => rfl⟩, fun base _ _ hB => ?_⟩
  · exact two (Q := fun p => h.get? p.2 = some { cls := .none, data := .fields #[] }) t4A t4B hp
  · exact two (Q := fun p => K.lookup p.2 = none) t3A t3B hp
  · exact two (Q := fun p => PySem.W.CodeHd h p.1 p.2) (PySem.W.codeHd_of_K X t2A) (PySem.W.codeHd_of_K X t2B) hp
  · rw [hTT] at hp
    exact two (Q := fun p => H p.1 = some (.tbl #[])) (hT (cA, PA) (by simp)) (hT (cB, PB) (by simp)) hp
  have TL := TLf ER
  have TA : TabB base mg cA PA := hB (cA, PA) (by simp)
  have TB : TabB base mg cB PB := hB (cB, PB) (by simp)
  have hmA : (PA, lamQ "_law_right" (top 38)) ∈ T := by rw [hTT]; exact List.mem_cons_self ..
  have hmB : (PB, lamQ "_law_bound_right" (top 39)) ∈ T := by rw [hTT]; exact List.mem_cons_of_mem _ (List.mem_singleton.mpr rfl)
  have huA : ∀ p ∈ T, p.1 = PA → p.2 = lamQ "_law_right" (top 38) := fun p hp => by
    rw [hTT] at hp
    exact two (Q := fun p => p.1 = PA → p.2 = lamQ "_law_right" (top 38)) (fun _ => rfl) (fun z => (pne z.symm).elim) hp
  have huB : ∀ p ∈ T, p.1 = PB → p.2 = lamQ "_law_bound_right" (top 39) := fun p hp => by
    rw [hTT] at hp
    exact two (Q := fun p => p.1 = PB → p.2 = lamQ "_law_bound_right" (top 39)) (fun z => (pne z).elim) (fun _ => rfl) hp
  obtain ⟨fE, dE, EE⟩ := errs (P := l.prog) (w := w) (base := base) ER
  have O13 := ok_earlier (P := l.prog) (w := w) (base := base) D13
  obtain ⟨fC, R⟩ := ear_of O13
  have O8 := ok_rise R D8
  have O9 := ok_sink B R D9 O8
  have O10 := ok_push B D10 O8
  have O11 := ok_take B D11 O9
  have O12 := ok_make B D12 O9
  have O15 := ok_whole (P := l.prog) (w := w) (base := base) B D15
  have O18 := ok_entry B D18 O15
  have O19 := ok_chk B C EE D19 O18
  have O20 : OkdK l.prog w K mg base (L2.CX l.prog w) 5 "is_heap" ["rows"] ["rows"] gOne gOne (spIsH K Cb) := okdK_mk X G a20 l20 c20 k20 (fun _ _ _ _ _ _ us hl => match us, hl with | [_], _ => rfl) (fun _ _ _ _ _ _ us ws hl => match us, ws, hl with | [], [_], _ => rfl) one_rel fun F => fn_isH B F O19 O13
  have O21 : OkdK l.prog w K mg base (L2.CX l.prog w) 5 "pushed" ["rows", "entry"] ["entry", "rows"] gRev2 gRev2 (spPushed K Cb) := okdK_mk X G a21 l21 c21 k21 (fun _ _ _ _ _ _ us hl => match us, hl with | [_, _], _ => rfl) (fun _ _ _ _ _ _ us ws hl => match us, ws, hl with | [], [_, _], _ => rfl) rev2_rel fun F => fn_pushed B EE R F O19 O18 O10
  have O22 : OkdK l.prog w K mg base (L2.CX l.prog w) 5 "popped" ["rows"] ["rows"] gOne gOne (spPopped K Cb) := okdK_mk X G a22 l22 c22 k22 (fun _ _ _ _ _ _ us hl => match us, hl with | [_], _ => rfl) (fun _ _ _ _ _ _ us ws hl => match us, ws, hl with | [], [_], _ => rfl) one_rel fun F => fn_popped B EE R F O19 O11
  have O23 : OkdK l.prog w K mg base (L2.CX l.prog w) 5 "heaped" ["rows"] ["rows"] gOne gOne (spHeaped K Cb) := okdK_mk X G a23 l23 c23 k23 (fun _ _ _ _ _ _ us hl => match us, hl with | [_], _ => rfl) (fun _ _ _ _ _ _ us ws hl => match us, ws, hl with | [], [_], _ => rfl) one_rel fun F => fn_heaped B R F O19 O12
  have O25 := ok_well (P := l.prog) (w := w) (base := base) B D25
  have O26 := ok_draw (P := l.prog) (w := w) (base := base) B D26
  have O27 := ok_pick B D27 O26
  have O28 := ok_up (P := l.prog) (w := w) (base := base) B D28
  have O29 := ok_down B D29 O28
  have O30 := ok_pushL B D30 O28
  have O31 := ok_popL B D31 O29
  have O32 := ok_madeL B D32 O29
  have O33 := ok_time B D33 O26
  have O34 := ok_rows B D34 O26 O33 O32
  have O35 := ok_isHL (P := l.prog) (w := w) (base := base) B D35
  have O37 := ok_odd B D37 O26 O27
  have F38 := fun_mk (st := top 38) l38 c38 k38
  have F39 := fun_mk (st := top 39) l39 c39 k39
  have F40 := fun_mk (st := top 40) l40 c40 k40
  have O38 : Okd l.prog w K mg base CX0 9 "_law_right" ["_law_well_here"] (spRight T) := ⟨f38, _, PySem.W.mg_of X G a38, k38, F38.binds (fun _ _ _ _ _ _ us hl => match us, hl with | [_], _ => rfl), ok_right B TL l38 c38 TA hmA huA O34 O27 O33 O35 O30 O31 O32 O37 O20 O21 O22 O23 D36⟩
  have O39 : Okd l.prog w K mg base CX0 9 "_law_bound_right" ["_law_well_here"] (spRight T) := ⟨f39, _, PySem.W.mg_of X G a39, k39, F39.binds (fun _ _ _ _ _ _ us hl => match us, hl with | [_], _ => rfl), ok_bound B TL l39 c39 TB hmB huB O26 O33 O30 O31 O20 O21 O22 O23 D36⟩
  exact ok_law O25 O38 O39 F40
end K4
open PySem PySem.W PyProof.Rows
set_option maxRecDepth 100000 in
set_option maxHeartbeats 0 in
theorem PySem.Challenge.cw_loopyard_k13_heaps_of_timers_holds : PySem.Challenge.rw_loopyard_k13_heaps_of_timers.Holds := by
  w_on; o_law; k_head; (case hw => w_witness2)
  k_fill
  refine LamX.walk_ofTs (l := PySem.Challenge.rw_loopyard_k13_heaps_of_timers) (n := 63) (k := 10) (x := "_law_script") (CX := fun _ => L2.CX0) rfl (by decide) rfl ⟨rfl, by decide, by decide⟩ (fun w h Y => PySem.W.km_in_of Y) ?F (fun _ _ _ _ _ h => h)
  case F =>
    intro w mg fa h Y KX G hmg
    have hT8 := PySem.W.km_tabs_of Y
    refine' K4.all_mk KX G hmg ?a8 ?l8 ?c8 ?k8 ?a9 ?l9 ?c9 ?k9 ?a10 ?l10 ?c10 ?k10 ?a11 ?l11 ?c11 ?k11 ?a12 ?l12 ?c12 ?k12 ?a13 ?l13 ?c13 ?k13 ?a15 ?l15 ?c15 ?k15 ?a18 ?l18 ?c18 ?k18 ?a19 ?l19 ?c19 ?k19 ?a20 ?l20 ?c20 ?k20 ?a21 ?l21 ?c21 ?k21 ?a22 ?l22 ?c22 ?k22 ?a23 ?l23 ?c23 ?k23 ?a25 ?l25 ?c25 ?k25 ?a26 ?l26 ?c26 ?k26 ?a27 ?l27 ?c27 ?k27 ?a28 ?l28 ?c28 ?k28 ?a29 ?l29 ?c29 ?k29 ?a30 ?l30 ?c30 ?k30 ?a31 ?l31 ?c31 ?k31 ?a32 ?l32 ?c32 ?k32 ?a33 ?l33 ?c33 ?k33 ?a34 ?l34 ?c34 ?k34 ?a35 ?l35 ?c35 ?k35 ?a36 ?l36 ?c36 ?k36 ?a37 ?l37 ?c37 ?k37 ?a38 ?l38 ?c38 ?k38 ?a39 ?l39 ?c39 ?k39 ?a40 ?l40 ?c40 ?k40 ?z_isinstance ?z_int ?z_bool ?z_str ?z_tuple ?z_dict ?z_list ?z_len ?z_all ?z_any ?z_sorted ?z_enumerate ?z_zip ?z_set ?z_range ?z_max ?z_repr ?z_reversed ?z_min ?zm ?t0A ?t1A ?t2A ?t3A ?t4A ?t0B ?t1B ?t2B ?t3B ?t4B ?pne
      (K4.ers_mk KX G ?eb1 ?eb2 ?eb3 ?eb4 ?eb5 ?eb6 ?eb7 ?eb8 ?eb10 ?eb11 ?eb12 ?eb13 ?eb14 ?eb15 ?el1 ?el2 ?el3 ?el4 ?el5 ?el6 ?el7 ?el8 ?el9) (K4.tld_mk KX G (K4.exm_same ?x1 ?x2 ?x3 ?x4) ?w1 ?w2 ?w3 ?w4 ?w5 ?w6 ?w7 ?w8 ?n1 ?n2 ?n3 ?n4 ?d1 ?i1 ?y1 ?s1 ?d2 ?i2 ?y2 ?s2 ?d3 ?i3 ?y3 ?s3 ?d4 ?i4 ?y4 ?s4)
    (case eb1 => k_is)
    (case eb2 => k_is)
    (case eb3 => decide +kernel)
    (case eb4 => k_is)
    (case eb5 => k_is)
    (case eb6 => k_is)
    (case eb7 => k_is)
    (case eb8 => k_is)
    (case eb10 => k_is)
    (case eb11 => k_is)
    (case eb12 => k_is)
    (case eb13 => k_is)
    (case eb14 => k_is)
    (case eb15 => k_is)
    (case el1 => k_is)
    (case el2 => k_is)
    (case el3 => k_is)
    (case el4 => k_is)
    (case el5 => k_is)
    (case el6 => k_is)
    (case el7 => k_is)
    (case el8 => k_is)
    (case el9 => k_is)
    (case x1 => k_is)
    (case x2 => k_is)
    (case x3 => k_is)
    (case x4 => k_is)
    (case w1 => k_is)
    (case w2 => k_is)
    (case w3 => k_is)
    (case w4 => k_is)
    (case w5 => k_is)
    (case w6 => k_is)
    (case w7 => k_is)
    (case w8 => k_is)
    (case n1 => k_is)
    (case n2 => k_is)
    (case n3 => k_is)
    (case n4 => k_is)
    (case d1 => decide)
    (case i1 => k_is)
    (case y1 => k_is)
    (case s1 => k_is)
    (case d2 => decide)
    (case i2 => k_is)
    (case y2 => k_is)
    (case s2 => k_is)
    (case d3 => decide)
    (case i3 => k_is)
    (case y3 => k_is)
    (case s3 => k_is)
    (case d4 => decide)
    (case i4 => k_is)
    (case y4 => k_is)
    (case s4 => k_is)
    (case a8 => k_is)
    (case l8 => k_is)
    (case c8 => k_is)
    (case k8 => k_is)
    (case a9 => k_is)
    (case l9 => k_is)
    (case c9 => k_is)
    (case k9 => k_is)
    (case a10 => k_is)
    (case l10 => k_is)
    (case c10 => k_is)
    (case k10 => k_is)
    (case a11 => k_is)
    (case l11 => k_is)
    (case c11 => k_is)
    (case k11 => k_is)
    (case a12 => k_is)
    (case l12 => k_is)
    (case c12 => k_is)
    (case k12 => k_is)
    (case a13 => k_is)
    (case l13 => k_is)
    (case c13 => k_is)
    (case k13 => k_is)
    (case a15 => k_is)
    (case l15 => k_is)
    (case c15 => k_is)
    (case k15 => k_is)
    (case a18 => k_is)
    (case l18 => k_is)
    (case c18 => k_is)
    (case k18 => k_is)
    (case a19 => k_is)
    (case l19 => k_is)
    (case c19 => k_is)
    (case k19 => k_is)
    (case a20 => k_is)
    (case l20 => k_is)
    (case c20 => k_is)
    (case k20 => k_is)
    (case a21 => k_is)
    (case l21 => k_is)
    (case c21 => k_is)
    (case k21 => k_is)
    (case a22 => k_is)
    (case l22 => k_is)
    (case c22 => k_is)
    (case k22 => k_is)
    (case a23 => k_is)
    (case l23 => k_is)
    (case c23 => k_is)
    (case k23 => k_is)
    (case a25 => k_is)
    (case l25 => k_is)
    (case c25 => k_is)
    (case k25 => k_is)
    (case a26 => k_is)
    (case l26 => k_is)
    (case c26 => k_is)
    (case k26 => k_is)
    (case a27 => k_is)
    (case l27 => k_is)
    (case c27 => k_is)
    (case k27 => k_is)
    (case a28 => k_is)
    (case l28 => k_is)
    (case c28 => k_is)
    (case k28 => k_is)
    (case a29 => k_is)
    (case l29 => k_is)
    (case c29 => k_is)
    (case k29 => k_is)
    (case a30 => k_is)
    (case l30 => k_is)
    (case c30 => k_is)
    (case k30 => k_is)
    (case a31 => k_is)
    (case l31 => k_is)
    (case c31 => k_is)
    (case k31 => k_is)
    (case a32 => k_is)
    (case l32 => k_is)
    (case c32 => k_is)
    (case k32 => k_is)
    (case a33 => k_is)
    (case l33 => k_is)
    (case c33 => k_is)
    (case k33 => k_is)
    (case a34 => k_is)
    (case l34 => k_is)
    (case c34 => k_is)
    (case k34 => k_is)
    (case a35 => k_is)
    (case l35 => k_is)
    (case c35 => k_is)
    (case k35 => k_is)
    (case a36 => k_is)
    (case l36 => k_is)
    (case c36 => k_is)
    (case k36 => k_is)
    (case a37 => k_is)
    (case l37 => k_is)
    (case c37 => k_is)
    (case k37 => k_is)
    (case a38 => k_is)
    (case l38 => k_is)
    (case c38 => k_is)
    (case k38 => k_is)
    (case a39 => k_is)
    (case l39 => k_is)
    (case c39 => k_is)
    (case k39 => k_is)
    (case a40 => k_is)
    (case l40 => k_is)
    (case c40 => k_is)
    (case k40 => k_is)
    (case z_isinstance => k_is)
    (case z_int => k_is)
    (case z_bool => k_is)
    (case z_str => k_is)
    (case z_tuple => k_is)
    (case z_dict => k_is)
    (case z_list => k_is)
    (case z_len => k_is)
    (case z_all => k_is)
    (case z_any => k_is)
    (case z_sorted => k_is)
    (case z_enumerate => k_is)
    (case z_zip => k_is)
    (case z_set => k_is)
    (case z_range => k_is)
    (case z_max => k_is)
    (case z_repr => k_is)
    (case z_reversed => k_is)
    (case z_min => k_is)
    (case zm => k_is)
    (case t0A => k_is)
    (case t1A => rfl)
    (case t2A => kernel_rfl)
    (case t3A => kernel_rfl)
    (case t4A => exact hT8 _ (by k_mem))
    (case t0B => k_is)
    (case t1B => rfl)
    (case t2B => kernel_rfl)
    (case t3B => kernel_rfl)
    (case t4B => exact hT8 _ (by k_mem))
    (case pne => decide)
