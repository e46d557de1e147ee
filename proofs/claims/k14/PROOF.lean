import PyProof.Rows.All
import Wide.All
import OpenK.AllK
import Wide.FinOn
import HandS.ForMost
import HandS.IsInst
import HandS.Evl
import HandS.Walk
import HandS.DeepEq
import HandS.Steps
import HandS.IterVal
import HandS.RevRange
import HandS.Conv
import HandS.Wide
import HandS.WideBits
import HandS.Deep
import HandS.SortRule
import HandS.SortInts
import HandS.Style
import PySem.Challenge.RW_loopyard_k14_whole_heaps_drained
set_option Elab.async false
set_option maxRecDepth 100000
set_option maxHeartbeats 4000000
set_option linter.all false
set_option autoImplicit false
/-! The text by places, the data, the short forms of what evaluates to what. -/
namespace K4
open PySem L2 Evl PySem.Spec PyProof.Rows
def top (i : Nat) : Stmt := PySem.Challenge.pw_loopyard_k14_whole_heaps_drained.main.body.getD i (.Pass ⟨0, 0, 0, 0⟩)

/-! ### the data -/
inductive D where
  | non | bl (b : Bool) | int (i : Int) | str (s : Str) | tup (l : List D) | lst | dct

mutual
/-- the value v is the datum d -/
inductive Rp (K : PySem.W.Frag) (H : Hp) : D → V → Prop
  | non : Rp K H .non .non
  | bl (b : Bool) : Rp K H (.bl b) (.bl b)
  | int (i : Int) : Rp K H (.int i) (.int i)
  | str (x : Str) : Rp K H (.str x) (.str x)
  | tup {a : Addr} {vs : List V} {ds : List D} : H a = some (.tup vs) → Rps K H ds vs → Rp K H (.tup ds) (.ref a)
  | lst {a : Addr} {vs : List V} : H a = some (.lst vs) → Rp K H .lst (.ref a)
  | dct {a : Addr} {kvs : List (Key × V)} : H a = some (.dK kvs) → Rp K H .dct (.ref a)
inductive Rps (K : PySem.W.Frag) (H : Hp) : List D → List V → Prop
  | nil : Rps K H [] []
  | cons {d : D} {v : V} {ds : List D} {vs : List V} : Rp K H d v → Rps K H ds vs → Rps K H (d :: ds) (v :: vs)
end

/-- tuples stand, lists and dicts are lists and dicts still -/
def Ew (H H' : Hp) : Prop := ∀ a, (∀ xs, H a = some (.tup xs) → H' a = some (.tup xs)) ∧ (∀ xs, H a = some (.lst xs) → ∃ ys, H' a = some (.lst ys)) ∧ (∀ xs, H a = some (.dK xs) → ∃ ys, H' a = some (.dK ys))
theorem Ew.of {H H' : Hp} (e : Ex H H') : Ew H H' := fun a => ⟨fun _ h => e a _ h, fun _ h => ⟨_, e a _ h⟩, fun _ h => ⟨_, e a _ h⟩⟩
theorem Ew.refl (H : Hp) : Ew H H := Ew.of (Ex.refl H)
theorem Ew.trans {H H1 H2 : Hp} (x : Ew H H1) (y : Ew H1 H2) : Ew H H2 := fun a =>
  ⟨fun xs h => (y a).1 xs ((x a).1 xs h), fun xs h => let ⟨_, h1⟩ := (x a).2.1 xs h; (y a).2.1 _ h1, fun xs h => let ⟨_, h1⟩ := (x a).2.2 xs h; (y a).2.2 _ h1⟩
/-- a list is changed -/
theorem Ew.lst {H : Hp} {p : Addr} {xs ys : List V} (h : H p = some (.lst xs)) : Ew H (upd H p (.lst ys)) := fun a => by
  by_cases e : a = p
  · subst e
    refine ⟨fun z q => ?_, fun z q => ⟨ys, upd_same⟩, fun z q => ?_⟩
    · rw [h] at q; cases q
    · rw [h] at q; cases q
  · refine ⟨fun z q => ?_, fun z q => ⟨z, ?_⟩, fun z q => ⟨z, ?_⟩⟩ <;> (rw [upd_ne e]; exact q)
theorem Ew.dK {H : Hp} {p : Addr} {xs ys : List (Key × V)} (h : H p = some (.dK xs)) : Ew H (upd H p (.dK ys)) := fun a => by
  by_cases e : a = p
  · subst e
    refine ⟨fun z q => ?_, fun z q => ?_, fun z q => ⟨ys, upd_same⟩⟩
    · rw [h] at q; cases q
    · rw [h] at q; cases q
  · refine ⟨fun z q => ?_, fun z q => ⟨z, ?_⟩, fun z q => ⟨z, ?_⟩⟩ <;> (rw [upd_ne e]; exact q)
section
variable {K : PySem.W.Frag} {H H' : Hp} {d : D} {v : V} {ds es : List D} {vs us : List V}
mutual
theorem Rp.ew (e : Ew H H') : ∀ {d : D} {v : V}, Rp K H d v → Rp K H' d v
  | _, _, .non => .non
  | _, _, .bl b => .bl b
  | _, _, .int i => .int i
  | _, _, .str x => .str x
  | _, _, .tup h r => .tup ((e _).1 _ h) (Rps.ew e r)
  | _, _, .lst h => .lst ((e _).2.1 _ h).choose_spec
  | _, _, .dct h => .dct ((e _).2.2 _ h).choose_spec
theorem Rps.ew (e : Ew H H') : ∀ {ds : List D} {vs : List V}, Rps K H ds vs → Rps K H' ds vs
  | _, _, .nil => .nil
  | _, _, .cons r t => .cons (Rp.ew e r) (Rps.ew e t)
end
theorem Rp.mono (e : Ex H H') {d : D} {v : V} (r : Rp K H d v) : Rp K H' d v := r.ew (Ew.of e)
theorem Rps.mono (e : Ex H H') {ds : List D} {vs : List V} (r : Rps K H ds vs) : Rps K H' ds vs := r.ew (Ew.of e)
theorem Rps.len : ∀ {ds : List D} {vs : List V}, Rps K H ds vs → vs.length = ds.length
  | _, _, .nil => rfl
  | _, _, .cons _ t => congrArg (· + 1) (Rps.len t)
theorem Rps.at_ : ∀ {ds : List D} {vs : List V} {i : Nat} {v : V}, Rps K H ds vs → vs[i]? = some v → ∃ d, ds[i]? = some d ∧ Rp K H d v
  | _, _, i, _, .nil, e => by simp at e
  | _, _, 0, v, .cons r t, e => by simp at e; subst e; exact ⟨_, rfl, r⟩
  | _, _, i + 1, v, .cons r t, e => by simpa using Rps.at_ (i := i) t (by simpa using e)
theorem Rps.get : ∀ {ds : List D} {vs : List V} {i : Nat} {d : D}, Rps K H ds vs → ds[i]? = some d → ∃ v, vs[i]? = some v ∧ Rp K H d v
  | _, _, i, _, .nil, e => by simp at e
  | _, _, 0, v, .cons r t, e => by simp at e; subst e; exact ⟨_, rfl, r⟩
  | _, _, i + 1, v, .cons r t, e => by simpa using Rps.get (i := i) t (by simpa using e)
theorem Rps.drop : ∀ {ds : List D} {vs : List V} (n : Nat), Rps K H ds vs → Rps K H (ds.drop n) (vs.drop n)
  | _, _, 0, r => r
  | _, _, _ + 1, .nil => .nil
  | _, _, n + 1, .cons _ t => Rps.drop n t
theorem Rps.take : ∀ {ds : List D} {vs : List V} (n : Nat), Rps K H ds vs → Rps K H (ds.take n) (vs.take n)
  | _, _, 0, _ => .nil
  | _, _, _ + 1, .nil => .nil
  | _, _, n + 1, .cons r t => .cons r (Rps.take n t)
theorem Rps.app : ∀ {ds es : List D} {vs us : List V}, Rps K H ds vs → Rps K H es us → Rps K H (ds ++ es) (vs ++ us)
  | _, _, _, _, .nil, s => s
  | _, _, _, _, .cons r t, s => .cons r (Rps.app t s)
/-- the name of a datum's type -/
def tyD : D → String
  | .non => "NoneType" | .bl _ => "bool" | .int _ => "int" | .str _ => "str" | .tup _ => "tuple" | .lst => "list" | .dct => "dict"
theorem Rp.ty : Rp K H d v → TyX K H v (.type (tyD d))
  | .non => .base .non
  | .bl b => .base (.bl b)
  | .int i => .base (.int i)
  | .str x => .base (.str x)
  | .tup h _ => .base (.tup h)
  | .lst h => .base (.lst h)
  | .dct h => .base (.dK h)
end
/-! ### isinstance of a datum -/
def isTup : D → Bool | .tup _ => true | _ => false
def isStr : D → Bool | .str _ => true | _ => false
def isBl : D → Bool | .bl _ => true | _ => false
def isIn : D → Bool | .int _ => true | .bl _ => true | _ => false
def isDct : D → Bool | .dct => true | _ => false
inductive Tg where | non | bl | int | str | tup | lst | dct
def tg : D → Tg | .non => .non | .bl _ => .bl | .int _ => .int | .str _ => .str | .tup _ => .tup | .lst => .lst | .dct => .dct
def tyT : Tg → String | .non => "NoneType" | .bl => "bool" | .int => "int" | .str => "str" | .tup => "tuple" | .lst => "list" | .dct => "dict"
def inT (n : String) : Tg → Bool
  | .tup => n == "tuple" | .str => n == "str" | .bl => n == "bool" || n == "int" | .int => n == "int" | .dct => n == "dict" | _ => false
theorem ty_eq (d : D) : tyD d = tyT (tg d) := by cases d <;> rfl
theorem kitT_tup (t : Tg) : kitB (tyT t) "tuple" = some (inT "tuple" t) := by cases t <;> decide +kernel
theorem kitT_str (t : Tg) : kitB (tyT t) "str" = some (inT "str" t) := by cases t <;> decide +kernel
theorem kitT_bl (t : Tg) : kitB (tyT t) "bool" = some (inT "bool" t) := by cases t <;> decide +kernel
theorem kitT_in (t : Tg) : kitB (tyT t) "int" = some (inT "int" t) := by cases t <;> decide +kernel
theorem kitT_dct (t : Tg) : kitB (tyT t) "dict" = some (inT "dict" t) := by cases t <;> decide +kernel
theorem inT_tup (d : D) : inT "tuple" (tg d) = isTup d := by cases d <;> rfl
theorem inT_str (d : D) : inT "str" (tg d) = isStr d := by cases d <;> rfl
theorem inT_bl (d : D) : inT "bool" (tg d) = isBl d := by cases d <;> rfl
theorem inT_in (d : D) : inT "int" (tg d) = isIn d := by cases d <;> rfl
theorem inT_dct (d : D) : inT "dict" (tg d) = isDct d := by cases d <;> rfl
theorem kit_tup (d : D) : kitB (tyD d) "tuple" = some (isTup d) := by rw [ty_eq, kitT_tup, inT_tup]
theorem kit_str (d : D) : kitB (tyD d) "str" = some (isStr d) := by rw [ty_eq, kitT_str, inT_str]
theorem kit_bl (d : D) : kitB (tyD d) "bool" = some (isBl d) := by rw [ty_eq, kitT_bl, inT_bl]
theorem kit_in (d : D) : kitB (tyD d) "int" = some (isIn d) := by rw [ty_eq, kitT_in, inT_in]
theorem kit_dct (d : D) : kitB (tyD d) "dict" = some (isDct d) := by rw [ty_eq, kitT_dct, inT_dct]
section
variable {K : PySem.W.Frag} {H : Hp} {σ : L2.St} {d : D} {v : V} {ta : TE} {n : String} {b : Bool}
theorem ev_isi (hd : Rp K H d v) (ha : Ev ta σ H v) (hk : kitB (tyD d) n = some b) : Ev (tCB (rIsi K) (tCons ta (tCons (tC (.ty n)) tNil))) σ H (.bl b) :=
  ev_cb (ea_cons ha (ea_cons ev_c ea_nil)) fun H1 e Q q => ⟨v, .ty n, _, _, b, rfl, .ty n, (hd.mono e).ty, kit_ty hk, q H1 (Ex.refl _)⟩
end
end K4
/-! What evaluates to something with a property; walks; comprehensions; tests; the facts of the top; calls. -/
namespace K4
open PySem L2 Evl PySem.Spec PyProof.Rows
section
variable {K : PySem.W.Frag} {σ : L2.St} {H H' : Hp} {ta tb tc te tx : TE} {t u : TT} {x y z v : V} {r r' : R2} {b : Bool}

/-- it evaluates to a value of which P holds -/
def EvP (te : TE) (σ : L2.St) (H : Hp) (P : Hp → V → Prop) : Prop := ∀ H1, Ex H H1 → ∀ Q : VK, (∀ v H2, Ex H1 H2 → P H2 v → Q v H2) → te σ H1 Q
/-- it makes a new list of which P holds -/
def EvLP (te : TE) (σ : L2.St) (H : Hp) (P : Hp → List V → Prop) : Prop := ∀ H1, Ex H H1 → ∀ Q : VK, (∀ p xs H2, H1 p = none → Ex H1 H2 → H2 p = some (.lst xs) → P H2 xs → Q (.ref p) H2) → te σ H1 Q
def EvAP (ta : TA) (σ : L2.St) (H : Hp) (P : Hp → List V → Prop) : Prop := ∀ H1, Ex H H1 → ∀ Q : List V → Hp → Prop, (∀ vs H2, Ex H1 H2 → P H2 vs → Q vs H2) → ta σ H1 Q
theorem EvP.mono {P : Hp → V → Prop} (e : Ex H H') (h : EvP te σ H P) : EvP te σ H' P := fun H1 a Q q => h H1 (e.trans a) Q q
theorem EvP.imp {P P' : Hp → V → Prop} (h : EvP te σ H P) (k : ∀ H1 v, Ex H H1 → P H1 v → P' H1 v) : EvP te σ H P' := fun H1 a Q q => h H1 a Q fun v H2 e p => q v H2 e (k H2 v (a.trans e) p)
theorem evp (h : Ev te σ H v) {P : Hp → V → Prop} (p : ∀ H1, Ex H H1 → P H1 v) : EvP te σ H P := fun H1 a Q q => h H1 a Q fun H2 e => q v H2 e (p H2 (a.trans e))
theorem evp_d {d : D} (h : Ev te σ H v) (p : Rp K H d v) : EvP te σ H (fun H1 v => Rp K H1 d v) := evp h fun _ e => p.mono e
theorem ea_ev {ta : TA} {vs : List V} (h : EvA ta σ H vs) {P : Hp → List V → Prop} (p : ∀ H1, Ex H H1 → P H1 vs) : EvAP ta σ H P := fun H1 a Q q => h H1 a Q fun H2 e => q vs H2 e (p H2 (a.trans e))
theorem eap_nil : EvAP tNil σ H (fun H1 vs => Rps K H1 [] vs) := fun H1 _ Q q => q [] H1 (Ex.refl _) .nil
theorem eap_cons {ta : TA} {d : D} {ds : List D} (h : EvP te σ H (fun H1 v => Rp K H1 d v)) (hr : EvAP ta σ H (fun H1 vs => Rps K H1 ds vs)) : EvAP (tCons te ta) σ H (fun H1 vs => Rps K H1 (d :: ds) vs) := fun H1 e Q q =>
  h H1 e _ fun v H2 e2 p => hr H2 (e.trans e2) _ fun vs H3 e3 ps => q (v :: vs) H3 (e2.trans e3) (.cons (p.mono e3) ps)
theorem evp_tup {ta : TA} {ds : List D} (h : EvAP ta σ H (fun H1 vs => Rps K H1 ds vs)) (hl : ds.length ≤ 100000) : EvP (tTup ta) σ H (fun H1 v => Rp K H1 (.tup ds) v) := fun H1 e Q q =>
  h H1 e _ fun vs H2 e2 ps => ⟨sz_of (by rw [ps.len]; exact hl), fun p hp => q _ _ (e2.trans (Ex.new hp)) (.tup upd_same (ps.mono (Ex.new hp)))⟩
/-- behind a value of which P is known -/
theorem s_retP {P : Hp → V → Prop} {Dd : Ends} (h : EvP te σ H P) (k : ∀ v H1, Ex H H1 → P H1 v → Dd.rt v H1) : tRet te Dd σ H := h H (Ex.refl H) _ fun v H1 e p => k v H1 e p
theorem s_asgP {P : Hp → V → Prop} {Dd : Ends} {i : Nat} (h : EvP te σ H P) (k : ∀ v H1, Ex H H1 → P H1 v → Dd.nx (σ.set i (some v)) H1) : tAsg te (gName i) Dd σ H := h H (Ex.refl H) _ fun v H1 e p => k v H1 e p
theorem q_asgP {P : Hp → V → Prop} {Dd : Ends} {tz : TS} {i : Nat} (h : EvP te σ H P) (k : ∀ v H1, Ex H H1 → P H1 v → tz Dd (σ.set i (some v)) H1) : tSeq (tAsg te (gName i)) tz Dd σ H := s_asgP (Dd := { Dd with nx := tz Dd }) h k
/-- a value of which P is known, the operation behind it -/
theorem ev_opP {P : Hp → V → Prop} (ha : EvP ta σ H P) (hb : ∀ H1, Ex H H1 → Ev tb σ H1 y) (hr : ∀ v H1, Ex H H1 → P H1 v → RV r v y H1 z) (mono : ∀ v H1 H2, Ex H1 H2 → P H1 v → P H2 v) : Ev (tOp r ta tb) σ H z := fun H1 e Q q =>
  ha H1 e _ fun v H2 e2 p => hb H2 (e.trans e2) H2 (Ex.refl _) _ fun H3 e3 => hr v H3 ((e.trans e2).trans e3) (mono _ _ _ e3 p) H3 (Ex.refl _) Q fun H4 e4 => q H4 ((e2.trans e3).trans e4)

/-! ### tests -/
theorem et_chain {k k2 : Bool} (ha : Ev ta σ H x) (hb : Ev tb σ H y) (h1 : RV r x y H (.bl k)) (hc : k = true → Ev tc σ H z) (h2 : k = true → RV r' y z H (.bl k2)) : EvT (tTest (tChain r r' ta tb tc)) σ H (k && k2) := fun H1 e Q q =>
  ha H1 e _ fun H2 e2 => hb H2 (e.trans e2) _ fun H3 e3 => h1 H3 ((e.trans e2).trans e3) _ fun H4 e4 => ⟨k, rfl, by
    cases k with
    | true =>
      refine iteT ?_
      refine hc rfl H4 (((e.trans e2).trans e3).trans e4) _ fun H5 e5 => h2 rfl H5 ((((e.trans e2).trans e3).trans e4).trans e5) _ fun H6 e6 => ⟨k2, rfl, ?_⟩
      exact q H6 ((((e2.trans e3).trans e4).trans e5).trans e6)
    | false =>
      refine iteF ⟨false, rfl, ?_⟩
      exact q H4 ((e2.trans e3).trans e4)⟩
/-- a test of a value of which P is known -/
theorem et_testP {P : Hp → V → Prop} (h : EvP te σ H P) (k : ∀ v H1, P H1 v → v = .bl b) : EvT (tTest te) σ H b := fun H1 e _ q => h H1 e _ fun v H2 e2 p => ⟨b, k v H2 p, q H2 e2⟩
def rLe : R2 := rI0 fun i j => .bl (decide (i ≤ j))
def rLt : R2 := rI0 fun i j => .bl (decide (i < j))
theorem op_le2 {X : Cx} : OpR X (compareOp .LtE) rLe := op_le
theorem op_lt2 {X : Cx} : OpR X (compareOp .Lt) rLt := op_lt
theorem rv_le {i j : Int} : RV rLe (.int i) (.int j) H (.bl (decide (i ≤ j))) := rv_I0
theorem rv_lt {i j : Int} : RV rLt (.int i) (.int j) H (.bl (decide (i < j))) := rv_I0
theorem rv_inS {c : Nat} {w : Str} : RV rInS (.str ⟨#[c]⟩) (.str w) H (.bl (decide (c ∈ w.cps.toList))) := fun H1 _ _ q => ⟨c, w, rfl, rfl, q H1 (Ex.refl _)⟩
theorem rv_niS {c : Nat} {w : Str} : RV rNotInS (.str ⟨#[c]⟩) (.str w) H (.bl (!decide (c ∈ w.cps.toList))) := fun H1 _ _ q => ⟨c, w, rfl, rfl, q H1 (Ex.refl _)⟩
theorem ev_lenS {z : Str} (ha : Ev ta σ H (.str z)) (hz : z.length ≤ 100000) : Ev (tCB (fun xs H Q => ∃ z : Str, xs = [.str z] ∧ z.length ≤ sizeLine ∧ Q (.int z.length) H) (tCons ta tNil)) σ H (.int z.length) := fun H1 e Q q =>
  ha H1 e _ fun H2 e2 => ⟨z, rfl, sz_of hz, q H2 e2⟩
/-- len of a tracked tuple, list -/
def rLenQ (K : PySem.W.Frag) : List V → Hp → VK → Prop := fun xs H Q => ∃ p ys, xs = [.ref p] ∧ (SqL K H p ys ∨ SqT K H p ys) ∧ Q (.int ys.length) H
theorem call_lenQ {X : Cx} : CallR X (.builtin "len") (rLenQ X.K) := call_len_seq
theorem ev_lenT {p : Addr} {xs : List V} (ha : Ev ta σ H (.ref p)) (h : SqT K H p xs) : Ev (tCB (rLenQ K) (tCons ta tNil)) σ H (.int (xs.length : Int)) := fun H1 e Q q =>
  ha H1 e _ fun H2 e2 => ⟨p, xs, rfl, Or.inr (ex_t (e.trans e2) h), q H2 e2⟩
theorem ev_allB {bs : List Bool} (ha : EvL ta σ H (bs.map V.bl)) : Ev (tCB (rAll K) (tCons ta tNil)) σ H (.bl (bs.all id)) := fun H1 e Q q =>
  ha H1 e _ fun p H2 _ e2 hp => ⟨p, bs, rfl, sq_of hp, q H2 e2⟩
theorem ev_anyB {bs : List Bool} (ha : EvL ta σ H (bs.map V.bl)) : Ev (tCB (rAny K) (tCons ta tNil)) σ H (.bl (bs.any id)) := fun H1 e Q q =>
  ha H1 e _ fun p H2 _ e2 hp => ⟨p, bs, rfl, sq_of hp, q H2 e2⟩

/-! ### walks -/
/-- what is walked: n turns, the i-th gives an x with P i -/
def Wk (wi : TI) (σ : L2.St) (H : Hp) (n : Nat) (P : Nat → Hp → V → Prop) : Prop :=
  ∀ H1, Ex H H1 → ∀ R : It → Hp → Prop, (∀ (J : It) (G : Hp → Prop) (Y : Nat → Hp → V → Hp → Prop) (H2 : Hp), Ex H1 H2 → Walk J n G Y → (∀ H3, Ex H2 H3 → G H3) → (∀ i H3 x H4, i < n → Ex H2 H3 → Y i H3 x H4 → Ex H3 H4 ∧ P i H4 x) → R J H2) → wi σ H1 R
theorem wk_tup {tl : TE} {ds : List D} {a : Addr} {vs : List V} (h : Ev tl σ H (.ref a)) (ha : H a = some (.tup vs)) (r : Rps K H ds vs) : Wk (iTup K tl) σ H ds.length (fun i H1 x => ∃ d, ds[i]? = some d ∧ Rp K H1 d x) := fun H1 e R k =>
  h H1 e _ fun H2 e2 => ⟨a, rfl, ⟨vs, st_of (e2 _ _ (e _ _ ha))⟩, by
    have w : Walk (Itt K a) vs.length (fun H => SqT K H a vs) (YAt vs) := walk_tup
    rw [r.len] at w
    refine k _ _ _ H2 e2 w (fun H3 e3 => st_of (e3 _ _ (e2 _ _ (e _ _ ha)))) fun i H3 x H4 hi e3 y => ?_
    obtain ⟨e4, hx⟩ := y
    subst e4
    obtain ⟨d, h1, h2⟩ := r.at_ hx
    exact ⟨Ex.refl _, d, h1, h2.mono ((e.trans e2).trans e3)⟩⟩
theorem wk_str {tl : TE} {z : Str} (h : Ev tl σ H (.str z)) : Wk (iStr tl) σ H z.cps.size (fun i _ x => ∃ c, z.cps[i]? = some c ∧ x = .str ⟨#[c]⟩) := fun H1 e R k =>
  h H1 e _ fun H2 e2 => ⟨z, rfl, k _ _ _ H2 e2 walk_str (fun _ _ => trivial) fun i H3 x H4 hi e3 y => by
    obtain ⟨e4, hx⟩ := y
    subst e4
    exact ⟨Ex.refl _, hx⟩⟩
theorem wk_lst {tl : TE} {a : Addr} {xs : List V} (h : Ev tl σ H (.ref a)) (ha : H a = some (.lst xs)) : Wk (iList K tl) σ H xs.length (fun i _ x => xs[i]? = some x) := fun H1 e R k =>
  h H1 e _ fun H2 e2 => ⟨a, rfl, ⟨xs, sq_of (e2 _ _ (e _ _ ha))⟩, k _ _ _ H2 e2 walk_list (fun H3 e3 => sq_of (e3 _ _ (e2 _ _ (e _ _ ha)))) fun i H3 x H4 hi e3 y => by
    obtain ⟨e4, hx⟩ := y
    subst e4
    exact ⟨Ex.refl _, hx⟩⟩
/-- over a new list -/
theorem wk_new {tl : TE} {Pl : Hp → List V → Prop} {n : Nat} {P : Nat → Hp → V → Prop} (h : EvLP tl σ H Pl) (hn : ∀ H1 xs, Ex H H1 → Pl H1 xs → xs.length = n ∧ ∀ i x H2, Ex H1 H2 → xs[i]? = some x → P i H2 x) : Wk (iList K tl) σ H n P := fun H1 e R k =>
  h H1 e _ fun p xs H2 hp e2 hl pl => ⟨p, rfl, ⟨xs, sq_of hl⟩, by
    obtain ⟨h1, h2⟩ := hn H2 xs (e.trans e2) pl
    have w : Walk (Itl K p) xs.length (fun H => SqL K H p xs) (YAt xs) := walk_list
    rw [h1] at w
    refine k _ _ _ H2 e2 w (fun H3 e3 => sq_of (e3 _ _ hl)) fun i H3 x H4 hi e3 y => ?_
    obtain ⟨e4, hx⟩ := y
    subst e4
    exact ⟨Ex.refl _, h2 i x _ e3 hx⟩⟩

/-! ### comprehensions -/
/-- the indexes below i that are kept -/
def kept (F : Nat → Bool) (i : Nat) : List Nat := (List.range i).filter F
theorem kept_yes {F : Nat → Bool} {i : Nat} (h : F i = true) : kept F (i + 1) = kept F i ++ [i] := by simp [kept, List.range_succ, List.filter_append, h]
theorem kept_no {F : Nat → Bool} {i : Nat} (h : F i = false) : kept F (i + 1) = kept F i := by simp [kept, List.range_succ, List.filter_append, h]
theorem kept_len (F : Nat → Bool) (i : Nat) : (kept F i).length ≤ i := by
  have := List.length_filter_le F (List.range i)
  simpa [kept] using this
theorem kept_all {n : Nat} : kept (fun _ => true) n = List.range n := by simp [kept]
theorem Paired_snoc {α β : Type} {R : α → β → Prop} : ∀ {l : List α} {m : List β} {a : α} {b : β}, Paired R l m → R a b → Paired R (l ++ [a]) (m ++ [b])
  | _, _, _, _, .nil, r => .cons r .nil
  | _, _, _, _, .cons q t, r => .cons q (Paired_snoc t r)
/-- the comprehension's state behind i turns -/
def Cq (H : Hp) (F : Nat → Bool) (R : Nat → Hp → V → Prop) (Dl : Addr) (i : Nat) (H' : Hp) : Prop := H Dl = none ∧ Ex H H' ∧ ∃ ys, H' Dl = some (.lst ys) ∧ Paired (fun i y => R i H' y) (kept F i) ys
theorem el_lc {wi : TI} {g : TG} {tt : TT} {vs : List Nat} {n : Nat} {P : Nat → Hp → V → Prop} (F : Nat → Bool) (R : Nat → Hp → V → Prop) (W : Wk wi σ H n P) (hn : n ≤ 40000)
    (mono : ∀ i H1 H2 y, Ew H1 H2 → R i H1 y → R i H2 y)
    (turn : ∀ i x H1, i < n → Ex H H1 → P i H1 x → ∀ Z : L2.St → Hp → Prop, (∀ σ2 H2, Ex H1 H2 → wipe σ2 vs = wipe σ vs → EvT tt σ2 H2 (F i) → (F i = true → EvP te σ2 H2 (R i)) → Z σ2 H2) → g x (wipe σ vs) H1 Z) :
    EvLP (tLc wi g tt te vs) σ H (fun H2 ys => Paired (fun i y => R i H2 y) (kept F n) ys) := fun H0 e0 Q q =>
  W H0 e0 _ fun J G Y H1 e1 w hG hY D hD => by
    refine lc_it w (Cq H1 F R D) ⟨hD, Ex.new hD, [], upd_same, .nil⟩ (fun i H' _ p => hG H' p.2.1) (fun i x H' H2 hi p y => ?_) (fun H' p => ?_)
    · obtain ⟨p1, p2, ys, p3, p4⟩ := p
      obtain ⟨e2, px⟩ := hY i H' x H2 hi p2 y
      refine turn i x H2 hi ((e0.trans e1).trans (p2.trans e2)) px _ fun σ2 H3 e3 hw ht he => ⟨hw, ht H3 (Ex.refl _) _ fun H4 e4 => ?_⟩
      have p5 : Paired (fun i y => R i H4 y) (kept F i) ys := L2.Paired.mapP p4 fun a b r => mono _ _ _ _ (Ew.of ((e2.trans e3).trans e4)) r
      have e24 : Ex H' H4 := (e2.trans e3).trans e4
      cases hf : F i with
      | true =>
        refine iteT ?_
        refine he hf H4 e4 _ fun y H5 e5 r => ⟨ys, e5 _ _ (e24 _ _ p3), sz_lt (by have := p4.length; have := kept_len F i; omega), p1, Ex.mut ((p2.trans e24).trans e5) p1, ys ++ [y], upd_same, ?_⟩
        rw [kept_yes hf]
        have e6 : Ew H5 (upd H5 D (.lst (ys ++ [y]))) := Ew.lst (e5 _ _ (e24 _ _ p3))
        exact Paired_snoc (L2.Paired.mapP p5 fun a b q => mono _ _ _ _ (Ew.of e5 |>.trans e6) q) (mono _ _ _ _ e6 r)
      | false =>
        refine iteF ⟨p1, p2.trans e24, ys, e24 _ _ p3, ?_⟩
        rw [kept_no hf]
        exact p5
    · obtain ⟨p1, p2, ys, p3, p4⟩ := p
      exact q D ys H' (fresh_back e1 p1) (e1.trans p2) p3 p4
end

/-! ### bools: a comprehension whose items are tests of data -/
theorem given_bools {n : Nat} {H2 : Hp} {f : Nat → Bool} {ys : List V} (h : Paired (fun i y => y = V.bl (f i)) (List.range n) ys) : ys = ((List.range n).map f).map V.bl := by
  have : ∀ {l : List Nat} {ys : List V}, Paired (fun i y => y = V.bl (f i)) l ys → ys = (l.map f).map V.bl := by
    intro l
    induction l with
    | nil => intro ys h; cases h; rfl
    | cons a l ih => intro ys h; cases h with | cons h1 h2 => rw [h1, ih h2]; rfl
  exact this h
section
variable {K : PySem.W.Frag} {σ : L2.St} {H : Hp} {te : TE}
/-- [te for x in ..], all kept, each a bool -/
theorem el_lcB {wi : TI} {j : Nat} {vs : List Nat} {n : Nat} {P : Nat → Hp → V → Prop} (f : Nat → Bool) (W : Wk wi σ H n P) (hn : n ≤ 40000) (hw : ∀ x, wipe ((wipe σ vs).set j (some x)) vs = wipe σ vs)
    (he : ∀ i x H1, i < n → Ex H H1 → P i H1 x → Ev te ((wipe σ vs).set j (some x)) H1 (.bl (f i))) : EvL (tLc wi (gName j) tYes te vs) σ H (((List.range n).map f).map V.bl) := fun H0 e0 Q q =>
  el_lc (fun _ => true) (fun i _ y => y = .bl (f i)) W hn (fun _ _ _ _ _ r => r)
    (fun i x H1 hi e px Z k => k _ H1 (Ex.refl _) (hw x) (fun H2 e2 Q q => q H2 (Ex.refl _)) fun _ => evp (he i x H1 hi e px) fun _ _ => rfl) H0 e0 Q fun p xs H2 hp e2 hl pl => by
      rw [kept_all] at pl
      rw [given_bools (H2 := H2) pl] at hl
      exact q p H2 hp e2 hl
theorem all_range_list {ds : List D} {f : D → Bool} {g : Nat → Bool} (h : ∀ i d, ds[i]? = some d → g i = f d) : ((List.range ds.length).map g).all id = ds.all f := by
  have e : (List.range ds.length).map g = ds.map f := by
    apply List.ext_getElem?
    intro i
    by_cases hi : i < ds.length
    · simp [hi, h i ds[i] (by simp [hi])]
    · simp [hi]
  rw [e, List.all_map]
  rfl
end
/-! ### the names of the top -/
structure Bl (mg : Str → Option Value) : Prop where
  isinstance : mg "isinstance" = none
  int : mg "int" = none
  bool : mg "bool" = none
  str : mg "str" = none
  tuple : mg "tuple" = none
  dict : mg "dict" = none
  list : mg "list" = none
  len : mg "len" = none
  all : mg "all" = none
  any : mg "any" = none
  sorted : mg "sorted" = none
  enumerate : mg "enumerate" = none
  zip : mg "zip" = none
  set : mg "set" = none
  range : mg "range" = none
  max : mg "max" = none
  repr : mg "repr" = none
/-- a def that keeps a promise, by its name -/
structure Okd (P : Program) (w : World) (K : PySem.W.Frag) (mg : Str → Option Value) (base : Heap) (CX : CXT) (k : Nat) (nm : Str) (ps : List Str) (sp : Sp) : Prop where
  ex : ∃ f fd, mg nm = some (.ref f) ∧ PySem.W.keepIn K (.ref f) = true ∧ Binds K fd ps [] ∧ FnOk P w K mg base CX k f fd ps sp
/-- a def of the text, by its name -/
structure Df (K : PySem.W.Frag) (mg : Str → Option Value) (nm : Str) (st : Stmt) (ps : List Str) : Prop where
  ex : ∃ f fd, mg nm = some (.ref f) ∧ Binds K fd ps [] ∧ Fun K nm nm st f fd
section
variable {P : Program} {w : World} {K : PySem.W.Frag} {mg : Str → Option Value} {base : Heap}
theorem Okd.mono {CX : CXT} {j k : Nat} {nm : Str} {ps : List Str} {sp : Sp} (h : Okd P w K mg base CX j nm ps sp) (hk : j ≤ k) : Okd P w K mg base CX k nm ps sp := by
  obtain ⟨f, fd, a, b, c, d⟩ := h.ex
  exact ⟨f, fd, a, b, c, d.mono hk⟩
/-- THE RULE: the body of a def of the text -/
theorem Df.ok {nm : Str} {st : Stmt} {N ps : List Str} {k : Nat} {sp : Sp} (F : Df K mg nm st ps) (S : FnScope N ps (defScope st)) (len : ∀ vs H Q E, sp vs H Q E → vs.length = ps.length)
    (hbody : ∀ (f : Addr) (cdv : Value) (A : Around) (outer : List Env) (s : Shared) (H : Hp) (vs : List V) (Q : VK) (E : XK), Room k (A.deeper (envOfC nm (defScope st) s.heap.objs.size f cdv)) → sp vs H Q E →
      ∃ t, PSs (cxOf CX0 P w K mg base N nm (defScope st) f cdv A outer s H E).nox (defBody st) t ∧ t { nx := fun _ H' => Q .non H', rt := Q } (start N vs) H) : Okd P w K mg base CX0 (k + 1) nm ps sp := by
  obtain ⟨f, fd, h1, h2, h3⟩ := F.ex
  exact ⟨f, fd, h1, h3.kp, h2, h3.ok S len (hbody f)⟩
end
/-- the promises' shape: data in, a bool out -/
def spB1 (K : PySem.W.Frag) (ok : D → Prop) (f : D → Bool) : Sp := fun vs H Q _ => ∃ d v, vs = [v] ∧ Rp K H d v ∧ ok d ∧ RetV (.bl (f d)) H Q
theorem spB1_len {K : PySem.W.Frag} {ok : D → Prop} {f : D → Bool} {vs : List V} {H : Hp} {Q : VK} {E : XK} (h : spB1 K ok f vs H Q E) : vs.length = 1 := by
  obtain ⟨d, v, rfl, _⟩ := h
  rfl
theorem spB1_v {K : PySem.W.Frag} {ok : D → Prop} {f : D → Bool} {H : Hp} {d : D} {v : V} (r : Rp K H d v) (h : ok d) : SpV (spB1 K ok f) ([v] ++ []) H (.bl (f d)) := fun H1 e Q q _ => ⟨d, v, rfl, r.mono e, h, fun H2 e2 => q H2 e2⟩
end K4
namespace K4
abbrev P := Int × Int
def at_ (l : List P) (i : Nat) : P := l.getD i (0, 0)
def swp (l : List P) (i j : Nat) : List P := (l.set i (at_ l j)).set j (at_ l i)
theorem swp_len (l : List P) (i j : Nat) : (swp l i j).length = l.length := by simp [swp]
theorem at_swp {l : List P} {i j : Nat} (hi : i < l.length) (hj : j < l.length) (k : Nat) : at_ (swp l i j) k = if k = j then at_ l i else if k = i then at_ l j else at_ l k := by
  unfold swp at_
  simp only [List.getD_eq_getElem?_getD, List.getElem?_set, List.length_set]
  by_cases h1 : k = j
  · subst h1; simp [hj]
  · by_cases h2 : k = i
    · subst h2
      rw [if_neg (fun e => h1 e.symm), if_neg h1, if_pos rfl, if_pos rfl, if_pos hi]; rfl
    · rw [if_neg (fun e => h1 e.symm), if_neg h1, if_neg (fun e => h2 e.symm), if_neg h2]
theorem at_get {l : List P} {i : Nat} (h : i < l.length) : at_ l i = l[i] := by simp [at_, h]
theorem swp_perm {l : List P} {i j : Nat} (hi : i < l.length) (hj : j < l.length) : (swp l i j).Perm l := by
  unfold swp
  rw [at_get hi, at_get hj]
  exact List.set_set_perm hi hj
def rise (low : Nat) (k : Nat) (l : List P) : List P :=
  if low < k then
    if (at_ l k).1 < (at_ l ((k - 1) / 2)).1 then rise low ((k - 1) / 2) (swp l k ((k - 1) / 2)) else l
  else l
termination_by k
decreasing_by omega
def child (l : List P) (k : Nat) : Nat := if 2 * k + 2 < l.length ∧ ¬ ((at_ l (2 * k + 1)).1 < (at_ l (2 * k + 2)).1) then 2 * k + 2 else 2 * k + 1
theorem child_or (l : List P) (k : Nat) : child l k = 2 * k + 1 ∨ child l k = 2 * k + 2 := by unfold child; split <;> simp
theorem child_lt {l : List P} {k : Nat} (h : 2 * k + 1 < l.length) : child l k < l.length := by
  unfold child
  split
  · rename_i h; exact h.1
  · exact h
def down (k : Nat) (l : List P) : Nat × List P :=
  if 2 * k + 1 < l.length then down (child l k) (swp l k (child l k)) else (k, l)
termination_by l.length - k
decreasing_by
  rename_i h
  rw [swp_len]
  have := child_or l k
  omega
def sink (k : Nat) (l : List P) : List P := rise k (down k l).1 (down k l).2
def push (l : List P) (e : P) : List P := rise 0 l.length (l ++ [e])
def pop (l : List P) : P × List P := if l.length ≤ 1 then (at_ l 0, []) else (at_ l 0, sink 0 ((l.dropLast).set 0 (at_ l (l.length - 1))))
def mk : Nat → List P → List P
  | 0, l => l
  | k + 1, l => mk k (sink k l)
def heapify (l : List P) : List P := mk (l.length / 2) l
def ripe (now : Int) : Nat → List P → List P × List P
  | 0, l => ([], l)
  | n + 1, l => if l.length = 0 ∨ now < (at_ l 0).1 then ([], l) else ((pop l).1 :: (ripe now n (pop l).2).1, (ripe now n (pop l).2).2)
def out : Nat → List P → List P
  | 0, _ => []
  | n + 1, l => (pop l).1 :: out n (pop l).2
/-! ### lengths, permutations -/
theorem rise_perm (low : Nat) : ∀ (k : Nat) (l : List P), k < l.length → (rise low k l).Perm l := by
  intro k
  induction k using Nat.strongRecOn with
  | ind k ih =>
    intro l hk
    unfold rise
    split
    · split
      · refine (ih _ (by omega) _ (by rw [swp_len]; omega)).trans (swp_perm hk (by omega))
      · exact .refl _
    · exact .refl _
theorem rise_len (low k : Nat) (l : List P) (h : k < l.length) : (rise low k l).length = l.length := (rise_perm low k l h).length_eq
theorem down_spec : ∀ (n k : Nat) (l : List P), l.length - k ≤ n → k < l.length → (down k l).2.Perm l ∧ (down k l).1 < l.length ∧ k ≤ (down k l).1
  | 0, k, l, hn, hk => by omega
  | n + 1, k, l, hn, hk => by
    unfold down
    split
    · rename_i h
      have hc := child_lt h
      have hco := child_or l k
      obtain ⟨h1, h2, h3⟩ := down_spec n (child l k) (swp l k (child l k)) (by rw [swp_len]; omega) (by rw [swp_len]; exact hc)
      rw [swp_len] at h2
      exact ⟨h1.trans (swp_perm hk hc), h2, by omega⟩
    · exact ⟨.refl _, hk, Nat.le_refl _⟩
theorem sink_perm {k : Nat} {l : List P} (h : k < l.length) : (sink k l).Perm l := by
  obtain ⟨h1, h2, _⟩ := down_spec (l.length - k) k l (Nat.le_refl _) h
  exact (rise_perm _ _ _ (by rw [h1.length_eq]; exact h2)).trans h1
theorem sink_len {k : Nat} {l : List P} (h : k < l.length) : (sink k l).length = l.length := (sink_perm h).length_eq
/-! ### heaps -/
/-- the entries whose parents are at low or behind are not below them -/
def Hf (low : Nat) (l : List P) : Prop := ∀ k, 0 < k → k < l.length → low ≤ (k - 1) / 2 → (at_ l ((k - 1) / 2)).1 ≤ (at_ l k).1
inductive Dsc (low : Nat) : Nat → Prop
  | refl : Dsc low low
  | left {p : Nat} : Dsc low p → Dsc low (2 * p + 1)
  | right {p : Nat} : Dsc low p → Dsc low (2 * p + 2)
theorem Dsc.le {low k : Nat} (h : Dsc low k) : low ≤ k := by induction h <;> omega
theorem Dsc.up {low k : Nat} (h : Dsc low k) (hk : low < k) : Dsc low ((k - 1) / 2) := by
  cases h with
  | refl => omega
  | @left p h => have : (2 * p + 1 - 1) / 2 = p := by omega
                 rw [this]; exact h
  | @right p h => have : (2 * p + 2 - 1) / 2 = p := by omega
                  rw [this]; exact h
/-- all is well but that the entry at k may be below its parent -/
def Rr (low k : Nat) (l : List P) : Prop := (∀ j, 0 < j → j < l.length → low ≤ (j - 1) / 2 → j ≠ k → (at_ l ((j - 1) / 2)).1 ≤ (at_ l j).1) ∧
  (∀ j, 0 < j → j < l.length → (j - 1) / 2 = k → low < k → (at_ l ((k - 1) / 2)).1 ≤ (at_ l j).1)
theorem rise_heap (low : Nat) : ∀ (k : Nat) (l : List P), k < l.length → Dsc low k → Rr low k l → Hf low (rise low k l) := by
  intro k
  induction k using Nat.strongRecOn with
  | ind k ih =>
    intro l hk hd hr
    unfold rise
    split
    · rename_i h0
      have hp := hd.up h0
      have hple := hp.le
      generalize hpe : (k - 1) / 2 = p at *
      have hpk : p < k := by omega
      split
      · rename_i hlt
        refine ih p hpk _ (by rw [swp_len]; omega) hp ⟨fun j h1 h2 h3 h4 => ?_, fun j h1 h2 h3 h4 => ?_⟩
        · rw [swp_len] at h2
          rw [at_swp hk (by omega), at_swp hk (by omega)]
          by_cases e1 : j = k
          · subst e1
            rw [hpe, if_pos rfl, if_neg (by omega), if_pos rfl]
            omega
          · rw [if_neg h4, if_neg e1]
            by_cases e2 : (j - 1) / 2 = p
            · rw [if_pos e2]
              have := hr.1 j h1 h2 h3 e1
              rw [e2] at this
              omega
            · rw [if_neg e2]
              by_cases e3 : (j - 1) / 2 = k
              · rw [if_pos e3]
                have := hr.2 j h1 h2 e3 h0
                rw [hpe] at this
                exact this
              · rw [if_neg e3]
                exact hr.1 j h1 h2 h3 e1
        · rw [swp_len] at h2
          have hpp : (p - 1) / 2 < p := by omega
          have hq : low ≤ (p - 1) / 2 := (hp.up h4).le
          rw [at_swp hk (by omega), at_swp hk (by omega), if_neg (by omega), if_neg (by omega)]
          have h5 := hr.1 p (by omega) (by omega) hq (by omega)
          by_cases e1 : j = k
          · subst e1
            rw [if_neg (by omega), if_pos rfl]
            exact h5
          · rw [if_neg (by omega), if_neg e1]
            have := hr.1 j h1 h2 (by omega) e1
            rw [h3] at this
            omega
      · rename_i hge
        intro j h1 h2 h3
        by_cases e1 : j = k
        · subst e1
          rw [hpe]
          omega
        · exact hr.1 j h1 h2 h3 e1
    · rename_i h0
      have : k = low := by have := hd.le; omega
      intro j h1 h2 h3
      exact hr.1 j h1 h2 h3 (by omega)
/-- all is well but for the entry at k -/
def Dw (low k : Nat) (l : List P) : Prop := (∀ j, 0 < j → j < l.length → low ≤ (j - 1) / 2 → j ≠ k → (j - 1) / 2 ≠ k → (at_ l ((j - 1) / 2)).1 ≤ (at_ l j).1) ∧
  (∀ j, 0 < j → j < l.length → (j - 1) / 2 = k → low < k → (at_ l ((k - 1) / 2)).1 ≤ (at_ l j).1)
theorem down_heap (low : Nat) : ∀ (n k : Nat) (l : List P), l.length - k ≤ n → k < l.length → Dsc low k → Dw low k l → Dsc low (down k l).1 ∧ Rr low (down k l).1 (down k l).2
  | 0, k, l, hn, hk, _, _ => by omega
  | n + 1, k, l, hn, hk, hd, hw => by
    unfold down
    split
    · rename_i h
      have hc := child_lt h
      have hco := child_or l k
      have hcd : Dsc low (child l k) := by
        rcases hco with e | e <;> rw [e]
        · exact .left hd
        · exact .right hd
      have hmin : ∀ j, 0 < j → j < l.length → (j - 1) / 2 = k → (at_ l (child l k)).1 ≤ (at_ l j).1 := by
        intro j h1 h2 h3
        have : j = 2 * k + 1 ∨ j = 2 * k + 2 := by omega
        unfold child
        split
        · rename_i h4
          rcases this with e | e <;> subst e <;> omega
        · rename_i h4
          rcases this with e | e
          · subst e; omega
          · subst e
            have : (at_ l (2 * k + 1)).1 < (at_ l (2 * k + 2)).1 := Classical.byContradiction fun z => h4 ⟨h2, z⟩
            omega
      generalize hce : child l k = c at *
      have hcp : (c - 1) / 2 = k := by omega
      have hle := hd.le
      refine down_heap low n c _ (by rw [swp_len]; omega) (by rw [swp_len]; exact hc) hcd ⟨fun j h1 h2 h3 h4 h5 => ?_, fun j h1 h2 h3 h4 => ?_⟩
      · rw [swp_len] at h2
        rw [at_swp hk hc, at_swp hk hc, if_neg h5, if_neg h4]
        by_cases e1 : j = k
        · subst e1
          rw [if_neg (by omega), if_pos rfl]
          exact hw.2 c (by omega) hc hcp (by omega)
        · rw [if_neg e1]
          by_cases e2 : (j - 1) / 2 = k
          · rw [if_pos e2]
            exact hmin j h1 h2 e2
          · rw [if_neg e2]
            exact hw.1 j h1 h2 h3 e1 e2
      · rw [swp_len] at h2
        rw [at_swp hk hc, at_swp hk hc, hcp, if_neg (by omega), if_pos rfl, if_neg (by omega), if_neg (by omega)]
        have := hw.1 j h1 h2 (by omega) (by omega) (by omega)
        rw [h3] at this
        exact this
    · rename_i h
      exact ⟨hd, fun j h1 (h2 : j < l.length) h3 h4 => hw.1 j h1 h2 h3 h4 (by omega), fun j h1 (h2 : j < l.length) (h3 : (j - 1) / 2 = k) _ => by omega⟩
theorem sink_heap {i : Nat} {l : List P} (hi : i < l.length) (h : ∀ k, 0 < k → k < l.length → i < (k - 1) / 2 → (at_ l ((k - 1) / 2)).1 ≤ (at_ l k).1) : Hf i (sink i l) := by
  obtain ⟨h1, h2⟩ := down_heap i (l.length - i) i l (Nat.le_refl _) hi .refl ⟨fun j a b c d e => h j a b (by omega), fun j _ _ _ z => by omega⟩
  obtain ⟨h3, h4, _⟩ := down_spec (l.length - i) i l (Nat.le_refl _) hi
  exact rise_heap i _ _ (by rw [h3.length_eq]; exact h4) h1 h2
theorem push_perm (l : List P) (e : P) : (push l e).Perm (e :: l) := by
  unfold push
  refine (rise_perm 0 _ _ (by simp)).trans ?_
  exact List.perm_append_singleton e l
theorem push_len (l : List P) (e : P) : (push l e).length = l.length + 1 := (push_perm l e).length_eq
theorem dsc0 : ∀ (n k : Nat), k ≤ n → Dsc 0 k
  | 0, k, h => by have : k = 0 := by omega
                  subst this; exact .refl
  | n + 1, k, h => by
    by_cases e : k = 0
    · subst e; exact .refl
    · have ih := dsc0 n ((k - 1) / 2) (by omega)
      have : k = 2 * ((k - 1) / 2) + 1 ∨ k = 2 * ((k - 1) / 2) + 2 := by omega
      rcases this with e | e <;> rw [e]
      · exact .left ih
      · exact .right ih
theorem at_app {l : List P} {e : P} {k : Nat} (h : k < l.length) : at_ (l ++ [e]) k = at_ l k := by
  unfold at_
  simp [List.getD_eq_getElem?_getD, List.getElem?_append, h]
theorem push_heap {l : List P} {e : P} (h : Hf 0 l) : Hf 0 (push l e) := by
  unfold push
  refine rise_heap 0 _ _ (by simp) (dsc0 _ _ (Nat.le_refl _)) ⟨fun j h1 h2 h3 h4 => ?_, fun j h1 h2 h3 _ => ?_⟩
  · rw [List.length_append, List.length_singleton] at h2
    rw [at_app (by omega), at_app (by omega)]
    exact h j h1 (by omega) h3
  · rw [List.length_append, List.length_singleton] at h2
    omega
theorem at_set0 {l : List P} {e : P} {k : Nat} (h : 0 < k) : at_ (l.set 0 e) k = at_ l k := by
  unfold at_
  simp only [List.getD_eq_getElem?_getD, List.getElem?_set]
  rw [if_neg (by omega)]
theorem at_dropLast {l : List P} {k : Nat} (h : k < l.length - 1) : at_ l.dropLast k = at_ l k := by
  unfold at_
  simp only [List.getD_eq_getElem?_getD, List.getElem?_dropLast, if_pos h]
theorem pop_fst (l : List P) : (pop l).1 = at_ l 0 := by unfold pop; split <;> rfl
theorem set0_perm {a e : P} {m : List P} : ((a :: m).set 0 e).Perm (e :: m) := .refl _
theorem pop_perm {l : List P} (h : l ≠ []) : l.Perm ((pop l).1 :: (pop l).2) := by
  unfold pop
  split
  · rename_i h1
    match l, h, h1 with
    | [a], _, _ => exact .refl _
    | a :: b :: m, _, h1 => simp at h1
  · rename_i h1
    have hl : 2 ≤ l.length := by omega
    match l, hl with
    | a :: b :: m, _ =>
      have e1 : (a :: b :: m).dropLast = a :: (b :: m).dropLast := rfl
      have e2 : at_ (a :: b :: m) ((a :: b :: m).length - 1) = (b :: m).getLast (by simp) := by
        rw [at_get (by simp)]
        rw [List.getLast_eq_getElem]
        simp
      have e3 : at_ (a :: b :: m) 0 = a := rfl
      rw [e1, e2, e3]
      have hs : ((a :: (b :: m).dropLast).set 0 ((b :: m).getLast (by simp))) = (b :: m).getLast (by simp) :: (b :: m).dropLast := rfl
      rw [hs]
      refine .symm (((sink_perm (by simp)).cons a).trans (.cons a ?_))
      have := List.dropLast_concat_getLast (l := b :: m) (by simp)
      exact (List.perm_append_singleton ((b :: m).getLast (by simp)) (b :: m).dropLast).symm.trans (by rw [this])
theorem pop_len {l : List P} (h : l ≠ []) : (pop l).2.length + 1 = l.length := (pop_perm h).length_eq.symm
theorem pop_heap {l : List P} (h : Hf 0 l) : Hf 0 (pop l).2 := by
  unfold pop
  split
  · intro k _ h2 _
    simp at h2
  · rename_i h1
    refine sink_heap (by simp; omega) fun k h2 h3 h4 => ?_
    rw [List.length_set, List.length_dropLast] at h3
    rw [at_set0 (by omega), at_set0 (by omega), at_dropLast (by omega), at_dropLast (by omega)]
    exact h k h2 (by omega) (by omega)
theorem heap_min {l : List P} (h : Hf 0 l) : ∀ (n k : Nat), k ≤ n → k < l.length → (at_ l 0).1 ≤ (at_ l k).1
  | 0, k, hn, hk => by have : k = 0 := by omega
                       subst this; exact Int.le_refl _
  | n + 1, k, hn, hk => by
    by_cases e : k = 0
    · subst e; exact Int.le_refl _
    · have := heap_min h n ((k - 1) / 2) (by omega) (by omega)
      have := h k (by omega) hk (Nat.zero_le _)
      omega
theorem heap_le {l : List P} (h : Hf 0 l) {e : P} (he : e ∈ l) : (at_ l 0).1 ≤ e.1 := by
  obtain ⟨k, hk, rfl⟩ := List.getElem_of_mem he
  rw [← at_get hk]
  exact heap_min h k k (Nat.le_refl _) hk
theorem mk_perm : ∀ (k : Nat) (l : List P), k ≤ l.length → (mk k l).Perm l
  | 0, _, _ => .refl _
  | k + 1, l, h => (mk_perm k (sink k l) (by rw [sink_len (by omega)]; omega)).trans (sink_perm (by omega))
theorem heapify_perm (l : List P) : (heapify l).Perm l := mk_perm _ _ (by omega)
theorem heapify_len (l : List P) : (heapify l).length = l.length := (heapify_perm l).length_eq
theorem mk_heap : ∀ (k : Nat) (l : List P), k ≤ l.length → Hf k l → Hf 0 (mk k l)
  | 0, _, _, h => h
  | k + 1, l, hk, h => mk_heap k (sink k l) (by rw [sink_len (by omega)]; omega) (sink_heap (by omega) fun j h1 h2 h3 => h j h1 h2 (by omega))
theorem heapify_heap (l : List P) : Hf 0 (heapify l) := mk_heap _ _ (by omega) fun k h1 h2 h3 => by omega
theorem nil_heap : Hf 0 [] := fun k _ h _ => by simp at h
/-! ### what comes out -/
def Up (l : List P) : Prop := l.Pairwise fun a b => a.1 ≤ b.1
theorem pop_le {l : List P} (h : Hf 0 l) (hn : l ≠ []) {e : P} (he : e ∈ (pop l).2) : (pop l).1.1 ≤ e.1 := by
  rw [pop_fst]
  exact heap_le h ((pop_perm hn).symm.subset (List.mem_cons_of_mem _ he))
theorem out_perm : ∀ (n : Nat) (l : List P), n = l.length → (out n l).Perm l
  | 0, l, h => by have : l = [] := List.length_eq_zero_iff.mp h.symm
                  subst this; exact .refl _
  | n + 1, l, h => by
    have hn : l ≠ [] := fun z => by rw [z] at h; simp at h
    have := pop_len hn
    exact ((out_perm n (pop l).2 (by omega)).cons _).trans (pop_perm hn).symm
theorem out_up : ∀ (n : Nat) (l : List P), n = l.length → Hf 0 l → Up (out n l)
  | 0, l, h, _ => .nil
  | n + 1, l, h, hh => by
    have hn : l ≠ [] := fun z => by rw [z] at h; simp at h
    have hl := pop_len hn
    refine .cons (fun e he => ?_) (out_up n (pop l).2 (by omega) (pop_heap hh))
    exact pop_le hh hn ((out_perm n (pop l).2 (by omega)).subset he)
theorem ripe_spec (now : Int) : ∀ (n : Nat) (l : List P), l.length ≤ n → Hf 0 l → l.Perm ((ripe now n l).1 ++ (ripe now n l).2) ∧ Up (ripe now n l).1 ∧ (∀ e ∈ (ripe now n l).1, e.1 ≤ now) ∧ (∀ e ∈ (ripe now n l).2, now < e.1) ∧ Hf 0 (ripe now n l).2
  | 0, l, h, hh => by
    have : l = [] := List.length_eq_zero_iff.mp (by omega)
    subst this
    exact ⟨.refl _, .nil, fun _ z => (by cases z), fun _ z => (by cases z), hh⟩
  | n + 1, l, h, hh => by
    unfold ripe
    split
    · rename_i h1
      refine ⟨.refl _, .nil, fun _ z => (by cases z), fun e he => ?_, hh⟩
      rcases h1 with h1 | h1
      · have : l = [] := List.length_eq_zero_iff.mp h1
        subst this; cases he
      · have := heap_le hh he
        show now < e.1
        omega
    · rename_i h1
      have hn : l ≠ [] := fun z => h1 (.inl (by rw [z]; rfl))
      have hl := pop_len hn
      obtain ⟨p1, p2, p3, p4, p5⟩ := ripe_spec now n (pop l).2 (by omega) (pop_heap hh)
      refine ⟨(pop_perm hn).trans (p1.cons _), .cons (fun e he => ?_) p2, fun e he => ?_, p4, p5⟩
      · exact pop_le hh hn (p1.symm.subset (List.mem_append_left _ he))
      · rcases List.mem_cons.mp he with e1 | e1
        · rw [e1, pop_fst]
          have : ¬ now < (at_ l 0).1 := fun z => h1 (.inr z)
          omega
        · exact p3 e e1
/-! ### other times, the same moves -/
section
variable (g : P → P) (hg : ∀ a b : P, ((g a).1 < (g b).1) ↔ a.1 < b.1)
include hg
theorem at_map {l : List P} {k : Nat} (h : k < l.length) : at_ (l.map g) k = g (at_ l k) := by
  rw [at_get (by simpa using h), at_get h]
  simp
theorem swp_map {l : List P} {i j : Nat} (hi : i < l.length) (hj : j < l.length) : swp (l.map g) i j = (swp l i j).map g := by
  unfold swp
  rw [at_map g hg hi, at_map g hg hj, ← List.map_set, ← List.map_set]
theorem rise_map (low : Nat) : ∀ (k : Nat) (l : List P), k < l.length → rise low k (l.map g) = (rise low k l).map g := by
  intro k
  induction k using Nat.strongRecOn with
  | ind k ih =>
    intro l hk
    unfold rise
    split
    · rename_i h0
      rw [at_map g hg hk, at_map g hg (by omega)]
      by_cases h1 : (at_ l k).1 < (at_ l ((k - 1) / 2)).1
      · rw [if_pos h1, if_pos ((hg _ _).mpr h1), swp_map g hg hk (by omega)]
        exact ih _ (by omega) _ (by rw [swp_len]; omega)
      · rw [if_neg h1, if_neg (fun z => h1 ((hg _ _).mp z))]
    · rfl
theorem child_map {l : List P} {k : Nat} (h : 2 * k + 1 < l.length) : child (l.map g) k = child l k := by
  unfold child
  rw [List.length_map, at_map g hg h]
  by_cases h2 : 2 * k + 2 < l.length
  · rw [at_map g hg h2]
    simp only [h2, hg, true_and]
  · simp only [h2, false_and]
theorem down_map : ∀ (n k : Nat) (l : List P), l.length - k ≤ n → k < l.length → down k (l.map g) = ((down k l).1, (down k l).2.map g)
  | 0, k, l, hn, hk => by omega
  | n + 1, k, l, hn, hk => by
    unfold down
    rw [List.length_map]
    split
    · rename_i h
      have hc := child_lt h
      have hco := child_or l k
      rw [child_map g hg h, swp_map g hg hk hc]
      exact down_map n _ _ (by rw [swp_len]; omega) (by rw [swp_len]; exact hc)
    · rfl
theorem sink_map {k : Nat} {l : List P} (h : k < l.length) : sink k (l.map g) = (sink k l).map g := by
  unfold sink
  rw [down_map g hg (l.length - k) k l (Nat.le_refl _) h]
  obtain ⟨h1, h2, _⟩ := down_spec (l.length - k) k l (Nat.le_refl _) h
  exact rise_map g hg _ _ _ (by rw [h1.length_eq]; exact h2)
theorem pop_map {l : List P} (h : l ≠ []) : pop (l.map g) = (g (pop l).1, (pop l).2.map g) := by
  have hl : 0 < l.length := List.length_pos_iff.mpr h
  unfold pop
  rw [List.length_map, at_map g hg hl]
  split
  · rfl
  · rw [at_map g hg (by omega), ← List.map_dropLast, ← List.map_set]
    rw [sink_map g hg (by simp; omega)]
theorem mk_map : ∀ (k : Nat) (l : List P), k ≤ l.length → mk k (l.map g) = (mk k l).map g
  | 0, _, _ => rfl
  | k + 1, l, h => by
    unfold mk
    rw [sink_map g hg (by omega)]
    exact mk_map k _ (by rw [sink_len (by omega)]; omega)
theorem heapify_map (l : List P) : heapify (l.map g) = (heapify l).map g := by
  unfold heapify
  rw [List.length_map]
  exact mk_map g hg _ _ (by omega)
theorem out_map : ∀ (n : Nat) (l : List P), n = l.length → out n (l.map g) = (out n l).map g
  | 0, l, h => rfl
  | n + 1, l, h => by
    have hn : l ≠ [] := fun z => by rw [z] at h; simp at h
    have hl := pop_len hn
    unfold out
    rw [pop_map g hg hn]
    show _ :: out n ((pop l).2.map g) = _
    rw [out_map n _ (by omega)]
    rfl
end
end K4
/-! Entries, lists of them; is_earlier, rise, sink. -/
namespace K4
open PySem L2 Evl PySem.Spec PyProof.Rows
structure Bm (mg : Str → Option Value) : Prop extends Bl mg where
  reversed : mg "reversed" = none
  min : mg "min" = none
/-- all but what stands at a stands -/
def Kw (a : Addr) (H H2 : Hp) : Prop := ∀ b u, H b = some u → b ≠ a → H2 b = some u
theorem Kw.of {a : Addr} {H H2 : Hp} (e : Ex H H2) : Kw a H H2 := fun b u h _ => e b u h
theorem Kw.refl (a : Addr) (H : Hp) : Kw a H H := Kw.of (Ex.refl H)
theorem Kw.trans {a : Addr} {H H2 H3 : Hp} (x : Kw a H H2) (y : Kw a H2 H3) : Kw a H H3 := fun b u h n => y b u (x b u h n) n
theorem Kw.upd {a : Addr} {H H2 : Hp} {u : HO} (e : Ex H H2) : Kw a H (upd H2 a u) := fun b v h n => by rw [upd_ne n]; exact e b v h
/-- what was not there before may change -/
theorem Kw.ex {a : Addr} {H H1 H2 : Hp} (hn : H a = none) (e : Ex H H1) (k : Kw a H1 H2) : Ex H H2 := fun b u h => k b u (e b u h) fun z => by rw [z, hn] at h; cases h
/-- an entry -/
def PrV (H : Hp) (d : P) (v : V) : Prop := ∃ a, v = .ref a ∧ H a = some (.tup [.int d.1, .int d.2])
def Prs (H : Hp) (ds : List P) (vs : List V) : Prop := Paired (fun d v => PrV H d v) ds vs
theorem PrV.ex {H H2 : Hp} (e : Ex H H2) {d : P} {v : V} (h : PrV H d v) : PrV H2 d v := by
  obtain ⟨a, h1, h2⟩ := h
  exact ⟨a, h1, e _ _ h2⟩
theorem Prs.ex {H H2 : Hp} (e : Ex H H2) {ds : List P} {vs : List V} (h : Prs H ds vs) : Prs H2 ds vs := L2.Paired.mapP h fun _ _ q => q.ex e
/-- entries stand where a list alone changes -/
theorem PrV.kw {p : Addr} {H H2 : Hp} {xs : List V} (hp : H p = some (.lst xs)) (k : Kw p H H2) {d : P} {v : V} (h : PrV H d v) : PrV H2 d v := by
  obtain ⟨a, h1, h2⟩ := h
  refine ⟨a, h1, k _ _ h2 fun z => ?_⟩
  rw [z, hp] at h2
  cases h2
theorem Prs.kw {p : Addr} {H H2 : Hp} {xs : List V} (hp : H p = some (.lst xs)) (k : Kw p H H2) {ds : List P} {vs : List V} (h : Prs H ds vs) : Prs H2 ds vs := L2.Paired.mapP h fun _ _ q => q.kw hp k
theorem Prs.len {H : Hp} {ds : List P} {vs : List V} (h : Prs H ds vs) : vs.length = ds.length := by
  unfold Prs at h
  induction h with
  | nil => rfl
  | cons _ _ ih => simp [ih]
theorem Prs.at_ {H : Hp} : ∀ {ds : List P} {vs : List V} {k : Nat}, Prs H ds vs → k < ds.length → ∃ v, vs[k]? = some v ∧ PrV H (K4.at_ ds k) v
  | _, _, k, .nil, h => by simp at h
  | _, _, 0, .cons (b := b) q _, _ => ⟨b, rfl, q⟩
  | _ :: ds, _, k + 1, .cons _ t, h => by
    obtain ⟨v, h1, h2⟩ := Prs.at_ (k := k) t (by simpa using h)
    exact ⟨v, by simpa using h1, by simpa [K4.at_] using h2⟩
theorem Prs.set {H : Hp} : ∀ {ds : List P} {vs : List V} {k : Nat} {d : P} {v : V}, Prs H ds vs → PrV H d v → Prs H (ds.set k d) (vs.set k v)
  | _, _, _, _, _, .nil, _ => .nil
  | _, _, 0, _, _, .cons _ t, h => .cons h t
  | _, _, k + 1, _, _, .cons q t, h => .cons q (Prs.set (k := k) t h)
theorem Prs.swap {H : Hp} {ds : List P} {vs : List V} {i j : Nat} {x y : V} (h : Prs H ds vs) (hx : PrV H (K4.at_ ds i) x) (hy : PrV H (K4.at_ ds j) y) : Prs H (swp ds i j) ((vs.set i y).set j x) := (h.set hy).set hx
theorem Prs.app {H : Hp} : ∀ {ds es : List P} {vs us : List V}, Prs H ds vs → Prs H es us → Prs H (ds ++ es) (vs ++ us)
  | _, _, _, _, .nil, s => s
  | _, _, _, _, .cons r t, s => .cons r (Prs.app t s)
theorem Prs.one {H : Hp} {d : P} {v : V} (h : PrV H d v) : Prs H [d] [v] := .cons h .nil
theorem Prs.dropLast {H : Hp} : ∀ {ds : List P} {vs : List V}, Prs H ds vs → Prs H ds.dropLast vs.dropLast
  | _, _, .nil => .nil
  | _, _, .cons _ .nil => .nil
  | _, _, .cons r (.cons r2 t) => .cons r (Prs.dropLast (.cons r2 t))
section
variable {K : PySem.W.Frag} {H : Hp} {σ : L2.St} {ta t1 t2 a1 a2 b1 b2 te : TE} {tz tbd : TS} {Dd : Ends} {x y z : V}
theorem ev_callV {i : Nat} {f : Addr} {sp : Sp} {E : XK} {t : TA} {vs : List V} (hs : σ[i]? = some (some (.ref f))) (h : EvA t σ H vs) (hv : SpV sp (vs ++ []) H z) : Ev (ItX.tCallV i f sp E t) σ H z := fun H1 e Q q =>
  ⟨hs, h H1 e _ fun H2 e2 => by
    have := hv H2 (e.trans e2) Q (fun H3 e3 => q H3 (e2.trans e3)) E
    rw [List.append_nil] at this
    exact this⟩
theorem q_tupG {g : TG} {xs : List V} (h : EvU te σ H xs) (k : ∀ p H1, H p = none → Ex H H1 → H1 p = some (.tup xs) → g (.ref p) σ H1 (tz Dd)) : tSeq (tAsg te g) tz Dd σ H := h H (Ex.refl H) _ fun p H1 a b c => k p H1 a b c
theorem s_call {sp : Sp} {E : XK} {t : TA} {vs : List V} (h : EvA t σ H vs) (k : ∀ H1, Ex H H1 → sp (vs ++ []) H1 (fun _ H2 => Dd.nx σ H2) E) : tDrop (tCall sp [] E t) Dd σ H := h H (Ex.refl H) _ fun H1 e => k H1 e
theorem q_call {sp : Sp} {E : XK} {t : TA} {vs : List V} (h : EvA t σ H vs) (k : ∀ H1, Ex H H1 → sp (vs ++ []) H1 (fun _ H2 => tz Dd σ H2) E) : tSeq (tDrop (tCall sp [] E t)) tz Dd σ H := s_call (Dd := { Dd with nx := tz Dd }) h k
theorem q_swap {l : Addr} {xs : List V} {i j : Nat} (hl : H l = some (.lst xs)) (h1 : Ev t1 σ H y) (h2 : Ev t2 σ H x) (ha : ∀ H1, Ev a1 σ H1 (.ref l)) (hb : ∀ H1, Ev b1 σ H1 (.int (i : Int))) (hc : ∀ H1, Ev a2 σ H1 (.ref l)) (hd : ∀ H1, Ev b2 σ H1 (.int (j : Int)))
    (hi : i < xs.length) (hj : j < xs.length) (k : ∀ H2, Kw l H H2 → H2 l = some (.lst ((xs.set i y).set j x)) → tz Dd σ H2) : tSeq (tAsg (tTup (tCons t1 (tCons t2 tNil))) (gTup K 2 (gCons (gSub a1 b1 rSetL) (gCons (gSub a2 b2 rSetL) gNil)))) tz Dd σ H := by
  refine q_tupG (eu_tup (ea_cons h1 (ea_cons h2 ea_nil)) (by simp)) fun t H1 ht e1 htup => ?_
  exact ⟨t, [y, x], rfl, st_of htup, rfl, y, [x], rfl, ha H1 H1 (Ex.refl _) _ fun H2 e2 => hb H2 H2 (Ex.refl _) _ fun H3 e3 => ⟨l, xs, (i : Int), i, rfl, rfl, ((e1.trans e2).trans e3) _ _ hl, ixN_nat hi,
      x, [], rfl, hc _ _ (Ex.refl _) _ fun H4 e4 => hd H4 H4 (Ex.refl _) _ fun H5 e5 => ⟨l, xs.set i y, (j : Int), j, rfl, rfl, (e4.trans e5) _ _ upd_same, ixN_nat (by simpa using hj), rfl,
        k _ (((Kw.of ((e1.trans e2).trans e3)).trans (Kw.upd (Ex.refl _))).trans ((Kw.of (e4.trans e5)).trans (Kw.upd (Ex.refl _)))) upd_same⟩⟩⟩
/-- rows[k] -/
theorem ev_row {l : Addr} {vs : List V} {k : Nat} {v : V} (ha : Ev ta σ H (.ref l)) (hb : Ev te σ H (.int (k : Int))) (hl : H l = some (.lst vs)) (hv : vs[k]? = some v) : Ev (tOp (rIxL K) ta te) σ H v := ev_op ha hb (rv_ixL (sq_of hl) (atI_nat hv))
theorem ev_fst {d : P} {v : V} (ha : Ev ta σ H v) (h : PrV H d v) : Ev (tOp (rIxT K) ta (tC (.int 0))) σ H (.int d.1) := by
  obtain ⟨a, rfl, h2⟩ := h
  exact ev_op ha ev_c (rv_ixT (st_of h2) (atI_nat (j := 0) rfl))
theorem ev_snd {d : P} {v : V} (ha : Ev ta σ H v) (h : PrV H d v) : Ev (tOp (rIxT K) ta (tC (.int 1))) σ H (.int d.2) := by
  obtain ⟨a, rfl, h2⟩ := h
  exact ev_op ha ev_c (rv_ixT (st_of h2) (atI_nat (j := 1) rfl))
theorem ev_lenL {l : Addr} {vs : List V} (ha : Ev ta σ H (.ref l)) (h : H l = some (.lst vs)) : Ev (tCB (rLenQ K) (tCons ta tNil)) σ H (.int (vs.length : Int)) := fun H1 e Q q =>
  ha H1 e _ fun H2 e2 => ⟨l, vs, rfl, Or.inl (sq_of ((e.trans e2) _ _ h)), q H2 e2⟩
end
def spLt : Sp := fun vs H Q _ => ∃ d1 d2 v1 v2, vs = [v1, v2] ∧ PrV H d1 v1 ∧ PrV H d2 v2 ∧ RetV (.bl (decide (d1.1 < d2.1))) H Q
theorem spLt_v {H : Hp} {d1 d2 : P} {v1 v2 : V} (h1 : PrV H d1 v1) (h2 : PrV H d2 v2) : SpV spLt ([v1, v2] ++ []) H (.bl (decide (d1.1 < d2.1))) := fun H1 e Q q _ => ⟨d1, d2, v1, v2, rfl, h1.ex e, h2.ex e, fun H2 e2 => q H2 e2⟩
/-- the list at p becomes ds -/
def Made (p : Addr) (ds : List P) (H : Hp) (Q : Hp → Prop) : Prop := ∀ vs H2, Kw p H H2 → H2 p = some (.lst vs) → Prs H2 ds vs → Q H2
def spRise (fE : Addr) : Sp := fun args H Q _ => ∃ (p : Addr) (low k : Nat) (vs : List V) (ds : List P), args = [.ref p, .int (low : Int), .int (k : Int), .ref fE] ∧ H p = some (.lst vs) ∧ Prs H ds vs ∧ k < ds.length ∧ ds.length ≤ 10000 ∧ Made p (rise low k ds) H fun H2 => Q .non H2
def spSink (fE : Addr) : Sp := fun args H Q _ => ∃ (p : Addr) (k : Nat) (vs : List V) (ds : List P), args = [.ref p, .int (k : Int), .ref fE] ∧ H p = some (.lst vs) ∧ Prs H ds vs ∧ k < ds.length ∧ ds.length ≤ 10000 ∧ Made p (sink k ds) H fun H2 => Q .non H2
section
variable {P : Program} {w : World} {K : PySem.W.Frag} {mg : Str → Option Value} {base : Heap}
theorem sc9 : FnScope ["entry", "other"] ["entry", "other"] (defScope (top 9)) := ⟨rfl, rfl, rfl, by decide +kernel, rfl, by decide +kernel, by decide +kernel⟩
theorem ok_earlier (F : Df K mg "is_earlier" (top 9) ["entry", "other"]) : Okd P w K mg base CX0 1 "is_earlier" ["entry", "other"] spLt := by
  refine F.ok sc9 (fun vs H Q E h => by obtain ⟨_, _, _, _, rfl, _⟩ := h; rfl) (fun f cdv A outer s H vs Q E hr h => ?_)
  obtain ⟨d1, d2, v1, v2, rfl, h1, h2, k⟩ := h
  refine ⟨_, (pss_one (ps_ret (pe_cmpR op_lt2 (pe_ix ix_tup (pv 0) pe_int (fun _ _ => rfl)) (pe_ix ix_tup (pv 1) pe_int (fun _ _ => rfl)) (nomark _)))), ?_⟩
  exact s_ret (ev_op (ev_fst (ev_var rfl) h1) (ev_fst (ev_var rfl) h2) rv_lt) fun H1 e => k H1 e
/-- is_earlier as a value -/
structure Ear (P : Program) (w : World) (K : PySem.W.Frag) (mg : Str → Option Value) (base : Heap) (fE : Addr) : Prop where
  G : mg "is_earlier" = some (.ref fE)
  k : PySem.W.keepIn K (.ref fE) = true
  R : FnR P w K mg base CX0 1 fE spLt
theorem ear_of (O : Okd P w K mg base CX0 1 "is_earlier" ["entry", "other"] spLt) : ∃ fE, Ear P w K mg base fE := by
  obtain ⟨f, fd, h1, h2, h3, h4⟩ := O.ex
  refine ⟨f, h1, h2, ?_⟩
  have := h4.raw h3 .nil
  exact this.imp fun vs H Q E h => by rw [List.append_nil]; exact h
theorem sc4 : FnScope ["rows", "low", "at", "comes_first", "parent"] ["rows", "low", "at", "comes_first"] (defScope (top 4)) := ⟨rfl, rfl, rfl, by decide +kernel, rfl, by decide +kernel, by decide +kernel⟩
theorem ok_rise {fE : Addr} (R : Ear P w K mg base fE) (F : Df K mg "rise" (top 4) ["rows", "low", "at", "comes_first"]) : Okd P w K mg base CX0 2 "rise" ["rows", "low", "at", "comes_first"] (spRise fE) := by
  refine F.ok sc4 (fun vs H Q E h => by obtain ⟨_, _, _, _, _, rfl, _⟩ := h; rfl) (fun f cdv A outer s H vs Q E hr h => ?_)
  obtain ⟨p, low, k, vs, ds, rfl, hp, pr, hk, hl, q⟩ := h
  have R_e := R.R
  have k_e := R.k
  refine ⟨_, (pss_one (ps_while PassesOwn.never (pt_cmpR op_gt1 (pv 2) (pv 1) (nomark _)) (pss_cons (ps_set (i := 4) sc4.nd rfl (Or.inl rfl) (pe_op op_fdiv (pe_op op_sub (pv 2) pe_int) pe_int))
      (pss_cons (ps_if (pt_not (pt_val (ItX.pe_callV (i := 3) R_e (hr.mono (by first | decide | omega)) k_e pass0 rfl (by first | exact .inl rfl | exact .inr (.inl rfl) | exact .inr (.inr rfl)) (pa_cons (pe_ix ix_list (pv 0) (pv 2) (fun _ _ => rfl)) (pa_cons (pe_ix ix_list (pv 0) (pv 4) (fun _ _ => rfl)) pa_nil))))) (pss_one ps_retN) pss_nil)
      (pss_cons (ps_asg (pe_tup (pa_cons (pe_ix ix_list (pv 0) (pv 4) (fun _ _ => rfl)) (pa_cons (pe_ix ix_list (pv 0) (pv 2) (fun _ _ => rfl)) pa_nil))) (pg_tup (by rfl) (pgs_cons (pg_sub (pv 0) (pv 2) set_list) (pgs_cons (pg_sub (pv 0) (pv 4) set_list) pgs_nil))))
      (pss_one (ps_set (i := 2) sc4.nd rfl (Or.inl rfl) (pv 4)))))))), ?_⟩
  refine s_while (fun m σ' H' => ∃ (k' : Nat) (vs' : List V) (ds' : List K4.P) (x4 : Option V), k' = m ∧ σ' = [some (.ref p), some (.int (low : Int)), some (.int (k' : Int)), some (.ref fE), x4] ∧ Kw p H H' ∧ H' p = some (.lst vs') ∧ Prs H' ds' vs' ∧ k' < ds'.length ∧ ds'.length = ds.length ∧ rise low k' ds' = rise low k ds)
    k ⟨k, vs, ds, none, rfl, rfl, Kw.refl _ _, hp, pr, hk, rfl, rfl⟩ ?_
  rintro m σ' H' ⟨k', vs', ds', x4, rfl, rfl, kw, hp', pr', hk', hl', he⟩
  refine ⟨_, et_test (ev_op (ev_var rfl) (ev_var rfl) rv_I0), fun hb H1 e1 => ⟨_, fun _ _ h => h, ?_⟩, fun hb H1 e1 => ?_⟩
  · have hlt : low < k' := by
      have := of_decide_eq_true hb
      omega
    refine q_asg (ev_op (ev_op (ev_var rfl) ev_c rv_I0) ev_c (rv_I ⟨by decide, by decide⟩)) fun H2 e2 => ?_
    have hpar : ((k' : Int) - 1) / 2 = (((k' - 1) / 2 : Nat) : Int) := by omega
    rw [hpar]
    obtain ⟨c, hc⟩ : ∃ c, c = (k' - 1) / 2 := ⟨_, rfl⟩
    rw [← hc]
    have hc2 : c < ds'.length := by omega
    have e12 := e1.trans e2
    have hp2 := e12 _ _ hp'
    have pr2 := pr'.ex e12
    obtain ⟨x, hx1, hx2⟩ := pr2.at_ hk'
    obtain ⟨y, hy1, hy2⟩ := pr2.at_ hc2
    refine q_when (et_not (et_B (ev_callV rfl (ea_cons (ev_row (ev_var rfl) (ev_var rfl) hp2 hx1) (ea_cons (ev_row (ev_var rfl) (ev_var rfl) hp2 hy1) ea_nil)) (spLt_v hx2 hy2)))) (fun hb2 H3 e3 => ?_) (fun hb2 H3 e3 => ?_)
    · rw [Bool.not_eq_true', decide_eq_false_iff_not] at hb2
      refine q vs' H3 (kw.trans (Kw.of (e12.trans e3))) ((e12.trans e3) _ _ hp') ?_
      rw [← he]
      unfold rise
      rw [if_pos hlt, ← hc, if_neg hb2]
      exact pr2.ex e3
    · rw [Bool.not_eq_false', decide_eq_true_eq] at hb2
      have hp3 := e3 _ _ hp2
      have hlv := pr'.len
      refine q_swap (i := k') (j := c) hp3 (ev_row (ev_var rfl) (ev_var rfl) hp3 hy1) (ev_row (ev_var rfl) (ev_var rfl) hp3 hx1) (fun _ => ev_var rfl) (fun _ => ev_var rfl) (fun _ => ev_var rfl) (fun _ => ev_var rfl) (by omega) (by omega) fun H4 k4 hp4 => ?_
      refine s_asg (ev_var rfl) fun H5 e5 => ?_
      refine ⟨c, by omega, c, _, swp ds' k' c, _, rfl, rfl, (kw.trans (Kw.of (e12.trans e3))).trans (k4.trans (Kw.of e5)), e5 _ _ hp4, ((pr2.ex e3).swap (hx2.ex e3) (hy2.ex e3)).kw hp3 (k4.trans (Kw.of e5)), ?_, ?_, ?_⟩
      · rw [swp_len]; omega
      · rw [swp_len]; exact hl'
      · rw [← he]
        conv => rhs; unfold rise
        rw [if_pos hlt, ← hc, if_pos hb2]
  · have hlt : ¬ low < k' := by
      have := of_decide_eq_false hb
      omega
    refine q vs' H1 (kw.trans (Kw.of e1)) (e1 _ _ hp') ?_
    rw [← he]
    unfold rise
    rw [if_neg hlt]
    exact pr'.ex e1
theorem sc5 : FnScope ["rows", "at", "comes_first", "low", "child"] ["rows", "at", "comes_first"] (defScope (top 5)) := ⟨rfl, rfl, rfl, by decide +kernel, rfl, by decide +kernel, by decide +kernel⟩
theorem ok_sink (B : Bm mg) {fE : Addr} (R : Ear P w K mg base fE) (F : Df K mg "sink" (top 5) ["rows", "at", "comes_first"]) (O : Okd P w K mg base CX0 2 "rise" ["rows", "low", "at", "comes_first"] (spRise fE)) : Okd P w K mg base CX0 3 "sink" ["rows", "at", "comes_first"] (spSink fE) := by
  refine F.ok sc5 (fun vs H Q E h => by obtain ⟨_, _, _, _, rfl, _⟩ := h; rfl) (fun f cdv A outer s H vs Q E hr h => ?_)
  obtain ⟨p, k, vs, ds, rfl, hp, pr, hk, hl, q⟩ := h
  obtain ⟨f_rise, d_rise, m_rise, k_rise, b_rise, G_rise⟩ := O.ex
  have R_e := R.R
  have k_e := R.k
  refine ⟨_, (pss_cons (ps_set (i := 3) sc5.nd rfl (Or.inl rfl) (pv 1))
      (pss_cons (ps_while PassesOwn.never (pt_cmpR op_lt2 (pe_op op_add (pe_op op_mul pe_int (pv 1)) pe_int) (pe_callB call_lenQ (by rfl) B.len PySem.boot_len (pa_cons (pv 0) pa_nil)) (nomark _)) (pss_cons (ps_set (i := 4) sc5.nd rfl (Or.inl rfl) (pe_op op_add (pe_op op_mul pe_int (pv 1)) pe_int))
      (pss_cons (ps_if (PW.pt (pw_and (pt_cmpR op_lt2 (pe_op op_add (pv 4) pe_int) (pe_callB call_lenQ (by rfl) B.len PySem.boot_len (pa_cons (pv 0) pa_nil)) (nomark _)) (pw_and1 (pt_not (pt_val (ItX.pe_callV (i := 2) R_e (hr.mono (by first | decide | omega)) k_e pass0 rfl (by first | exact .inl rfl | exact .inr (.inl rfl) | exact .inr (.inr rfl)) (pa_cons (pe_ix ix_list (pv 0) (pv 4) (fun _ _ => rfl)) (pa_cons (pe_ix ix_list (pv 0) (pe_op op_add (pv 4) pe_int) (fun _ _ => rfl)) pa_nil)))))))) (pss_one (ps_aug (i := 4) sc5.nd rfl (.inl rfl) pe_int ip_add)) pss_nil)
      (pss_cons (ps_asg (pe_tup (pa_cons (pe_ix ix_list (pv 0) (pv 4) (fun _ _ => rfl)) (pa_cons (pe_ix ix_list (pv 0) (pv 1) (fun _ _ => rfl)) pa_nil))) (pg_tup (by rfl) (pgs_cons (pg_sub (pv 0) (pv 1) set_list) (pgs_cons (pg_sub (pv 0) (pv 4) set_list) pgs_nil))))
      (pss_one (ps_set (i := 1) sc5.nd rfl (Or.inl rfl) (pv 4)))))))
      (pss_one (ps_expr (pe_call G_rise (hr.mono (by first | decide | omega)) (by rfl) m_rise k_rise b_rise .nil pass0 (pa_cons (pv 0) (pa_cons (pv 3) (pa_cons (pv 1) (pa_cons (pv 2) pa_nil))))))))), ?_⟩
  refine q_asg (ev_var rfl) fun H0 e0 => ?_
  refine q_while (fun m σ' H' => ∃ (k' : Nat) (vs' : List V) (ds' : List K4.P) (x4 : Option V), m = ds.length - k' ∧ σ' = [some (.ref p), some (.int (k' : Int)), some (.ref fE), some (.int (k : Int)), x4] ∧ Kw p H H' ∧ H' p = some (.lst vs') ∧ Prs H' ds' vs' ∧ k' < ds'.length ∧ ds'.length = ds.length ∧ down k' ds' = down k ds)
    (ds.length - k) ⟨k, vs, ds, none, rfl, rfl, Kw.of e0, e0 _ _ hp, pr.ex e0, hk, rfl, rfl⟩ ?_
  rintro m σ' H' ⟨k', vs', ds', x4, rfl, rfl, kw, hp', pr', hk', hl', he⟩
  have hlv := pr'.len
  have hch : ∀ {H1 : Hp}, Ev (tOp (rI0 fun i j => V.int (i + j)) (tOp (rI CMul fun i j => V.int (i * j)) (tC (.int 2)) (tVar 1)) (tC (.int 1))) [some (.ref p), some (.int (k' : Int)), some (.ref fE), some (.int (k : Int)), x4] H1 (.int ((2 * k' + 1 : Nat) : Int)) := fun {H1} => by
    have e : ((2 * k' + 1 : Nat) : Int) = (2 : Int) * (k' : Int) + 1 := by omega
    rw [e]
    exact ev_op (ev_op ev_c (ev_var rfl) (rv_I (.inl (by decide)))) ev_c rv_I0
  refine ⟨decide (((2 * k' + 1 : Nat) : Int) < (vs'.length : Int)), et_test (ev_op hch (ev_lenL (ev_var rfl) hp') rv_lt), fun hb H1 e1 => ⟨_, fun _ _ h => h, ?_⟩, fun hb H1 e1 => ?_⟩
  · have hlt : 2 * k' + 1 < ds'.length := by
      have := of_decide_eq_true hb
      omega
    refine q_asg hch fun H2 e2 => ?_
    have e12 := e1.trans e2
    have hp2 := e12 _ _ hp'
    have pr2 := pr'.ex e12
    obtain ⟨x, hx1, hx2⟩ := pr2.at_ hk'
    have hco := child_or ds' k'
    have hc := child_lt hlt
    obtain ⟨y, hy1, hy2⟩ := pr2.at_ hc
    have cont : ∀ H3, Ex H2 H3 → ∀ x4', x4' = some (V.int (child ds' k' : Int)) → tSeq (tAsg (tTup (tCons (tOp (rIxL K) (tVar 0) (tVar 4)) (tCons (tOp (rIxL K) (tVar 0) (tVar 1)) tNil))) (gTup K 2 (gCons (gSub (tVar 0) (tVar 1) rSetL) (gCons (gSub (tVar 0) (tVar 4) rSetL) gNil)))) (tAsg (tVar 4) (gName 1))
        { nx := fun σ2 H2 => ∃ m', m' < ds.length - k' ∧ ∃ (k' : Nat) (vs' : List V) (ds' : List K4.P) (x4 : Option V), m' = ds.length - k' ∧ σ2 = [some (.ref p), some (.int (k' : Int)), some (.ref fE), some (.int (k : Int)), x4] ∧ Kw p H H2 ∧ H2 p = some (.lst vs') ∧ Prs H2 ds' vs' ∧ k' < ds'.length ∧ ds'.length = ds.length ∧ down k' ds' = down k ds,
          rt := Q, bk := fun _ _ => False, ct := fun _ _ => False } [some (.ref p), some (.int (k' : Int)), some (.ref fE), some (.int (k : Int)), x4'] H3 := by
      rintro H3 e3 x4' rfl
      have hp3 := e3 _ _ hp2
      refine q_swap (i := k') (j := child ds' k') hp3 (ev_row (ev_var rfl) (ev_var rfl) hp3 hy1) (ev_row (ev_var rfl) (ev_var rfl) hp3 hx1) (fun _ => ev_var rfl) (fun _ => ev_var rfl) (fun _ => ev_var rfl) (fun _ => ev_var rfl) (by omega) (by omega) fun H4 k4 hp4 => ?_
      refine s_asg (ev_var rfl) fun H5 e5 => ?_
      refine ⟨ds.length - child ds' k', by omega, child ds' k', _, swp ds' k' (child ds' k'), _, rfl, rfl, (kw.trans (Kw.of (e12.trans e3))).trans (k4.trans (Kw.of e5)), e5 _ _ hp4, ((pr2.ex e3).swap (hx2.ex e3) (hy2.ex e3)).kw hp3 (k4.trans (Kw.of e5)), ?_, ?_, ?_⟩
      · rw [swp_len]; omega
      · rw [swp_len]; exact hl'
      · rw [← he]
        conv => rhs; unfold down
        rw [if_pos hlt]
    refine q_when (et_and (et_test (ev_op (ev_op (ev_var rfl) ev_c rv_I0) (ev_lenL (ev_var rfl) hp2) rv_lt)) fun hc2 => (?_ : EvT _ _ _ (!decide ((at_ ds' (2 * k' + 1)).1 < (at_ ds' (2 * k' + 2)).1)))) (fun hb2 H3 e3 => ?_) (fun hb2 H3 e3 => ?_)
    · have h2 : 2 * k' + 2 < ds'.length := by
        have := of_decide_eq_true hc2
        omega
      obtain ⟨u, hu1, hu2⟩ := pr2.at_ hlt
      obtain ⟨v, hv1, hv2⟩ := pr2.at_ h2
      refine et_not (et_B (ev_callV rfl (ea_cons (ev_row (ev_var rfl) (ev_var rfl) hp2 hu1) (ea_cons (ev_row (k := 2 * k' + 2) (ev_var rfl) ?_ hp2 hv1) ea_nil)) (spLt_v hu2 hv2)))
      have e : ((2 * k' + 2 : Nat) : Int) = ((2 * k' + 1 : Nat) : Int) + 1 := by omega
      rw [e]
      exact ev_op (ev_var rfl) ev_c rv_I0
    · rw [Bool.and_eq_true, decide_eq_true_eq, Bool.not_eq_true', decide_eq_false_iff_not] at hb2
      refine s_aug (a := ((2 * k' + 1 : Nat) : Int)) (b := 1) rfl ev_c fun H4 e4 => cont H4 (e3.trans e4) _ ?_
      have : child ds' k' = 2 * k' + 2 := by
        unfold child
        rw [if_pos ⟨by omega, hb2.2⟩]
      rw [this]
      show some (V.int (((2 * k' + 1 : Nat) : Int) + 1)) = some (V.int ((2 * k' + 2 : Nat) : Int))
      rw [show ((2 * k' + 1 : Nat) : Int) + 1 = ((2 * k' + 2 : Nat) : Int) by omega]
    · refine cont H3 e3 _ ?_
      have : child ds' k' = 2 * k' + 1 := by
        unfold child
        rw [if_neg]
        rintro ⟨z1, z2⟩
        rw [decide_eq_true (show ((2 * k' + 1 : Nat) : Int) + 1 < (vs'.length : Int) by omega), Bool.true_and, Bool.not_eq_false', decide_eq_true_eq] at hb2
        exact z2 hb2
      rw [this]
  · have hlt : ¬ 2 * k' + 1 < ds'.length := by
      have := of_decide_eq_false hb
      omega
    have hd : down k ds = (k', ds') := by
      rw [← he]
      unfold down
      rw [if_neg hlt]
    have hs : sink k ds = rise k k' ds' := by unfold sink; rw [hd]
    have hp1 := e1 _ _ hp'
    refine s_call (ea_cons (ev_var rfl) (ea_cons (ev_var rfl) (ea_cons (ev_var rfl) (ea_cons (ev_var rfl) ea_nil)))) fun H2 e2 => ?_
    refine ⟨p, k, k', vs', ds', rfl, e2 _ _ hp1, (pr'.ex e1).ex e2, hk', by omega, fun us H3 k3 hp3 pr3 => ?_⟩
    rw [← hs] at pr3
    exact q us H3 (kw.trans ((Kw.of (e1.trans e2)).trans k3)) hp3 pr3
end
end K4
/-! push, take_first, make_heap; the checks. -/
namespace K4
open PySem L2 Evl PySem.Spec PyProof.Rows
structure Cn (mg : Str → Option Value) : Prop where
  most : ∃ u, mg "MOST_ROWS" = some u ∧ L2.RelV (.int 5000) u
section
variable {K : PySem.W.Frag} {H : Hp} {σ : L2.St} {ta te : TE} {tz tbd : TS} {Dd : Ends}
theorem et_truL {p : Addr} {xs : List V} (h : Ev ta σ H (.ref p)) (hp : H p = some (.lst xs)) : EvT (fun σ H Q => ta σ H fun x H' => ∃ k, TruV K x H' k ∧ Q k H') σ H (!xs.isEmpty) := fun H1 e _ q =>
  h H1 e _ fun H2 e2 => ⟨_, .inl ⟨xs, sq_of (e2 _ _ (e _ _ hp)), rfl⟩, q H2 e2⟩
theorem q_pop {l : Addr} {xs : List V} {y : V} {i : Nat} (hl : H l = some (.lst (xs ++ [y]))) (ha : Ev ta σ H (.ref l)) (k : ∀ H1, Ex H H1 → tz Dd (σ.set i (some y)) (upd H1 l (.lst xs))) : tSeq (tAsg (tBM0 K "list" rPop ta) (gName i)) tz Dd σ H :=
  ha H (Ex.refl H) _ fun H1 e1 => ⟨.inl ⟨rfl, _, sq_of (e1 _ _ hl)⟩, l, xs ++ [y], y, rfl, rfl, e1 _ _ hl, by simp, by
    rw [List.dropLast_concat]
    exact k H1 e1⟩
theorem s_forRev {j : Nat} {n : Int} (h : Ev te σ H (.int n)) (hn : 0 ≤ n ∧ n ≤ 100000) (Pv : Nat → L2.St → Hp → Prop) (h0 : ∀ H1, Ex H H1 → Pv 0 σ H1)
    (hs : ∀ (i : Nat) σ' H', (i : Int) < n → Pv i σ' H' → tbd { Dd with nx := Pv (i + 1), ct := Pv (i + 1), bk := Dd.nx } (σ'.set j (some (.int (n - 1 - (i : Int))))) H') (hd : ∀ σ' H', Pv n.toNat σ' H' → Dd.nx σ' H') : tFor (iRevR (tRg1 te)) (gName j) tbd Dd σ H :=
  h H (Ex.refl H) _ fun H1 e => ⟨n, rfl, by omega, by omega, by omega, by omega, for_rangeC (lo := 0 + (((n - 0).toNat : Nat) : Int) - 1) (c := -1) (n := (n - 0).toNat) Pv (h0 H1 e) (fun i σ' H' hi p => by
    have e0 : (0 : Int) + (((n - 0).toNat : Nat) : Int) - 1 + (i : Nat) * (-1) = n - 1 - (i : Int) := by omega
    show tbd { Dd with nx := Pv (i + 1), ct := Pv (i + 1), bk := Dd.nx } (σ'.set j (some (.int ((0 : Int) + (((n - 0).toNat : Nat) : Int) - 1 + (i : Nat) * (-1))))) H'
    rw [e0]
    exact hs i σ' H' (by omega) p) (fun σ' H' p => by rw [Int.sub_zero] at p; exact hd σ' H' p)⟩
end
theorem Prs.last {H : Hp} {ds : List P} {vs : List V} {y : V} (h : Prs H ds (vs ++ [y])) : PrV H (K4.at_ ds (ds.length - 1)) y := by
  have hl := h.len
  rw [List.length_append, List.length_singleton] at hl
  obtain ⟨v, h1, h2⟩ := h.at_ (k := ds.length - 1) (by omega)
  rw [List.getElem?_append_right (by omega), show ds.length - 1 - vs.length = 0 by omega] at h1
  cases h1
  exact h2
def spPush (fE : Addr) : Sp := fun args H Q _ => ∃ (p : Addr) (v : V) (d : P) (vs : List V) (ds : List P), args = [.ref p, v, .ref fE] ∧ H p = some (.lst vs) ∧ Prs H ds vs ∧ PrV H d v ∧ ds.length < 10000 ∧ Made p (push ds d) H fun H2 => Q .non H2
def spTake (fE : Addr) : Sp := fun args H Q _ => ∃ (p : Addr) (vs : List V) (ds : List P), args = [.ref p, .ref fE] ∧ H p = some (.lst vs) ∧ Prs H ds vs ∧ ds ≠ [] ∧ ds.length ≤ 10000 ∧ ∀ v vs' H2, Kw p H H2 → H2 p = some (.lst vs') → Prs H2 (pop ds).2 vs' → PrV H2 (pop ds).1 v → Q v H2
def spMake (fE : Addr) : Sp := fun args H Q _ => ∃ (p : Addr) (vs : List V) (ds : List P), args = [.ref p, .ref fE] ∧ H p = some (.lst vs) ∧ Prs H ds vs ∧ ds.length ≤ 10000 ∧ Made p (heapify ds) H fun H2 => Q .non H2
def spInt : Sp := fun args H Q _ => ∃ i : Int, args = [.int i] ∧ RetV (.bl true) H Q
def spEntry : Sp := fun args H Q _ => ∃ d v, args = [v] ∧ PrV H d v ∧ RetV (.bl true) H Q
def spChk : Sp := fun args H Q _ => ∃ (p : Addr) (vs : List V) (ds : List P), args = [.ref p] ∧ H p = some (.lst vs) ∧ Prs H ds vs ∧ ds.length ≤ 5000 ∧ RetV .non H Q
def spChkI : Sp := fun args H Q _ => ∃ i : Int, args = [.int i] ∧ RetV .non H Q
section
variable {P : Program} {w : World} {K : PySem.W.Frag} {mg : Str → Option Value} {base : Heap}
theorem sc6 : FnScope ["rows", "entry", "comes_first"] ["rows", "entry", "comes_first"] (defScope (top 6)) := ⟨rfl, rfl, rfl, by decide +kernel, rfl, by decide +kernel, by decide +kernel⟩
theorem ok_push (B : Bm mg) {fE : Addr} (F : Df K mg "push" (top 6) ["rows", "entry", "comes_first"]) (O : Okd P w K mg base CX0 2 "rise" ["rows", "low", "at", "comes_first"] (spRise fE)) : Okd P w K mg base CX0 3 "push" ["rows", "entry", "comes_first"] (spPush fE) := by
  refine F.ok sc6 (fun vs H Q E h => by obtain ⟨_, _, _, _, _, rfl, _⟩ := h; rfl) (fun f cdv A outer s H vs Q E hr h => ?_)
  obtain ⟨p, v, d, vs, ds, rfl, hp, pr, hd, hl, q⟩ := h
  obtain ⟨f_rise, d_rise, m_rise, k_rise, b_rise, G_rise⟩ := O.ex
  refine ⟨_, (pss_cons (ps_expr (pe_bm PySem.F.plainAttrs_list PySem.F.slot_list_append PySem.F.type_list_append mt_append (pv 0) (pa_cons (pv 1) pa_nil)))
      (pss_one (ps_expr (pe_call G_rise (hr.mono (by first | decide | omega)) (by rfl) m_rise k_rise b_rise .nil pass0 (pa_cons (pv 0) (pa_cons pe_int (pa_cons (pe_op op_sub (pe_callB call_lenQ (by rfl) B.len PySem.boot_len (pa_cons (pv 0) pa_nil)) pe_int) (pa_cons (pv 2) pa_nil)))))))), ?_⟩
  have hlv := pr.len
  refine q_app hp (ev_var rfl) (ev_var rfl) (by omega) fun H1 e1 => ?_
  have kw : Kw p H (upd H1 p (.lst (vs ++ [v]))) := Kw.upd e1
  have hp2 : (upd H1 p (.lst (vs ++ [v]))) p = some (.lst (vs ++ [v])) := upd_same
  generalize upd H1 p (.lst (vs ++ [v])) = H2 at *
  have pr2 : Prs H2 (ds ++ [d]) (vs ++ [v]) := (pr.kw hp kw).app (.one (hd.kw hp kw))
  refine s_call (vs := [.ref p, .int 0, .int (ds.length : Int), .ref fE]) (ea_cons (ev_var rfl) (ea_cons ev_c (ea_cons (ev_is (ev_op (ev_lenL (ev_var rfl) hp2) ev_c rv_I0) (by rw [List.length_append, List.length_singleton]; congr 1; omega)) (ea_cons (ev_var rfl) ea_nil)))) fun H3 e3 => ?_
  refine ⟨p, 0, ds.length, vs ++ [v], ds ++ [d], rfl, e3 _ _ hp2, pr2.ex e3, by simp, by simp; omega, fun us H4 k4 hp4 pr4 => ?_⟩
  exact q us H4 (kw.trans ((Kw.of e3).trans k4)) hp4 pr4
theorem sc7 : FnScope ["rows", "comes_first", "last", "first"] ["rows", "comes_first"] (defScope (top 7)) := ⟨rfl, rfl, rfl, by decide +kernel, rfl, by decide +kernel, by decide +kernel⟩
theorem ok_take (B : Bm mg) {fE : Addr} (F : Df K mg "take_first" (top 7) ["rows", "comes_first"]) (O : Okd P w K mg base CX0 3 "sink" ["rows", "at", "comes_first"] (spSink fE)) : Okd P w K mg base CX0 4 "take_first" ["rows", "comes_first"] (spTake fE) := by
  refine F.ok sc7 (fun vs H Q E h => by obtain ⟨_, _, _, rfl, _⟩ := h; rfl) (fun f cdv A outer s H vs Q E hr h => ?_)
  obtain ⟨p, vs, ds, rfl, hp, pr, hne, hl, q⟩ := h
  obtain ⟨f_sink, d_sink, m_sink, k_sink, b_sink, G_sink⟩ := O.ex
  refine ⟨_, (pss_cons (ps_set (i := 2) sc7.nd rfl (Or.inl rfl) (pe_bm0 PySem.F.plainAttrs_list PySem.F.slot_list_pop PySem.F.type_list_pop mt_pop (pv 0)))
      (pss_cons (ps_if (pt_not (pt_truth (pv 0) (by intro _; rfl))) (pss_one (ps_ret (pv 2))) pss_nil)
      (pss_cons (ps_set (i := 3) sc7.nd rfl (Or.inl rfl) (pe_ix ix_list (pv 0) pe_int (fun _ _ => rfl)))
      (pss_cons (ps_asg (pv 2) (pg_sub (pv 0) pe_int set_list))
      (pss_cons (ps_expr (pe_call G_sink (hr.mono (by first | decide | omega)) (by rfl) m_sink k_sink b_sink .nil pass0 (pa_cons (pv 0) (pa_cons pe_int (pa_cons (pv 1) pa_nil)))))
      (pss_one (ps_ret (pv 3)))))))), ?_⟩
  have hlv := pr.len
  have hpos : 0 < ds.length := List.length_pos_iff.mpr hne
  obtain ⟨us, y, rfl⟩ : ∃ us y, vs = us ++ [y] := ⟨vs.dropLast, vs.getLast (fun z => by rw [z] at hlv; simp at hlv; omega), (List.dropLast_concat_getLast _).symm⟩
  rw [List.length_append, List.length_singleton] at hlv
  refine q_pop hp (ev_var rfl) fun H1 e1 => ?_
  have kw : Kw p H (upd H1 p (.lst us)) := Kw.upd e1
  have hp2 : (upd H1 p (.lst us)) p = some (.lst us) := upd_same
  generalize upd H1 p (.lst us) = H2 at *
  have pr2 := pr.kw hp kw
  have hy := Prs.last pr2
  have prd : Prs H2 ds.dropLast us := by
    have := pr2.dropLast
    rw [List.dropLast_concat] at this
    exact this
  refine q_when (et_not (et_truL (ev_var rfl) hp2)) (fun hb H3 e3 => s_ret (ev_var rfl) fun H4 e4 => ?_) (fun hb H3 e3 => ?_)
  · have h0 : us = [] := by simpa using hb
    have h1 : ds.length ≤ 1 := by rw [h0] at hlv; simp at hlv; omega
    refine q y us H4 (kw.trans (Kw.of (e3.trans e4))) ((e3.trans e4) _ _ hp2) ?_ ?_
    · unfold pop
      rw [if_pos h1, h0]
      exact .nil
    · rw [pop_fst]
      rw [show ds.length - 1 = 0 by omega] at hy
      exact hy.ex (e3.trans e4)
  · have h0 : us ≠ [] := by simpa using hb
    have h1 : ¬ ds.length ≤ 1 := by
      have := List.length_pos_iff.mpr h0
      omega
    have hp3 := e3 _ _ hp2
    obtain ⟨x, hx1, hx2⟩ := (prd.ex e3).at_ (k := 0) (by rw [List.length_dropLast]; omega)
    rw [at_dropLast (by omega)] at hx2
    refine q_asg (ev_row (k := 0) (ev_var rfl) ev_c hp3 hx1) fun H4 e4 => ?_
    have hp4 := e4 _ _ hp3
    refine q_setL (j := 0) hp4 (ev_var rfl) (ev_var rfl) ev_c (List.length_pos_iff.mpr h0) fun H5 e5 => ?_
    have kw5 : Kw p H4 (upd H5 p (.lst (us.set 0 y))) := Kw.upd e5
    have hp6 : (upd H5 p (.lst (us.set 0 y))) p = some (.lst (us.set 0 y)) := upd_same
    generalize upd H5 p (.lst (us.set 0 y)) = H6 at *
    have e34 := e3.trans e4
    have pr6 : Prs H6 (ds.dropLast.set 0 (at_ ds (ds.length - 1))) (us.set 0 y) := ((prd.ex e34).set (hy.ex e34)).kw hp4 kw5
    have hx6 := (hx2.ex e4).kw hp4 kw5
    refine q_call (vs := [.ref p, .int ((0 : Nat) : Int), .ref fE]) (ea_cons (ev_var rfl) (ea_cons ev_c (ea_cons (ev_var rfl) ea_nil))) fun H7 e7 => ?_
    refine ⟨p, 0, _, _, rfl, e7 _ _ hp6, pr6.ex e7, by simp; omega, by simp; omega, fun ws H8 k8 hp8 pr8 => ?_⟩
    refine s_ret (ev_var rfl) fun H9 e9 => ?_
    refine q x ws H9 (((kw.trans (Kw.of e34)).trans kw5).trans ((Kw.of e7).trans (k8.trans (Kw.of e9)))) (e9 _ _ hp8) ?_ ?_
    · unfold pop
      rw [if_neg h1]
      exact pr8.ex e9
    · rw [pop_fst]
      exact (((hx6.ex e7).kw (e7 _ _ hp6) k8).ex e9)
theorem sc8 : FnScope ["rows", "comes_first", "at"] ["rows", "comes_first"] (defScope (top 8)) := ⟨rfl, rfl, rfl, by decide +kernel, rfl, by decide +kernel, by decide +kernel⟩
theorem ok_make (B : Bm mg) {fE : Addr} (F : Df K mg "make_heap" (top 8) ["rows", "comes_first"]) (O : Okd P w K mg base CX0 3 "sink" ["rows", "at", "comes_first"] (spSink fE)) : Okd P w K mg base CX0 4 "make_heap" ["rows", "comes_first"] (spMake fE) := by
  refine F.ok sc8 (fun vs H Q E h => by obtain ⟨_, _, _, rfl, _⟩ := h; rfl) (fun f cdv A outer s H vs Q E hr h => ?_)
  obtain ⟨p, vs, ds, rfl, hp, pr, hl, q⟩ := h
  obtain ⟨f_sink, d_sink, m_sink, k_sink, b_sink, G_sink⟩ := O.ex
  refine ⟨_, (pss_one (ps_for PassesOwn.never rfl (pi_revR (by rfl) B.reversed (prg_1 (by rfl) B.range (pe_op op_fdiv (pe_callB call_lenQ (by rfl) B.len PySem.boot_len (pa_cons (pv 0) pa_nil)) pe_int))) (pg_name (i := 2) sc8.nd rfl (Or.inl rfl)) (pss_one (ps_expr (pe_call G_sink (hr.mono (by first | decide | omega)) (by rfl) m_sink k_sink b_sink .nil pass0 (pa_cons (pv 0) (pa_cons (pv 2) (pa_cons (pv 1) pa_nil)))))))), ?_⟩
  have hlv := pr.len
  have hn : ((vs.length : Int) / 2) = ((ds.length / 2 : Nat) : Int) := by omega
  refine s_forRev (n := (vs.length : Int) / 2) (ev_op (ev_lenL (ev_var rfl) hp) ev_c (rv_I ⟨by decide, by decide⟩)) (by omega)
    (fun i σ' H' => ∃ (x2 : Option V) (vs' : List V) (ds' : List K4.P), σ' = [some (.ref p), some (.ref fE), x2] ∧ Kw p H H' ∧ H' p = some (.lst vs') ∧ Prs H' ds' vs' ∧ ds'.length = ds.length ∧ mk (ds.length / 2 - i) ds' = heapify ds)
    (fun H1 e => ⟨_, vs, ds, rfl, Kw.of e, e _ _ hp, pr.ex e, rfl, rfl⟩) ?_ ?_
  · rintro i σ' H' hi ⟨x2, vs', ds', rfl, kw, hp', pr', hl', he⟩
    have hi' : i < ds.length / 2 := by omega
    have e0 : (vs.length : Int) / 2 - 1 - (i : Int) = ((ds.length / 2 - i - 1 : Nat) : Int) := by omega
    rw [e0]
    refine s_call (ea_cons (ev_var rfl) (ea_cons (ev_var rfl) (ea_cons (ev_var rfl) ea_nil))) fun H1 e1 => ?_
    refine ⟨p, ds.length / 2 - i - 1, vs', ds', rfl, e1 _ _ hp', pr'.ex e1, by omega, by omega, fun us H2 k2 hp2 pr2 => ?_⟩
    refine ⟨_, us, _, rfl, kw.trans ((Kw.of e1).trans k2), hp2, pr2, by rw [sink_len (by omega)]; exact hl', ?_⟩
    rw [← he]
    rw [show ds.length / 2 - (i + 1) = ds.length / 2 - i - 1 by omega]
    conv => rhs; rw [show ds.length / 2 - i = (ds.length / 2 - i - 1) + 1 by omega]
    rfl
  · rintro σ' H' ⟨x2, vs', ds', rfl, kw, hp', pr', hl', he⟩
    have : ds.length / 2 - ((vs.length : Int) / 2).toNat = 0 := by omega
    rw [this] at he
    have he' : ds' = heapify ds := he
    rw [he'] at pr'
    exact q vs' H' kw hp' pr'
theorem sc11 : FnScope ["value"] ["value"] (defScope (top 11)) := ⟨rfl, rfl, rfl, by decide +kernel, rfl, by decide +kernel, by decide +kernel⟩
theorem ok_whole (B : Bm mg) (F : Df K mg "is_whole" (top 11) ["value"]) : Okd P w K mg base CX0 1 "is_whole" ["value"] spInt := by
  refine F.ok sc11 (fun vs H Q E h => by obtain ⟨_, rfl, _⟩ := h; rfl) (fun f cdv A outer s H vs Q E hr h => ?_)
  obtain ⟨i, rfl, k⟩ := h
  have r : Rp K H (.int i) (.int i) := .int i
  refine ⟨_, (pss_one (ps_ret (pe_and (pe_callB call_isi (by rfl) B.isinstance boot_isinstance (pa_cons (pv 0) (pa_cons (pe_bltn (v := .ty "int") (by rfl) B.int boot_int rfl) pa_nil))) (pe_one (pe_not (pe_callB call_isi (by rfl) B.isinstance boot_isinstance (pa_cons (pv 0) (pa_cons (pe_bltn (v := .ty "bool") (by rfl) B.bool boot_bool rfl) pa_nil)))))))), ?_⟩
  exact s_ret (ev_andV (ev_isi r (ev_var rfl) (kit_in _)) (fun _ => ev_notV (ev_isi r (ev_var rfl) (kit_bl _)))) fun H1 e => k H1 e
theorem PrV.rp {H : Hp} {d : K4.P} {v : V} (h : PrV H d v) : Rp K H (.tup [.int d.1, .int d.2]) v := by
  obtain ⟨a, rfl, h2⟩ := h
  exact .tup h2 (.cons (.int _) (.cons (.int _) .nil))
theorem sc14 : FnScope ["entry"] ["entry"] (defScope (top 14)) := ⟨rfl, rfl, rfl, by decide +kernel, rfl, by decide +kernel, by decide +kernel⟩
theorem ok_entry (B : Bm mg) (F : Df K mg "is_entry" (top 14) ["entry"]) (O : Okd P w K mg base CX0 1 "is_whole" ["value"] spInt) : Okd P w K mg base CX0 2 "is_entry" ["entry"] spEntry := by
  refine F.ok sc14 (fun vs H Q E h => by obtain ⟨_, _, rfl, _⟩ := h; rfl) (fun f cdv A outer s H vs Q E hr h => ?_)
  obtain ⟨d, v, rfl, hd, k⟩ := h
  obtain ⟨f_is_whole, d_is_whole, m_is_whole, k_is_whole, b_is_whole, G_is_whole⟩ := O.ex
  refine ⟨_, (pss_one (ps_ret (pe_and (pe_callB call_isi (by rfl) B.isinstance boot_isinstance (pa_cons (pv 0) (pa_cons (pe_bltn (v := .ty "tuple") (by rfl) B.tuple boot_tuple rfl) pa_nil))) (pe_and (pe_cmpR op_eq (pe_callB call_lenQ (by rfl) B.len PySem.boot_len (pa_cons (pv 0) pa_nil)) pe_int (nomark _)) (pe_and (pe_call G_is_whole (hr.mono (by first | decide | omega)) (by rfl) m_is_whole k_is_whole b_is_whole .nil pass0 (pa_cons (pe_ix ix_tup (pv 0) pe_int (fun _ _ => rfl)) pa_nil)) (pe_one (pe_call G_is_whole (hr.mono (by first | decide | omega)) (by rfl) m_is_whole k_is_whole b_is_whole .nil pass0 (pa_cons (pe_ix ix_tup (pv 0) pe_int (fun _ _ => rfl)) pa_nil)))))))), ?_⟩
  have r : Rp K H _ v := hd.rp
  have hi : ∀ i : Int, SpV spInt ([V.int i] ++ []) H (.bl true) := fun i H1 e Q q E => ⟨i, rfl, fun H2 e2 => q H2 e2⟩
  obtain ⟨a, ra, ha⟩ := hd
  subst ra
  have hd : PrV H d (.ref a) := ⟨a, rfl, ha⟩
  refine s_ret (ev_is (ev_andV (ev_isi r (ev_var rfl) (kit_tup _)) (fun _ => ev_andV (ev_op (ev_lenT (ev_var rfl) (st_of ha)) ev_c (rv_eq rfl)) (fun _ => ev_andV (ev_call (ea_cons (ev_fst (ev_var rfl) hd) ea_nil) (hi _)) (fun _ => ev_call (ea_cons (ev_snd (ev_var rfl) hd) ea_nil) (hi _))))) (w := .bl true) ?_) fun H1 e => k H1 e
  rfl
theorem sc15 : FnScope ["rows", "entry"] ["rows"] (defScope (top 15)) := ⟨rfl, rfl, rfl, by decide +kernel, rfl, by decide +kernel, by decide +kernel⟩
theorem ok_chk (B : Bm mg) (C : Cn mg) (F : Df K mg "check_rows" (top 15) ["rows"]) (O : Okd P w K mg base CX0 2 "is_entry" ["entry"] spEntry) : Okd P w K mg base CX0 3 "check_rows" ["rows"] spChk := by
  refine F.ok sc15 (fun vs H Q E h => by obtain ⟨_, _, _, rfl, _⟩ := h; rfl) (fun f cdv A outer s H vs Q E hr h => ?_)
  obtain ⟨p, vs, ds, rfl, hp, pr, hl, k⟩ := h
  obtain ⟨f_is_entry, d_is_entry, m_is_entry, k_is_entry, b_is_entry, G_is_entry⟩ := O.ex
  obtain ⟨u_MOST_ROWS, c_MOST_ROWS, r_MOST_ROWS⟩ := C.most
  refine ⟨_, (pss_one (ps_if (PW.pt (pw_or (pt_not (pt_val (pe_callB call_isi (by rfl) B.isinstance boot_isinstance (pa_cons (pv 0) (pa_cons (pe_bltn (v := .ty "list") (by rfl) B.list boot_list rfl) pa_nil))))) (pw_or (pt_cmpR op_gt1 (pe_callB call_lenQ (by rfl) B.len PySem.boot_len (pa_cons (pv 0) pa_nil)) (pe_glob (by rfl) c_MOST_ROWS r_MOST_ROWS) (nomark _)) (pw_or1 (pt_not (pt_val (pe_callB (cr_all rfl) (by rfl) B.all boot_all (pa_cons (pe_lc (own := [("entry", 1)]) (g := gName 1) (tt := tYes) rfl sc15.nd (pi_list (pv 0)) (blkOk_by (N := ["rows", "entry"]) (sc := defScope (top 15)) (by decide +kernel)) (fun _ _ _ _ _ => (pg_name (i := 1) sc15.nd rfl (Or.inl rfl))) (fun _ _ _ _ _ => pts_nil) (fun _ _ _ _ _ => (pe_call G_is_entry (hr.mono (by first | decide | omega)) (by rfl) m_is_entry k_is_entry b_is_entry .nil pass0 (pa_cons (pv 1) pa_nil)))) pa_nil)))))))) (pss_one ps_never) pss_nil)), ?_⟩
  have hlv := pr.len
  have r : Rp K H .lst (.ref p) := .lst hp
  have hkit : kitB (tyD .lst) "list" = some true := by decide +kernel
  have hall : EvL (tLc (iList K (tVar 0)) (gName 1) tYes (tCall spEntry [] E0 (tCons (tVar 1) tNil)) [1]) (start ["rows", "entry"] [.ref p]) H ((List.replicate vs.length true).map V.bl) := by
    have h1 := el_lcL (K := K) (H := H) (σ := start ["rows", "entry"] [.ref p]) (te := tCall spEntry [] E0 (tCons (tVar 1) tNil)) (t := tYes) (j := 1) (vs := [1]) (a := p) (xs := vs) (tl := tVar 0) (fun _ => true) (fun _ => V.bl true) (ev_var rfl) (sq_of hp) (by omega) (fun _ => rfl)
      (fun i x H1 e hi => fun H2 e2 Q q => q H2 (Ex.refl _)) (fun i x H1 e hi _ => ?_)
    · have e : given vs.length (fun _ => true) (fun _ => V.bl true) = (List.replicate vs.length true).map V.bl := by
        unfold given
        rw [List.filter_eq_self.mpr (fun _ _ => rfl), List.map_replicate]
        exact List.map_const'  (l := List.range vs.length) ▸ (by simp)
      rw [← e]
      exact h1
    · have hi' : i < ds.length := by have := (List.getElem?_eq_some_iff.mp hi).1; omega
      obtain ⟨v, hv1, hv2⟩ := (pr.ex e).at_ hi'
      rw [hi] at hv1
      cases hv1
      exact ev_call (ea_cons (ev_var rfl) ea_nil) fun H2 e2 Q q E => ⟨_, _, rfl, hv2.ex e2, fun H3 e3 => q H3 e3⟩
  refine s_when (b := false) (et_is (et_or (et_not (et_B (ev_isi r (ev_var rfl) hkit))) fun _ => et_or (et_is (et_test (ev_op (ev_lenL (ev_var rfl) hp) ev_c rv_I0)) (b := false) (by simp; omega)) fun _ => et_not (et_B (ev_allB hall))) (by simp)) (fun hb => by cases hb) (fun _ H1 e => k H1 e)
theorem sc16 : FnScope ["value"] ["value"] (defScope (top 16)) := ⟨rfl, rfl, rfl, by decide +kernel, rfl, by decide +kernel, by decide +kernel⟩
theorem ok_chkI (F : Df K mg "check_whole" (top 16) ["value"]) (O : Okd P w K mg base CX0 1 "is_whole" ["value"] spInt) : Okd P w K mg base CX0 2 "check_whole" ["value"] spChkI := by
  refine F.ok sc16 (fun vs H Q E h => by obtain ⟨_, rfl, _⟩ := h; rfl) (fun f cdv A outer s H vs Q E hr h => ?_)
  obtain ⟨i, rfl, k⟩ := h
  obtain ⟨f_is_whole, d_is_whole, m_is_whole, k_is_whole, b_is_whole, G_is_whole⟩ := O.ex
  refine ⟨_, (pss_one (ps_if (pt_not (pt_val (pe_call G_is_whole (hr.mono (by first | decide | omega)) (by rfl) m_is_whole k_is_whole b_is_whole .nil pass0 (pa_cons (pv 0) pa_nil)))) (pss_one ps_never) pss_nil)), ?_⟩
  refine s_when (b := false) (et_is (et_not (et_B (ev_call (ea_cons (ev_var rfl) ea_nil) fun H1 e Q q E => ⟨i, rfl, fun H2 e2 => q H2 e2⟩))) rfl) (fun hb => by cases hb) (fun _ H1 e => k H1 e)
end
end K4
/-! is_heap, pushed, popped, heaped, ripe. -/
namespace K4
open PySem L2 Evl PySem.Spec PyProof.Rows
section
variable {K : PySem.W.Frag} {H : Hp} {σ : L2.St} {ta te : TE} {tz tbd : TS} {Dd : Ends}
theorem q_asgC {sp : Sp} {E : XK} {t : TA} {vs : List V} {i : Nat} (h : EvA t σ H vs) (k : ∀ H1, Ex H H1 → sp (vs ++ []) H1 (fun v H2 => tz Dd (σ.set i (some v)) H2) E) : tSeq (tAsg (tCall sp [] E t) (gName i)) tz Dd σ H := h H (Ex.refl H) _ fun H1 e => k H1 e
theorem s_appC {sp : Sp} {E : XK} {t : TA} {vs : List V} {l : Addr} {xs : List V} (hl : H l = some (.lst xs)) (ha : Ev ta σ H (.ref l)) (h : EvA t σ H vs)
    (k : ∀ H1, Ex H H1 → sp (vs ++ []) H1 (fun v H2 => ∃ ys, H2 l = some (.lst ys) ∧ ys.length < 100000 ∧ Dd.nx σ (upd H2 l (.lst (ys ++ [v])))) E) (mono : ∀ H1 Q Q', (∀ v H2, Q v H2 → Q' v H2) → sp (vs ++ []) H1 Q E → sp (vs ++ []) H1 Q' E) :
    tDrop (tBM K "list" rAppend ta (tCons (tCall sp [] E t) tNil)) Dd σ H := ha H (Ex.refl H) _ fun H1 e1 =>
  ⟨Or.inl ⟨rfl, xs, sq_of (e1 l _ hl)⟩, h H1 e1 _ fun H2 e2 => mono H2 _ _ (fun v H3 ⟨ys, h1, h2, h3⟩ => ⟨l, ys, v, rfl, rfl, h1, sz_lt h2, h3⟩) (k H2 (e1.trans e2))⟩
theorem wk_rng1 {ta : TA} {n : Int} (h : EvA ta σ H [.int n]) (hn : -100000 ≤ n ∧ n ≤ 100000) : Wk (iRng1 ta) σ H n.toNat (fun i _ x => x = .int (i : Int)) := fun H1 e R k =>
  h H1 e _ fun H2 e2 => ⟨n, rfl, by omega, by omega, k _ _ _ H2 e2 walk_range (fun _ _ => trivial) fun i H3 x H4 hi e3 y => by
    obtain ⟨e4, hx⟩ := y
    subst e4
    refine ⟨Ex.refl _, ?_⟩
    rw [hx]
    show V.int ((0 : Int) + (i : Int)) = _
    rw [Int.zero_add]⟩
theorem wk_rng2 {ta : TA} {lo n : Int} (h : EvA ta σ H [.int lo, .int n]) (hn : -100000 ≤ lo ∧ lo ≤ 100000 ∧ -100000 ≤ n ∧ n ≤ 100000) : Wk (iRng2 ta) σ H (n - lo).toNat (fun i _ x => x = .int (lo + (i : Int))) := fun H1 e R k =>
  h H1 e _ fun H2 e2 => ⟨lo, n, rfl, ⟨by omega, by omega, by omega, by omega⟩, k _ _ _ H2 e2 walk_range (fun _ _ => trivial) fun i H3 x H4 hi e3 y => by
    obtain ⟨e4, hx⟩ := y
    subst e4
    exact ⟨Ex.refl _, hx⟩⟩
end
theorem call_listQ {X : Cx} : CallR X (.type "list") (rListS X.K) := call_list_of
/-- a new list of ds -/
def NewL (ds : List P) (H : Hp) (Q : VK) : Prop := ∀ l vs H2, H l = none → Ex H H2 → H2 l = some (.lst vs) → Prs H2 ds vs → Q (.ref l) H2
def spIsH : Sp := fun args H Q _ => ∃ (p : Addr) (vs : List V) (ds : List P), args = [.ref p] ∧ H p = some (.lst vs) ∧ Prs H ds vs ∧ ds.length ≤ 5000 ∧ Hf 0 ds ∧ RetV (.bl true) H Q
def spPushed : Sp := fun args H Q _ => ∃ (p : Addr) (v : V) (d : P) (vs : List V) (ds : List P), args = [.ref p, v] ∧ H p = some (.lst vs) ∧ Prs H ds vs ∧ PrV H d v ∧ ds.length ≤ 5000 ∧ NewL (push ds d) H Q
def spPopped : Sp := fun args H Q _ => ∃ (p : Addr) (vs : List V) (ds : List P), args = [.ref p] ∧ H p = some (.lst vs) ∧ Prs H ds vs ∧ ds ≠ [] ∧ ds.length ≤ 5000 ∧
  ∀ t l v us H2, H t = none → H l = none → Ex H H2 → H2 t = some (.tup [v, .ref l]) → H2 l = some (.lst us) → Prs H2 (pop ds).2 us → PrV H2 (pop ds).1 v → Q (.ref t) H2
def spHeaped : Sp := fun args H Q _ => ∃ (p : Addr) (vs : List V) (ds : List P), args = [.ref p] ∧ H p = some (.lst vs) ∧ Prs H ds vs ∧ ds.length ≤ 5000 ∧ NewL (heapify ds) H Q
def spRipe : Sp := fun args H Q _ => ∃ (p : Addr) (now : Int) (vs : List V) (ds : List P), args = [.ref p, .int now] ∧ H p = some (.lst vs) ∧ Prs H ds vs ∧ ds.length ≤ 5000 ∧
  ∀ t l1 l2 us ws H2, H t = none → H l1 = none → H l2 = none → Ex H H2 → H2 t = some (.tup [.ref l1, .ref l2]) → H2 l1 = some (.lst us) → H2 l2 = some (.lst ws) → Prs H2 (ripe now ds.length ds).1 us → Prs H2 (ripe now ds.length ds).2 ws → Q (.ref t) H2
theorem spChk_v {H : Hp} {p : Addr} {vs : List V} {ds : List P} (hp : H p = some (.lst vs)) (pr : Prs H ds vs) (hl : ds.length ≤ 5000) : SpV spChk ([.ref p] ++ []) H .non := fun H1 e Q q _ => ⟨p, vs, ds, rfl, e _ _ hp, pr.ex e, hl, fun H2 e2 => q H2 e2⟩
theorem spEntry_v {H : Hp} {d : P} {v : V} (h : PrV H d v) : SpV spEntry ([v] ++ []) H (.bl true) := fun H1 e Q q _ => ⟨d, v, rfl, h.ex e, fun H2 e2 => q H2 e2⟩
section
variable {P : Program} {w : World} {K : PySem.W.Frag} {mg : Str → Option Value} {base : Heap}
theorem sc17 : FnScope ["rows", "at"] ["rows"] (defScope (top 17)) := ⟨rfl, rfl, rfl, by decide +kernel, rfl, by decide +kernel, by decide +kernel⟩
theorem ok_isH (B : Bm mg) (F : Df K mg "is_heap" (top 17) ["rows"]) (O1 : Okd P w K mg base CX0 3 "check_rows" ["rows"] spChk) (O2 : Okd P w K mg base CX0 1 "is_earlier" ["entry", "other"] spLt) : Okd P w K mg base CX0 4 "is_heap" ["rows"] spIsH := by
  refine F.ok sc17 (fun vs H Q E h => by obtain ⟨_, _, _, rfl, _⟩ := h; rfl) (fun f cdv A outer s H vs Q E hr h => ?_)
  obtain ⟨p, vs, ds, rfl, hp, pr, hl, hh, k⟩ := h
  obtain ⟨f_check_rows, d_check_rows, m_check_rows, k_check_rows, b_check_rows, G_check_rows⟩ := O1.ex
  obtain ⟨f_is_earlier, d_is_earlier, m_is_earlier, k_is_earlier, b_is_earlier, G_is_earlier⟩ := O2.ex
  refine ⟨_, (pss_cons (ps_expr (pe_call G_check_rows (hr.mono (by first | decide | omega)) (by rfl) m_check_rows k_check_rows b_check_rows .nil pass0 (pa_cons (pv 0) pa_nil)))
      (pss_one (ps_ret (pe_not (pe_callB (cr_any rfl) (by rfl) B.any boot_any (pa_cons (pe_lc (own := [("at", 1)]) (g := gName 1) (tt := tYes) rfl sc17.nd (pi_range2 (by rfl) B.range (pa_cons pe_int (pa_cons (pe_callB call_lenQ (by rfl) B.len PySem.boot_len (pa_cons (pv 0) pa_nil)) pa_nil))) (blkOk_by (N := ["rows", "at"]) (sc := defScope (top 17)) (by decide +kernel)) (fun _ _ _ _ _ => (pg_name (i := 1) sc17.nd rfl (Or.inl rfl))) (fun _ _ _ _ _ => pts_nil) (fun _ _ _ _ _ => (pe_call G_is_earlier (hr.mono (by first | decide | omega)) (by rfl) m_is_earlier k_is_earlier b_is_earlier .nil pass0 (pa_cons (pe_ix (r := rIxL K) ix_list (pv 0) (pv 1) (fun _ _ => rfl)) (pa_cons (pe_ix (r := rIxL K) ix_list (pv 0) (pe_op op_fdiv (pe_op op_sub (pv 1) pe_int) pe_int) (fun _ _ => rfl)) pa_nil))))) pa_nil)))))), ?_⟩
  have hlv := pr.len
  refine q_drop (ev_call (ea_cons (ev_var rfl) ea_nil) (spChk_v hp pr hl)) fun H1 e1 => ?_
  have hp1 := e1 _ _ hp
  have pr1 := pr.ex e1
  refine s_ret (ev_is (ev_notV (ev_anyB (el_lcB (fun _ => false) (wk_rng2 (lo := 1) (n := (vs.length : Int)) (ea_cons ev_c (ea_cons (ev_lenL (ev_var rfl) hp1) ea_nil)) (by omega)) (by omega) (fun _ => rfl) fun i x H2 hi e2 hx => ?_))) (w := .bl true) ?_) fun H2 e2 => k H2 (e1.trans e2)
  · subst hx
    have hi1 : 1 + i < ds.length := by omega
    have hi2 : i / 2 < ds.length := by omega
    have pr2 := pr1.ex e2
    have hp2 := e2 _ _ hp1
    obtain ⟨x, hx1, hx2⟩ := pr2.at_ hi1
    obtain ⟨y, hy1, hy2⟩ := pr2.at_ hi2
    have ex1 : (1 : Int) + (i : Int) = ((1 + i : Nat) : Int) := by omega
    have ex2 : ((1 : Int) + (i : Int) - 1) / 2 = ((i / 2 : Nat) : Int) := by omega
    refine ev_is (ev_call (ea_cons (ev_row (k := 1 + i) (ev_var rfl) (ev_is (ev_var rfl) (by rw [ex1])) hp2 hx1) (ea_cons (ev_row (k := i / 2) (ev_var rfl) (ev_is (ev_op (ev_op (ev_var rfl) ev_c rv_I0) ev_c (rv_I ⟨by decide, by decide⟩)) (by rw [ex2])) hp2 hy1) ea_nil)) (spLt_v hx2 hy2)) ?_
    have := hh (1 + i) (by omega) hi1 (Nat.zero_le _)
    rw [show (1 + i - 1) / 2 = i / 2 by omega] at this
    rw [decide_eq_false (by omega)]
  · have : (List.map (fun _ => false) (List.range ((vs.length : Int) - 1).toNat)).any id = false := by
      rw [List.any_map]
      simp
    rw [this]
    rfl
theorem rG {fE : Addr} : L2.RelV (.ref fE) (.ref fE) := rfl
theorem sc18 : FnScope ["rows", "entry", "heap"] ["rows", "entry"] (defScope (top 18)) := ⟨rfl, rfl, rfl, by decide +kernel, rfl, by decide +kernel, by decide +kernel⟩
theorem ok_pushed (B : Bm mg) {fE : Addr} (R : Ear P w K mg base fE) (F : Df K mg "pushed" (top 18) ["rows", "entry"]) (O1 : Okd P w K mg base CX0 3 "check_rows" ["rows"] spChk) (O2 : Okd P w K mg base CX0 2 "is_entry" ["entry"] spEntry) (O3 : Okd P w K mg base CX0 3 "push" ["rows", "entry", "comes_first"] (spPush fE)) :
    Okd P w K mg base CX0 4 "pushed" ["rows", "entry"] spPushed := by
  refine F.ok sc18 (fun vs H Q E h => by obtain ⟨_, _, _, _, _, rfl, _⟩ := h; rfl) (fun f cdv A outer s H vs Q E hr h => ?_)
  obtain ⟨p, v, d, vs, ds, rfl, hp, pr, hd, hl, k⟩ := h
  obtain ⟨f_check_rows, d_check_rows, m_check_rows, k_check_rows, b_check_rows, G_check_rows⟩ := O1.ex
  obtain ⟨f_is_entry, d_is_entry, m_is_entry, k_is_entry, b_is_entry, G_is_entry⟩ := O2.ex
  obtain ⟨f_push, d_push, m_push, k_push, b_push, G_push⟩ := O3.ex
  have c_is_earlier := R.G
  have r_is_earlier : L2.RelV (.ref fE) (.ref fE) := rG
  refine ⟨_, (pss_cons (ps_expr (pe_call G_check_rows (hr.mono (by first | decide | omega)) (by rfl) m_check_rows k_check_rows b_check_rows .nil pass0 (pa_cons (pv 0) pa_nil)))
      (pss_cons (ps_if (pt_not (pt_val (pe_call G_is_entry (hr.mono (by first | decide | omega)) (by rfl) m_is_entry k_is_entry b_is_entry .nil pass0 (pa_cons (pv 1) pa_nil)))) (pss_one ps_never) pss_nil)
      (pss_cons (ps_set (i := 2) sc18.nd rfl (Or.inl rfl) (pe_callTy call_listQ (by rfl) B.list boot_list (pa_cons (pv 0) pa_nil)))
      (pss_cons (ps_expr (pe_call G_push (hr.mono (by first | decide | omega)) (by rfl) m_push k_push b_push .nil pass0 (pa_cons (pv 2) (pa_cons (pv 1) (pa_cons (pe_glob (by rfl) c_is_earlier r_is_earlier) pa_nil)))))
      (pss_one (ps_ret (pv 2))))))), ?_⟩
  have hlv := pr.len
  refine q_drop (ev_call (ea_cons (ev_var rfl) ea_nil) (spChk_v hp pr hl)) fun H1 e1 => ?_
  refine q_when (b := false) (et_is (et_not (et_B (ev_call (ea_cons (ev_var rfl) ea_nil) (spEntry_v (hd.ex e1))))) rfl) (fun hb => by cases hb) (fun _ H2 e2 => ?_)
  have e12 := e1.trans e2
  refine q_asgL (el_list (ev_var rfl) (sq_of (e12 _ _ hp))) fun l H3 nl e3 hl3 => ?_
  have e13 := e12.trans e3
  refine q_call (ea_cons (ev_var rfl) (ea_cons (ev_var rfl) (ea_cons ev_c ea_nil))) fun H4 e4 => ?_
  have e14 := e13.trans e4
  refine ⟨l, v, d, vs, ds, rfl, e4 _ _ hl3, pr.ex e14, hd.ex e14, by omega, fun us H5 k5 hp5 pr5 => ?_⟩
  have nl0 : H l = none := fresh_back e12 nl
  refine s_ret (ev_var rfl) fun H6 e6 => k l us H6 nl0 ((Kw.ex nl0 e14 k5).trans e6) (e6 _ _ hp5) (pr5.ex e6)
theorem sc19 : FnScope ["rows", "heap", "first"] ["rows"] (defScope (top 19)) := ⟨rfl, rfl, rfl, by decide +kernel, rfl, by decide +kernel, by decide +kernel⟩
theorem ok_popped (B : Bm mg) {fE : Addr} (R : Ear P w K mg base fE) (F : Df K mg "popped" (top 19) ["rows"]) (O1 : Okd P w K mg base CX0 3 "check_rows" ["rows"] spChk) (O3 : Okd P w K mg base CX0 4 "take_first" ["rows", "comes_first"] (spTake fE)) :
    Okd P w K mg base CX0 5 "popped" ["rows"] spPopped := by
  refine F.ok sc19 (fun vs H Q E h => by obtain ⟨_, _, _, rfl, _⟩ := h; rfl) (fun f cdv A outer s H vs Q E hr h => ?_)
  obtain ⟨p, vs, ds, rfl, hp, pr, hne, hl, k⟩ := h
  obtain ⟨f_check_rows, d_check_rows, m_check_rows, k_check_rows, b_check_rows, G_check_rows⟩ := O1.ex
  obtain ⟨f_take_first, d_take_first, m_take_first, k_take_first, b_take_first, G_take_first⟩ := O3.ex
  have c_is_earlier := R.G
  have r_is_earlier : L2.RelV (.ref fE) (.ref fE) := rG
  refine ⟨_, (pss_cons (ps_expr (pe_call G_check_rows (hr.mono (by first | decide | omega)) (by rfl) m_check_rows k_check_rows b_check_rows .nil pass0 (pa_cons (pv 0) pa_nil)))
      (pss_cons (ps_if (pt_not (pt_truth (pv 0) (by intro _; rfl))) (pss_one ps_never) pss_nil)
      (pss_cons (ps_set (i := 1) sc19.nd rfl (Or.inl rfl) (pe_callTy call_listQ (by rfl) B.list boot_list (pa_cons (pv 0) pa_nil)))
      (pss_cons (ps_set (i := 2) sc19.nd rfl (Or.inl rfl) (pe_call G_take_first (hr.mono (by first | decide | omega)) (by rfl) m_take_first k_take_first b_take_first .nil pass0 (pa_cons (pv 1) (pa_cons (pe_glob (by rfl) c_is_earlier r_is_earlier) pa_nil))))
      (pss_one (ps_ret (pe_tup (pa_cons (pv 2) (pa_cons (pv 1) pa_nil))))))))), ?_⟩
  have hlv := pr.len
  have hpos := List.length_pos_iff.mpr hne
  refine q_drop (ev_call (ea_cons (ev_var rfl) ea_nil) (spChk_v hp pr hl)) fun H1 e1 => ?_
  refine q_when (b := false) (et_is (et_not (et_truL (ev_var rfl) (e1 _ _ hp))) ?_) (fun hb => by cases hb) (fun _ H2 e2 => ?_)
  · cases vs with
    | nil => simp at hlv; omega
    | cons a l => rfl
  have e12 := e1.trans e2
  refine q_asgL (el_list (ev_var rfl) (sq_of (e12 _ _ hp))) fun l H3 nl e3 hl3 => ?_
  have e13 := e12.trans e3
  have nl0 : H l = none := fresh_back e12 nl
  refine q_asgC (ea_cons (ev_var rfl) (ea_cons ev_c ea_nil)) fun H4 e4 => ?_
  have e14 := e13.trans e4
  refine ⟨l, vs, ds, rfl, e4 _ _ hl3, pr.ex e14, hne, by omega, fun v us H5 k5 hp5 pr5 hv5 => ?_⟩
  have e15 := Kw.ex nl0 e14 k5
  refine s_retU (eu_tup (ea_cons (ev_var rfl) (ea_cons (ev_var rfl) ea_nil)) (by simp)) fun t H6 nt e6 ht => ?_
  exact k t l v us H6 (fresh_back e15 nt) nl0 (e15.trans e6) ht (e6 _ _ hp5) (pr5.ex e6) (hv5.ex e6)
theorem sc20 : FnScope ["rows", "heap"] ["rows"] (defScope (top 20)) := ⟨rfl, rfl, rfl, by decide +kernel, rfl, by decide +kernel, by decide +kernel⟩
theorem ok_heaped (B : Bm mg) {fE : Addr} (R : Ear P w K mg base fE) (F : Df K mg "heaped" (top 20) ["rows"]) (O1 : Okd P w K mg base CX0 3 "check_rows" ["rows"] spChk) (O3 : Okd P w K mg base CX0 4 "make_heap" ["rows", "comes_first"] (spMake fE)) :
    Okd P w K mg base CX0 5 "heaped" ["rows"] spHeaped := by
  refine F.ok sc20 (fun vs H Q E h => by obtain ⟨_, _, _, rfl, _⟩ := h; rfl) (fun f cdv A outer s H vs Q E hr h => ?_)
  obtain ⟨p, vs, ds, rfl, hp, pr, hl, k⟩ := h
  obtain ⟨f_check_rows, d_check_rows, m_check_rows, k_check_rows, b_check_rows, G_check_rows⟩ := O1.ex
  obtain ⟨f_make_heap, d_make_heap, m_make_heap, k_make_heap, b_make_heap, G_make_heap⟩ := O3.ex
  have c_is_earlier := R.G
  have r_is_earlier : L2.RelV (.ref fE) (.ref fE) := rG
  refine ⟨_, (pss_cons (ps_expr (pe_call G_check_rows (hr.mono (by first | decide | omega)) (by rfl) m_check_rows k_check_rows b_check_rows .nil pass0 (pa_cons (pv 0) pa_nil)))
      (pss_cons (ps_set (i := 1) sc20.nd rfl (Or.inl rfl) (pe_callTy call_listQ (by rfl) B.list boot_list (pa_cons (pv 0) pa_nil)))
      (pss_cons (ps_expr (pe_call G_make_heap (hr.mono (by first | decide | omega)) (by rfl) m_make_heap k_make_heap b_make_heap .nil pass0 (pa_cons (pv 1) (pa_cons (pe_glob (by rfl) c_is_earlier r_is_earlier) pa_nil))))
      (pss_one (ps_ret (pv 1)))))), ?_⟩
  have hlv := pr.len
  refine q_drop (ev_call (ea_cons (ev_var rfl) ea_nil) (spChk_v hp pr hl)) fun H1 e1 => ?_
  refine q_asgL (el_list (ev_var rfl) (sq_of (e1 _ _ hp))) fun l H3 nl e3 hl3 => ?_
  have e13 := e1.trans e3
  have nl0 : H l = none := fresh_back e1 nl
  refine q_call (ea_cons (ev_var rfl) (ea_cons ev_c ea_nil)) fun H4 e4 => ?_
  have e14 := e13.trans e4
  refine ⟨l, vs, ds, rfl, e4 _ _ hl3, pr.ex e14, by omega, fun us H5 k5 hp5 pr5 => ?_⟩
  refine s_ret (ev_var rfl) fun H6 e6 => k l us H6 nl0 ((Kw.ex nl0 e14 k5).trans e6) (e6 _ _ hp5) (pr5.ex e6)
theorem sc21 : FnScope ["rows", "now", "heap", "due"] ["rows", "now"] (defScope (top 21)) := ⟨rfl, rfl, rfl, by decide +kernel, rfl, by decide +kernel, by decide +kernel⟩
theorem ok_ripe (B : Bm mg) {fE : Addr} (R : Ear P w K mg base fE) (F : Df K mg "ripe" (top 21) ["rows", "now"]) (O1 : Okd P w K mg base CX0 3 "check_rows" ["rows"] spChk) (O2 : Okd P w K mg base CX0 2 "check_whole" ["value"] spChkI) (O3 : Okd P w K mg base CX0 4 "take_first" ["rows", "comes_first"] (spTake fE)) :
    Okd P w K mg base CX0 5 "ripe" ["rows", "now"] spRipe := by
  refine F.ok sc21 (fun vs H Q E h => by obtain ⟨_, _, _, _, rfl, _⟩ := h; rfl) (fun f cdv A outer s H vs Q E hr h => ?_)
  obtain ⟨p, now, vs, ds, rfl, hp, pr, hl, k⟩ := h
  obtain ⟨f_check_rows, d_check_rows, m_check_rows, k_check_rows, b_check_rows, G_check_rows⟩ := O1.ex
  obtain ⟨f_check_whole, d_check_whole, m_check_whole, k_check_whole, b_check_whole, G_check_whole⟩ := O2.ex
  obtain ⟨f_take_first, d_take_first, m_take_first, k_take_first, b_take_first, G_take_first⟩ := O3.ex
  have c_is_earlier := R.G
  have r_is_earlier : L2.RelV (.ref fE) (.ref fE) := rG
  refine ⟨_, (pss_cons (ps_expr (pe_call G_check_rows (hr.mono (by first | decide | omega)) (by rfl) m_check_rows k_check_rows b_check_rows .nil pass0 (pa_cons (pv 0) pa_nil)))
      (pss_cons (ps_expr (pe_call G_check_whole (hr.mono (by first | decide | omega)) (by rfl) m_check_whole k_check_whole b_check_whole .nil pass0 (pa_cons (pv 1) pa_nil)))
      (pss_cons (ps_set (i := 2) sc21.nd rfl (Or.inl rfl) (pe_callTy call_listQ (by rfl) B.list boot_list (pa_cons (pv 0) pa_nil)))
      (pss_cons (ps_set (i := 3) sc21.nd rfl (Or.inl rfl) (pe_lst pa_nil))
      (pss_cons (ps_while PassesOwn.never (PW.pt (pw_and (pt_truth (pv 2) (by intro _; rfl)) (pw_and1 (pt_cmpR op_le2 (pe_ix ix_tup (pe_ix ix_list (pv 2) pe_int (fun _ _ => rfl)) pe_int (fun _ _ => rfl)) (pv 1) (nomark _))))) (pss_one (ps_expr (pe_bm PySem.F.plainAttrs_list PySem.F.slot_list_append PySem.F.type_list_append mt_append (pv 3) (pa_cons (pe_call G_take_first (hr.mono (by first | decide | omega)) (by rfl) m_take_first k_take_first b_take_first .nil pass0 (pa_cons (pv 2) (pa_cons (pe_glob (by rfl) c_is_earlier r_is_earlier) pa_nil))) pa_nil)))))
      (pss_one (ps_ret (pe_tup (pa_cons (pv 3) (pa_cons (pv 2) pa_nil)))))))))), ?_⟩
  have hlv := pr.len
  refine q_drop (ev_call (ea_cons (ev_var rfl) ea_nil) (spChk_v hp pr hl)) fun H1 e1 => ?_
  refine q_drop (ev_call (ea_cons (ev_var rfl) ea_nil) fun H2 e2 Q q E => ⟨now, rfl, fun H3 e3 => q H3 e3⟩) fun H2 e2 => ?_
  have e12 := e1.trans e2
  refine q_asgL (el_list (ev_var rfl) (sq_of (e12 _ _ hp))) fun l H3 nl e3 hl3 => ?_
  have e13 := e12.trans e3
  have nl0 : H l = none := fresh_back e12 nl
  refine q_asgL (el_lst ea_nil (by simp)) fun m H4 nm e4 hm4 => ?_
  have e14 := e13.trans e4
  have nm0 : H m = none := fresh_back e13 nm
  have hlm : l ≠ m := fun z => by rw [z, nm] at hl3; cases hl3
  refine q_while (fun n σ' H' => ∃ (us ws : List V) (as bs : List K4.P), σ' = [some (.ref p), some (.int now), some (.ref l), some (.ref m)] ∧ Ex H H' ∧ H' m = some (.lst us) ∧ H' l = some (.lst ws) ∧ Prs H' as us ∧ Prs H' bs ws ∧ bs.length ≤ n ∧ n + as.length ≤ ds.length ∧
    (ripe now ds.length ds).1 = as ++ (ripe now n bs).1 ∧ (ripe now ds.length ds).2 = (ripe now n bs).2) ds.length
    ⟨[], vs, [], ds, rfl, e14, hm4, e4 _ _ hl3, .nil, pr.ex e14, Nat.le_refl _, by simp, rfl, rfl⟩ ?_
  rintro n σ' H' ⟨us, ws, as, bs, rfl, ex, hm, hh, pa, pb, hn, hn2, h1, h2⟩
  have hlb := pb.len
  have hla := pa.len
  refine ⟨decide (0 < bs.length ∧ (at_ bs 0).1 ≤ now), ?_, fun hb H5 e5 => ⟨_, fun _ _ h => h, ?_⟩, fun hb H5 e5 => ?_⟩
  · refine et_is (et_and (et_truL (ev_var rfl) hh) (b := decide ((at_ bs 0).1 ≤ now)) fun hb => ?_) ?_
    · have hb' : ws ≠ [] := by simpa using hb
      have hpos : 0 < bs.length := by have := List.length_pos_iff.mpr hb'; omega
      obtain ⟨x, hx1, hx2⟩ := pb.at_ hpos
      exact et_test (ev_op (ev_fst (ev_row (k := 0) (ev_var rfl) ev_c hh hx1) hx2) (ev_var rfl) rv_le)
    · cases ws with
      | nil => have : bs.length = 0 := by simpa using hlb.symm
               simp [this]
      | cons a r => have : 0 < bs.length := by rw [← hlb]; simp
                    simp [this]
  · obtain ⟨hb1, hb2⟩ := of_decide_eq_true hb
    have hbn : bs ≠ [] := List.length_pos_iff.mp hb1
    obtain ⟨n', rfl⟩ : ∃ n', n = n' + 1 := ⟨n - 1, by omega⟩
    have hr : ripe now (n' + 1) bs = ((pop bs).1 :: (ripe now n' (pop bs).2).1, (ripe now n' (pop bs).2).2) := by
      conv => lhs; unfold ripe
      rw [if_neg (by omega)]
    have hpl := pop_len hbn
    refine s_appC (e5 _ _ hm) (ev_var rfl) (ea_cons (ev_var rfl) (ea_cons ev_c ea_nil)) (fun H6 e6 => ?_) (fun H1 Q Q' hq ⟨p, vs, ds, z1, z2, z3, z4, z5, z6⟩ => ⟨p, vs, ds, z1, z2, z3, z4, z5, fun a b c d e f g => hq _ _ (z6 a b c d e f g)⟩)
    have e56 := e5.trans e6
    refine ⟨l, ws, bs, rfl, e56 _ _ hh, pb.ex e56, hbn, by omega, fun v xs H7 k7 hp7 pr7 hv7 => ?_⟩
    have hm7 : H7 m = some (.lst us) := k7 _ _ (e56 _ _ hm) (Ne.symm hlm)
    have pa7 : Prs H7 as us := (pa.ex e56).kw (e56 _ _ hh) k7
    refine ⟨us, hm7, by omega, ?_⟩
    have kw8 : Kw m H7 (upd H7 m (.lst (us ++ [v]))) := Kw.upd (Ex.refl _)
    have hm8 : (upd H7 m (.lst (us ++ [v]))) m = some (.lst (us ++ [v])) := upd_same
    have hex8 : Ex H (upd H7 m (.lst (us ++ [v]))) := Kw.ex nm0 (Kw.ex nl0 (ex.trans e56) k7) kw8
    generalize upd H7 m (.lst (us ++ [v])) = H8 at *
    refine ⟨n', by omega, us ++ [v], xs, as ++ [(pop bs).1], (pop bs).2, rfl, hex8, hm8, kw8 _ _ hp7 hlm, (pa7.app (.one hv7)).kw hm7 kw8, pr7.kw hm7 kw8, by omega, by rw [List.length_append, List.length_singleton]; omega, ?_, ?_⟩
    · rw [h1, hr, List.append_assoc]
      rfl
    · rw [h2, hr]
  · have hb' : ¬ (0 < bs.length ∧ (at_ bs 0).1 ≤ now) := of_decide_eq_false hb
    have hr : ripe now n bs = ([], bs) := by
      cases n with
      | zero => rfl
      | succ n =>
        unfold ripe
        rw [if_pos (by
          by_cases z : bs.length = 0
          · exact .inl z
          · exact .inr (Int.not_le.mp fun h => hb' ⟨by omega, h⟩))]
    rw [hr] at h1 h2
    rw [List.append_nil] at h1
    refine s_retU (eu_tup (ea_cons (ev_var rfl) (ea_cons (ev_var rfl) ea_nil)) (by simp)) fun t H6 nt e6 ht => ?_
    have e06 := (ex.trans e5)
    exact k t m l us ws H6 (fresh_back e06 nt) nm0 nl0 (e06.trans e6) ht ((e5.trans e6) _ _ hm) ((e5.trans e6) _ _ hh) (by rw [h1]; exact pa.ex (e5.trans e6)) (by rw [h2]; exact pb.ex (e5.trans e6))
end
end K4
/-! The law's draws: cell_at, well, draw, pick. -/
namespace K4
open PySem L2 Evl PySem.Spec PyProof.Rows
/-- a well stands at a, z draws made -/
def Wl (a : Addr) (H : Hp) (z : Nat) : Prop := ∃ x y : Int, H a = some (.lst [.int x, .int y, .int (z : Int)])
theorem Wl.ex {a : Addr} {H H2 : Hp} {z : Nat} (e : Ex H H2) (h : Wl a H z) : Wl a H2 z := by
  obtain ⟨x, y, h⟩ := h
  exact ⟨x, y, e _ _ h⟩
def spWell : Sp := fun vs H Q _ => ∃ c : Int, vs = [.int c] ∧ ∀ p H2, H p = none → Ex H H2 → Wl p H2 0 → Q (.ref p) H2
def spDraw : Sp := fun vs H Q _ => ∃ (a : Addr) (n : Int) (z : Nat), vs = [.ref a, .int n] ∧ Wl a H z ∧ z ≤ 1000000 ∧ 0 < n ∧ n < 2 ^ 140 ∧ ∀ (r : Int) (z2 : Nat) H2, 0 ≤ r → r < n → z2 ≤ z + 1 → Kw a H H2 → Wl a H2 z2 → Q (.int r) H2
section
variable {K : PySem.W.Frag} {σ : L2.St} {H : Hp} {ta te : TE}
def rInt1 : List V → Hp → VK → Prop := fun xs H Q => (∃ i, xs = [.int i] ∧ Q (.int i) H) ∨ ∃ k, xs = [.bl k] ∧ Q (.int (if k then 1 else 0)) H
theorem call_i1 {X : Cx} : CallR X (.type "int") rInt1 := call_int1
theorem ev_i1 {i : Int} (ha : Ev ta σ H (.int i)) : Ev (tCB rInt1 (tCons ta tNil)) σ H (.int i) := ev_cb (ea_cons ha ea_nil) fun H1 e Q q => .inl ⟨i, rfl, q H1 (Ex.refl _)⟩
theorem ev_ib {b : Bool} (ha : Ev ta σ H (.bl b)) : Ev (tCB rInt1 (tCons ta tNil)) σ H (.int (if b then 1 else 0)) := ev_cb (ea_cons ha ea_nil) fun H1 e Q q => .inr ⟨b, rfl, q H1 (Ex.refl _)⟩
end
section
variable {P : Program} {w : World} {K : PySem.W.Frag} {mg : Str → Option Value} {base : Heap}
theorem sc23 : FnScope ["_law_cell"] ["_law_cell"] (defScope (top 23)) := ⟨rfl, rfl, rfl, by decide +kernel, rfl, by decide +kernel, by decide +kernel⟩
theorem ok_well (B : Bm mg) (F : Df K mg "_law_well" (top 23) ["_law_cell"]) : Okd P w K mg base CX0 1 "_law_well" ["_law_cell"] spWell := by
  refine F.ok sc23 (fun vs H Q E h => by obtain ⟨c, rfl, _⟩ := h; rfl) (fun f cdv A outer s H vs Q E hr h => ?_)
  obtain ⟨c, rfl, k⟩ := h
  refine ⟨_, (pss_one (ps_ret (pe_lst (pa_cons (pe_op op_mul (pv 0) (pe_callTy call_i1 (by rfl) B.int boot_int (pa_cons (pe_cmpR op_ge1 (pv 0) (pe_op op_pow pe_int pe_int) (nomark _)) pa_nil))) (pa_cons (pv 0) (pa_cons pe_int pa_nil)))))), ?_⟩
  have hp : CPow 10 18 := ⟨by decide, by decide, by decide⟩
  refine s_retL (el_lst (ea_cons (ev_op (ev_var rfl) (ev_ib (ev_op (ev_var rfl) (ev_op ev_c ev_c (rv_I hp)) rv_I0)) (rv_I ?_)) (ea_cons (ev_var rfl) (ea_cons ev_c ea_nil))) (by simp)) fun p H1 hp e h1 => k p H1 hp e ⟨_, _, h1⟩
  right
  split <;> decide
theorem sc24 : FnScope ["_law_well_here", "_law_many", "_law_salt", "_law_mixed", "_law_found"] ["_law_well_here", "_law_many"] (defScope (top 24)) := ⟨rfl, rfl, rfl, by decide +kernel, rfl, by decide +kernel, by decide +kernel⟩
theorem ok_draw (B : Bm mg) (F : Df K mg "_law_draw" (top 24) ["_law_well_here", "_law_many"]) : Okd P w K mg base CX0 1 "_law_draw" ["_law_well_here", "_law_many"] spDraw := by
  refine F.ok sc24 (fun vs H Q E h => by obtain ⟨a, n, z, rfl, _⟩ := h; rfl) (fun f cdv A outer s H vs Q E hr h => ?_)
  obtain ⟨a, n, z, rfl, ⟨x, y, ha⟩, hz, n0, n1, k⟩ := h
  refine ⟨_, (pss_cons (ps_if (pt_cmpR op_gt1 (pe_ix ix_list (pv 0) pe_int (fun _ _ => rfl)) pe_int (nomark _)) (pss_cons (ps_set (i := 4) sc24.nd rfl (Or.inl rfl) (pe_op op_mod (pe_callTy call_i1 (by rfl) B.int boot_int (pa_cons (pe_ix ix_list (pv 0) pe_int (fun _ _ => rfl)) pa_nil)) (pv 1)))
      (pss_cons (ps_asg (pe_op op_fdivW (pe_ix ix_list (pv 0) pe_int (fun _ _ => rfl)) (pv 1)) (pg_sub (pv 0) pe_int set_list))
      (pss_one (ps_ret (pv 4))))) pss_nil)
      (pss_cons (ps_asg (pe_op op_add (pe_ix ix_list (pv 0) pe_int (fun _ _ => rfl)) pe_int) (pg_sub (pv 0) pe_int set_list))
      (pss_cons (ps_set (i := 2) sc24.nd rfl (Or.inl rfl) (pe_op op_add (pe_op op_mod (pe_callTy call_i1 (by rfl) B.int boot_int (pa_cons (pe_ix ix_list (pv 0) pe_int (fun _ _ => rfl)) pa_nil)) pe_int) (pe_op op_mul (pe_op op_mod (pe_callTy call_i1 (by rfl) B.int boot_int (pa_cons (pe_op op_fdivW (pe_ix ix_list (pv 0) pe_int (fun _ _ => rfl)) pe_int) pa_nil)) pe_int) pe_int)))
      (pss_cons (ps_set (i := 3) sc24.nd rfl (Or.inl rfl) (pe_op op_mod (pe_callTy call_i1 (by rfl) B.int boot_int (pa_cons (pe_op op_pow (pe_op op_add (pe_op op_add (pv 2) (pe_op op_mul pe_int (pe_ix ix_list (pv 0) pe_int (fun _ _ => rfl)))) pe_int) pe_int) pa_nil)) pe_int))
      (pss_cons (ps_set (i := 3) sc24.nd rfl (Or.inl rfl) (pe_op op_mod (pe_callTy call_i1 (by rfl) B.int boot_int (pa_cons (pe_op op_mul (pv 3) (pe_op op_add (pe_op op_add (pe_op op_fdiv (pv 3) pe_int) pe_int) (pe_ix ix_list (pv 0) pe_int (fun _ _ => rfl)))) pa_nil)) pe_int))
      (pss_one (ps_ret (pe_op op_mod (pe_callTy call_i1 (by rfl) B.int boot_int (pa_cons (pe_op op_mod (pe_callTy call_i1 (by rfl) B.int boot_int (pa_cons (pe_op op_mul (pv 3) (pe_op op_add (pe_op op_fdiv (pv 3) pe_int) pe_int)) pa_nil)) pe_int) pa_nil)) (pv 1))))))))), ?_⟩
  have g0 : ∀ {σ : L2.St} {H1 : Hp} {p q r : Int}, σ[0]? = some (some (.ref a)) → H1 a = some (.lst [.int p, .int q, .int r]) → Ev (tOp (rIxL K) (tVar 0) (tC (.int 0))) σ H1 (.int p) := fun s h => ev_op (ev_var s) ev_c (rv_ixL (sq_of h) (atI_nat (j := 0) rfl))
  have g1 : ∀ {σ : L2.St} {H1 : Hp} {p q r : Int}, σ[0]? = some (some (.ref a)) → H1 a = some (.lst [.int p, .int q, .int r]) → Ev (tOp (rIxL K) (tVar 0) (tC (.int 1))) σ H1 (.int q) := fun s h => ev_op (ev_var s) ev_c (rv_ixL (sq_of h) (atI_nat (j := 1) rfl))
  have g2 : ∀ {σ : L2.St} {H1 : Hp} {p q r : Int}, σ[0]? = some (some (.ref a)) → H1 a = some (.lst [.int p, .int q, .int r]) → Ev (tOp (rIxL K) (tVar 0) (tC (.int 2))) σ H1 (.int r) := fun s h => ev_op (ev_var s) ev_c (rv_ixL (sq_of h) (atI_nat (j := 2) rfl))
  refine q_when (et_test (ev_op (g0 rfl ha) ev_c rv_I0)) (fun hb H1 e1 => ?_) (fun hb H1 e1 => ?_)
  · have ha1 := e1 _ _ ha
    refine q_asg (ev_op (ev_i1 (g0 rfl ha1)) (ev_var rfl) (rv_I n0)) fun H2 e2 => ?_
    have ha2 := e2 _ _ ha1
    have hdv : CDivW x n := wide_div (b := 140) n0 (by omega) (by decide) (by decide)
    refine q_setL (j := 0) ha2 (ev_op (g0 rfl ha2) (ev_var rfl) (rv_I hdv)) (ev_var rfl) ev_c (by simp) fun H3 e3 => ?_
    refine s_ret (ev_var rfl) fun H4 e4 => ?_
    exact k (x % n) z H4 (Int.emod_nonneg _ (by omega)) (Int.emod_lt_of_pos _ n0) (by omega) ((Kw.upd ((e1.trans e2).trans e3)).trans (Kw.of e4)) ⟨_, _, e4 _ _ upd_same⟩
  · have ha1 := e1 _ _ ha
    refine q_setL (j := 2) ha1 (ev_op (g2 rfl ha1) ev_c rv_I0) (ev_var rfl) ev_c (by simp) fun H2 e2 => ?_
    obtain ⟨H3, hH3⟩ : ∃ H3, H3 = upd H2 a (.lst [.int x, .int y, .int ((z : Int) + 1)]) := ⟨_, rfl⟩
    have ha3 : H3 a = some (.lst [.int x, .int y, .int ((z : Int) + 1)]) := by rw [hH3]; exact upd_same
    have k3 : Kw a H H3 := by rw [hH3]; exact Kw.upd (e1.trans e2)
    show tSeq _ _ _ _ (upd H2 a (.lst [.int x, .int y, .int ((z : Int) + 1)]))
    rw [← hH3]
    have hd1 : CDivW y 2147483587 := ⟨by decide, by decide +kernel⟩
    refine q_asg (ev_op (ev_op (ev_i1 (g1 rfl ha3)) ev_c (rv_I (by decide))) (ev_op (ev_op (ev_i1 (ev_op (g1 rfl ha3) ev_c (rv_I hd1))) ev_c (rv_I (by decide))) ev_c (rv_I (.inr (by decide)))) rv_I0) fun H4 e4 => ?_
    obtain ⟨sd, hsd⟩ : ∃ sd : Int, sd = y % 2147483587 + y / 2147483587 % 65003 * 41 := ⟨_, rfl⟩
    rw [← hsd]
    have b1 : 0 ≤ sd ∧ sd < 2150444326 := by omega
    have ha4 := e4 _ _ ha3
    have hpw : CPow (sd + 7027 * ((z : Int) + 1) + 29) 5 := ⟨by decide, by decide, by omega⟩
    refine q_asg (ev_op (ev_i1 (ev_op (ev_op (ev_op (ev_var rfl) (ev_op ev_c (g2 rfl ha4) (rv_I (.inl (by decide)))) rv_I0) ev_c rv_I0) ev_c (rv_I hpw))) ev_c (rv_I (by decide))) fun H5 e5 => ?_
    obtain ⟨m1, hm1⟩ : ∃ m1 : Int, m1 = (sd + 7027 * ((z : Int) + 1) + 29) ^ Int.toNat 5 % 2147483647 := ⟨_, rfl⟩
    rw [← hm1]
    have b2 : 0 ≤ m1 ∧ m1 < 2147483647 := by rw [hm1]; exact ⟨Int.emod_nonneg _ (by decide), Int.emod_lt_of_pos _ (by decide)⟩
    have ha5 := e5 _ _ ha4
    have hml : CMul m1 (m1 / 983 + 50021 + ((z : Int) + 1)) := .inl (by omega)
    refine q_asg (ev_op (ev_i1 (ev_op (ev_var rfl) (ev_op (ev_op (ev_op (ev_var rfl) ev_c (rv_I ⟨by decide, by decide⟩)) ev_c rv_I0) (g2 rfl ha5) rv_I0) (rv_I hml))) ev_c (rv_I (by decide))) fun H6 e6 => ?_
    obtain ⟨m2, hm2⟩ : ∃ m2 : Int, m2 = m1 * (m1 / 983 + 50021 + ((z : Int) + 1)) % 2147483629 := ⟨_, rfl⟩
    rw [← hm2]
    have b3 : 0 ≤ m2 ∧ m2 < 2147483629 := by rw [hm2]; exact ⟨Int.emod_nonneg _ (by decide), Int.emod_lt_of_pos _ (by decide)⟩
    have hml2 : CMul m2 (m2 / 2017 + 40009) := .inl (by omega)
    refine s_ret (ev_op (ev_i1 (ev_op (ev_i1 (ev_op (ev_var rfl) (ev_op (ev_op (ev_var rfl) ev_c (rv_I ⟨by decide, by decide⟩)) ev_c rv_I0) (rv_I hml2))) ev_c (rv_I (by decide)))) (ev_var rfl) (rv_I n0)) fun H7 e7 => ?_
    have e37 := (e4.trans e5).trans (e6.trans e7)
    exact k _ (z + 1) H7 (Int.emod_nonneg _ (by omega)) (Int.emod_lt_of_pos _ n0) (Nat.le_refl _) (k3.trans (Kw.of e37)) ⟨x, y, by rw [e37 _ _ ha3]; rfl⟩
/-- the drawn one of some -/
def spPick (K : PySem.W.Frag) : Sp := fun vs H Q _ => ∃ (a p : Addr) (xs : List V) (z : Nat), vs = [.ref a, .ref p] ∧ Wl a H z ∧ z ≤ 1000000 ∧ p ≠ a ∧ (H p = some (.lst xs) ∨ H p = some (.tup xs)) ∧ xs ≠ [] ∧ xs.length ≤ 1000000 ∧ ∀ (x : V) (z2 : Nat) H2, x ∈ xs → z2 ≤ z + 1 → Kw a H H2 → Wl a H2 z2 → Q x H2
theorem sc25 : FnScope ["_law_well_here", "_law_some"] ["_law_well_here", "_law_some"] (defScope (top 25)) := ⟨rfl, rfl, rfl, by decide +kernel, rfl, by decide +kernel, by decide +kernel⟩
theorem ok_pick (B : Bm mg) (F : Df K mg "_law_pick" (top 25) ["_law_well_here", "_law_some"]) (O : Okd P w K mg base CX0 1 "_law_draw" ["_law_well_here", "_law_many"] spDraw) : Okd P w K mg base CX0 2 "_law_pick" ["_law_well_here", "_law_some"] (spPick K) := by
  refine F.ok sc25 (fun vs H Q E h => by obtain ⟨a, p, xs, z, rfl, _⟩ := h; rfl) (fun f cdv A outer s H vs Q E hr h => ?_)
  obtain ⟨a, p, xs, z, rfl, wl, hz, hne, hp, hx, hl, k⟩ := h
  obtain ⟨f__law_draw, d__law_draw, m__law_draw, k__law_draw, b__law_draw, G__law_draw⟩ := O.ex
  refine ⟨_, (pss_one (ps_ret (pe_ix ix_seq (pv 1) (pe_call G__law_draw (hr.mono (by first | decide | omega)) (by rfl) m__law_draw k__law_draw b__law_draw .nil pass0 (pa_cons (pv 0) (pa_cons (pe_callB call_lenQ (by rfl) B.len PySem.boot_len (pa_cons (pv 1) pa_nil)) pa_nil))) (fun _ _ => rfl)))), ?_⟩
  have hlen : Ev (tCB (rLenQ K) (tCons (tVar 1) tNil)) (start ["_law_well_here", "_law_some"] [.ref a, .ref p]) H (.int (xs.length : Int)) := ev_cb (ea_cons (ev_var rfl) ea_nil) fun H1 e Q q => by
    refine ⟨p, xs, rfl, ?_, q H1 (Ex.refl _)⟩
    rcases hp with hp | hp
    · exact .inl (sq_of (e _ _ hp))
    · exact .inr (st_of (e _ _ hp))
  have hpos : 0 < xs.length := List.length_pos_iff.mpr hx
  refine ⟨.ref p, rfl, .ref a, rfl, hlen H (Ex.refl _) _ fun H2 e2 => ?_⟩
  have e1 : Ex H H := Ex.refl H
  refine ⟨a, xs.length, z, rfl, wl.ex (e1.trans e2), hz, by omega, by omega, fun r z2 H3 r0 r1 hz2 kw wl2 => ?_⟩
  obtain ⟨j, rfl⟩ := Int.eq_ofNat_of_zero_le r0
  have hj : j < xs.length := by omega
  have kw' := (Kw.of (a := a) (e1.trans e2)).trans kw
  have hat : atI xs (j : Int) = some xs[j] := atI_nat (j := j) (List.getElem?_eq_getElem hj)
  have fin := k xs[j] z2 H3 (List.getElem_mem hj) hz2 kw' wl2
  rcases hp with hp | hp
  · exact .inl ⟨p, xs, (j : Int), xs[j], rfl, rfl, sq_of (kw' _ _ hp hne), hat, fin⟩
  · exact .inr (.inl ⟨p, xs, (j : Int), xs[j], rfl, rfl, st_of (kw' _ _ hp hne), hat, fin⟩)
end
end K4
/-! Lists of entries and of times as data: ==, sorted, min, comprehensions. -/
namespace K4
open PySem L2 Evl PySem.Spec PyProof.Rows
/-! ### data -/
def PD (d : P) : PyData := .tuple [.int d.1, .int d.2]
theorem shaped_ints (ns : List Int) : SeqAt.shaped (.list (ns.map PyData.int)) = true := by
  have h1 : ∀ ns : List Int, PyData.canLayAll0 (ns.map PyData.int) = true := by
    intro ns
    induction ns with
    | nil => rfl
    | cons a l ih => simp [PyData.canLayAll0, PyData.canLay0, ih]
  have h2 : ∀ ns : List Int, PyData.depthAll (ns.map PyData.int) = 0 := by
    intro ns
    induction ns with
    | nil => rfl
    | cons a l ih => simp [PyData.depthAll, PyData.depth, ih]
  simp [SeqAt.shaped, PyData.canLay0, PyData.depth, h1, h2]
theorem shaped_pd (d : P) : SeqAt.shaped (PD d) = true := by simp [PD, SeqAt.shaped, PyData.canLay0, PyData.canLayAll0, PyData.depth, PyData.depthAll]
theorem shaped_list (ds : List P) : SeqAt.shaped (.list (ds.map PD)) = true := by
  have h1 : ∀ ds : List P, PyData.canLayAll0 (ds.map PD) = true := by
    intro ds
    induction ds with
    | nil => rfl
    | cons a l ih => simp [PyData.canLayAll0, PyData.canLay0, PD, ih]
  have h2 : ∀ ds : List P, PyData.depthAll (ds.map PD) ≤ 1 := by
    intro ds
    induction ds with
    | nil => simp [PyData.depthAll]
    | cons a l ih => simp [PyData.depthAll, PyData.depth, PD, ih]
  have := h2 ds
  simp [SeqAt.shaped, PyData.canLay0, PyData.depth, h1]
  omega
theorem eqv_pd (d e : P) : PyData.eqv (PD d) (PD e) = decide (d = e) := by
  unfold PD
  simp only [PyData.eqv, PyData.eqvAll, Bool.and_true]
  have : (d = e) ↔ (d.1 = e.1 ∧ d.2 = e.2) := Prod.ext_iff
  rw [decide_eq_decide.mpr this, Bool.decide_and]
  rfl
theorem eqv_list : ∀ ds es : List P, PyData.eqvAll (ds.map PD) (es.map PD) = decide (ds = es)
  | [], [] => rfl
  | [], _ :: _ => by simp [PyData.eqvAll]
  | _ :: _, [] => by simp [PyData.eqvAll]
  | d :: ds, e :: es => by
    simp only [List.map_cons, PyData.eqvAll]
    rw [eqv_list ds es, eqv_pd, decide_eq_decide.mpr (List.cons_eq_cons (a := d) (b := e)), Bool.decide_and]
theorem eqv_ints : ∀ ns ms : List Int, PyData.eqvAll (ns.map PyData.int) (ms.map PyData.int) = decide (ns = ms)
  | [], [] => rfl
  | [], _ :: _ => by simp [PyData.eqvAll]
  | _ :: _, [] => by simp [PyData.eqvAll]
  | d :: ds, e :: es => by
    simp only [List.map_cons, PyData.eqvAll, PyData.eqv]
    rw [eqv_ints ds es, decide_eq_decide.mpr (List.cons_eq_cons (a := d) (b := e)), Bool.decide_and]
    rfl
theorem any_pd (d : P) : ∀ es : List P, (List.map PD es).any (fun z => PyData.eqv z (PD d)) = decide (d ∈ es)
  | [] => by simp
  | a :: l => by
    rw [List.map_cons, List.any_cons, any_pd d l, eqv_pd, ← Bool.decide_or]
    refine decide_eq_decide.mpr ?_
    rw [List.mem_cons]
    exact or_congr ⟨Eq.symm, Eq.symm⟩ Iff.rfl
def IsL (ds : List P) (H : Hp) (v : V) : Prop := ∃ p vs, v = .ref p ∧ H p = some (.lst vs) ∧ Prs H ds vs
def IsI (ns : List Int) (H : Hp) (v : V) : Prop := ∃ p, v = .ref p ∧ H p = some (.lst (ns.map V.int))
theorem IsL.ex {ds : List P} {H H2 : Hp} {v : V} (e : Ex H H2) (h : IsL ds H v) : IsL ds H2 v := by
  obtain ⟨p, vs, h1, h2, h3⟩ := h
  exact ⟨p, vs, h1, e _ _ h2, h3.ex e⟩
theorem IsI.ex {ns : List Int} {H H2 : Hp} {v : V} (e : Ex H H2) (h : IsI ns H v) : IsI ns H2 v := by
  obtain ⟨p, h1, h2⟩ := h
  exact ⟨p, h1, e _ _ h2⟩
theorem PrV.dp {K : PySem.W.Frag} {H : Hp} {d : P} {v : V} (h : PrV H d v) : Dp K H v (PD d) := by
  obtain ⟨a, rfl, h2⟩ := h
  exact .tup (st_of h2) (.cons (.int _) (.cons (.int _) .nil))
theorem Prs.dp {K : PySem.W.Frag} {H : Hp} : ∀ {ds : List P} {vs : List V}, Prs H ds vs → DpAll K H vs (ds.map PD)
  | _, _, .nil => .nil
  | _, _, .cons q t => .cons q.dp (Prs.dp t)
theorem IsL.dp {K : PySem.W.Frag} {ds : List P} {H : Hp} {v : V} (h : IsL ds H v) : Dp K H v (.list (ds.map PD)) := by
  obtain ⟨p, vs, rfl, h2, h3⟩ := h
  exact .lst (sq_of h2) h3.dp
theorem IsI.dp {K : PySem.W.Frag} {ns : List Int} {H : Hp} {v : V} (h : IsI ns H v) : Dp K H v (.list (ns.map PyData.int)) := by
  obtain ⟨p, rfl, h2⟩ := h
  refine .lst (sq_of h2) ?_
  clear h2
  induction ns with
  | nil => exact .nil
  | cons a l ih => exact .cons (.int _) ih
theorem PrV.inj {H : Hp} {d e : P} {v : V} (h : PrV H d v) (h2 : PrV H e v) : d = e := by
  obtain ⟨a, rfl, h⟩ := h
  obtain ⟨b, eb, h2⟩ := h2
  cases eb
  rw [h] at h2
  simp only [Option.some.injEq, HO.tup.injEq, List.cons.injEq, V.int.injEq, and_true] at h2
  exact Prod.ext h2.1 h2.2
/-! ### sorted -/
def Lx (l : List P) : Prop := l.Pairwise fun x y => SrtO.lexB y x = false
theorem Lx.uniq {l m : List P} (h : Lx l) (h2 : Lx m) (p : l.Perm m) : l = m := by
  refine List.Perm.eq_of_pairwise (le := fun x y => SrtO.lexB y x = false) (fun a b _ _ z1 z2 => ?_) h h2 p
  have z1 := SrtO.lexB_no.mp z1
  have z2 := SrtO.lexB_no.mp z2
  refine Prod.ext ?_ ?_ <;> omega
def UpI (l : List Int) : Prop := l.Pairwise (· ≤ ·)
theorem UpI.uniq {l m : List Int} (h : UpI l) (h2 : UpI m) (p : l.Perm m) : l = m := List.Perm.eq_of_pairwise (le := fun x y => x ≤ y) (fun a b _ _ z1 z2 => Int.le_antisymm z1 z2) h h2 p
open Classical in
noncomputable def keyOf (H : Hp) (v : V) : P := if h : ∃ d, PrV H d v then h.choose else (0, 0)
theorem keyOf_eq {H : Hp} {d : P} {v : V} (h : PrV H d v) : keyOf H v = d := by
  unfold keyOf
  have e : ∃ d, PrV H d v := ⟨d, h⟩
  rw [dif_pos e]
  exact e.choose_spec.inj h
theorem Prs.keys {H : Hp} : ∀ {ds : List P} {vs : List V}, Prs H ds vs → ds = vs.map (keyOf H) ∧ ∀ v ∈ vs, PrV H (keyOf H v) v
  | _, _, .nil => ⟨rfl, fun _ h => nomatch h⟩
  | _, _, .cons q t => by
    obtain ⟨h1, h2⟩ := Prs.keys t
    refine ⟨by rw [List.map_cons, keyOf_eq q, ← h1], fun v hv => ?_⟩
    rcases List.mem_cons.mp hv with e | e
    · rw [e, keyOf_eq q]; exact q
    · exact h2 v e
theorem Prs.of_keys {H : Hp} : ∀ {vs : List V}, (∀ v ∈ vs, PrV H (keyOf H v) v) → Prs H (vs.map (keyOf H)) vs
  | [], _ => .nil
  | v :: vs, h => .cons (h v (by simp)) (Prs.of_keys fun u hu => h u (List.mem_cons_of_mem _ hu))
section
variable {K : PySem.W.Frag} {H : Hp} {σ : L2.St} {ta tb te tl : TE} {tt : TT} {tz tbd : TS} {Dd : Ends} {x y z : V}
theorem evp_mono {P1 : Hp → V → Prop} {H' : Hp} (e : Ex H H') (h : EvP te σ H P1) : EvP te σ H' P1 := fun H1 a Q q => h H1 (e.trans a) Q q
/-- an operation on two things with properties -/
theorem ev_op2 {P1 P2 : Hp → V → Prop} {r : R2} (ha : EvP ta σ H P1) (hb : ∀ H1, Ex H H1 → EvP tb σ H1 P2) (m1 : ∀ v H1 H2, Ex H1 H2 → P1 H1 v → P1 H2 v) (hr : ∀ x y H1, Ex H H1 → P1 H1 x → P2 H1 y → RV r x y H1 z) : Ev (tOp r ta tb) σ H z := fun H1 e Q q =>
  ha H1 e _ fun x H2 e2 p1 => hb H2 (e.trans e2) H2 (Ex.refl _) _ fun y H3 e3 p2 => hr x y H3 ((e.trans e2).trans e3) (m1 _ _ _ e3 p1) p2 H3 (Ex.refl _) Q fun H4 e4 => q H4 ((e2.trans e3).trans e4)
theorem ev_neL {ds es : List P} (ha : EvP ta σ H (IsL ds)) (hb : ∀ H1, Ex H H1 → EvP tb σ H1 (IsL es)) : Ev (tOp (rNeD K) ta tb) σ H (.bl (!decide (ds = es))) :=
  ev_op2 ha hb (fun _ _ _ e h => h.ex e) fun x y H1 _ p1 p2 => rv_val fun H2 e Q q => ⟨_, _, (p1.ex e).dp, (p2.ex e).dp, shaped_list _, shaped_list _, by
    rw [show PyData.eqv (.list (ds.map PD)) (.list (es.map PD)) = decide (ds = es) from eqv_list ds es]
    exact q⟩
theorem ev_eqL {ds es : List P} (ha : EvP ta σ H (IsL ds)) (hb : ∀ H1, Ex H H1 → EvP tb σ H1 (IsL es)) : Ev (tOp (rEqD K) ta tb) σ H (.bl (decide (ds = es))) :=
  ev_op2 ha hb (fun _ _ _ e h => h.ex e) fun x y H1 _ p1 p2 => rv_val fun H2 e Q q => ⟨_, _, (p1.ex e).dp, (p2.ex e).dp, shaped_list _, shaped_list _, by
    rw [show PyData.eqv (.list (ds.map PD)) (.list (es.map PD)) = decide (ds = es) from eqv_list ds es]
    exact q⟩
theorem ev_neI {ds es : List Int} (ha : EvP ta σ H (IsI ds)) (hb : ∀ H1, Ex H H1 → EvP tb σ H1 (IsI es)) : Ev (tOp (rNeD K) ta tb) σ H (.bl (!decide (ds = es))) :=
  ev_op2 ha hb (fun _ _ _ e h => h.ex e) fun x y H1 _ p1 p2 => rv_val fun H2 e Q q => ⟨_, _, (p1.ex e).dp, (p2.ex e).dp, shaped_ints _, shaped_ints _, by
    rw [show PyData.eqv (.list (ds.map PyData.int)) (.list (es.map PyData.int)) = decide (ds = es) from eqv_ints ds es]
    exact q⟩
theorem ev_nePair {d e : P} {u v : V} (ha : Ev ta σ H u) (hb : Ev tb σ H v) (h1 : PrV H d u) (h2 : PrV H e v) : Ev (tOp (rNeD K) ta tb) σ H (.bl (!decide (d = e))) :=
  ev_op ha hb (rv_val fun H2 ex Q q => ⟨_, _, (h1.ex ex).dp, (h2.ex ex).dp, shaped_pd _, shaped_pd _, by
    rw [eqv_pd]
    exact q⟩)
theorem ev_notInL {d : P} {es : List P} {u v : V} (ha : Ev ta σ H u) (hb : Ev tb σ H v) (h1 : PrV H d u) (h2 : IsL es H v) : Ev (tOp (rNotInD K) ta tb) σ H (.bl (!decide (d ∈ es))) :=
  ev_op ha hb (rv_val fun H2 ex Q q => ⟨_, _, (h1.ex ex).dp, (h2.ex ex).dp, shaped_pd _, shaped_list _, by
    rw [any_pd]
    exact q⟩)
/-- a new list is a list -/
theorem isl_new {ds : List P} (h : EvLP te σ H (fun H1 vs => Prs H1 ds vs)) : EvP te σ H (IsL ds) := fun H1 e Q q => h H1 e _ fun p xs H2 _ e2 hp pr => q (.ref p) H2 e2 ⟨p, xs, rfl, hp, pr⟩
theorem isl_var {ds : List P} {v : V} (h : Ev te σ H v) (hl : IsL ds H v) : EvP te σ H (IsL ds) := evp h fun _ e => hl.ex e
theorem isi_new {ns : List Int} (h : EvLP te σ H (fun _ vs => vs = ns.map V.int)) : EvP te σ H (IsI ns) := fun H1 e Q q => h H1 e _ fun p xs H2 _ e2 hp pr => q (.ref p) H2 e2 ⟨p, rfl, by rw [hp, pr]⟩
theorem isi_var {ns : List Int} {v : V} (h : Ev te σ H v) (hl : IsI ns H v) : EvP te σ H (IsI ns) := evp h fun _ e => hl.ex e
/-- sorted(xs), entries -/
theorem el_sorted {ds es : List P} (ha : EvP ta σ H (IsL ds)) (hs : Lx es) (hp : es.Perm ds) : EvLP (tCB (rSortedPO K) (tCons ta tNil)) σ H (fun H1 vs => Prs H1 es vs) := fun H1 e Q q =>
  ha H1 e _ fun v H2 e2 hv => by
    obtain ⟨p, vs, rfl, h1, h2⟩ := hv
    obtain ⟨k1, k2⟩ := h2.keys
    refine ⟨p, vs, keyOf H2, rfl, sq_of h1, fun x hx => k2 x hx, fun ys q' s1 s2 hn => ?_⟩
    have hy : Prs H2 (ys.map (keyOf H2)) ys := Prs.of_keys fun v hv => k2 v (s2.perm.subset hv)
    have hes : ys.map (keyOf H2) = es := by
      refine Lx.uniq (List.pairwise_map.mpr s1) hs ?_
      refine (s2.perm.map _).trans ?_
      rw [← k1]
      exact hp.symm
    rw [hes] at hy
    exact q q' ys _ (fresh_back e2 hn) (e2.trans (Ex.new hn)) upd_same (hy.ex (Ex.new hn))
/-- sorted(ns), times -/
theorem el_sortedI {ns ms : List Int} (ha : EvP ta σ H (IsI ns)) (hs : UpI ms) (hp : ms.Perm ns) : EvLP (tCB (rSortedI K) (tCons ta tNil)) σ H (fun _ vs => vs = ms.map V.int) := fun H1 e Q q =>
  ha H1 e _ fun v H2 e2 hv => by
   obtain ⟨p, rfl, h1⟩ := hv
   exact ⟨p, ns, rfl, sq_of h1, fun ns' q' s1 s2 hn => by
    have hes : ns' = ms := UpI.uniq s2 hs (s1.trans hp.symm)
    rw [hes]
    exact q q' _ _ (fresh_back e2 hn) (e2.trans (Ex.new hn)) upd_same rfl⟩
/-- xs + ys -/
theorem el_cat {ds es : List P} (ha : EvP ta σ H (IsL ds)) (hb : ∀ H1, Ex H H1 → EvP tb σ H1 (IsL es)) (hl : ds.length + es.length ≤ 100000) : EvLP (tOp rCat ta tb) σ H (fun H1 vs => Prs H1 (ds ++ es) vs) := fun H1 e Q q =>
  ha H1 e _ fun x H2 e2 p1 => hb H2 (e.trans e2) H2 (Ex.refl _) _ fun y H3 e3 ⟨p, vs, r1, h1, h2⟩ => by
    obtain ⟨p', vs', r2, h3, h4⟩ := p1.ex e3
    refine ⟨p', p, vs', vs, r2, r1, h3, h1, sz_of (by rw [h4.len, h2.len]; exact hl), fun q' hn => ?_⟩
    exact q q' _ _ (fresh_back (e2.trans e3) hn) ((e2.trans e3).trans (Ex.new hn)) upd_same ((h4.app h2).ex (Ex.new hn))
theorem el_one {d : P} {v : V} (h : Ev te σ H v) (hd : PrV H d v) : EvLP (tLst (tCons te tNil)) σ H (fun H1 vs => Prs H1 [d] vs) := fun H1 e Q q =>
  el_lst (ea_cons h ea_nil) (by simp) H1 e _ fun p H2 hn e2 hp => q p _ H2 hn e2 hp (.one (hd.ex (e.trans e2)))
theorem el_nilL : EvLP (tLst tNil) σ H (fun H1 vs => Prs H1 [] vs) := fun H1 e Q q =>
  el_lst ea_nil (by simp) H1 e _ fun p H2 hn e2 hp => q p _ H2 hn e2 hp .nil
theorem el_nilI : EvLP (tLst tNil) σ H (fun _ vs => vs = List.map V.int []) := fun H1 e Q q =>
  el_lst ea_nil (by simp) H1 e _ fun p H2 hn e2 hp => q p _ H2 hn e2 hp rfl
/-! ### comprehensions -/
theorem wk_isl {ds : List P} (h : EvP tl σ H (IsL ds)) : Wk (iList K tl) σ H ds.length (fun i H1 x => ∃ d, ds[i]? = some d ∧ PrV H1 d x) := fun H1 e R k =>
  h H1 e _ fun v H2 e2 ⟨p, xs, rv, hl, pl⟩ => ⟨p, rv, ⟨xs, sq_of hl⟩, by
    have w : Walk (Itl K p) xs.length (fun H => SqL K H p xs) (YAt xs) := walk_list
    rw [pl.len] at w
    refine k _ _ _ H2 e2 w (fun H3 e3 => sq_of (e3 _ _ hl)) fun i H3 x H4 hi e3 y => ?_
    obtain ⟨e4, hx⟩ := y
    subst e4
    obtain ⟨v, h1, h2⟩ := (pl.ex e3).at_ hi
    rw [hx] at h1
    cases h1
    exact ⟨Ex.refl _, ds[i], List.getElem?_eq_getElem hi, by rw [← at_get hi]; exact h2⟩⟩
theorem prv_ew {H H2 : Hp} (e : Ew H H2) {d : P} {v : V} (h : PrV H d v) : PrV H2 d v := by
  obtain ⟨a, h1, h2⟩ := h
  exact ⟨a, h1, (e a).1 _ h2⟩
theorem paired_app_inv {α β : Type} {R : α → β → Prop} : ∀ {l l' : List α} {m : List β}, Paired R (l ++ l') m → ∃ m1 m2, m = m1 ++ m2 ∧ Paired R l m1 ∧ Paired R l' m2
  | [], _, m, h => ⟨[], m, rfl, .nil, h⟩
  | a :: l, l', _, h => by
    cases h with
    | cons q t =>
      obtain ⟨m1, m2, e, h1, h2⟩ := paired_app_inv t
      exact ⟨_ :: m1, m2, by rw [e]; rfl, .cons q h1, h2⟩
theorem kept_filter {H : Hp} {ds : List P} {F : Nat → Bool} {f : P → Bool} {g : P → P} (hF : ∀ i d, ds[i]? = some d → F i = f d) : ∀ {n : Nat} {ys : List V}, n ≤ ds.length → Paired (fun i y => ∃ d, ds[i]? = some d ∧ PrV H (g d) y) (kept F n) ys → Prs H (((ds.take n).filter f).map g) ys
  | 0, ys, _, h => by
    have : kept F 0 = [] := rfl
    rw [this] at h
    cases h
    exact .nil
  | n + 1, ys, hn, h => by
    have hd : ds[n]? = some ds[n] := List.getElem?_eq_getElem (by omega)
    have ht : ds.take (n + 1) = ds.take n ++ [ds[n]] := by rw [List.take_succ, hd]; rfl
    rw [ht, List.filter_append, List.map_append]
    cases hf : F n with
    | true =>
      rw [kept_yes hf] at h
      obtain ⟨m1, m2, e, h1, h2⟩ := paired_app_inv h
      have ih := kept_filter hF (by omega) h1
      cases h2 with
      | cons q t =>
        cases t
        obtain ⟨d, hd2, hv⟩ := q
        rw [hd] at hd2
        cases hd2
        rw [e]
        have : [ds[n]].filter f = [ds[n]] := by rw [List.filter_cons_of_pos (by rw [← hF n _ hd]; exact hf)]; rfl
        rw [this]
        exact ih.app (.one hv)
    | false =>
      rw [kept_no hf] at h
      have ih := kept_filter hF (by omega) h
      have : [ds[n]].filter f = [] := by rw [List.filter_cons_of_neg (by rw [← hF n _ hd, hf]; decide)]; rfl
      rw [this, List.map_nil, List.append_nil]
      exact ih
/-- [.. for one in xs if f(one)], each an entry -/
theorem el_lcD {ds : List P} {j : Nat} {own : List Nat} (f : P → Bool) (g : P → P) (h : EvP tl σ H (IsL ds)) (hl : ds.length ≤ 40000) (hw : ∀ x, wipe ((wipe σ own).set j (some x)) own = wipe σ own)
    (ht : ∀ x d H1, Ex H H1 → PrV H1 d x → EvT tt ((wipe σ own).set j (some x)) H1 (f d)) (he : ∀ x d H1, Ex H H1 → PrV H1 d x → EvP te ((wipe σ own).set j (some x)) H1 (fun H2 y => PrV H2 (g d) y)) :
    EvLP (tLc (iList K tl) (gName j) tt te own) σ H (fun H1 vs => Prs H1 ((ds.filter f).map g) vs) := fun H0 e0 Q q =>
  el_lc (fun i => match ds[i]? with | some d => f d | none => true) (fun i H1 y => ∃ d, ds[i]? = some d ∧ PrV H1 (g d) y) (wk_isl h) hl (fun i H1 H2 y e ⟨d, h1, h2⟩ => ⟨d, h1, prv_ew e h2⟩)
    (fun i x H1 hi e ⟨d, hd, px⟩ Z k => k _ H1 (Ex.refl _) (hw x) (by rw [hd]; exact ht x d H1 e px) fun _ => (he x d H1 e px).imp fun H2 v _ hv => ⟨d, hd, hv⟩) H0 e0 Q fun p xs H2 hn e2 hp pl => by
      refine q p xs H2 hn e2 hp ?_
      have := kept_filter (f := f) (g := g) (fun i d hd => by rw [hd]) (Nat.le_refl _) pl
      rw [List.take_length] at this
      exact this
theorem kept_ints {ds : List P} {g : P → Int} : ∀ {n : Nat} {ys : List V}, n ≤ ds.length → Paired (fun i y => ∃ d, ds[i]? = some d ∧ y = V.int (g d)) (kept (fun _ => true) n) ys → ys = ((ds.take n).map g).map V.int
  | 0, ys, _, h => by
    have : kept (fun _ => true) 0 = [] := rfl
    rw [this] at h
    cases h
    rfl
  | n + 1, ys, hn, h => by
    have hd : ds[n]? = some ds[n] := List.getElem?_eq_getElem (by omega)
    have ht : ds.take (n + 1) = ds.take n ++ [ds[n]] := by rw [List.take_succ, hd]; rfl
    rw [kept_yes rfl] at h
    obtain ⟨m1, m2, e, h1, h2⟩ := paired_app_inv h
    have ih := kept_ints (by omega) h1
    cases h2 with
    | cons q t =>
      cases t
      obtain ⟨d, hd2, hv⟩ := q
      rw [hd] at hd2
      cases hd2
      rw [e, ih, ht, hv, List.map_append, List.map_append]
      rfl
theorem el_lcI {ds : List P} {j : Nat} {own : List Nat} (g : P → Int) (h : EvP tl σ H (IsL ds)) (hl : ds.length ≤ 40000) (hw : ∀ x, wipe ((wipe σ own).set j (some x)) own = wipe σ own)
    (he : ∀ x d H1, Ex H H1 → PrV H1 d x → Ev te ((wipe σ own).set j (some x)) H1 (.int (g d))) : EvLP (tLc (iList K tl) (gName j) tYes te own) σ H (fun _ vs => vs = (ds.map g).map V.int) := fun H0 e0 Q q =>
  el_lc (fun _ => true) (fun i _ y => ∃ d, ds[i]? = some d ∧ y = V.int (g d)) (wk_isl h) hl (fun i H1 H2 y e h => h)
    (fun i x H1 hi e ⟨d, hd, px⟩ Z k => k _ H1 (Ex.refl _) (hw x) (fun H2 e2 Q q => q H2 (Ex.refl _)) fun _ => evp (he x d H1 e px) fun _ _ => ⟨d, hd, rfl⟩) H0 e0 Q fun p xs H2 hn e2 hp pl => by
      refine q p xs H2 hn e2 hp ?_
      have := kept_ints (g := g) (Nat.le_refl _) pl
      rw [List.take_length] at this
      exact this
/-- min(ns) -/
theorem ev_min {ns : List Int} {m : Int} (h : EvP ta σ H (IsI ns)) (h1 : m ∈ ns) (h2 : ∀ y ∈ ns, m ≤ y) : Ev (tCB (rMin K) (tCons ta tNil)) σ H (.int m) := fun H1 e Q q =>
  h H1 e _ fun v H2 e2 ⟨p, rv, hp⟩ => ⟨p, ns, by rw [rv], sq_of hp, List.length_pos_iff.mpr (List.ne_nil_of_mem h1), fun m' a b => by
    have : m' = m := Int.le_antisymm (b m h1) (h2 m' a)
    rw [this]
    exact q H2 e2⟩
end
end K4
/-! _law_out, _law_moved_right. -/
namespace K4
open PySem L2 Evl PySem.Spec PyProof.Rows
def spOut : Sp := fun args H Q _ => ∃ (p : Addr) (vs : List V) (ds : List P), args = [.ref p] ∧ H p = some (.lst vs) ∧ Prs H ds vs ∧ ds.length ≤ 5000 ∧ NewL (out ds.length ds) H Q
def spMoved : Sp := fun args H Q _ => ∃ (p : Addr) (vs : List V) (ds : List P) (by_ more : Int), args = [.ref p, .int by_, .int more] ∧ H p = some (.lst vs) ∧ Prs H ds vs ∧ ds.length ≤ 5000 ∧ 0 < by_ ∧ by_ < 1000 ∧ RetV (.bl true) H Q
section
variable {K : PySem.W.Frag} {H : Hp} {σ : L2.St} {ta te tl : TE} {tz tbd : TS} {Dd : Ends}
theorem q_callG {g : TG} {sp : Sp} {E : XK} {t : TA} {vs : List V} (h : EvA t σ H vs) (k : ∀ H1, Ex H H1 → sp (vs ++ []) H1 (fun v H2 => g v σ H2 (tz Dd)) E) : tSeq (tAsg (tCall sp [] E t) g) tz Dd σ H := h H (Ex.refl H) _ fun H1 e => k H1 e
theorem pair_names {i j : Nat} {t : Addr} {x y : V} {Q : L2.St → Hp → Prop} (ht : H t = some (.tup [x, y])) (k : Q ((σ.set i (some x)).set j (some y)) H) : gTup K 2 (gCons (gName i) (gCons (gName j) gNil)) (.ref t) σ H Q :=
  ⟨t, [x, y], rfl, st_of ht, rfl, x, [y], rfl, y, [], rfl, rfl, k⟩
theorem el_callN {sp : Sp} {E : XK} {ds : List P} {P1 : Hp → V → Prop} (h : EvP ta σ H P1) (k : ∀ v H1, Ex H H1 → P1 H1 v → ∀ Q, NewL ds H1 Q → sp ([v] ++ []) H1 Q E) : EvLP (tCall sp [] E (tCons ta tNil)) σ H (fun H1 vs => Prs H1 ds vs) := fun H1 e Q q =>
  h H1 e _ fun v H2 e2 p => k v H2 (e.trans e2) p _ fun l vs H3 nl e3 hl pr => q l vs H3 (fresh_back e2 nl) (e2.trans e3) hl pr
theorem s_appV {l : Addr} {xs : List V} {v : V} (hl : H l = some (.lst xs)) (ha : Ev ta σ H (.ref l)) (h : Ev te σ H v) (hz : xs.length < 100000) (k : ∀ H2, Kw l H H2 → H2 l = some (.lst (xs ++ [v])) → Dd.nx σ H2) : tDrop (tBM K "list" rAppend ta (tCons te tNil)) Dd σ H :=
  s_app hl ha h hz fun H1 e => k _ (Kw.upd e) upd_same
theorem q_appV {l : Addr} {xs : List V} {v : V} (hl : H l = some (.lst xs)) (ha : Ev ta σ H (.ref l)) (h : Ev te σ H v) (hz : xs.length < 100000) (k : ∀ H2, Kw l H H2 → H2 l = some (.lst (xs ++ [v])) → tz Dd σ H2) : tSeq (tDrop (tBM K "list" rAppend ta (tCons te tNil))) tz Dd σ H :=
  s_appV (Dd := { Dd with nx := tz Dd }) hl ha h hz k
theorem q_asgLP {Pl : Hp → List V → Prop} {i : Nat} (h : EvLP te σ H Pl) (k : ∀ p xs H1, H p = none → Ex H H1 → H1 p = some (.lst xs) → Pl H1 xs → tz Dd (σ.set i (some (.ref p))) H1) : tSeq (tAsg te (gName i)) tz Dd σ H :=
  h H (Ex.refl H) _ fun p xs H1 hp e hl pl => k p xs H1 hp e hl pl
theorem el_heaped {E : XK} {ds : List P} (h : EvP ta σ H (IsL ds)) (hl : ds.length ≤ 5000) : EvLP (tCall spHeaped [] E (tCons ta tNil)) σ H (fun H1 vs => Prs H1 (heapify ds) vs) :=
  el_callN h fun v H1 _ hv Q q => by
    obtain ⟨p, vs, rfl, hp, pr⟩ := hv
    exact ⟨p, vs, ds, rfl, hp, pr, hl, q⟩
theorem el_out {E : XK} {ds : List P} (h : EvP ta σ H (IsL ds)) (hl : ds.length ≤ 5000) : EvLP (tCall spOut [] E (tCons ta tNil)) σ H (fun H1 vs => Prs H1 (out ds.length ds) vs) :=
  el_callN h fun v H1 _ hv Q q => by
    obtain ⟨p, vs, rfl, hp, pr⟩ := hv
    exact ⟨p, vs, ds, rfl, hp, pr, hl, q⟩
theorem evp_pair {a b : Int} (h : EvU te σ H [.int a, .int b]) : EvP te σ H (fun H1 v => PrV H1 (a, b) v) := fun H1 e Q q => h H1 e _ fun p H2 _ e2 hp => q _ H2 e2 ⟨p, rfl, hp⟩
end
section
variable {P : Program} {w : World} {K : PySem.W.Frag} {mg : Str → Option Value} {base : Heap}
theorem sc26 : FnScope ["_law_rows", "_law_found", "_law_turn", "_law_first"] ["_law_rows"] (defScope (top 26)) := ⟨rfl, rfl, rfl, by decide +kernel, rfl, by decide +kernel, by decide +kernel⟩
theorem ok_out (B : Bm mg) (F : Df K mg "_law_out" (top 26) ["_law_rows"]) (O : Okd P w K mg base CX0 5 "popped" ["rows"] spPopped) : Okd P w K mg base CX0 6 "_law_out" ["_law_rows"] spOut := by
  refine F.ok sc26 (fun vs H Q E h => by obtain ⟨_, _, _, rfl, _⟩ := h; rfl) (fun f cdv A outer s H vs Q E hr h => ?_)
  obtain ⟨p, vs, ds, rfl, hp, pr, hl, k⟩ := h
  obtain ⟨f_popped, d_popped, m_popped, k_popped, b_popped, G_popped⟩ := O.ex
  refine ⟨_, (pss_cons (ps_set (i := 1) sc26.nd rfl (Or.inl rfl) (pe_lst pa_nil))
      (pss_cons (ps_for PassesOwn.never rfl (pi_range1 (by rfl) B.range (pa_cons (pe_callB call_lenQ (by rfl) B.len PySem.boot_len (pa_cons (pv 0) pa_nil)) pa_nil)) (pg_name (i := 2) sc26.nd rfl (Or.inl rfl)) (pss_cons (ps_asg (pe_call G_popped (hr.mono (by first | decide | omega)) (by rfl) m_popped k_popped b_popped .nil pass0 (pa_cons (pv 0) pa_nil)) (pg_tup (by rfl) (pgs_cons (pg_name (i := 3) sc26.nd rfl (Or.inl rfl)) (pgs_cons (pg_name (i := 0) sc26.nd rfl (Or.inl rfl)) pgs_nil))))
      (pss_one (ps_expr (pe_bm PySem.F.plainAttrs_list PySem.F.slot_list_append PySem.F.type_list_append mt_append (pv 1) (pa_cons (pv 3) pa_nil))))))
      (pss_one (ps_ret (pv 1))))), ?_⟩
  have hlv := pr.len
  refine q_asgL (el_lst ea_nil (by simp)) fun f H1 nf e1 hf => ?_
  refine q_forR1 (n := (vs.length : Int)) (ea_cons (ev_lenL (ev_var rfl) (e1 _ _ hp)) ea_nil) (by omega)
    (fun i σ' H' => ∃ (p' : Addr) (us ws : List V) (as bs : List K4.P) (x2 x3 : Option V), σ' = [some (.ref p'), some (.ref f), x2, x3] ∧ Ex H H' ∧ p' ≠ f ∧ H' f = some (.lst us) ∧ H' p' = some (.lst ws) ∧ Prs H' as us ∧ Prs H' bs ws ∧ bs.length + i = ds.length ∧ as.length = i ∧ out ds.length ds = as ++ out bs.length bs)
    (fun H2 e2 => ⟨p, [], vs, [], ds, _, _, rfl, e1.trans e2, fun z => by (rw [z, nf] at hp; cases hp), e2 _ _ hf, (e1.trans e2) _ _ hp, .nil, pr.ex (e1.trans e2), rfl, rfl, rfl⟩) ?_ ?_
  · rintro i σ' H' hi ⟨p', us, ws, as, bs, x2, x3, rfl, ex, hne, hf', hp', pa, pb, h1, h2, h3⟩
    have hla := pa.len
    have hlb := pb.len
    have hbn : bs ≠ [] := fun z => by rw [z] at h1; simp at h1; omega
    have hpl := pop_len hbn
    refine q_callG (ea_cons (ev_var rfl) ea_nil) fun H2 e2 => ?_
    refine ⟨p', ws, bs, rfl, e2 _ _ hp', pb.ex e2, hbn, by omega, fun t l v xs H3 nt nl e3 ht hl3 pr3 hv3 => ?_⟩
    refine pair_names ht ?_
    have e23 := e2.trans e3
    have hf3 := e23 _ _ hf'
    refine s_appV hf3 (ev_var rfl) (ev_var rfl) (by omega) fun H4 k4 hf4 => ?_
    have hlf : l ≠ f := fun z => by rw [z, e2 _ _ hf'] at nl; cases nl
    exact ⟨l, us ++ [v], xs, as ++ [(pop bs).1], (pop bs).2, _, _, rfl, Kw.ex nf (ex.trans e23) k4, hlf, hf4, k4 _ _ hl3 hlf, ((pa.ex e23).kw hf3 k4).app (.one (hv3.kw hf3 k4)), pr3.kw hf3 k4, by omega, by rw [List.length_append, List.length_singleton]; omega, by
      rw [h3, List.append_assoc]
      congr 1
      rw [← hpl]
      rfl⟩
  · rintro σ' H' ⟨p', us, ws, as, bs, x2, x3, rfl, ex, hne, hf', hp', pa, pb, h1, h2, h3⟩
    have hb0 : bs.length = 0 := by omega
    rw [hb0] at h3
    have h3' : out ds.length ds = as := by rw [h3]; exact List.append_nil as
    rw [← h3'] at pa
    refine s_ret (ev_var rfl) fun H2 e2 => k f us H2 nf (ex.trans e2) (e2 _ _ hf') (pa.ex e2)
theorem sc28 : FnScope ["_law_rows", "_law_by", "_law_more", "_law_moved", "_law_mine", "_law_one"] ["_law_rows", "_law_by", "_law_more"] (defScope (top 28)) := ⟨rfl, rfl, rfl, by decide +kernel, rfl, by decide +kernel, by decide +kernel⟩
theorem ok_moved (B : Bm mg) (F : Df K mg "_law_moved_right" (top 28) ["_law_rows", "_law_by", "_law_more"]) (O1 : Okd P w K mg base CX0 5 "heaped" ["rows"] spHeaped) (O2 : Okd P w K mg base CX0 6 "_law_out" ["_law_rows"] spOut) :
    Okd P w K mg base CX0 7 "_law_moved_right" ["_law_rows", "_law_by", "_law_more"] spMoved := by
  refine F.ok sc28 (fun vs H Q E h => by obtain ⟨_, _, _, _, _, rfl, _⟩ := h; rfl) (fun f cdv A outer s H vs Q E hr h => ?_)
  obtain ⟨p, vs, ds, by_, more, rfl, hp, pr, hl, hb0, hb1, k⟩ := h
  obtain ⟨f_heaped, d_heaped, m_heaped, k_heaped, b_heaped, G_heaped⟩ := O1.ex
  obtain ⟨f__law_out, d__law_out, m__law_out, k__law_out, b__law_out, G__law_out⟩ := O2.ex
  have hu := hr.units
  refine ⟨_, (pss_cons (ps_setLc (i := 3) (own := [("_law_one", 5)]) (g := gName 5) (tt := tYes) rfl sc28.nd rfl rfl (sw_true rfl rfl rfl (by decide +kernel)) (pi_list (pv 0)) (blkOk_by (N := ["_law_rows", "_law_by", "_law_more", "_law_moved", "_law_mine", "_law_one"]) (sc := defScope (top 28)) (by decide +kernel)) (fun _ _ _ _ _ => (pg_name (i := 5) sc28.nd rfl (Or.inl rfl))) (fun _ _ _ _ _ => pts_nil) (fun _ _ _ _ _ => (pe_tup (pa_cons (pe_op op_add (pe_op op_mul (pe_ix (r := rIxT K) ix_tup (pv 5) pe_int (fun _ _ => rfl)) (pv 1)) (pv 2)) (pa_cons (pe_ix (r := rIxT K) ix_tup (pv 5) pe_int (fun _ _ => rfl)) pa_nil)))))
      (pss_cons (ps_setLc (i := 4) (own := [("_law_one", 5)]) (g := gName 5) (tt := tYes) rfl sc28.nd rfl rfl (sw_true rfl rfl rfl (by decide +kernel)) (pi_list (pe_call G__law_out (hr.mono (by first | decide | omega)) (by rfl) m__law_out k__law_out b__law_out .nil pass0 (pa_cons (pe_call G_heaped (hr.mono (by first | decide | omega)) (by rfl) m_heaped k_heaped b_heaped .nil pass0 (pa_cons (pv 0) pa_nil)) pa_nil))) (blkOk_by (N := ["_law_rows", "_law_by", "_law_more", "_law_moved", "_law_mine", "_law_one"]) (sc := defScope (top 28)) (by decide +kernel)) (fun _ _ _ _ _ => (pg_name (i := 5) sc28.nd rfl (Or.inl rfl))) (fun _ _ _ _ _ => pts_nil) (fun _ _ _ _ _ => (pe_tup (pa_cons (pe_op op_add (pe_op op_mul (pe_ix (r := rIxT K) ix_tup (pv 5) pe_int (fun _ _ => rfl)) (pv 1)) (pv 2)) (pa_cons (pe_ix (r := rIxT K) ix_tup (pv 5) pe_int (fun _ _ => rfl)) pa_nil)))))
      (pss_one (ps_ret (pe_cmpR (op_eqD hu) (pe_call G__law_out (hr.mono (by first | decide | omega)) (by rfl) m__law_out k__law_out b__law_out .nil pass0 (pa_cons (pe_call G_heaped (hr.mono (by first | decide | omega)) (by rfl) m_heaped k_heaped b_heaped .nil pass0 (pa_cons (pv 3) pa_nil)) pa_nil)) (pv 4) (nomark _)))))), ?_⟩
  obtain ⟨g, hg⟩ : ∃ g : K4.P → K4.P, g = fun d => (d.1 * by_ + more, d.2) := ⟨_, rfl⟩
  have hmono : ∀ a b : K4.P, ((g a).1 < (g b).1) ↔ a.1 < b.1 := by
    intro a b
    rw [hg]
    show a.1 * by_ + more < b.1 * by_ + more ↔ _
    constructor
    · intro h
      exact Int.lt_of_mul_lt_mul_right (by omega) (Int.le_of_lt hb0)
    · intro h
      have := Int.mul_lt_mul_of_pos_right h hb0
      omega
  have hell : ∀ {σ' : L2.St} {H1 : Hp} {x : V} {d : K4.P}, σ'[5]? = some (some x) → σ'[1]? = some (some (.int by_)) → σ'[2]? = some (some (.int more)) → PrV H1 d x →
      EvP (tTup (tCons (tOp (rI0 fun i j => V.int (i + j)) (tOp (rI CMul fun i j => V.int (i * j)) (tOp (rIxT K) (tVar 5) (tC (.int 0))) (tVar 1)) (tVar 2)) (tCons (tOp (rIxT K) (tVar 5) (tC (.int 1))) tNil))) σ' H1 (fun H2 y => PrV H2 (g d) y) := fun {σ' H1 x d} h1 h2 h3 hx => by
    rw [hg]
    exact evp_pair (eu_tup (ea_cons (ev_op (ev_op (ev_fst (ev_var h1) hx) (ev_var h2) (rv_I (.inr (by omega)))) (ev_var h3) rv_I0) (ea_cons (ev_snd (ev_var h1) hx) ea_nil)) (by simp))
  refine q_asgLP (el_lcD (ds := ds) (fun _ => true) g (isl_var (ev_var rfl) ⟨p, vs, rfl, hp, pr⟩) (by omega) (fun _ => rfl) (fun x d H1 e px => fun H2 e2 Q q => q H2 (Ex.refl _)) (fun x d H1 e px => hell rfl rfl rfl px)) fun m us H1 nm e1 hm pm => ?_
  have hf : (ds.filter (fun _ => true)).map g = ds.map g := by rw [List.filter_eq_self.mpr (fun _ _ => rfl)]
  rw [hf] at pm
  have ho := out_perm (heapify ds).length (heapify ds) rfl
  have hol := ho.length_eq
  have hhl := heapify_len ds
  refine q_asgLP (el_lcD (ds := out (heapify ds).length (heapify ds)) (fun _ => true) g (isl_new (el_out (isl_new (el_heaped (isl_var (ev_var rfl) ⟨p, vs, rfl, e1 _ _ hp, pr.ex e1⟩) hl)) (by omega))) (by omega) (fun _ => rfl) (fun x d H1 e px => fun H2 e2 Q q => q H2 (Ex.refl _)) (fun x d H1 e px => hell rfl rfl rfl px)) fun n ws H2 nn e2 hn pn => ?_
  rw [List.filter_eq_self.mpr (fun _ _ => rfl)] at pn
  refine s_ret (ev_is (ev_eqL (isl_new (el_out (isl_new (el_heaped (isl_var (ev_var rfl) ⟨m, us, rfl, e2 _ _ hm, pm.ex e2⟩) (by rw [List.length_map]; exact hl))) (by rw [heapify_len, List.length_map]; exact hl))) (fun H3 e3 => isl_var (ev_var rfl) ⟨n, ws, rfl, e3 _ _ hn, pn.ex e3⟩)) (w := .bl true) ?_) fun H3 e3 => k H3 ((e1.trans e2).trans e3)
  rw [heapify_map g hmono, List.length_map, out_map g hmono _ _ rfl, decide_eq_true rfl]
end
end K4
/-! _law_deed. -/
namespace K4
open PySem L2 Evl PySem.Spec PyProof.Rows
/-- rows and what is kept count of -/
structure Gd (ds es : List P) : Prop where
  heap : Hf 0 ds
  srt : Lx es
  perm : es.Perm ds
  nd : (ds.map (·.2)).Nodup
theorem Gd.nil : Gd [] [] := ⟨nil_heap, .nil, .refl _, .nil⟩
theorem Gd.push {ds es es' : List P} {d : P} (g : Gd ds es) (hd : ∀ e ∈ ds, e.2 ≠ d.2) (hs : Lx es') (hp : es'.Perm (es ++ [d])) : Gd (push ds d) es' := by
  refine ⟨push_heap g.heap, hs, ?_, ?_⟩
  · exact hp.trans ((List.perm_append_singleton d es).trans ((g.perm.cons d).trans (push_perm ds d).symm))
  · have : ((d :: ds).map (·.2)).Nodup := by
      rw [List.map_cons]
      refine List.nodup_cons.mpr ⟨fun h => ?_, g.nd⟩
      obtain ⟨e, he, h2⟩ := List.mem_map.mp h
      exact hd e he h2
    exact ((push_perm ds d).symm.map (·.2)).nodup this
theorem nd_pop {ds : List P} (hn : ds ≠ []) (h : (ds.map (·.2)).Nodup) : ((pop ds).2.map (·.2)).Nodup ∧ ∀ e ∈ (pop ds).2, e ≠ (pop ds).1 := by
  have := ((pop_perm hn).map (·.2)).nodup h
  rw [List.map_cons] at this
  obtain ⟨h1, h2⟩ := List.nodup_cons.mp this
  exact ⟨h2, fun e he z => h1 (List.mem_map.mpr ⟨e, he, by rw [z]⟩)⟩
theorem Gd.pop {ds es es' : List P} (g : Gd ds es) (hn : ds ≠ []) (hs : Lx es') (hp : es'.Perm (es.filter fun e => !decide (e = (pop ds).1))) : Gd (pop ds).2 es' := by
  obtain ⟨h1, h2⟩ := nd_pop hn g.nd
  refine ⟨pop_heap g.heap, hs, ?_, h1⟩
  refine hp.trans ?_
  have := (g.perm.trans (pop_perm hn)).filter fun e => !decide (e = (K4.pop ds).1)
  rw [List.filter_cons_of_neg (by simp)] at this
  refine this.trans (List.Perm.of_eq ?_)
  refine List.filter_eq_self.mpr fun e he => ?_
  rw [decide_eq_false (h2 e he)]
  rfl
theorem Gd.ripe {ds es es' : List P} {now : Int} (g : Gd ds es) (hs : Lx es') (hp : es'.Perm (ripe now ds.length ds).2) : Gd (ripe now ds.length ds).2 es' := by
  obtain ⟨p1, p2, p3, p4, p5⟩ := ripe_spec now ds.length ds (Nat.le_refl _) g.heap
  refine ⟨p5, hs, hp, ?_⟩
  have := (p1.map (·.2)).nodup g.nd
  rw [List.map_append] at this
  exact (List.nodup_append.mp this).2.1
def spDeed : Sp := fun args H Q _ => ∃ (a p q : Addr) (v : V) (d : P) (vs ks : List V) (ds es : List P) (z : Nat), args = [.ref a, .ref p, v, .ref q] ∧ Wl a H z ∧ z ≤ 100000 ∧ p ≠ a ∧ q ≠ a ∧ H p = some (.lst vs) ∧ H q = some (.lst ks) ∧ Prs H ds vs ∧ Prs H es ks ∧ PrV H d v ∧ ds.length ≤ 1000 ∧ Gd ds es ∧ (∀ e ∈ ds, e.2 ≠ d.2) ∧
  ∀ (t l m : Addr) (us ws : List V) (ds' es' : List P) (z2 : Nat) H2, Kw a H H2 → Wl a H2 z2 → z2 ≤ z + 3 → H l = none → H m = none → H2 t = some (.tup [.ref l, .ref m]) → H2 l = some (.lst us) → H2 m = some (.lst ws) → Prs H2 ds' us → Prs H2 es' ws → Gd ds' es' → ds'.length ≤ ds.length + 1 → (∀ e ∈ ds', e = d ∨ e ∈ ds) → Q (.ref t) H2
section
variable {K : PySem.W.Frag} {H : Hp} {σ : L2.St} {ta t1 t2 te tl : TE} {tz tbd : TS} {Dd : Ends}
theorem el_sortedE {ds : List P} (ha : EvP ta σ H (IsL ds)) : EvLP (tCB (rSortedPO K) (tCons ta tNil)) σ H (fun H1 vs => ∃ es, Lx es ∧ es.Perm ds ∧ Prs H1 es vs) := fun H1 e Q q =>
  ha H1 e _ fun v H2 e2 hv => by
    obtain ⟨p, vs, rfl, h1, h2⟩ := hv
    obtain ⟨k1, k2⟩ := h2.keys
    refine ⟨p, vs, keyOf H2, rfl, sq_of h1, fun x hx => k2 x hx, fun ys q' s1 s2 hn => ?_⟩
    have hy : Prs H2 (ys.map (keyOf H2)) ys := Prs.of_keys fun v hv => k2 v (s2.perm.subset hv)
    refine q q' ys _ (fresh_back e2 hn) (e2.trans (Ex.new hn)) upd_same ⟨_, List.pairwise_map.mpr s1, ?_, hy.ex (Ex.new hn)⟩
    refine (s2.perm.map _).trans ?_
    rw [← k1]
theorem el_pushed {E : XK} {ds : List P} {d : P} {x v : V} (h : Ev t1 σ H x) (h2 : Ev t2 σ H v) (hx : IsL ds H x) (hv : PrV H d v) (hl : ds.length ≤ 5000) : EvLP (tCall spPushed [] E (tCons t1 (tCons t2 tNil))) σ H (fun H1 vs => Prs H1 (push ds d) vs) := fun H1 e Q q =>
  ea_cons h (ea_cons h2 ea_nil) H1 e _ fun H2 e2 => by
    obtain ⟨p, vs, rfl, hp, pr⟩ := hx.ex (e.trans e2)
    exact ⟨p, v, d, vs, ds, rfl, hp, pr, hv.ex (e.trans e2), hl, fun l us H3 nl e3 hl3 pr3 => q l us H3 (fresh_back e2 nl) (e2.trans e3) hl3 pr3⟩
/-- return (a, b), b a new list -/
theorem s_retPL {P1 : Hp → V → Prop} {P2 : Hp → List V → Prop} (h1 : EvP t1 σ H P1) (h2 : ∀ H1, Ex H H1 → EvLP t2 σ H1 P2) (k : ∀ t v m ys H0 H1, Ex H H0 → P1 H0 v → Ex H0 H1 → H m = none → H1 t = some (.tup [v, .ref m]) → H1 m = some (.lst ys) → (∃ H9, P2 H9 ys ∧ Ex H9 H1) → Dd.rt (.ref t) H1) :
    tRet (tTup (tCons t1 (tCons t2 tNil))) Dd σ H :=
  h1 H (Ex.refl _) _ fun v H0 e0 p1 => h2 H0 e0 H0 (Ex.refl _) _ fun m ys H1 nm e1 hm p2 => ⟨sz_of (by simp), fun t nt => k t v m ys H0 _ e0 p1 (e1.trans (Ex.new nt)) (fresh_back e0 nm) upd_same ((Ex.new nt) _ _ hm) ⟨H1, p2, Ex.new nt⟩⟩
end
theorem evp_ofL {te : TE} {σ : L2.St} {H : Hp} {Pl : Hp → List V → Prop} (h : EvLP te σ H Pl) : EvP te σ H (fun H9 v => ∃ l us, v = .ref l ∧ H l = none ∧ H9 l = some (.lst us) ∧ Pl H9 us) := fun H1 e Q q =>
  h H1 e _ fun p xs H2 nn e2 hp pl => q (.ref p) H2 e2 ⟨p, xs, rfl, fresh_back e nn, hp, pl⟩
theorem raw_call {sp : Sp} {E : XK} {t : TA} {vs : List V} {σ : L2.St} {H : Hp} {Q : VK} (h : EvA t σ H vs) (k : ∀ H1, Ex H H1 → sp (vs ++ []) H1 Q E) : tCall sp [] E t σ H Q := h H (Ex.refl H) _ fun H1 e => k H1 e
theorem mem_perm_pop {ds es : List P} (g : Gd ds es) (hn : ds ≠ []) : (pop ds).1 ∈ es := g.perm.symm.subset ((pop_perm hn).symm.subset (List.mem_cons_self ..))
section
variable {P : Program} {w : World} {K : PySem.W.Frag} {mg : Str → Option Value} {base : Heap}
theorem sc27 : FnScope ["_law_well_here", "_law_rows", "_law_entry", "_law_kept", "_law_way", "_law_now", "_law_times", "_law_out_here", "_law_left", "_law_first", "_law_one"] ["_law_well_here", "_law_rows", "_law_entry", "_law_kept"] (defScope (top 27)) := ⟨rfl, rfl, rfl, by decide +kernel, rfl, by decide +kernel, by decide +kernel⟩
theorem ok_deed (B : Bm mg) (F : Df K mg "_law_deed" (top 27) ["_law_well_here", "_law_rows", "_law_entry", "_law_kept"]) (O1 : Okd P w K mg base CX0 1 "_law_draw" ["_law_well_here", "_law_many"] spDraw) (O2 : Okd P w K mg base CX0 4 "pushed" ["rows", "entry"] spPushed)
    (O3 : Okd P w K mg base CX0 5 "popped" ["rows"] spPopped) (O4 : Okd P w K mg base CX0 5 "ripe" ["rows", "now"] spRipe) : Okd P w K mg base CX0 6 "_law_deed" ["_law_well_here", "_law_rows", "_law_entry", "_law_kept"] spDeed := by
  refine F.ok sc27 (fun vs H Q E h => by obtain ⟨_, _, _, _, _, _, _, _, _, _, rfl, _⟩ := h; rfl) (fun f cdv A outer s H vs Q E hr h => ?_)
  obtain ⟨a, p, q, v, d, vs, ks, ds, es, z, rfl, wl, hz, hpa, hqa, hp, hq, pr, pk, hv, hl, g, hnd, k⟩ := h
  obtain ⟨f__law_draw, d__law_draw, m__law_draw, k__law_draw, b__law_draw, G__law_draw⟩ := O1.ex
  obtain ⟨f_pushed, d_pushed, m_pushed, k_pushed, b_pushed, G_pushed⟩ := O2.ex
  obtain ⟨f_popped, d_popped, m_popped, k_popped, b_popped, G_popped⟩ := O3.ex
  obtain ⟨f_ripe, d_ripe, m_ripe, k_ripe, b_ripe, G_ripe⟩ := O4.ex
  have hu := hr.units
  have hu5 : (A.deeper (envOfC "_law_deed" (defScope (top 27)) s.heap.objs.size f cdv)).units + 65 < cLine := by have := hr.un; omega
  refine ⟨_, (pss_cons (ps_set (i := 4) sc27.nd rfl (Or.inl rfl) (pe_call G__law_draw (hr.mono (by first | decide | omega)) (by rfl) m__law_draw k__law_draw b__law_draw .nil pass0 (pa_cons (pv 0) (pa_cons pe_int pa_nil))))
      (pss_cons (ps_if (PW.pt (pw_or (pt_cmpR op_lt2 (pv 4) pe_int (nomark _)) (pw_or1 (pt_cmpR (op_eqD hu) (pv 1) (pe_lst pa_nil) (nomark _))))) (pss_one (ps_ret (pe_tup (pa_cons (pe_call G_pushed (hr.mono (by first | decide | omega)) (by rfl) m_pushed k_pushed b_pushed .nil pass0 (pa_cons (pv 1) (pa_cons (pv 2) pa_nil))) (pa_cons (pe_callB cr_sortedPO (by rfl) B.sorted boot_sorted (pa_cons (pe_op op_cat (pv 3) (pe_lst (pa_cons (pv 2) pa_nil))) pa_nil)) pa_nil))))) pss_nil)
      (pss_cons (ps_if (pt_cmpR op_eq (pv 4) pe_int (nomark _)) (pss_cons (ps_asg (pe_call G_popped (hr.mono (by first | decide | omega)) (by rfl) m_popped k_popped b_popped .nil pass0 (pa_cons (pv 1) pa_nil)) (pg_tup (by rfl) (pgs_cons (pg_name (i := 9) sc27.nd rfl (Or.inr rfl)) (pgs_cons (pg_name (i := 8) sc27.nd rfl (Or.inl rfl)) pgs_nil))))
      (pss_cons (ps_if (PW.pt (pw_or (pt_cmpR (op_notInD hu5) (pv 9) (pv 3) rfl) (pw_or1 (pt_cmpR op_ne (pe_ix ix_tup (pv 9) pe_int (fun _ _ => rfl)) (pe_callB (cr_min rfl) (by rfl) B.min boot_min (pa_cons (pe_lc (own := [("_law_one", 10)]) (g := gName 10) (tt := tYes) rfl sc27.nd (pi_list (pv 3)) (blkOk_by (N := ["_law_well_here", "_law_rows", "_law_entry", "_law_kept", "_law_way", "_law_now", "_law_times", "_law_out_here", "_law_left", "_law_first", "_law_one"]) (sc := defScope (top 27)) (by decide +kernel)) (fun _ _ _ _ _ => (pg_name (i := 10) sc27.nd rfl (Or.inl rfl))) (fun _ _ _ _ _ => pts_nil) (fun _ _ _ _ _ => (pe_ix (r := rIxT K) ix_tup (pv 10) pe_int (fun _ _ => rfl)))) pa_nil)) (nomark _))))) (pss_one (ps_ret pe_non)) pss_nil)
      (pss_one (ps_ret (pe_tup (pa_cons (pv 8) (pa_cons (pe_callB cr_sortedPO (by rfl) B.sorted boot_sorted (pa_cons (pe_lc (own := [("_law_one", 10)]) (g := gName 10) rfl sc27.nd (pi_list (pv 3)) (blkOk_by (N := ["_law_well_here", "_law_rows", "_law_entry", "_law_kept", "_law_way", "_law_now", "_law_times", "_law_out_here", "_law_left", "_law_first", "_law_one"]) (sc := defScope (top 27)) (by decide +kernel)) (fun _ _ _ _ _ => (pg_name (i := 10) sc27.nd rfl (Or.inl rfl))) (fun _ _ _ _ _ => (pts_one (pt_cmpR (r := rNeD K) (op_neD hu) (pv 10) (pv 9) (nomark _)))) (fun _ _ _ _ _ => (pv 10))) pa_nil)) pa_nil))))))) pss_nil)
      (pss_cons (ps_set (i := 5) sc27.nd rfl (Or.inr rfl) (pe_op op_sub (pe_ix ix_tup (pe_ix ix_list (pv 3) (pe_call G__law_draw (hr.mono (by first | decide | omega)) (by rfl) m__law_draw k__law_draw b__law_draw .nil pass0 (pa_cons (pv 0) (pa_cons (pe_callB call_lenQ (by rfl) B.len PySem.boot_len (pa_cons (pv 3) pa_nil)) pa_nil))) (fun _ _ => rfl)) pe_int (fun _ _ => rfl)) (pe_call G__law_draw (hr.mono (by first | decide | omega)) (by rfl) m__law_draw k__law_draw b__law_draw .nil pass0 (pa_cons (pv 0) (pa_cons pe_int pa_nil)))))
      (pss_cons (ps_asg (pe_call G_ripe (hr.mono (by first | decide | omega)) (by rfl) m_ripe k_ripe b_ripe .nil pass0 (pa_cons (pv 1) (pa_cons (pv 5) pa_nil))) (pg_tup (by rfl) (pgs_cons (pg_name (i := 7) sc27.nd rfl (Or.inl rfl)) (pgs_cons (pg_name (i := 8) sc27.nd rfl (Or.inl rfl)) pgs_nil))))
      (pss_cons (ps_setLc (i := 6) (own := [("_law_one", 10)]) (g := gName 10) (tt := tYes) rfl sc27.nd rfl rfl (sw_true rfl rfl rfl (by decide +kernel)) (pi_list (pv 7)) (blkOk_by (N := ["_law_well_here", "_law_rows", "_law_entry", "_law_kept", "_law_way", "_law_now", "_law_times", "_law_out_here", "_law_left", "_law_first", "_law_one"]) (sc := defScope (top 27)) (by decide +kernel)) (fun _ _ _ _ _ => (pg_name (i := 10) sc27.nd rfl (Or.inl rfl))) (fun _ _ _ _ _ => pts_nil) (fun _ _ _ _ _ => (pe_ix (r := rIxT K) ix_tup (pv 10) pe_int (fun _ _ => rfl))))
      (pss_cons (ps_if (PW.pt (pw_or (pt_cmpR (op_neD hu) (pv 6) (pe_callB cr_sortedI (by rfl) B.sorted boot_sorted (pa_cons (pv 6) pa_nil)) (nomark _)) (pw_or1 (pt_cmpR (op_neD hu) (pe_callB cr_sortedPO (by rfl) B.sorted boot_sorted (pa_cons (pe_op op_cat (pv 7) (pv 8)) pa_nil)) (pv 3) (nomark _))))) (pss_one (ps_ret pe_non)) pss_nil)
      (pss_cons (ps_if (PW.pt (pw_or (pt_cmpR (op_neD hu) (pe_lc (own := [("_law_one", 10)]) (g := gName 10) rfl sc27.nd (pi_list (pv 7)) (blkOk_by (N := ["_law_well_here", "_law_rows", "_law_entry", "_law_kept", "_law_way", "_law_now", "_law_times", "_law_out_here", "_law_left", "_law_first", "_law_one"]) (sc := defScope (top 27)) (by decide +kernel)) (fun _ _ _ _ _ => (pg_name (i := 10) sc27.nd rfl (Or.inl rfl))) (fun _ _ _ _ _ => (pts_one (pt_cmpR op_gt1 (pe_ix (r := rIxT K) ix_tup (pv 10) pe_int (fun _ _ => rfl)) (pv 5) (nomark _)))) (fun _ _ _ _ _ => (pv 10))) (pe_lst pa_nil) (nomark _)) (pw_or1 (pt_cmpR (op_neD hu) (pe_lc (own := [("_law_one", 10)]) (g := gName 10) rfl sc27.nd (pi_list (pv 8)) (blkOk_by (N := ["_law_well_here", "_law_rows", "_law_entry", "_law_kept", "_law_way", "_law_now", "_law_times", "_law_out_here", "_law_left", "_law_first", "_law_one"]) (sc := defScope (top 27)) (by decide +kernel)) (fun _ _ _ _ _ => (pg_name (i := 10) sc27.nd rfl (Or.inl rfl))) (fun _ _ _ _ _ => (pts_one (pt_cmpR op_le2 (pe_ix (r := rIxT K) ix_tup (pv 10) pe_int (fun _ _ => rfl)) (pv 5) (nomark _)))) (fun _ _ _ _ _ => (pv 10))) (pe_lst pa_nil) (nomark _))))) (pss_one (ps_ret pe_non)) pss_nil)
      (pss_one (ps_ret (pe_tup (pa_cons (pv 8) (pa_cons (pe_callB cr_sortedPO (by rfl) B.sorted boot_sorted (pa_cons (pv 8) pa_nil)) pa_nil))))))))))))), ?_⟩
  obtain ⟨wx, wy, wa⟩ := wl
  refine q_asgC (ea_cons (ev_var rfl) (ea_cons ev_c ea_nil)) fun H0 e0 => ?_
  refine ⟨a, 5, z, rfl, Wl.ex e0 ⟨wx, wy, wa⟩, by omega, by decide, by decide, fun r z1 H1 r0 r1 hz1 k1 wl1 => ?_⟩
  have kw1 : Kw a H H1 := (Kw.of e0).trans k1
  have hp1 := kw1 _ _ hp hpa
  have hq1 := kw1 _ _ hq hqa
  have pr1 := pr.kw wa kw1
  have pk1 := pk.kw wa kw1
  have hv1 := hv.kw wa kw1
  have ir : IsL ds H1 (.ref p) := ⟨p, vs, rfl, hp1, pr1⟩
  have ik : IsL es H1 (.ref q) := ⟨q, ks, rfl, hq1, pk1⟩
  have hel : es.length = ds.length := g.perm.length_eq
  have hlk := pk.len
  have fk : ∀ {H1 : Hp} {z1 : Nat}, Kw a H H1 → Wl a H1 z1 → ∀ l, H1 l = none → H l = none := fun {H1 z1} kw wl1 l h => by
    cases e : H l with
    | none => rfl
    | some u =>
      by_cases q : l = a
      · obtain ⟨_, _, w⟩ := wl1
        rw [q, w] at h
        cases h
      · rw [kw _ _ e q] at h
        cases h
  have fa := fk kw1 wl1
  refine q_when (b := decide (r < 3) || decide (ds = [])) (et_or (et_test (ev_op (ev_var rfl) ev_c rv_lt)) fun _ => et_test (ev_eqL (isl_var (ev_var rfl) ir) fun H2 e2 => isl_new el_nilL)) (fun hb H2 e2 => ?_) (fun hb H2 e2 => ?_)
  · refine s_retPL (evp_ofL (el_pushed (ev_var rfl) (ev_var rfl) (ir.ex e2) (hv1.ex e2) (by omega))) (fun H3 e3 => el_sortedE (isl_new (el_cat (isl_var (ev_var rfl) (ik.ex (e2.trans e3))) (fun H4 e4 => isl_new (el_one (ev_var rfl) (hv1.ex ((e2.trans e3).trans e4)))) (by simp; omega)))) ?_
    rintro t x m ys H8 H9 e8 ⟨l, us, rfl, nl, hl8, pl8⟩ e9 nm ht hm ⟨H10, ⟨es', s1, s2, s3⟩, e10⟩
    have e29 := (e2.trans e8).trans e9
    exact k t l m us ys (push ds d) es' z1 H9 (kw1.trans (Kw.of e29)) (wl1.ex e29) (by omega) (fa l (fresh_back e2 nl)) (fa m (fresh_back e2 nm)) ht (e9 _ _ hl8) hm (pl8.ex e9) (s3.ex e10) (g.push hnd s1 s2) (Nat.le_of_eq (push_len ds d)) fun e he => by simpa using (push_perm ds d).subset he
  · rw [Bool.or_eq_false_iff, decide_eq_false_iff_not, decide_eq_false_iff_not] at hb
    have hne : ds ≠ [] := hb.2
    have hpos := List.length_pos_iff.mpr hne
    have hpl := pop_len hne
    refine q_when (et_test (ev_op (ev_var rfl) ev_c (rv_eq rfl))) (fun _ H3 e3 => ?_) (fun _ H3 e3 => ?_)
    · refine q_callG (ea_cons (ev_var rfl) ea_nil) fun H4 e4 => ?_
      have e14 := (e2.trans e3).trans e4
      refine ⟨p, vs, ds, rfl, e14 _ _ hp1, pr1.ex e14, hne, by omega, fun t l x us H5 nt nl e5 ht hl5 pl5 hx5 => ?_⟩
      refine pair_names ht ?_
      have e15 := e14.trans e5
      have ik5 := ik.ex e15
      have hmem := mem_perm_pop g hne
      refine q_when (b := false) (et_is (et_or (et_test (ev_notInL (ev_var rfl) (ev_var rfl) hx5 ik5)) fun _ => et_test (ev_op (ev_fst (ev_var rfl) hx5) (ev_min (m := (pop ds).1.1) (isi_new (el_lcI (fun e => e.1) (isl_var (ev_var rfl) ik5) (by omega) (fun _ => rfl) (fun x d H1 e px => ev_fst (ev_var rfl) px))) (List.mem_map.mpr ⟨_, hmem, rfl⟩) ?_) (rv_ne rfl))) ?_) (fun hb => by cases hb) fun _ H6 e6 => ?_
      · intro y hy
        obtain ⟨e, he, rfl⟩ := List.mem_map.mp hy
        rw [pop_fst]
        exact heap_le g.heap (g.perm.subset he)
      · rw [decide_eq_true hmem, decide_eq_true rfl]
        rfl
      refine s_retPL (P1 := fun H9 y => y = .ref l) (evp (ev_var rfl) fun _ _ => rfl) (fun H7 e7 => el_sortedE (isl_new (el_lcD (fun e => !decide (e = (pop ds).1)) (fun e => e) (isl_var (ev_var rfl) (ik5.ex (e6.trans e7))) (by omega) (fun _ => rfl) (fun x d H1 e px => et_test (ev_nePair (ev_var rfl) (ev_var rfl) px (hx5.ex ((e6.trans e7).trans e)))) (fun x d H1 e px => evp (ev_var rfl) fun _ e => px.ex e)))) ?_
      rintro t' y m ys H8 H9 e8 rfl e9 nm ht' hm ⟨H10, ⟨es', s1, s2, s3⟩, e10⟩
      have e69 := (e6.trans e8).trans e9
      have e19 := e15.trans e69
      rw [List.map_id''] at s2
      · exact k t' l m us ys (pop ds).2 es' z1 H9 (kw1.trans (Kw.of e19)) (wl1.ex e19) (by omega) (fa l (fresh_back e14 nl)) (fa m (fresh_back (e15.trans e6) nm)) ht' (e69 _ _ hl5) hm (pl5.ex e69) (s3.ex e10) (g.pop hne s1 s2) (by omega) fun e he => .inr ((pop_perm hne).symm.subset (List.mem_cons_of_mem _ he))
      · intro _; rfl
    · have e13 := e2.trans e3
      have hq3 := e13 _ _ hq1
      refine ⟨.ref q, rfl, ?_⟩
      refine raw_call (ea_cons (ev_var rfl) (ea_cons (ev_lenL (ev_var rfl) hq3) ea_nil)) fun H4 e4 => ?_
      have e14 := e13.trans e4
      refine ⟨a, (ks.length : Int), z1, rfl, wl1.ex e14, by omega, by omega, by omega, fun i z2 H5 i0 i1 hz2 k5 wl5 => ?_⟩
      obtain ⟨j, rfl⟩ := Int.eq_ofNat_of_zero_le i0
      have kw5 : Kw a H H5 := kw1.trans ((Kw.of e14).trans k5)
      have hq5 := kw5 _ _ hq hqa
      have pk5 := pk.kw wa kw5
      obtain ⟨x, hx1, hx2⟩ := pk5.at_ (k := j) (by omega)
      refine ⟨q, ks, (j : Int), x, rfl, rfl, sq_of hq5, atI_nat hx1, ?_⟩
      obtain ⟨xa, rfl, hxa⟩ := hx2
      refine ⟨xa, [.int (at_ es j).1, .int (at_ es j).2], 0, .int (at_ es j).1, rfl, rfl, st_of hxa, atI_nat (j := 0) rfl, ?_⟩
      refine raw_call (ea_cons (ev_var rfl) (ea_cons ev_c ea_nil)) fun H6 e6 => ?_
      refine ⟨a, 2, z2, rfl, wl5.ex e6, by omega, by decide, by decide, fun u z3 H7 u0 u1 hz3 k7 wl7 => ⟨_, _, rfl, rfl, ?_⟩⟩
      show tSeq _ _ _ (List.set _ 5 (some (V.int ((at_ es j).1 - u)))) H7
      have kw7 : Kw a H H7 := kw5.trans ((Kw.of e6).trans k7)
      generalize (at_ es j).1 - u = now
      clear k5 k7 k1
      have hp7 := kw7 _ _ hp hpa
      have hq7 := kw7 _ _ hq hqa
      have pr7 := pr.kw wa kw7
      have pk7 := pk.kw wa kw7
      have ik7 : IsL es H7 (.ref q) := ⟨q, ks, rfl, hq7, pk7⟩
      have fa7 := fk kw7 wl7
      obtain ⟨p1, p2, p3, p4, p5⟩ := ripe_spec now ds.length ds (Nat.le_refl _) g.heap
      have hlen := p1.length_eq
      rw [List.length_append] at hlen
      refine q_callG (ea_cons (ev_var rfl) (ea_cons (ev_var rfl) ea_nil)) fun H8 e8 => ?_
      refine ⟨p, now, vs, ds, rfl, e8 _ _ hp7, pr7.ex e8, by omega, fun t l1 l2 us ws H9 nt n1 n2 e9 ht h1 h2 pu pw => ?_⟩
      refine pair_names ht ?_
      have e79 := e8.trans e9
      have iu : IsL (ripe now ds.length ds).1 H9 (.ref l1) := ⟨l1, us, rfl, h1, pu⟩
      have iw : IsL (ripe now ds.length ds).2 H9 (.ref l2) := ⟨l2, ws, rfl, h2, pw⟩
      refine q_asgLP (el_lcI (fun e => e.1) (isl_var (ev_var rfl) iu) (by omega) (fun _ => rfl) (fun x d H1 e px => ev_fst (ev_var rfl) px)) fun ti xs H10 nti e10 hti hxs => ?_
      subst hxs
      have it10 : IsI ((ripe now ds.length ds).1.map fun e => e.1) H10 (.ref ti) := ⟨ti, rfl, hti⟩
      have iu10 := iu.ex e10
      have iw10 := iw.ex e10
      have ik10 := ik7.ex (e79.trans e10)
      refine q_when (b := false) (et_is (et_or (et_test (ev_neI (isi_var (ev_var rfl) it10) fun H2 e2 => isi_new (el_sortedI (isi_var (ev_var rfl) (it10.ex e2)) (List.pairwise_map.mpr p2) (.refl _)))) fun _ =>
        et_test (ev_neL (isl_new (el_sorted (isl_new (el_cat (isl_var (ev_var rfl) iu10) (fun H2 e2 => isl_var (ev_var rfl) (iw10.ex e2)) (by omega))) g.srt (g.perm.trans p1))) fun H2 e2 => isl_var (ev_var rfl) (ik10.ex e2)))
        (by rw [decide_eq_true rfl, decide_eq_true rfl]; rfl)) (fun hb => by cases hb) fun _ H11 e11 => ?_
      have hf1 : ((ripe now ds.length ds).1.filter fun e => decide (now < e.1)).map (fun e => e) = [] := by
        rw [List.filter_eq_nil_iff.mpr fun e he => by have := p3 e he; simp; omega]
        rfl
      have hf2 : ((ripe now ds.length ds).2.filter fun e => decide (e.1 ≤ now)).map (fun e => e) = [] := by
        rw [List.filter_eq_nil_iff.mpr fun e he => by have := p4 e he; simp; omega]
        rfl
      refine q_when (b := false) (et_is (et_or (et_test (ev_neL (isl_new (el_lcD (fun e => decide (now < e.1)) (fun e => e) (isl_var (ev_var rfl) (iu10.ex e11)) (by omega) (fun _ => rfl) (fun x d H1 e px => et_test (ev_op (ev_fst (ev_var rfl) px) (ev_var rfl) rv_I0)) (fun x d H1 e px => evp (ev_var rfl) fun _ e => px.ex e))) fun H2 e2 => isl_new el_nilL)) fun _ =>
        et_test (ev_neL (isl_new (el_lcD (fun e => decide (e.1 ≤ now)) (fun e => e) (isl_var (ev_var rfl) (iw10.ex e11)) (by omega) (fun _ => rfl) (fun x d H1 e px => et_test (ev_op (ev_fst (ev_var rfl) px) (ev_var rfl) rv_le)) (fun x d H1 e px => evp (ev_var rfl) fun _ e => px.ex e))) fun H2 e2 => isl_new el_nilL))
        (by rw [hf1, hf2, decide_eq_true rfl]; rfl)) (fun hb => by cases hb) fun _ H12 e12 => ?_
      refine s_retPL (P1 := fun H9 y => y = .ref l2) (evp (ev_var rfl) fun _ _ => rfl) (fun H2 e2 => el_sortedE (isl_var (ev_var rfl) (iw10.ex ((e11.trans e12).trans e2)))) ?_
      rintro t' y m ys H13 H14 e13 rfl e14 nm ht' hm ⟨H15, ⟨es', s1, s2, s3⟩, e15⟩
      have e9e := ((e10.trans e11).trans e12).trans (e13.trans e14)
      have e7e := e79.trans e9e
      exact k t' l2 m ws ys (ripe now ds.length ds).2 es' z3 H14 (kw7.trans (Kw.of e7e)) (wl7.ex e7e) (by omega) (fa7 l2 (fresh_back e8 n2)) (fa7 m (fresh_back (e79.trans ((e10.trans e11).trans e12)) nm)) ht' (e9e _ _ h2) hm (pw.ex e9e) (s3.ex e15) (g.ripe s1 s2) (by omega) fun e he => .inr (p1.symm.subset (List.mem_append_right _ he))
end
end K4
/-! law. -/
namespace K4
open PySem L2 Evl PySem.Spec PyProof.Rows
theorem exists_sorted (l : List P) : ∃ es, Lx es ∧ es.Perm l := by
  refine ⟨l.mergeSort (fun x y => !SrtO.lexB y x), ?_, List.mergeSort_perm _ _⟩
  have := List.pairwise_mergeSort (le := fun x y : P => !SrtO.lexB y x) (fun a b c h1 h2 => ?_) (fun a b => ?_) l
  · refine this.imp fun h => ?_
    rwa [Bool.not_eq_true'] at h
  · rw [Bool.not_eq_true'] at h1 h2 ⊢
    have h1 := SrtO.lexB_no.mp h1
    have h2 := SrtO.lexB_no.mp h2
    refine SrtO.lexB_no.mpr ?_
    omega
  · cases e : SrtO.lexB b a with
    | false => rfl
    | true =>
      have e := SrtO.lexB_iff.mp e
      have : SrtO.lexB a b = false := SrtO.lexB_no.mpr (by omega)
      rw [this]
      rfl
theorem pushes_spec : ∀ (l acc : List P), Hf 0 acc → Hf 0 (l.foldl push acc) ∧ (l.foldl push acc).Perm (acc ++ l)
  | [], acc, h => ⟨h, by rw [List.append_nil]; exact .refl _⟩
  | a :: l, acc, h => by
    obtain ⟨h1, h2⟩ := pushes_spec l (push acc a) (push_heap h)
    refine ⟨h1, h2.trans ?_⟩
    have := (push_perm acc a).append_right l
    refine this.trans ?_
    exact List.perm_middle.symm
theorem draw_mono {vs : List V} {H : Hp} {Q Q' : VK} {E : XK} (h : ∀ v H2, Q v H2 → Q' v H2) (s : spDraw vs H Q E) : spDraw vs H Q' E := by
  obtain ⟨a, n, z, h1, h2, h3, h4, h5, k⟩ := s
  exact ⟨a, n, z, h1, h2, h3, h4, h5, fun r z2 H2 a1 a2 a3 a4 a5 => h _ _ (k r z2 H2 a1 a2 a3 a4 a5)⟩
section
variable {K : PySem.W.Frag} {H : Hp} {σ : L2.St} {ta tb t1 t2 te tl : TE} {tz tbd : TS} {Dd : Ends}
theorem el_catV {xs zs : List V} (ha : EvL ta σ H xs) (hb : ∀ H1, Ex H H1 → EvL tb σ H1 zs) (hl : xs.length + zs.length ≤ 100000) : EvL (tOp rCat ta tb) σ H (xs ++ zs) := fun H1 e Q q =>
  ha H1 e _ fun p H2 np e2 hp => hb H2 (e.trans e2) H2 (Ex.refl _) _ fun r H3 nr e3 hr => ⟨p, r, xs, zs, rfl, rfl, e3 _ _ hp, hr, sz_of hl, fun u nu => q u _ (fresh_back (e2.trans e3) nu) ((e2.trans e3).trans (Ex.new nu)) upd_same⟩
theorem q_asgPick {sp : Sp} {E : XK} {x : V} {xs : List V} {i : Nat} (h1 : Ev t1 σ H x) (h2 : EvL t2 σ H xs) (k : ∀ p H1, H p = none → Ex H H1 → H1 p = some (.lst xs) → sp ([x, .ref p] ++ []) H1 (fun v H2 => tz Dd (σ.set i (some v)) H2) E) :
    tSeq (tAsg (tCall sp [] E (tCons t1 (tCons t2 tNil))) (gName i)) tz Dd σ H := h1 H (Ex.refl H) _ fun H1 e1 => h2 H1 e1 _ fun p H2 np e2 hp => k p H2 (fresh_back e1 np) (e1.trans e2) hp
theorem q_3nil {i j l : Nat} (k : ∀ p1 p2 p3 H1, H p1 = none → H p2 = none → H p3 = none → p3 ≠ p1 → p3 ≠ p2 → Ex H H1 → H1 p1 = some (.lst []) → H1 p2 = some (.lst []) → H1 p3 = some (.lst []) → tz Dd (((σ.set i (some (.ref p1))).set j (some (.ref p2))).set l (some (.ref p3))) H1) :
    tSeq (tPar3 i j l (tCons (tLst tNil) (tCons (tLst tNil) (tCons (tLst tNil) tNil)))) tz Dd σ H := by
  refine ⟨Nat.zero_le _, fun p1 n1 => ⟨Nat.zero_le _, fun p2 n2 => ⟨Nat.zero_le _, fun p3 n3 => ⟨.ref p1, .ref p2, .ref p3, rfl, ?_⟩⟩⟩⟩
  have x1 := Ex.new (o := .lst []) n1
  have x2 := Ex.new (o := .lst []) n2
  have x3 := Ex.new (o := .lst []) n3
  have h1 : (upd H p1 (.lst [])) p1 = some (.lst []) := upd_same
  have h2 : (upd (upd H p1 (.lst [])) p2 (.lst [])) p2 = some (.lst []) := upd_same
  have h3 : (upd (upd (upd H p1 (.lst [])) p2 (.lst [])) p3 (.lst [])) p3 = some (.lst []) := upd_same
  refine k p1 p2 p3 _ n1 (fresh_back x1 n2) (fresh_back (x1.trans x2) n3) (fun z => ?_) (fun z => ?_) ((x1.trans x2).trans x3) ((x2.trans x3) _ _ h1) (x3 _ _ h2) h3
  · rw [z, x2 _ _ h1] at n3; cases n3
  · rw [z, h2] at n3; cases n3
theorem q_forDraw {t : TA} {j : Nat} {vs : List V} {c : Int} {E : XK} (h : EvA t σ H vs) (k : ∀ H1, Ex H H1 → spDraw (vs ++ []) H1 (fun v H2 => ∃ r : Int, v = .int r ∧ tSeq (tFor (iRng1 (tCons (tC (.int (c + r))) tNil)) (gName j) tbd) tz Dd σ H2) E) :
    tSeq (tFor (iRng1 (tCons (tOp (rI0 fun i j => .int (i + j)) (tC (.int c)) (tCall spDraw [] E t)) tNil)) (gName j) tbd) tz Dd σ H :=
  h H (Ex.refl H) _ fun H1 e => draw_mono (fun v H2 ⟨r, rv, n, en, b1, b2, q⟩ => by
    cases en
    exact ⟨c, r, rfl, rv, c + r, rfl, b1, b2, q⟩) (k H1 e)
theorem q_tupC {t : TA} {i : Nat} {vs : List V} {x : V} {E : XK} (h : EvA t σ H vs) (h2 : ∀ H1, Ev t2 σ H1 x) (k : ∀ H1, Ex H H1 → spDraw (vs ++ []) H1 (fun v H2 => ∀ p H3, H2 p = none → Ex H2 H3 → H3 p = some (.tup [v, x]) → tz Dd (σ.set i (some (.ref p))) H3) E) :
    tSeq (tAsg (tTup (tCons (tCall spDraw [] E t) (tCons t2 tNil))) (gName i)) tz Dd σ H :=
  h H (Ex.refl H) _ fun H1 e => draw_mono (fun v H2 q => h2 H2 H2 (Ex.refl _) _ fun H3 e3 => ⟨sz_of (by simp), fun p np => q p _ (fresh_back e3 np) (e3.trans (Ex.new np)) upd_same⟩) (k H1 e)
theorem rv_isN {v : V} : RV rIsN v .non H (.bl (decide (v = .non))) := rv_val fun H1 e Q q => ⟨rfl, q⟩
theorem s_asgLP {Pl : Hp → List V → Prop} {i : Nat} (h : EvLP te σ H Pl) (k : ∀ p xs H1, H p = none → Ex H H1 → H1 p = some (.lst xs) → Pl H1 xs → Dd.nx (σ.set i (some (.ref p))) H1) : tAsg te (gName i) Dd σ H := h H (Ex.refl H) _ fun p xs H1 hp e hl pl => k p xs H1 hp e hl pl
theorem q_unp {g : TG} {v : V} (h : Ev te σ H v) (k : ∀ H1, Ex H H1 → g v σ H1 (tz Dd)) : tSeq (tAsg te g) tz Dd σ H := h H (Ex.refl H) _ fun H1 e => k H1 e
theorem ev_ixT0 {t : Addr} {x y : V} (h : Ev te σ H (.ref t)) (ht : H t = some (.tup [x, y])) : Ev (tOp (rIxT K) te (tC (.int 0))) σ H x := ev_op h ev_c (rv_ixT (st_of ht) (atI_nat (j := 0) rfl))
theorem ev_ixT1 {t : Addr} {x y : V} (h : Ev te σ H (.ref t)) (ht : H t = some (.tup [x, y])) : Ev (tOp (rIxT K) te (tC (.int 1))) σ H y := ev_op h ev_c (rv_ixT (st_of ht) (atI_nat (j := 1) rfl))
theorem spIsH_v {p : Addr} {vs : List V} {ds : List P} (hp : H p = some (.lst vs)) (pr : Prs H ds vs) (hl : ds.length ≤ 5000) (hh : Hf 0 ds) : SpV spIsH ([.ref p] ++ []) H (.bl true) := fun H1 e Q q _ => ⟨p, vs, ds, rfl, e _ _ hp, pr.ex e, hl, hh, fun H2 e2 => q H2 e2⟩
end
def spLaw (K : PySem.W.Frag) : Sp := fun vs H Q _ => ∃ (a : Addr) (ns : List Int), vs = [.ref a] ∧ SqL K H a (ns.map V.int) ∧ ns.length ≤ 63 ∧ ∀ H', Q (.bl true) H'
theorem cut_ints {ns : List Int} {lo hi : Option Int} {x : V} (h : x ∈ cutV (ns.map V.int) lo hi) : ∃ c : Int, x = .int c := by
  unfold cutV at h
  have := List.mem_of_mem_drop (List.mem_of_mem_take h)
  obtain ⟨c, _, rfl⟩ := List.mem_map.mp this
  exact ⟨c, rfl⟩
section
variable {P : Program} {w : World} {K : PySem.W.Frag} {mg : Str → Option Value} {base : Heap}
theorem sc29 : FnScope ["_law_script", "_law_cell", "_law_well_here", "_law_top", "_law_turn", "_law_out_here", "_law_singly", "_law_entry", "_law_times", "_law_rows", "_law_kept", "_law_gone", "_law_found", "_law_one"] ["_law_script"] (defScope (top 29)) := ⟨rfl, rfl, rfl, by decide +kernel, rfl, by decide +kernel, by decide +kernel⟩
theorem ok_law (B : Bm mg) {f : Addr} {fd : FuncData} (F : Fun K "law" "law" (top 29) f fd) (O1 : Okd P w K mg base CX0 1 "_law_well" ["_law_cell"] spWell) (O2 : Okd P w K mg base CX0 2 "_law_pick" ["_law_well_here", "_law_some"] (spPick K)) (O3 : Okd P w K mg base CX0 1 "_law_draw" ["_law_well_here", "_law_many"] spDraw)
    (O4 : Okd P w K mg base CX0 6 "_law_deed" ["_law_well_here", "_law_rows", "_law_entry", "_law_kept"] spDeed) (O5 : Okd P w K mg base CX0 4 "is_heap" ["rows"] spIsH) (O6 : Okd P w K mg base CX0 6 "_law_out" ["_law_rows"] spOut) (O7 : Okd P w K mg base CX0 5 "heaped" ["rows"] spHeaped)
    (O8 : Okd P w K mg base CX0 4 "pushed" ["rows", "entry"] spPushed) (O9 : Okd P w K mg base CX0 7 "_law_moved_right" ["_law_rows", "_law_by", "_law_more"] spMoved) : FnOk P w K mg base CX0 8 f fd ["_law_script"] (spLaw K) := by
  refine F.ok sc29 (fun vs H Q E h => by obtain ⟨_, _, rfl, _⟩ := h; rfl) (fun cdv A outer s H vs Q E hr h => ?_)
  obtain ⟨a, ns, rfl, hS, hlen, k⟩ := h
  obtain ⟨f__law_well, d__law_well, m__law_well, k__law_well, b__law_well, G__law_well⟩ := O1.ex
  obtain ⟨f__law_pick, d__law_pick, m__law_pick, k__law_pick, b__law_pick, G__law_pick⟩ := O2.ex
  obtain ⟨f__law_draw, d__law_draw, m__law_draw, k__law_draw, b__law_draw, G__law_draw⟩ := O3.ex
  obtain ⟨f__law_deed, d__law_deed, m__law_deed, k__law_deed, b__law_deed, G__law_deed⟩ := O4.ex
  obtain ⟨f_is_heap, d_is_heap, m_is_heap, k_is_heap, b_is_heap, G_is_heap⟩ := O5.ex
  obtain ⟨f__law_out, d__law_out, m__law_out, k__law_out, b__law_out, G__law_out⟩ := O6.ex
  obtain ⟨f_heaped, d_heaped, m_heaped, k_heaped, b_heaped, G_heaped⟩ := O7.ex
  obtain ⟨f_pushed, d_pushed, m_pushed, k_pushed, b_pushed, G_pushed⟩ := O8.ex
  obtain ⟨f__law_moved_right, d__law_moved_right, m__law_moved_right, k__law_moved_right, b__law_moved_right, G__law_moved_right⟩ := O9.ex
  have hu := hr.units
  refine ⟨_, (pss_cons (ps_for PassesOwn.never rfl (pi_list (pe_op op_cat (pe_slice sl_list (pv 0) po_none (po_some pe_int)) (pe_lst (pa_cons pe_int pa_nil)))) (pg_name (i := 1) sc29.nd rfl (Or.inl rfl)) (pss_cons (ps_set (i := 2) sc29.nd rfl (Or.inl rfl) (pe_call G__law_well (hr.mono (by first | decide | omega)) (by rfl) m__law_well k__law_well b__law_well .nil pass0 (pa_cons (pv 1) pa_nil)))
      (pss_cons (ps_set (i := 3) sc29.nd rfl (Or.inl rfl) (pe_call G__law_pick (hr.mono (by first | decide | omega)) (by rfl) m__law_pick k__law_pick b__law_pick .nil pass0 (pa_cons (pv 2) (pa_cons (pe_lst (pa_cons pe_int (pa_cons pe_int (pa_cons (pe_op op_pow pe_int pe_int) pa_nil)))) pa_nil))))
      (pss_cons (ps_par3 (i := 9) (j := 10) (l := 11) (by rfl) sc29.nd rfl rfl rfl (by decide) (by decide) (by decide) rfl rfl rfl (pa_cons (pe_lst pa_nil) (pa_cons (pe_lst pa_nil) (pa_cons (pe_lst pa_nil) pa_nil))) (by rfl))
      (pss_cons (ps_for PassesOwn.never rfl (pi_range1 (by rfl) B.range (pa_cons (pe_op op_add pe_int (pe_call G__law_draw (hr.mono (by first | decide | omega)) (by rfl) m__law_draw k__law_draw b__law_draw .nil pass0 (pa_cons (pv 2) (pa_cons pe_int pa_nil)))) pa_nil)) (pg_name (i := 4) sc29.nd rfl (Or.inl rfl)) (pss_cons (ps_set (i := 7) sc29.nd rfl (Or.inl rfl) (pe_tup (pa_cons (pe_call G__law_draw (hr.mono (by first | decide | omega)) (by rfl) m__law_draw k__law_draw b__law_draw .nil pass0 (pa_cons (pv 2) (pa_cons (pv 3) pa_nil))) (pa_cons (pv 4) pa_nil))))
      (pss_cons (ps_set (i := 12) sc29.nd rfl (Or.inl rfl) (pe_call G__law_deed (hr.mono (by first | decide | omega)) (by rfl) m__law_deed k__law_deed b__law_deed .nil pass0 (pa_cons (pv 2) (pa_cons (pv 9) (pa_cons (pv 7) (pa_cons (pv 10) pa_nil))))))
      (pss_cons (ps_if (PW.pt (pw_or (pt_cmpR op_isN1 (pv 12) pe_non (nomark _)) (pw_or (pt_not (pt_val (pe_call G_is_heap (hr.mono (by first | decide | omega)) (by rfl) m_is_heap k_is_heap b_is_heap .nil pass0 (pa_cons (pe_ix ix_tup (pv 12) pe_int (fun _ _ => rfl)) pa_nil)))) (pw_or1 (pt_cmpR (op_neD hu) (pe_callB cr_sortedPO (by rfl) B.sorted boot_sorted (pa_cons (pe_ix ix_tup (pv 12) pe_int (fun _ _ => rfl)) pa_nil)) (pe_ix ix_tup (pv 12) pe_int (fun _ _ => rfl)) (nomark _)))))) (pss_one (ps_ret pe_bl)) pss_nil)
      (pss_cons (ps_asg (pv 12) (pg_tup (by rfl) (pgs_cons (pg_name (i := 9) sc29.nd rfl (Or.inl rfl)) (pgs_cons (pg_name (i := 10) sc29.nd rfl (Or.inl rfl)) pgs_nil))))
      (pss_one (ps_expr (pe_bm PySem.F.plainAttrs_list PySem.F.slot_list_append PySem.F.type_list_append mt_append (pv 11) (pa_cons (pv 7) pa_nil)))))))))
      (pss_cons (ps_set (i := 5) sc29.nd rfl (Or.inl rfl) (pe_call G__law_out (hr.mono (by first | decide | omega)) (by rfl) m__law_out k__law_out b__law_out .nil pass0 (pa_cons (pe_call G_heaped (hr.mono (by first | decide | omega)) (by rfl) m_heaped k_heaped b_heaped .nil pass0 (pa_cons (pv 11) pa_nil)) pa_nil)))
      (pss_cons (ps_set (i := 6) sc29.nd rfl (Or.inl rfl) (pe_lst pa_nil))
      (pss_cons (ps_for PassesOwn.never rfl (pi_list (pv 11)) (pg_name (i := 7) sc29.nd rfl (Or.inl rfl)) (pss_one (ps_set (i := 6) sc29.nd rfl (Or.inl rfl) (pe_call G_pushed (hr.mono (by first | decide | omega)) (by rfl) m_pushed k_pushed b_pushed .nil pass0 (pa_cons (pv 6) (pa_cons (pv 7) pa_nil))))))
      (pss_cons (ps_set (i := 8) sc29.nd rfl (Or.inl rfl) (pe_callB cr_sortedI (by rfl) B.sorted boot_sorted (pa_cons (pe_lc (own := [("_law_entry", 7)]) (g := gName 7) (tt := tYes) rfl sc29.nd (pi_list (pv 11)) (blkOk_by (N := ["_law_script", "_law_cell", "_law_well_here", "_law_top", "_law_turn", "_law_out_here", "_law_singly", "_law_entry", "_law_times", "_law_rows", "_law_kept", "_law_gone", "_law_found", "_law_one"]) (sc := defScope (top 29)) (by decide +kernel)) (fun _ _ _ _ _ => (pg_name (i := 7) sc29.nd rfl (Or.inl rfl))) (fun _ _ _ _ _ => pts_nil) (fun _ _ _ _ _ => (pe_ix (r := rIxT K) ix_tup (pv 7) pe_int (fun _ _ => rfl)))) pa_nil)))
      (pss_cons (ps_if (PW.pt (pw_or (pt_cmpR (op_neD hu) (pe_lc (own := [("_law_one", 13)]) (g := gName 13) (tt := tYes) rfl sc29.nd (pi_list (pv 5)) (blkOk_by (N := ["_law_script", "_law_cell", "_law_well_here", "_law_top", "_law_turn", "_law_out_here", "_law_singly", "_law_entry", "_law_times", "_law_rows", "_law_kept", "_law_gone", "_law_found", "_law_one"]) (sc := defScope (top 29)) (by decide +kernel)) (fun _ _ _ _ _ => (pg_name (i := 13) sc29.nd rfl (Or.inl rfl))) (fun _ _ _ _ _ => pts_nil) (fun _ _ _ _ _ => (pe_ix (r := rIxT K) ix_tup (pv 13) pe_int (fun _ _ => rfl)))) (pv 8) (nomark _)) (pw_or1 (pt_cmpR (op_neD hu) (pe_lc (own := [("_law_one", 13)]) (g := gName 13) (tt := tYes) rfl sc29.nd (pi_list (pe_call G__law_out (hr.mono (by first | decide | omega)) (by rfl) m__law_out k__law_out b__law_out .nil pass0 (pa_cons (pv 6) pa_nil))) (blkOk_by (N := ["_law_script", "_law_cell", "_law_well_here", "_law_top", "_law_turn", "_law_out_here", "_law_singly", "_law_entry", "_law_times", "_law_rows", "_law_kept", "_law_gone", "_law_found", "_law_one"]) (sc := defScope (top 29)) (by decide +kernel)) (fun _ _ _ _ _ => (pg_name (i := 13) sc29.nd rfl (Or.inl rfl))) (fun _ _ _ _ _ => pts_nil) (fun _ _ _ _ _ => (pe_ix (r := rIxT K) ix_tup (pv 13) pe_int (fun _ _ => rfl)))) (pv 8) (nomark _))))) (pss_one (ps_ret pe_bl)) pss_nil)
      (pss_cons (ps_if (pt_cmpR (op_neD hu) (pe_callB cr_sortedPO (by rfl) B.sorted boot_sorted (pa_cons (pv 5) pa_nil)) (pe_callB cr_sortedPO (by rfl) B.sorted boot_sorted (pa_cons (pv 11) pa_nil)) (nomark _)) (pss_one (ps_ret pe_bl)) pss_nil)
      (pss_one (ps_if (pt_not (pt_val (pe_call G__law_moved_right (hr.mono (by first | decide | omega)) (by rfl) m__law_moved_right k__law_moved_right b__law_moved_right .nil pass0 (pa_cons (pv 11) (pa_cons (pe_op op_add pe_int (pe_call G__law_draw (hr.mono (by first | decide | omega)) (by rfl) m__law_draw k__law_draw b__law_draw .nil pass0 (pa_cons (pv 2) (pa_cons pe_int pa_nil)))) (pa_cons (pe_op op_sub (pe_call G__law_draw (hr.mono (by first | decide | omega)) (by rfl) m__law_draw k__law_draw b__law_draw .nil pass0 (pa_cons (pv 2) (pa_cons (pe_op op_pow pe_int pe_int) pa_nil))) (pe_op op_pow pe_int pe_int)) pa_nil)))))) (pss_one (ps_ret pe_bl)) pss_nil)))))))))))))
      (pss_one (ps_ret pe_bl))), ?_⟩
  have hcut := cutV_length (ns.map V.int) none (some 4)
  rw [List.length_map] at hcut
  refine q_forNLn (K := K) (xs := cutV (ns.map V.int) none (some 4) ++ [V.int 0]) (el_catV (el_sl (ev_var rfl) eo_none (eo_some ev_c) hS) (fun H1 e => el_lst (ea_cons ev_c ea_nil) (by simp)) (by simp; omega))
    (fun pl i σ' H' => ∃ x1 x2 x3 x4 x5 x6 x7 x8 x9 x10 x11 x12 x13 : Option V, σ' = [some (.ref a), x1, x2, x3, x4, x5, x6, x7, x8, x9, x10, x11, x12, x13] ∧ H' pl = some (.lst (cutV (ns.map V.int) none (some 4) ++ [V.int 0])))
    (fun pl H1 _ e hp => ⟨_, _, _, _, _, _, _, _, _, _, _, _, _, rfl, hp⟩) (fun pl i σ' H' _ ⟨_, _, _, _, _, _, _, _, _, _, _, _, _, _, h⟩ => sq_of h) ?_ (fun pl σ' H' ⟨_, _, _, _, _, _, _, _, _, _, _, _, _, _, _⟩ => s_ret ev_c fun H2 e2 => k H2)
  rintro pl ii x σ' HB hx ⟨x1, x2, x3, x4, x5, x6, x7, x8, x9, x10, x11, x12, x13, rfl, hpl⟩
  obtain ⟨c, rfl⟩ : ∃ c : Int, x = .int c := by
    rcases List.mem_append.mp (List.mem_of_getElem? hx) with h | h
    · exact cut_ints h
    · exact ⟨0, by simpa using h⟩
  clear hx
  refine q_asgC (ea_cons (ev_var rfl) ea_nil) fun H1 e1 => ?_
  refine ⟨c, rfl, fun wa H2 nwa e2 wl2 => ?_⟩
  have nwB : HB wa = none := fresh_back e1 nwa
  have hp30 : CPow 10 30 := ⟨by decide, by decide, by decide⟩
  refine q_asgPick (ev_var rfl) (el_lst (ea_cons ev_c (ea_cons ev_c (ea_cons (ev_op ev_c ev_c (rv_I hp30)) ea_nil))) (by simp)) fun pk H3 npk e3 hpk => ?_
  have wl3 := wl2.ex e3
  refine ⟨wa, pk, _, 0, rfl, wl3, by omega, fun z => ?_, .inl hpk, by simp, by simp, fun t z H4 ht hz k4 wl4 => ?_⟩
  · obtain ⟨_, _, h⟩ := wl2
    rw [z, h] at npk
    cases npk
  obtain ⟨tp, rfl, tp0, tp1⟩ : ∃ tp : Int, t = .int tp ∧ 0 < tp ∧ tp < 2 ^ 140 := by
    rcases List.mem_cons.mp ht with h | h
    · exact ⟨3, h, by decide, by decide⟩
    · rcases List.mem_cons.mp h with h | h
      · exact ⟨12, h, by decide, by decide⟩
      · rcases List.mem_cons.mp h with h | h
        · exact ⟨_, h, by decide, by decide⟩
        · cases h
  have eB4 : Ex HB H4 := Kw.ex nwB ((e1.trans e2).trans e3) k4
  refine q_3nil fun p1 p2 gg H5 n1 n2 ng hg1 hg2 e5 hp1 hp2 hgg => ?_
  have fw : ∀ l, H4 l = none → l ≠ wa := fun l h z => by
    obtain ⟨_, _, w⟩ := wl4
    rw [z, w] at h
    cases h
  have wl5 := wl4.ex e5
  have gw : gg ≠ wa := fw gg ng
  have p1w := fw p1 n1
  have p2w := fw p2 n2
  have eB5 := eB4.trans e5
  have ngB : HB gg = none := fresh_back eB4 ng
  refine q_forDraw (ea_cons (ev_var rfl) (ea_cons ev_c ea_nil)) fun H6 e6 => ?_
  refine ⟨wa, 101, z, rfl, wl5.ex e6, by omega, by decide, by decide, fun r z7 H7 r0 r1 hz7 k7 wl7 => ⟨r, rfl, ?_⟩⟩
  have k57 : Kw wa H5 H7 := (Kw.of e6).trans k7
  have eB7 : Ex HB H7 := Kw.ex nwB eB5 k57
  refine q_forR1 (n := 20 + r) (ea_cons ev_c ea_nil) (by omega)
    (fun i σ' H' => ∃ (p q : Addr) (vs ks gs : List V) (ds es as : List K4.P) (z : Nat) (y4 y5 y6 y7 y8 y12 y13 : Option V), σ' = [some (.ref a), some (.int c), some (.ref wa), some (.int tp), y4, y5, y6, y7, y8, some (.ref p), some (.ref q), some (.ref gg), y12, y13] ∧ Ex HB H' ∧ Wl wa H' z ∧ z ≤ 10 + 10 * i ∧ p ≠ wa ∧ q ≠ wa ∧ gg ≠ p ∧ gg ≠ q ∧
      H' p = some (.lst vs) ∧ H' q = some (.lst ks) ∧ H' gg = some (.lst gs) ∧ Prs H' ds vs ∧ Prs H' es ks ∧ Prs H' as gs ∧ Gd ds es ∧ (∀ e ∈ ds, e.2 < (i : Int)) ∧ ds.length ≤ i ∧ as.length = i)
    (fun H8 e8 => ⟨p1, p2, [], [], [], [], [], [], z7, _, _, _, _, _, _, _, rfl, eB7.trans e8, wl7.ex e8, by omega, p1w, p2w, hg1, hg2, e8 _ _ (k57 _ _ hp1 p1w), e8 _ _ (k57 _ _ hp2 p2w), e8 _ _ (k57 _ _ hgg gw), .nil, .nil, .nil, Gd.nil, fun _ h => (by cases h), Nat.zero_le _, rfl⟩) ?_ ?_
  · rintro i σ' H8 hi ⟨p, q, vs, ks, gs, ds, es, as, z8, y4, y5, y6, y7, y8, y12, y13, rfl, eB8, wl8, hz8, pw, qw, gp, gq, hp, hq, hg, pd, pe, pa, g, hnum, hdl, hal⟩
    obtain ⟨wx, wy, wa8⟩ := wl8
    refine q_tupC (ea_cons (ev_var rfl) (ea_cons (ev_var rfl) ea_nil)) (fun _ => ev_var rfl) fun H9 e9 => ?_
    refine ⟨wa, tp, z8, rfl, Wl.ex e9 ⟨wx, wy, wa8⟩, by omega, tp0, tp1, fun u z10 H10 u0 u1 hz10 k10 wl10 => fun ea H11 nea e11 hea => ?_⟩
    have kw : Kw wa H8 H11 := (Kw.of e9).trans (k10.trans (Kw.of e11))
    have hv : PrV H11 (u, (i : Int)) (.ref ea) := ⟨ea, rfl, hea⟩
    refine q_callG (ea_cons (ev_var rfl) (ea_cons (ev_var rfl) (ea_cons (ev_var rfl) (ea_cons (ev_var rfl) ea_nil)))) fun H12 e12 => ?_
    have kw12 : Kw wa H8 H12 := kw.trans (Kw.of e12)
    have hp12 := kw12 _ _ hp pw
    have hq12 := kw12 _ _ hq qw
    have hg12 := kw12 _ _ hg gw
    have pd12 := pd.kw wa8 kw12
    have pe12 := pe.kw wa8 kw12
    have pa12 := pa.kw wa8 kw12
    have wl12 : Wl wa H12 z10 := (wl10.ex e11).ex e12
    obtain ⟨vx, vy, wa12⟩ := wl12
    refine ⟨wa, p, q, .ref ea, (u, (i : Int)), vs, ks, ds, es, z10, rfl, ⟨vx, vy, wa12⟩, by omega, pw, qw, hp12, hq12, pd12, pe12, hv.ex e12, by omega, g, fun e he => by have := hnum e he; show e.2 ≠ (i : Int); omega, ?_⟩
    intro t l m us ws ds' es' z13 H13 k13 wl13 hz13 nl nm ht hl hm pu pw' g' hdl' hsub
    have eB13 : Ex HB H13 := Kw.ex nwB (Kw.ex nwB eB8 kw12) k13
    have hg13 := k13 _ _ hg12 gw
    have pa13 := pa12.kw wa12 k13
    have hv13 : PrV H13 (u, (i : Int)) (.ref ea) := (hv.ex e12).kw wa12 k13
    have fl : ∀ b, H12 b = none → b ≠ wa := fun b h z => by rw [z, wa12] at h; cases h
    have fg : ∀ b, H12 b = none → gg ≠ b := fun b h z => by rw [← z, hg12] at h; cases h
    refine (show tSeq _ _ _ (List.set _ 12 (some (V.ref t))) H13 from ?_)
    obtain ⟨es0, hs1, hs2⟩ := exists_sorted ds'
    have hes : es0 = es' := Lx.uniq hs1 g'.srt (hs2.trans g'.perm.symm)
    refine q_when (b := false) (et_is (et_or (et_test (ev_op (ev_var rfl) ev_c rv_isN)) fun _ => et_or (et_not (et_B (ev_call (ea_cons (ev_ixT0 (ev_var rfl) ht) ea_nil) (spIsH_v hl pu (by omega) g'.heap)))) fun _ =>
      et_test (ev_neL (isl_new (el_sorted (isl_var (ev_ixT0 (ev_var rfl) ht) ⟨l, us, rfl, hl, pu⟩) g'.srt g'.perm)) fun H2 e2 => isl_var (ev_ixT1 (ev_var rfl) (e2 _ _ ht)) ⟨m, ws, rfl, e2 _ _ hm, pw'.ex e2⟩)) ?_) (fun hb => by cases hb) fun _ H14 e14 => ?_
    · rw [decide_eq_true (rfl : es' = es')]
      rfl
    refine q_unp (ev_var rfl) fun H15 e15 => ?_
    have e35 := e14.trans e15
    refine pair_names (e35 _ _ ht) ?_
    have hg15 := e35 _ _ hg13
    have hal' := pa.len
    refine s_appV hg15 (ev_var rfl) (ev_var rfl) (by omega) fun H16 k16 hg16 => ?_
    have kk : Kw gg H13 H16 := (Kw.of e35).trans k16
    obtain ⟨ux, uy, wu⟩ := wl13
    exact ⟨l, m, us, ws, gs ++ [.ref ea], ds', es', as ++ [(u, (i : Int))], z13, _, _, _, _, _, _, _, rfl, Kw.ex ngB eB13 kk, ⟨ux, uy, kk _ _ wu (Ne.symm gw)⟩, by omega, fl l nl, fl m nm, fg l nl, fg m nm, kk _ _ hl (Ne.symm (fg l nl)), kk _ _ hm (Ne.symm (fg m nm)), hg16, pu.kw hg13 kk, pw'.kw hg13 kk, (pa13.kw hg13 kk).app (.one (hv13.kw hg13 kk)), g',
      fun e he => by
        rcases hsub e he with h | h
        · rw [h]; show (i : Int) < ((i + 1 : Nat) : Int); omega
        · have := hnum e h; omega, by omega, by rw [List.length_append, List.length_singleton, hal]⟩
  · rintro σ' H8 ⟨p, q, vs, ks, gs, ds, es, as, z8, y4, y5, y6, y7, y8, y12, y13, rfl, eB8, wl8, hz8, pw, qw, gp, gq, hp, hq, hg, pd, pe, pa, g, hnum, hdl, hal⟩
    have ha : as.length ≤ 5000 := by omega
    have hz8' : z8 ≤ 10 + 10 * 120 := by omega
    clear hz8 hnum hdl hal pd pe hp hq g
    have ig : IsL as H8 (.ref gg) := ⟨gg, gs, rfl, hg, pa⟩
    have hhl := heapify_len as
    have oper : (out (heapify as).length (heapify as)).Perm as := (out_perm _ _ rfl).trans (heapify_perm as)
    have hol := oper.length_eq
    have oup := out_up _ _ rfl (heapify_heap as)
    refine q_asgLP (el_out (isl_new (el_heaped (isl_var (ev_var rfl) ig) ha)) (by omega)) fun o os H9 no e9 ho po => ?_
    generalize hOO : out (heapify as).length (heapify as) = O at *
    refine q_asgL (el_lst ea_nil (by simp)) fun sn H10 nsn e10 hsn => ?_
    have e910 := e9.trans e10
    have ig10 := ig.ex e910
    have pa10 := pa.ex e910
    have hg10 := e910 _ _ hg
    have hgl := pa.len
    refine q_forLn (K := K) (xs := gs) (ev_var rfl) (sq_of hg10)
      (fun i σ' H' => ∃ (sp : Addr) (ss : List V) (w4 w7 w8 w12 w13 : Option V), σ' = [some (.ref a), some (.int c), some (.ref wa), some (.int tp), w4, some (.ref o), some (.ref sp), w7, w8, some (.ref p), some (.ref q), some (.ref gg), w12, w13] ∧ Ex H10 H' ∧ H' sp = some (.lst ss) ∧ Prs H' ((as.take i).foldl push []) ss)
      (fun H11 e11 => ⟨sn, [], _, _, _, _, _, rfl, e11, e11 _ _ hsn, .nil⟩) (fun i σ' H' _ ⟨_, _, _, _, _, _, _, _, e, _, _⟩ => sq_of (e _ _ hg10)) ?_ ?_
    · rintro i x σ' H11 hxi ⟨sp, ss, w4, w7, w8, w12, w13, rfl, e11, hsp, ps⟩
      have hi : i < as.length := by have := (List.getElem?_eq_some_iff.mp hxi).1; omega
      obtain ⟨v, hv1, hv2⟩ := (pa10.ex e11).at_ hi
      rw [hxi] at hv1
      cases hv1
      have hlen2 : ((as.take i).foldl push []).length ≤ 5000 := by
        rw [(pushes_spec (as.take i) [] nil_heap).2.length_eq]
        simp
        omega
      refine s_asgLP (el_pushed (ev_var rfl) (ev_var rfl) ⟨sp, ss, rfl, hsp, ps⟩ hv2 hlen2) fun s2 us H12 ns2 e12 hs2 ps2 => ?_
      refine ⟨s2, us, _, _, _, _, _, rfl, e11.trans e12, hs2, ?_⟩
      rw [List.take_succ, List.getElem?_eq_getElem hi, List.foldl_append]
      rw [at_get hi] at ps2
      exact ps2
    · rintro σ' H11 ⟨sp, ss, w4, w7, w8, w12, w13, rfl, e11, hsp, ps⟩
      rw [hgl, List.take_length] at ps
      obtain ⟨sh, sper⟩ := pushes_spec as [] nil_heap
      rw [List.nil_append] at sper
      generalize hSS : as.foldl push [] = S at *
      have hsl := sper.length_eq
      have ig11 := ig10.ex e11
      have hms : (O.map fun e => e.1).Perm (as.map fun e => e.1) := oper.map _
      have hup : UpI (O.map fun e => e.1) := List.pairwise_map.mpr oup
      refine q_asgLP (el_sortedI (isi_new (el_lcI (fun e => e.1) (isl_var (ev_var rfl) ig11) (by omega) (fun _ => rfl) (fun x d H1 e px => ev_fst (ev_var rfl) px))) hup hms) fun ti ts H12 nti e12 hti hts => ?_
      subst hts
      have it12 : IsI (O.map fun e => e.1) H12 (.ref ti) := ⟨ti, rfl, hti⟩
      have io12 : IsL O H12 (.ref o) := (show IsL O H9 (.ref o) from ⟨o, os, rfl, ho, po⟩).ex (e10.trans (e11.trans e12))
      have is12 : IsL S H12 (.ref sp) := (show IsL S H11 (.ref sp) from ⟨sp, ss, rfl, hsp, ps⟩).ex e12
      have ig12 := ig11.ex e12
      have heq : (out S.length S).map (fun e => e.1) = O.map fun e => e.1 := by
        refine UpI.uniq (List.pairwise_map.mpr (out_up _ _ rfl sh)) hup ?_
        exact ((out_perm _ _ rfl).trans (sper.trans oper.symm)).map _
      have hosl : (out S.length S).length = as.length := ((out_perm _ _ rfl).trans sper).length_eq
      refine q_when (b := false) (et_is (et_or (et_test (ev_neI (isi_new (el_lcI (fun e => e.1) (isl_var (ev_var rfl) io12) (by omega) (fun _ => rfl) (fun x d H1 e px => ev_fst (ev_var rfl) px))) fun H2 e2 => isi_var (ev_var rfl) (it12.ex e2))) fun _ =>
        et_test (ev_neI (isi_new (el_lcI (fun e => e.1) (isl_new (el_out (isl_var (ev_var rfl) is12) (by omega))) (by omega) (fun _ => rfl) (fun x d H1 e px => ev_fst (ev_var rfl) px))) fun H2 e2 => isi_var (ev_var rfl) (it12.ex e2))) ?_) (fun hb => by cases hb) fun _ H13 e13 => ?_
      · rw [heq, decide_eq_true rfl]
        rfl
      obtain ⟨es0, hs1, hs2⟩ := exists_sorted as
      refine q_when (b := false) (et_is (et_test (ev_neL (isl_new (el_sorted (isl_var (ev_var rfl) (io12.ex e13)) hs1 (hs2.trans oper.symm))) fun H2 e2 => isl_new (el_sorted (isl_var (ev_var rfl) (ig12.ex (e13.trans e2))) hs1 hs2))) (by rw [decide_eq_true rfl]; rfl)) (fun hb => by cases hb) fun _ H14 e14 => ?_
      have e8e : Ex H8 H14 := ((e910.trans e11).trans e12).trans (e13.trans e14)
      have wl14 := wl8.ex e8e
      have hg14 := e8e _ _ hg
      have pa14 := pa.ex e8e
      have hpl14 : H14 pl = some (.lst (cutV (ns.map V.int) none (some 4) ++ [V.int 0])) := (eB8.trans e8e) _ _ hpl
      have hpw : pl ≠ wa := fun z => by rw [z, nwB] at hpl; cases hpl
      refine ⟨.ref gg, rfl, ?_⟩
      show tCall spDraw [] E0 (tCons (tVar 2) (tCons (tC (.int 9)) tNil)) _ H14 _
      refine raw_call (ea_cons (ev_var rfl) (ea_cons ev_c ea_nil)) fun H15 e15 => ?_
      refine ⟨wa, 9, z8, rfl, wl14.ex e15, by omega, by decide, by decide, fun r1 z16 H16 r10 r11 hz16 k16 wl16 => ⟨_, _, rfl, rfl, ?_⟩⟩
      have hp20 : CPow 10 20 := ⟨by decide, by decide, by decide⟩
      have hp19 : CPow 10 19 := ⟨by decide, by decide, by decide⟩
      show tCall spDraw [] E0 (tCons (tVar 2) (tCons (tOp (rI CPow fun i j => .int (i ^ j.toNat)) (tC (.int 10)) (tC (.int 20))) tNil)) _ H16 _
      refine raw_call (ea_cons (ev_var rfl) (ea_cons (ev_op ev_c ev_c (rv_I hp20)) ea_nil)) fun H17 e17 => ?_
      refine ⟨wa, _, z16, rfl, wl16.ex e17, by omega, by decide, by decide, fun r2 z18 H18 r20 r21 hz18 k18 wl18 => ⟨_, _, rfl, rfl, hp19, ⟨_, _, rfl, rfl, ?_⟩⟩⟩
      have kw18 : Kw wa H14 H18 := ((Kw.of e15).trans k16).trans ((Kw.of e17).trans k18)
      obtain ⟨vx, vy, wa14⟩ := wl14
      refine ⟨gg, gs, as, 1 + r1, r2 - 10 ^ Int.toNat 19, rfl, kw18 _ _ hg14 gw, pa14.kw wa14 kw18, ha, by omega, by omega, fun H19 e19 => ⟨true, rfl, ?_⟩⟩
      exact ⟨_, _, _, _, _, _, _, _, _, _, _, _, _, rfl, e19 _ _ (kw18 _ _ hpl14 hpw)⟩
end
end K4
/-! What the top has written. -/
namespace K4
open PySem L2 Evl PySem.Spec PyProof.Rows
theorem df_mk {K : PySem.W.Frag} {h : Heap} {mg : Str → Option Value} {nm : Str} {st : Stmt} {ps : List Str} {f : Addr} {od an : Option Addr} {sl : Array (Option Value)} {oc kV dc pm cd ct : Value} (X : K.In h) (G : h.Ns mainGlobals mg)
    (a : PySem.W.nsIn K mainGlobals nm = some (some (.ref f))) (l : K.lookup f = some ⟨oc, od, .func (PySem.W.fnOf nm nm (defArgs st) (defBody st) (defScope st) .none kV dc pm an cd ct), sl⟩) (c : PySem.W.codeIn K cd nm = true) (k : PySem.W.keepIn K (.ref f) = true)
    (hb : ∀ (kV doc pm : Value) (an : Option Addr) (cdv ct : Value) (us : List Value), us.length = ps.length → bindArgs (PySem.W.fnOf nm nm (defArgs st) (defBody st) (defScope st) .none kV doc pm an cdv ct) ⟨us, []⟩ = pure (ps.zip us)) : Df K mg nm st ps := by
  have F := fun_mk (st := st) l c k
  exact ⟨f, _, PySem.W.mg_of X G a, F.binds hb, F⟩

theorem all_mk {l : PySem.W.OpenLaw} {w : World} {K : PySem.W.Frag} {h : Heap} {mg : Str → Option Value} {fa : Addr} (X : K.In h) (G : h.Ns mainGlobals mg) (hfa : mg "law" = some (.ref fa))
    {f4 : Addr} {od4 an4 : Option Addr} {sl4 : Array (Option Value)} {oc4 kV4 dc4 pm4 cd4 ct4 : Value}
    {f5 : Addr} {od5 an5 : Option Addr} {sl5 : Array (Option Value)} {oc5 kV5 dc5 pm5 cd5 ct5 : Value}
    {f6 : Addr} {od6 an6 : Option Addr} {sl6 : Array (Option Value)} {oc6 kV6 dc6 pm6 cd6 ct6 : Value}
    {f7 : Addr} {od7 an7 : Option Addr} {sl7 : Array (Option Value)} {oc7 kV7 dc7 pm7 cd7 ct7 : Value}
    {f8 : Addr} {od8 an8 : Option Addr} {sl8 : Array (Option Value)} {oc8 kV8 dc8 pm8 cd8 ct8 : Value}
    {f9 : Addr} {od9 an9 : Option Addr} {sl9 : Array (Option Value)} {oc9 kV9 dc9 pm9 cd9 ct9 : Value}
    {f11 : Addr} {od11 an11 : Option Addr} {sl11 : Array (Option Value)} {oc11 kV11 dc11 pm11 cd11 ct11 : Value}
    {f14 : Addr} {od14 an14 : Option Addr} {sl14 : Array (Option Value)} {oc14 kV14 dc14 pm14 cd14 ct14 : Value}
    {f15 : Addr} {od15 an15 : Option Addr} {sl15 : Array (Option Value)} {oc15 kV15 dc15 pm15 cd15 ct15 : Value}
    {f16 : Addr} {od16 an16 : Option Addr} {sl16 : Array (Option Value)} {oc16 kV16 dc16 pm16 cd16 ct16 : Value}
    {f17 : Addr} {od17 an17 : Option Addr} {sl17 : Array (Option Value)} {oc17 kV17 dc17 pm17 cd17 ct17 : Value}
    {f18 : Addr} {od18 an18 : Option Addr} {sl18 : Array (Option Value)} {oc18 kV18 dc18 pm18 cd18 ct18 : Value}
    {f19 : Addr} {od19 an19 : Option Addr} {sl19 : Array (Option Value)} {oc19 kV19 dc19 pm19 cd19 ct19 : Value}
    {f20 : Addr} {od20 an20 : Option Addr} {sl20 : Array (Option Value)} {oc20 kV20 dc20 pm20 cd20 ct20 : Value}
    {f21 : Addr} {od21 an21 : Option Addr} {sl21 : Array (Option Value)} {oc21 kV21 dc21 pm21 cd21 ct21 : Value}
    {f23 : Addr} {od23 an23 : Option Addr} {sl23 : Array (Option Value)} {oc23 kV23 dc23 pm23 cd23 ct23 : Value}
    {f24 : Addr} {od24 an24 : Option Addr} {sl24 : Array (Option Value)} {oc24 kV24 dc24 pm24 cd24 ct24 : Value}
    {f25 : Addr} {od25 an25 : Option Addr} {sl25 : Array (Option Value)} {oc25 kV25 dc25 pm25 cd25 ct25 : Value}
    {f26 : Addr} {od26 an26 : Option Addr} {sl26 : Array (Option Value)} {oc26 kV26 dc26 pm26 cd26 ct26 : Value}
    {f27 : Addr} {od27 an27 : Option Addr} {sl27 : Array (Option Value)} {oc27 kV27 dc27 pm27 cd27 ct27 : Value}
    {f28 : Addr} {od28 an28 : Option Addr} {sl28 : Array (Option Value)} {oc28 kV28 dc28 pm28 cd28 ct28 : Value}
    {f29 : Addr} {od29 an29 : Option Addr} {sl29 : Array (Option Value)} {oc29 kV29 dc29 pm29 cd29 ct29 : Value}
    (a4 : PySem.W.nsIn K mainGlobals "rise" = some (some (.ref f4))) (l4 : K.lookup f4 = some ⟨oc4, od4, .func (PySem.W.fnOf "rise" "rise" (defArgs (top 4)) (defBody (top 4)) (defScope (top 4)) .none kV4 dc4 pm4 an4 cd4 ct4), sl4⟩) (c4 : PySem.W.codeIn K cd4 "rise" = true) (k4 : PySem.W.keepIn K (.ref f4) = true)
    (a5 : PySem.W.nsIn K mainGlobals "sink" = some (some (.ref f5))) (l5 : K.lookup f5 = some ⟨oc5, od5, .func (PySem.W.fnOf "sink" "sink" (defArgs (top 5)) (defBody (top 5)) (defScope (top 5)) .none kV5 dc5 pm5 an5 cd5 ct5), sl5⟩) (c5 : PySem.W.codeIn K cd5 "sink" = true) (k5 : PySem.W.keepIn K (.ref f5) = true)
    (a6 : PySem.W.nsIn K mainGlobals "push" = some (some (.ref f6))) (l6 : K.lookup f6 = some ⟨oc6, od6, .func (PySem.W.fnOf "push" "push" (defArgs (top 6)) (defBody (top 6)) (defScope (top 6)) .none kV6 dc6 pm6 an6 cd6 ct6), sl6⟩) (c6 : PySem.W.codeIn K cd6 "push" = true) (k6 : PySem.W.keepIn K (.ref f6) = true)
    (a7 : PySem.W.nsIn K mainGlobals "take_first" = some (some (.ref f7))) (l7 : K.lookup f7 = some ⟨oc7, od7, .func (PySem.W.fnOf "take_first" "take_first" (defArgs (top 7)) (defBody (top 7)) (defScope (top 7)) .none kV7 dc7 pm7 an7 cd7 ct7), sl7⟩) (c7 : PySem.W.codeIn K cd7 "take_first" = true) (k7 : PySem.W.keepIn K (.ref f7) = true)
    (a8 : PySem.W.nsIn K mainGlobals "make_heap" = some (some (.ref f8))) (l8 : K.lookup f8 = some ⟨oc8, od8, .func (PySem.W.fnOf "make_heap" "make_heap" (defArgs (top 8)) (defBody (top 8)) (defScope (top 8)) .none kV8 dc8 pm8 an8 cd8 ct8), sl8⟩) (c8 : PySem.W.codeIn K cd8 "make_heap" = true) (k8 : PySem.W.keepIn K (.ref f8) = true)
    (a9 : PySem.W.nsIn K mainGlobals "is_earlier" = some (some (.ref f9))) (l9 : K.lookup f9 = some ⟨oc9, od9, .func (PySem.W.fnOf "is_earlier" "is_earlier" (defArgs (top 9)) (defBody (top 9)) (defScope (top 9)) .none kV9 dc9 pm9 an9 cd9 ct9), sl9⟩) (c9 : PySem.W.codeIn K cd9 "is_earlier" = true) (k9 : PySem.W.keepIn K (.ref f9) = true)
    (a11 : PySem.W.nsIn K mainGlobals "is_whole" = some (some (.ref f11))) (l11 : K.lookup f11 = some ⟨oc11, od11, .func (PySem.W.fnOf "is_whole" "is_whole" (defArgs (top 11)) (defBody (top 11)) (defScope (top 11)) .none kV11 dc11 pm11 an11 cd11 ct11), sl11⟩) (c11 : PySem.W.codeIn K cd11 "is_whole" = true) (k11 : PySem.W.keepIn K (.ref f11) = true)
    (a14 : PySem.W.nsIn K mainGlobals "is_entry" = some (some (.ref f14))) (l14 : K.lookup f14 = some ⟨oc14, od14, .func (PySem.W.fnOf "is_entry" "is_entry" (defArgs (top 14)) (defBody (top 14)) (defScope (top 14)) .none kV14 dc14 pm14 an14 cd14 ct14), sl14⟩) (c14 : PySem.W.codeIn K cd14 "is_entry" = true) (k14 : PySem.W.keepIn K (.ref f14) = true)
    (a15 : PySem.W.nsIn K mainGlobals "check_rows" = some (some (.ref f15))) (l15 : K.lookup f15 = some ⟨oc15, od15, .func (PySem.W.fnOf "check_rows" "check_rows" (defArgs (top 15)) (defBody (top 15)) (defScope (top 15)) .none kV15 dc15 pm15 an15 cd15 ct15), sl15⟩) (c15 : PySem.W.codeIn K cd15 "check_rows" = true) (k15 : PySem.W.keepIn K (.ref f15) = true)
    (a16 : PySem.W.nsIn K mainGlobals "check_whole" = some (some (.ref f16))) (l16 : K.lookup f16 = some ⟨oc16, od16, .func (PySem.W.fnOf "check_whole" "check_whole" (defArgs (top 16)) (defBody (top 16)) (defScope (top 16)) .none kV16 dc16 pm16 an16 cd16 ct16), sl16⟩) (c16 : PySem.W.codeIn K cd16 "check_whole" = true) (k16 : PySem.W.keepIn K (.ref f16) = true)
    (a17 : PySem.W.nsIn K mainGlobals "is_heap" = some (some (.ref f17))) (l17 : K.lookup f17 = some ⟨oc17, od17, .func (PySem.W.fnOf "is_heap" "is_heap" (defArgs (top 17)) (defBody (top 17)) (defScope (top 17)) .none kV17 dc17 pm17 an17 cd17 ct17), sl17⟩) (c17 : PySem.W.codeIn K cd17 "is_heap" = true) (k17 : PySem.W.keepIn K (.ref f17) = true)
    (a18 : PySem.W.nsIn K mainGlobals "pushed" = some (some (.ref f18))) (l18 : K.lookup f18 = some ⟨oc18, od18, .func (PySem.W.fnOf "pushed" "pushed" (defArgs (top 18)) (defBody (top 18)) (defScope (top 18)) .none kV18 dc18 pm18 an18 cd18 ct18), sl18⟩) (c18 : PySem.W.codeIn K cd18 "pushed" = true) (k18 : PySem.W.keepIn K (.ref f18) = true)
    (a19 : PySem.W.nsIn K mainGlobals "popped" = some (some (.ref f19))) (l19 : K.lookup f19 = some ⟨oc19, od19, .func (PySem.W.fnOf "popped" "popped" (defArgs (top 19)) (defBody (top 19)) (defScope (top 19)) .none kV19 dc19 pm19 an19 cd19 ct19), sl19⟩) (c19 : PySem.W.codeIn K cd19 "popped" = true) (k19 : PySem.W.keepIn K (.ref f19) = true)
    (a20 : PySem.W.nsIn K mainGlobals "heaped" = some (some (.ref f20))) (l20 : K.lookup f20 = some ⟨oc20, od20, .func (PySem.W.fnOf "heaped" "heaped" (defArgs (top 20)) (defBody (top 20)) (defScope (top 20)) .none kV20 dc20 pm20 an20 cd20 ct20), sl20⟩) (c20 : PySem.W.codeIn K cd20 "heaped" = true) (k20 : PySem.W.keepIn K (.ref f20) = true)
    (a21 : PySem.W.nsIn K mainGlobals "ripe" = some (some (.ref f21))) (l21 : K.lookup f21 = some ⟨oc21, od21, .func (PySem.W.fnOf "ripe" "ripe" (defArgs (top 21)) (defBody (top 21)) (defScope (top 21)) .none kV21 dc21 pm21 an21 cd21 ct21), sl21⟩) (c21 : PySem.W.codeIn K cd21 "ripe" = true) (k21 : PySem.W.keepIn K (.ref f21) = true)
    (a23 : PySem.W.nsIn K mainGlobals "_law_well" = some (some (.ref f23))) (l23 : K.lookup f23 = some ⟨oc23, od23, .func (PySem.W.fnOf "_law_well" "_law_well" (defArgs (top 23)) (defBody (top 23)) (defScope (top 23)) .none kV23 dc23 pm23 an23 cd23 ct23), sl23⟩) (c23 : PySem.W.codeIn K cd23 "_law_well" = true) (k23 : PySem.W.keepIn K (.ref f23) = true)
    (a24 : PySem.W.nsIn K mainGlobals "_law_draw" = some (some (.ref f24))) (l24 : K.lookup f24 = some ⟨oc24, od24, .func (PySem.W.fnOf "_law_draw" "_law_draw" (defArgs (top 24)) (defBody (top 24)) (defScope (top 24)) .none kV24 dc24 pm24 an24 cd24 ct24), sl24⟩) (c24 : PySem.W.codeIn K cd24 "_law_draw" = true) (k24 : PySem.W.keepIn K (.ref f24) = true)
    (a25 : PySem.W.nsIn K mainGlobals "_law_pick" = some (some (.ref f25))) (l25 : K.lookup f25 = some ⟨oc25, od25, .func (PySem.W.fnOf "_law_pick" "_law_pick" (defArgs (top 25)) (defBody (top 25)) (defScope (top 25)) .none kV25 dc25 pm25 an25 cd25 ct25), sl25⟩) (c25 : PySem.W.codeIn K cd25 "_law_pick" = true) (k25 : PySem.W.keepIn K (.ref f25) = true)
    (a26 : PySem.W.nsIn K mainGlobals "_law_out" = some (some (.ref f26))) (l26 : K.lookup f26 = some ⟨oc26, od26, .func (PySem.W.fnOf "_law_out" "_law_out" (defArgs (top 26)) (defBody (top 26)) (defScope (top 26)) .none kV26 dc26 pm26 an26 cd26 ct26), sl26⟩) (c26 : PySem.W.codeIn K cd26 "_law_out" = true) (k26 : PySem.W.keepIn K (.ref f26) = true)
    (a27 : PySem.W.nsIn K mainGlobals "_law_deed" = some (some (.ref f27))) (l27 : K.lookup f27 = some ⟨oc27, od27, .func (PySem.W.fnOf "_law_deed" "_law_deed" (defArgs (top 27)) (defBody (top 27)) (defScope (top 27)) .none kV27 dc27 pm27 an27 cd27 ct27), sl27⟩) (c27 : PySem.W.codeIn K cd27 "_law_deed" = true) (k27 : PySem.W.keepIn K (.ref f27) = true)
    (a28 : PySem.W.nsIn K mainGlobals "_law_moved_right" = some (some (.ref f28))) (l28 : K.lookup f28 = some ⟨oc28, od28, .func (PySem.W.fnOf "_law_moved_right" "_law_moved_right" (defArgs (top 28)) (defBody (top 28)) (defScope (top 28)) .none kV28 dc28 pm28 an28 cd28 ct28), sl28⟩) (c28 : PySem.W.codeIn K cd28 "_law_moved_right" = true) (k28 : PySem.W.keepIn K (.ref f28) = true)
    (a29 : PySem.W.nsIn K mainGlobals "law" = some (some (.ref f29))) (l29 : K.lookup f29 = some ⟨oc29, od29, .func (PySem.W.fnOf "law" "law" (defArgs (top 29)) (defBody (top 29)) (defScope (top 29)) .none kV29 dc29 pm29 an29 cd29 ct29), sl29⟩) (c29 : PySem.W.codeIn K cd29 "law" = true) (k29 : PySem.W.keepIn K (.ref f29) = true)
    (z_isinstance : PySem.W.nsIn K mainGlobals "isinstance" = some none)
    (z_int : PySem.W.nsIn K mainGlobals "int" = some none)
    (z_bool : PySem.W.nsIn K mainGlobals "bool" = some none)
    (z_str : PySem.W.nsIn K mainGlobals "str" = some none)
    (z_tuple : PySem.W.nsIn K mainGlobals "tuple" = some none)
    (z_dict : PySem.W.nsIn K mainGlobals "dict" = some none)
    (z_list : PySem.W.nsIn K mainGlobals "list" = some none)
    (z_len : PySem.W.nsIn K mainGlobals "len" = some none)
    (z_all : PySem.W.nsIn K mainGlobals "all" = some none)
    (z_any : PySem.W.nsIn K mainGlobals "any" = some none)
    (z_sorted : PySem.W.nsIn K mainGlobals "sorted" = some none)
    (z_enumerate : PySem.W.nsIn K mainGlobals "enumerate" = some none)
    (z_zip : PySem.W.nsIn K mainGlobals "zip" = some none)
    (z_set : PySem.W.nsIn K mainGlobals "set" = some none)
    (z_range : PySem.W.nsIn K mainGlobals "range" = some none)
    (z_max : PySem.W.nsIn K mainGlobals "max" = some none)
    (z_repr : PySem.W.nsIn K mainGlobals "repr" = some none)
    (z_reversed : PySem.W.nsIn K mainGlobals "reversed" = some none)
    (z_min : PySem.W.nsIn K mainGlobals "min" = some none)
    {tm : Tok} (zm : PySem.W.nsIn K mainGlobals "MOST_ROWS" = some (some (.int 5000 tm))) :
    ∃ fd : FuncData, (∀ (s : Shared) (v : Value), BindsTo s fd ⟨[v], []⟩ [("_law_script", v)]) ∧ ∀ base : Heap, K.In base → base.Ns mainGlobals mg → FnOk l.prog w K mg base CX0 8 fa fd ["_law_script"] (spLaw K) := by
  have e := hfa.symm.trans (PySem.W.mg_of X G a29)
  cases e
  have D4 : Df K mg "rise" (top 4) ["rows", "low", "at", "comes_first"] := df_mk X G a4 l4 c4 k4 fun _ _ _ _ _ _ us hl => match us, hl with | [_, _, _, _], _ => rfl
  have D5 : Df K mg "sink" (top 5) ["rows", "at", "comes_first"] := df_mk X G a5 l5 c5 k5 fun _ _ _ _ _ _ us hl => match us, hl with | [_, _, _], _ => rfl
  have D6 : Df K mg "push" (top 6) ["rows", "entry", "comes_first"] := df_mk X G a6 l6 c6 k6 fun _ _ _ _ _ _ us hl => match us, hl with | [_, _, _], _ => rfl
  have D7 : Df K mg "take_first" (top 7) ["rows", "comes_first"] := df_mk X G a7 l7 c7 k7 fun _ _ _ _ _ _ us hl => match us, hl with | [_, _], _ => rfl
  have D8 : Df K mg "make_heap" (top 8) ["rows", "comes_first"] := df_mk X G a8 l8 c8 k8 fun _ _ _ _ _ _ us hl => match us, hl with | [_, _], _ => rfl
  have D9 : Df K mg "is_earlier" (top 9) ["entry", "other"] := df_mk X G a9 l9 c9 k9 fun _ _ _ _ _ _ us hl => match us, hl with | [_, _], _ => rfl
  have D11 : Df K mg "is_whole" (top 11) ["value"] := df_mk X G a11 l11 c11 k11 fun _ _ _ _ _ _ us hl => match us, hl with | [_], _ => rfl
  have D14 : Df K mg "is_entry" (top 14) ["entry"] := df_mk X G a14 l14 c14 k14 fun _ _ _ _ _ _ us hl => match us, hl with | [_], _ => rfl
  have D15 : Df K mg "check_rows" (top 15) ["rows"] := df_mk X G a15 l15 c15 k15 fun _ _ _ _ _ _ us hl => match us, hl with | [_], _ => rfl
  have D16 : Df K mg "check_whole" (top 16) ["value"] := df_mk X G a16 l16 c16 k16 fun _ _ _ _ _ _ us hl => match us, hl with | [_], _ => rfl
  have D17 : Df K mg "is_heap" (top 17) ["rows"] := df_mk X G a17 l17 c17 k17 fun _ _ _ _ _ _ us hl => match us, hl with | [_], _ => rfl
  have D18 : Df K mg "pushed" (top 18) ["rows", "entry"] := df_mk X G a18 l18 c18 k18 fun _ _ _ _ _ _ us hl => match us, hl with | [_, _], _ => rfl
  have D19 : Df K mg "popped" (top 19) ["rows"] := df_mk X G a19 l19 c19 k19 fun _ _ _ _ _ _ us hl => match us, hl with | [_], _ => rfl
  have D20 : Df K mg "heaped" (top 20) ["rows"] := df_mk X G a20 l20 c20 k20 fun _ _ _ _ _ _ us hl => match us, hl with | [_], _ => rfl
  have D21 : Df K mg "ripe" (top 21) ["rows", "now"] := df_mk X G a21 l21 c21 k21 fun _ _ _ _ _ _ us hl => match us, hl with | [_, _], _ => rfl
  have D23 : Df K mg "_law_well" (top 23) ["_law_cell"] := df_mk X G a23 l23 c23 k23 fun _ _ _ _ _ _ us hl => match us, hl with | [_], _ => rfl
  have D24 : Df K mg "_law_draw" (top 24) ["_law_well_here", "_law_many"] := df_mk X G a24 l24 c24 k24 fun _ _ _ _ _ _ us hl => match us, hl with | [_, _], _ => rfl
  have D25 : Df K mg "_law_pick" (top 25) ["_law_well_here", "_law_some"] := df_mk X G a25 l25 c25 k25 fun _ _ _ _ _ _ us hl => match us, hl with | [_, _], _ => rfl
  have D26 : Df K mg "_law_out" (top 26) ["_law_rows"] := df_mk X G a26 l26 c26 k26 fun _ _ _ _ _ _ us hl => match us, hl with | [_], _ => rfl
  have D27 : Df K mg "_law_deed" (top 27) ["_law_well_here", "_law_rows", "_law_entry", "_law_kept"] := df_mk X G a27 l27 c27 k27 fun _ _ _ _ _ _ us hl => match us, hl with | [_, _, _, _], _ => rfl
  have D28 : Df K mg "_law_moved_right" (top 28) ["_law_rows", "_law_by", "_law_more"] := df_mk X G a28 l28 c28 k28 fun _ _ _ _ _ _ us hl => match us, hl with | [_, _, _], _ => rfl
  have FL := fun_mk (st := top 29) l29 c29 k29
  have B : Bm mg := { isinstance := PySem.W.mg_none_of X G z_isinstance, int := PySem.W.mg_none_of X G z_int, bool := PySem.W.mg_none_of X G z_bool, str := PySem.W.mg_none_of X G z_str, tuple := PySem.W.mg_none_of X G z_tuple, dict := PySem.W.mg_none_of X G z_dict, list := PySem.W.mg_none_of X G z_list, len := PySem.W.mg_none_of X G z_len, all := PySem.W.mg_none_of X G z_all, any := PySem.W.mg_none_of X G z_any, sorted := PySem.W.mg_none_of X G z_sorted, enumerate := PySem.W.mg_none_of X G z_enumerate, zip := PySem.W.mg_none_of X G z_zip, set := PySem.W.mg_none_of X G z_set, range := PySem.W.mg_none_of X G z_range, max := PySem.W.mg_none_of X G z_max, repr := PySem.W.mg_none_of X G z_repr, reversed := PySem.W.mg_none_of X G z_reversed, min := PySem.W.mg_none_of X G z_min }
  have C : Cn mg := ⟨⟨_, PySem.W.mg_of X G zm, ⟨_, rfl⟩⟩⟩
  refine ⟨PySem.W.fnOf "law" "law" (defArgs (top 29)) (defBody (top 29)) (defScope (top 29)) .none kV29 dc29 pm29 an29 cd29 ct29, fun s v => .of_eq rfl, fun base _ _ => ?_⟩
  have O9 := ok_earlier (P := l.prog) (w := w) (base := base) D9
  obtain ⟨fE, R⟩ := ear_of O9
  have O4 := ok_rise R D4
  have O5 := ok_sink B R D5 O4
  have O6 := ok_push B D6 O4
  have O7 := ok_take B D7 O5
  have O8 := ok_make B D8 O5
  have O11 := ok_whole (P := l.prog) (w := w) (base := base) B D11
  have O14 := ok_entry B D14 O11
  have O15 := ok_chk B C D15 O14
  have O16 := ok_chkI D16 O11
  have O17 := ok_isH B D17 O15 O9
  have O18 := ok_pushed B R D18 O15 O14 O6
  have O19 := ok_popped B R D19 O15 O7
  have O20 := ok_heaped B R D20 O15 O8
  have O21 := ok_ripe B R D21 O15 O16 O7
  have O23 := ok_well (P := l.prog) (w := w) (base := base) B D23
  have O24 := ok_draw (P := l.prog) (w := w) (base := base) B D24
  have O25 := ok_pick B D25 O24
  have O26 := ok_out B D26 O19
  have O27 := ok_deed B D27 O24 O18 O19 O21
  have O28 := ok_moved B D28 O20 O26
  exact ok_law B FL O23 O25 O24 O27 O17 O26 O20 O18 O28
end K4
open PySem PySem.W PyProof.Rows
set_option maxRecDepth 100000 in
set_option maxHeartbeats 0 in
theorem PySem.Challenge.cw_loopyard_k14_whole_heaps_drained_holds : PySem.Challenge.rw_loopyard_k14_whole_heaps_drained.Holds := by
  w_on; o_law; k_head; (case hw => w_witness2)
  k_fill
  refine L2.walk_of (l := PySem.Challenge.rw_loopyard_k14_whole_heaps_drained) (n := 63) (k := 8) (x := "_law_script") (CX := fun _ => L2.CX0) (sp := fun w => K4.spLaw _) rfl (by decide) rfl ⟨rfl, by decide, by decide⟩ (fun w h Y => PySem.W.kIn_of Y) ?F (fun _ _ a ns hl _ hS => ⟨a, ns, rfl, hS, hl, fun _ => rfl⟩) (fun _ _ _ _ _ h => h)
  case F =>
    intro w mg fa h KX G hmg
    refine' K4.all_mk KX G hmg ?a4 ?l4 ?c4 ?k4 ?a5 ?l5 ?c5 ?k5 ?a6 ?l6 ?c6 ?k6 ?a7 ?l7 ?c7 ?k7 ?a8 ?l8 ?c8 ?k8 ?a9 ?l9 ?c9 ?k9 ?a11 ?l11 ?c11 ?k11 ?a14 ?l14 ?c14 ?k14 ?a15 ?l15 ?c15 ?k15 ?a16 ?l16 ?c16 ?k16 ?a17 ?l17 ?c17 ?k17 ?a18 ?l18 ?c18 ?k18 ?a19 ?l19 ?c19 ?k19 ?a20 ?l20 ?c20 ?k20 ?a21 ?l21 ?c21 ?k21 ?a23 ?l23 ?c23 ?k23 ?a24 ?l24 ?c24 ?k24 ?a25 ?l25 ?c25 ?k25 ?a26 ?l26 ?c26 ?k26 ?a27 ?l27 ?c27 ?k27 ?a28 ?l28 ?c28 ?k28 ?a29 ?l29 ?c29 ?k29 ?z_isinstance ?z_int ?z_bool ?z_str ?z_tuple ?z_dict ?z_list ?z_len ?z_all ?z_any ?z_sorted ?z_enumerate ?z_zip ?z_set ?z_range ?z_max ?z_repr ?z_reversed ?z_min ?zm
    (case a4 => k_is)
    (case l4 => k_is)
    (case c4 => k_is)
    (case k4 => k_is)
    (case a5 => k_is)
    (case l5 => k_is)
    (case c5 => k_is)
    (case k5 => k_is)
    (case a6 => k_is)
    (case l6 => k_is)
    (case c6 => k_is)
    (case k6 => k_is)
    (case a7 => k_is)
    (case l7 => k_is)
    (case c7 => k_is)
    (case k7 => k_is)
    (case a8 => k_is)
    (case l8 => k_is)
    (case c8 => k_is)
    (case k8 => k_is)
    (case a9 => k_is)
    (case l9 => k_is)
    (case c9 => k_is)
    (case k9 => k_is)
    (case a11 => k_is)
    (case l11 => k_is)
    (case c11 => k_is)
    (case k11 => k_is)
    (case a14 => k_is)
    (case l14 => k_is)
    (case c14 => k_is)
    (case k14 => k_is)
    (case a15 => k_is)
    (case l15 => k_is)
    (case c15 => k_is)
    (case k15 => k_is)
    (case a16 => k_is)
    (case l16 => k_is)
    (case c16 => k_is)
    (case k16 => k_is)
    (case a17 => k_is)
    (case l17 => k_is)
    (case c17 => k_is)
    (case k17 => k_is)
    (case a18 => k_is)
    (case l18 => k_is)
    (case c18 => k_is)
    (case k18 => k_is)
    (case a19 => k_is)
    (case l19 => k_is)
    (case c19 => k_is)
    (case k19 => k_is)
    (case a20 => k_is)
    (case l20 => k_is)
    (case c20 => k_is)
    (case k20 => k_is)
    (case a21 => k_is)
    (case l21 => k_is)
    (case c21 => k_is)
    (case k21 => k_is)
    (case a23 => k_is)
    (case l23 => k_is)
    (case c23 => k_is)
    (case k23 => k_is)
    (case a24 => k_is)
    (case l24 => k_is)
    (case c24 => k_is)
    (case k24 => k_is)
    (case a25 => k_is)
    (case l25 => k_is)
    (case c25 => k_is)
    (case k25 => k_is)
    (case a26 => k_is)
    (case l26 => k_is)
    (case c26 => k_is)
    (case k26 => k_is)
    (case a27 => k_is)
    (case l27 => k_is)
    (case c27 => k_is)
    (case k27 => k_is)
    (case a28 => k_is)
    (case l28 => k_is)
    (case c28 => k_is)
    (case k28 => k_is)
    (case a29 => k_is)
    (case l29 => k_is)
    (case c29 => k_is)
    (case k29 => k_is)
    (case z_isinstance => k_is)
    (case z_int => k_is)
    (case z_bool => k_is)
    (case z_str => k_is)
    (case z_tuple => k_is)
    (case z_dict => k_is)
    (case z_list => k_is)
    (case z_len => k_is)
    (case z_all => k_is)
    (case z_any => k_is)
    (case z_sorted => k_is)
    (case z_enumerate => k_is)
    (case z_zip => k_is)
    (case z_set => k_is)
    (case z_range => k_is)
    (case z_max => k_is)
    (case z_repr => k_is)
    (case z_reversed => k_is)
    (case z_min => k_is)
    (case zm => k_is)
