import PyProof.Rows.All
import Wide.All
import OpenK.AllK
import Wide.FinOn
import HandS.ForMost
import HandS.IsInst
import HandS.Evl
import HandS.Walk
import HandS.DeepEq
import HandS.Steps
import HandS.Zip
import KE.GoesEnumKw
import HandS.SortKw
import HandS.Star
import HandS.DictComp
import HandS.WordsDict
import HandS.Exc
import HandS.ExcInit
import HandS.WordsExc
import HandS.ClsMeth
import HandS.Defaults
import HandS.Iter
import HandS.More
import HandS.MakeKwOnly
import HandS.Property
import HandS.ExcOwn
import HandS.Wide
import HandS.WideBits
import HandS.Text
import PyProof.NeKinds
import HandS.StrMore
import HandS.ListItems
import HandS.Deep
import PyProof.StrOps2
import HandS.TupMul
import PyProof.ReprRoads
import HandS.Conv
import HandS.TupAny
import HandS.Strs
import KE.KRevSl
import PyProof.Rows.StrMeet
import HandS.Finally
import HandS.ExcField
import HandS.Style
import HandS.HeadHook3
import PySem.Challenge.RW_loopyard_k02_what_is_no_program
set_option Elab.async false
set_option maxRecDepth 100000
set_option maxHeartbeats 8000000
set_option linter.all false
set_option autoImplicit false
/-! The text by places, the data, the short forms of what evaluates to what. -/
namespace K2
open PySem L2 Evl PySem.Spec PyProof.Rows
def top (i : Nat) : Stmt := PySem.Challenge.pw_loopyard_k02_what_is_no_program.main.body.getD i (.Pass ⟨0, 0, 0, 0⟩)

/-! ### the data -/
inductive D where
  | non | bl (b : Bool) | int (i : Int) | str (s : Str) | tup (l : List D) | lst | dct

mutual
/-- the value v is the datum d -/
inductive Rp (K : PySem.W.Frag) (H : Hp) : D → V → Prop
  | non : Rp K H .non .non
  | bl (b : Bool) : Rp K H (.bl b) (.bl b)
  | int (i : Int) : Rp K H (.int i) (.int i)
  | str (x : Str) : Rp K H (.str x) (.str x)
  | tup {a : Addr} {vs : List V} {ds : List D} : H a = some (.tup vs) → Rps K H ds vs → Rp K H (.tup ds) (.ref a)
  | lst {a : Addr} {vs : List V} : H a = some (.lst vs) → Rp K H .lst (.ref a)
  | dct {a : Addr} {kvs : List (Key × V)} : H a = some (.dK kvs) → Rp K H .dct (.ref a)
inductive Rps (K : PySem.W.Frag) (H : Hp) : List D → List V → Prop
  | nil : Rps K H [] []
  | cons {d : D} {v : V} {ds : List D} {vs : List V} : Rp K H d v → Rps K H ds vs → Rps K H (d :: ds) (v :: vs)
end

/-- tuples stand, lists and dicts are lists and dicts still -/
def Ew (H H' : Hp) : Prop := ∀ a, (∀ xs, H a = some (.tup xs) → H' a = some (.tup xs)) ∧ (∀ xs, H a = some (.lst xs) → ∃ ys, H' a = some (.lst ys)) ∧ (∀ xs, H a = some (.dK xs) → ∃ ys, H' a = some (.dK ys))
theorem Ew.of {H H' : Hp} (e : Ex H H') : Ew H H' := fun a => ⟨fun _ h => e a _ h, fun _ h => ⟨_, e a _ h⟩, fun _ h => ⟨_, e a _ h⟩⟩
theorem Ew.refl (H : Hp) : Ew H H := Ew.of (Ex.refl H)
theorem Ew.trans {H H1 H2 : Hp} (x : Ew H H1) (y : Ew H1 H2) : Ew H H2 := fun a =>
  ⟨fun xs h => (y a).1 xs ((x a).1 xs h), fun xs h => let ⟨_, h1⟩ := (x a).2.1 xs h; (y a).2.1 _ h1, fun xs h => let ⟨_, h1⟩ := (x a).2.2 xs h; (y a).2.2 _ h1⟩
/-- a list is changed -/
theorem Ew.lst {H : Hp} {p : Addr} {xs ys : List V} (h : H p = some (.lst xs)) : Ew H (upd H p (.lst ys)) := fun a => by
  by_cases e : a = p
  · subst e
    refine ⟨fun z q => ?_, fun z q => ⟨ys, upd_same⟩, fun z q => ?_⟩
    · rw [h] at q; cases q
    · rw [h] at q; cases q
  · refine ⟨fun z q => ?_, fun z q => ⟨z, ?_⟩, fun z q => ⟨z, ?_⟩⟩ <;> (rw [upd_ne e]; exact q)
theorem Ew.dK {H : Hp} {p : Addr} {xs ys : List (Key × V)} (h : H p = some (.dK xs)) : Ew H (upd H p (.dK ys)) := fun a => by
  by_cases e : a = p
  · subst e
    refine ⟨fun z q => ?_, fun z q => ?_, fun z q => ⟨ys, upd_same⟩⟩
    · rw [h] at q; cases q
    · rw [h] at q; cases q
  · refine ⟨fun z q => ?_, fun z q => ⟨z, ?_⟩, fun z q => ⟨z, ?_⟩⟩ <;> (rw [upd_ne e]; exact q)
section
variable {K : PySem.W.Frag} {H H' : Hp} {d : D} {v : V} {ds es : List D} {vs us : List V}
mutual
theorem Rp.ew (e : Ew H H') : ∀ {d : D} {v : V}, Rp K H d v → Rp K H' d v
  | _, _, .non => .non
  | _, _, .bl b => .bl b
  | _, _, .int i => .int i
  | _, _, .str x => .str x
  | _, _, .tup h r => .tup ((e _).1 _ h) (Rps.ew e r)
  | _, _, .lst h => .lst ((e _).2.1 _ h).choose_spec
  | _, _, .dct h => .dct ((e _).2.2 _ h).choose_spec
theorem Rps.ew (e : Ew H H') : ∀ {ds : List D} {vs : List V}, Rps K H ds vs → Rps K H' ds vs
  | _, _, .nil => .nil
  | _, _, .cons r t => .cons (Rp.ew e r) (Rps.ew e t)
end
theorem Rp.mono (e : Ex H H') {d : D} {v : V} (r : Rp K H d v) : Rp K H' d v := r.ew (Ew.of e)
theorem Rps.mono (e : Ex H H') {ds : List D} {vs : List V} (r : Rps K H ds vs) : Rps K H' ds vs := r.ew (Ew.of e)
theorem Rps.len : ∀ {ds : List D} {vs : List V}, Rps K H ds vs → vs.length = ds.length
  | _, _, .nil => rfl
  | _, _, .cons _ t => congrArg (· + 1) (Rps.len t)
theorem Rps.at_ : ∀ {ds : List D} {vs : List V} {i : Nat} {v : V}, Rps K H ds vs → vs[i]? = some v → ∃ d, ds[i]? = some d ∧ Rp K H d v
  | _, _, i, _, .nil, e => by simp at e
  | _, _, 0, v, .cons r t, e => by simp at e; subst e; exact ⟨_, rfl, r⟩
  | _, _, i + 1, v, .cons r t, e => by simpa using Rps.at_ (i := i) t (by simpa using e)
theorem Rps.get : ∀ {ds : List D} {vs : List V} {i : Nat} {d : D}, Rps K H ds vs → ds[i]? = some d → ∃ v, vs[i]? = some v ∧ Rp K H d v
  | _, _, i, _, .nil, e => by simp at e
  | _, _, 0, v, .cons r t, e => by simp at e; subst e; exact ⟨_, rfl, r⟩
  | _, _, i + 1, v, .cons r t, e => by simpa using Rps.get (i := i) t (by simpa using e)
theorem Rps.drop : ∀ {ds : List D} {vs : List V} (n : Nat), Rps K H ds vs → Rps K H (ds.drop n) (vs.drop n)
  | _, _, 0, r => r
  | _, _, _ + 1, .nil => .nil
  | _, _, n + 1, .cons _ t => Rps.drop n t
theorem Rps.take : ∀ {ds : List D} {vs : List V} (n : Nat), Rps K H ds vs → Rps K H (ds.take n) (vs.take n)
  | _, _, 0, _ => .nil
  | _, _, _ + 1, .nil => .nil
  | _, _, n + 1, .cons r t => .cons r (Rps.take n t)
theorem Rps.app : ∀ {ds es : List D} {vs us : List V}, Rps K H ds vs → Rps K H es us → Rps K H (ds ++ es) (vs ++ us)
  | _, _, _, _, .nil, s => s
  | _, _, _, _, .cons r t, s => .cons r (Rps.app t s)
/-- the name of a datum's type -/
def tyD : D → String
  | .non => "NoneType" | .bl _ => "bool" | .int _ => "int" | .str _ => "str" | .tup _ => "tuple" | .lst => "list" | .dct => "dict"
theorem Rp.ty : Rp K H d v → TyX K H v (.type (tyD d))
  | .non => .base .non
  | .bl b => .base (.bl b)
  | .int i => .base (.int i)
  | .str x => .base (.str x)
  | .tup h _ => .base (.tup h)
  | .lst h => .base (.lst h)
  | .dct h => .base (.dK h)
end
/-! ### isinstance of a datum -/
def isTup : D → Bool | .tup _ => true | _ => false
def isStr : D → Bool | .str _ => true | _ => false
def isBl : D → Bool | .bl _ => true | _ => false
def isIn : D → Bool | .int _ => true | .bl _ => true | _ => false
def isDct : D → Bool | .dct => true | _ => false
inductive Tg where | non | bl | int | str | tup | lst | dct
def tg : D → Tg | .non => .non | .bl _ => .bl | .int _ => .int | .str _ => .str | .tup _ => .tup | .lst => .lst | .dct => .dct
def tyT : Tg → String | .non => "NoneType" | .bl => "bool" | .int => "int" | .str => "str" | .tup => "tuple" | .lst => "list" | .dct => "dict"
def inT (n : String) : Tg → Bool
  | .tup => n == "tuple" | .str => n == "str" | .bl => n == "bool" || n == "int" | .int => n == "int" | .dct => n == "dict" | _ => false
theorem ty_eq (d : D) : tyD d = tyT (tg d) := by cases d <;> rfl
theorem kitT_tup (t : Tg) : kitB (tyT t) "tuple" = some (inT "tuple" t) := by cases t <;> decide +kernel
theorem kitT_str (t : Tg) : kitB (tyT t) "str" = some (inT "str" t) := by cases t <;> decide +kernel
theorem kitT_bl (t : Tg) : kitB (tyT t) "bool" = some (inT "bool" t) := by cases t <;> decide +kernel
theorem kitT_in (t : Tg) : kitB (tyT t) "int" = some (inT "int" t) := by cases t <;> decide +kernel
theorem kitT_dct (t : Tg) : kitB (tyT t) "dict" = some (inT "dict" t) := by cases t <;> decide +kernel
theorem inT_tup (d : D) : inT "tuple" (tg d) = isTup d := by cases d <;> rfl
theorem inT_str (d : D) : inT "str" (tg d) = isStr d := by cases d <;> rfl
theorem inT_bl (d : D) : inT "bool" (tg d) = isBl d := by cases d <;> rfl
theorem inT_in (d : D) : inT "int" (tg d) = isIn d := by cases d <;> rfl
theorem inT_dct (d : D) : inT "dict" (tg d) = isDct d := by cases d <;> rfl
theorem kit_tup (d : D) : kitB (tyD d) "tuple" = some (isTup d) := by rw [ty_eq, kitT_tup, inT_tup]
theorem kit_str (d : D) : kitB (tyD d) "str" = some (isStr d) := by rw [ty_eq, kitT_str, inT_str]
theorem kit_bl (d : D) : kitB (tyD d) "bool" = some (isBl d) := by rw [ty_eq, kitT_bl, inT_bl]
theorem kit_in (d : D) : kitB (tyD d) "int" = some (isIn d) := by rw [ty_eq, kitT_in, inT_in]
theorem kit_dct (d : D) : kitB (tyD d) "dict" = some (isDct d) := by rw [ty_eq, kitT_dct, inT_dct]
section
variable {K : PySem.W.Frag} {H : Hp} {σ : L2.St} {d : D} {v : V} {ta : TE} {n : String} {b : Bool}
theorem ev_isi (hd : Rp K H d v) (ha : Ev ta σ H v) (hk : kitB (tyD d) n = some b) : Ev (tCB (rIsi K) (tCons ta (tCons (tC (.ty n)) tNil))) σ H (.bl b) :=
  ev_cb (ea_cons ha (ea_cons ev_c ea_nil)) fun H1 e Q q => ⟨v, .ty n, _, _, b, rfl, .ty n, (hd.mono e).ty, kit_ty hk, q H1 (Ex.refl _)⟩
end
end K2
/-! What evaluates to something with a property; walks; comprehensions; tests; the facts of the top; calls. -/
namespace K2
open PySem L2 Evl PySem.Spec PyProof.Rows
section
variable {K : PySem.W.Frag} {σ : L2.St} {H H' : Hp} {ta tb tc te tx : TE} {t u : TT} {x y z v : V} {r r' : R2} {b : Bool}

/-- it evaluates to a value of which P holds -/
def EvP (te : TE) (σ : L2.St) (H : Hp) (P : Hp → V → Prop) : Prop := ∀ H1, Ex H H1 → ∀ Q : VK, (∀ v H2, Ex H1 H2 → P H2 v → Q v H2) → te σ H1 Q
/-- it makes a new list of which P holds -/
def EvLP (te : TE) (σ : L2.St) (H : Hp) (P : Hp → List V → Prop) : Prop := ∀ H1, Ex H H1 → ∀ Q : VK, (∀ p xs H2, H1 p = none → Ex H1 H2 → H2 p = some (.lst xs) → P H2 xs → Q (.ref p) H2) → te σ H1 Q
def EvAP (ta : TA) (σ : L2.St) (H : Hp) (P : Hp → List V → Prop) : Prop := ∀ H1, Ex H H1 → ∀ Q : List V → Hp → Prop, (∀ vs H2, Ex H1 H2 → P H2 vs → Q vs H2) → ta σ H1 Q
theorem EvP.mono {P : Hp → V → Prop} (e : Ex H H') (h : EvP te σ H P) : EvP te σ H' P := fun H1 a Q q => h H1 (e.trans a) Q q
theorem EvP.imp {P P' : Hp → V → Prop} (h : EvP te σ H P) (k : ∀ H1 v, Ex H H1 → P H1 v → P' H1 v) : EvP te σ H P' := fun H1 a Q q => h H1 a Q fun v H2 e p => q v H2 e (k H2 v (a.trans e) p)
theorem evp (h : Ev te σ H v) {P : Hp → V → Prop} (p : ∀ H1, Ex H H1 → P H1 v) : EvP te σ H P := fun H1 a Q q => h H1 a Q fun H2 e => q v H2 e (p H2 (a.trans e))
theorem evp_d {d : D} (h : Ev te σ H v) (p : Rp K H d v) : EvP te σ H (fun H1 v => Rp K H1 d v) := evp h fun _ e => p.mono e
theorem ea_ev {ta : TA} {vs : List V} (h : EvA ta σ H vs) {P : Hp → List V → Prop} (p : ∀ H1, Ex H H1 → P H1 vs) : EvAP ta σ H P := fun H1 a Q q => h H1 a Q fun H2 e => q vs H2 e (p H2 (a.trans e))
theorem eap_nil : EvAP tNil σ H (fun H1 vs => Rps K H1 [] vs) := fun H1 _ Q q => q [] H1 (Ex.refl _) .nil
theorem eap_cons {ta : TA} {d : D} {ds : List D} (h : EvP te σ H (fun H1 v => Rp K H1 d v)) (hr : EvAP ta σ H (fun H1 vs => Rps K H1 ds vs)) : EvAP (tCons te ta) σ H (fun H1 vs => Rps K H1 (d :: ds) vs) := fun H1 e Q q =>
  h H1 e _ fun v H2 e2 p => hr H2 (e.trans e2) _ fun vs H3 e3 ps => q (v :: vs) H3 (e2.trans e3) (.cons (p.mono e3) ps)
theorem evp_tup {ta : TA} {ds : List D} (h : EvAP ta σ H (fun H1 vs => Rps K H1 ds vs)) (hl : ds.length ≤ 100000) : EvP (tTup ta) σ H (fun H1 v => Rp K H1 (.tup ds) v) := fun H1 e Q q =>
  h H1 e _ fun vs H2 e2 ps => ⟨sz_of (by rw [ps.len]; exact hl), fun p hp => q _ _ (e2.trans (Ex.new hp)) (.tup upd_same (ps.mono (Ex.new hp)))⟩
/-- behind a value of which P is known -/
theorem s_retP {P : Hp → V → Prop} {Dd : Ends} (h : EvP te σ H P) (k : ∀ v H1, Ex H H1 → P H1 v → Dd.rt v H1) : tRet te Dd σ H := h H (Ex.refl H) _ fun v H1 e p => k v H1 e p
theorem s_asgP {P : Hp → V → Prop} {Dd : Ends} {i : Nat} (h : EvP te σ H P) (k : ∀ v H1, Ex H H1 → P H1 v → Dd.nx (σ.set i (some v)) H1) : tAsg te (gName i) Dd σ H := h H (Ex.refl H) _ fun v H1 e p => k v H1 e p
theorem q_asgP {P : Hp → V → Prop} {Dd : Ends} {tz : TS} {i : Nat} (h : EvP te σ H P) (k : ∀ v H1, Ex H H1 → P H1 v → tz Dd (σ.set i (some v)) H1) : tSeq (tAsg te (gName i)) tz Dd σ H := s_asgP (Dd := { Dd with nx := tz Dd }) h k
/-- a value of which P is known, the operation behind it -/
theorem ev_opP {P : Hp → V → Prop} (ha : EvP ta σ H P) (hb : ∀ H1, Ex H H1 → Ev tb σ H1 y) (hr : ∀ v H1, Ex H H1 → P H1 v → RV r v y H1 z) (mono : ∀ v H1 H2, Ex H1 H2 → P H1 v → P H2 v) : Ev (tOp r ta tb) σ H z := fun H1 e Q q =>
  ha H1 e _ fun v H2 e2 p => hb H2 (e.trans e2) H2 (Ex.refl _) _ fun H3 e3 => hr v H3 ((e.trans e2).trans e3) (mono _ _ _ e3 p) H3 (Ex.refl _) Q fun H4 e4 => q H4 ((e2.trans e3).trans e4)

/-! ### tests -/
theorem et_chain {k k2 : Bool} (ha : Ev ta σ H x) (hb : Ev tb σ H y) (h1 : RV r x y H (.bl k)) (hc : k = true → Ev tc σ H z) (h2 : k = true → RV r' y z H (.bl k2)) : EvT (tTest (tChain r r' ta tb tc)) σ H (k && k2) := fun H1 e Q q =>
  ha H1 e _ fun H2 e2 => hb H2 (e.trans e2) _ fun H3 e3 => h1 H3 ((e.trans e2).trans e3) _ fun H4 e4 => ⟨k, rfl, by
    cases k with
    | true =>
      refine iteT ?_
      refine hc rfl H4 (((e.trans e2).trans e3).trans e4) _ fun H5 e5 => h2 rfl H5 ((((e.trans e2).trans e3).trans e4).trans e5) _ fun H6 e6 => ⟨k2, rfl, ?_⟩
      exact q H6 ((((e2.trans e3).trans e4).trans e5).trans e6)
    | false =>
      refine iteF ⟨false, rfl, ?_⟩
      exact q H4 ((e2.trans e3).trans e4)⟩
/-- a test of a value of which P is known -/
theorem et_testP {P : Hp → V → Prop} (h : EvP te σ H P) (k : ∀ v H1, P H1 v → v = .bl b) : EvT (tTest te) σ H b := fun H1 e _ q => h H1 e _ fun v H2 e2 p => ⟨b, k v H2 p, q H2 e2⟩
def rLe : R2 := rI0 fun i j => .bl (decide (i ≤ j))
def rLt : R2 := rI0 fun i j => .bl (decide (i < j))
theorem op_le2 {X : Cx} : OpR X (compareOp .LtE) rLe := op_le
theorem op_lt2 {X : Cx} : OpR X (compareOp .Lt) rLt := op_lt
theorem rv_le {i j : Int} : RV rLe (.int i) (.int j) H (.bl (decide (i ≤ j))) := rv_I0
theorem rv_lt {i j : Int} : RV rLt (.int i) (.int j) H (.bl (decide (i < j))) := rv_I0
theorem rv_inS {c : Nat} {w : Str} : RV rInS (.str ⟨#[c]⟩) (.str w) H (.bl (decide (c ∈ w.cps.toList))) := fun H1 _ _ q => ⟨c, w, rfl, rfl, q H1 (Ex.refl _)⟩
theorem rv_niS {c : Nat} {w : Str} : RV rNotInS (.str ⟨#[c]⟩) (.str w) H (.bl (!decide (c ∈ w.cps.toList))) := fun H1 _ _ q => ⟨c, w, rfl, rfl, q H1 (Ex.refl _)⟩
theorem ev_lenS {z : Str} (ha : Ev ta σ H (.str z)) (hz : z.length ≤ 100000) : Ev (tCB (fun xs H Q => ∃ z : Str, xs = [.str z] ∧ z.length ≤ sizeLine ∧ Q (.int z.length) H) (tCons ta tNil)) σ H (.int z.length) := fun H1 e Q q =>
  ha H1 e _ fun H2 e2 => ⟨z, rfl, sz_of hz, q H2 e2⟩
/-- len of a tracked tuple, list -/
def rLenQ (K : PySem.W.Frag) : List V → Hp → VK → Prop := fun xs H Q => ∃ p ys, xs = [.ref p] ∧ (SqL K H p ys ∨ SqT K H p ys) ∧ Q (.int ys.length) H
theorem call_lenQ {X : Cx} : CallR X (.builtin "len") (rLenQ X.K) := call_len_seq
theorem ev_lenT {p : Addr} {xs : List V} (ha : Ev ta σ H (.ref p)) (h : SqT K H p xs) : Ev (tCB (rLenQ K) (tCons ta tNil)) σ H (.int (xs.length : Int)) := fun H1 e Q q =>
  ha H1 e _ fun H2 e2 => ⟨p, xs, rfl, Or.inr (ex_t (e.trans e2) h), q H2 e2⟩
theorem ev_allB {bs : List Bool} (ha : EvL ta σ H (bs.map V.bl)) : Ev (tCB (rAll K) (tCons ta tNil)) σ H (.bl (bs.all id)) := fun H1 e Q q =>
  ha H1 e _ fun p H2 _ e2 hp => ⟨p, bs, rfl, sq_of hp, q H2 e2⟩
theorem ev_anyB {bs : List Bool} (ha : EvL ta σ H (bs.map V.bl)) : Ev (tCB (rAny K) (tCons ta tNil)) σ H (.bl (bs.any id)) := fun H1 e Q q =>
  ha H1 e _ fun p H2 _ e2 hp => ⟨p, bs, rfl, sq_of hp, q H2 e2⟩

/-! ### walks -/
/-- what is walked: n turns, the i-th gives an x with P i -/
def Wk (wi : TI) (σ : L2.St) (H : Hp) (n : Nat) (P : Nat → Hp → V → Prop) : Prop :=
  ∀ H1, Ex H H1 → ∀ R : It → Hp → Prop, (∀ (J : It) (G : Hp → Prop) (Y : Nat → Hp → V → Hp → Prop) (H2 : Hp), Ex H1 H2 → Walk J n G Y → (∀ H3, Ex H2 H3 → G H3) → (∀ i H3 x H4, i < n → Ex H2 H3 → Y i H3 x H4 → Ex H3 H4 ∧ P i H4 x) → R J H2) → wi σ H1 R
theorem wk_tup {tl : TE} {ds : List D} {a : Addr} {vs : List V} (h : Ev tl σ H (.ref a)) (ha : H a = some (.tup vs)) (r : Rps K H ds vs) : Wk (iTup K tl) σ H ds.length (fun i H1 x => ∃ d, ds[i]? = some d ∧ Rp K H1 d x) := fun H1 e R k =>
  h H1 e _ fun H2 e2 => ⟨a, rfl, ⟨vs, st_of (e2 _ _ (e _ _ ha))⟩, by
    have w : Walk (Itt K a) vs.length (fun H => SqT K H a vs) (YAt vs) := walk_tup
    rw [r.len] at w
    refine k _ _ _ H2 e2 w (fun H3 e3 => st_of (e3 _ _ (e2 _ _ (e _ _ ha)))) fun i H3 x H4 hi e3 y => ?_
    obtain ⟨e4, hx⟩ := y
    subst e4
    obtain ⟨d, h1, h2⟩ := r.at_ hx
    exact ⟨Ex.refl _, d, h1, h2.mono ((e.trans e2).trans e3)⟩⟩
theorem wk_str {tl : TE} {z : Str} (h : Ev tl σ H (.str z)) : Wk (iStr tl) σ H z.cps.size (fun i _ x => ∃ c, z.cps[i]? = some c ∧ x = .str ⟨#[c]⟩) := fun H1 e R k =>
  h H1 e _ fun H2 e2 => ⟨z, rfl, k _ _ _ H2 e2 walk_str (fun _ _ => trivial) fun i H3 x H4 hi e3 y => by
    obtain ⟨e4, hx⟩ := y
    subst e4
    exact ⟨Ex.refl _, hx⟩⟩
theorem wk_lst {tl : TE} {a : Addr} {xs : List V} (h : Ev tl σ H (.ref a)) (ha : H a = some (.lst xs)) : Wk (iList K tl) σ H xs.length (fun i _ x => xs[i]? = some x) := fun H1 e R k =>
  h H1 e _ fun H2 e2 => ⟨a, rfl, ⟨xs, sq_of (e2 _ _ (e _ _ ha))⟩, k _ _ _ H2 e2 walk_list (fun H3 e3 => sq_of (e3 _ _ (e2 _ _ (e _ _ ha)))) fun i H3 x H4 hi e3 y => by
    obtain ⟨e4, hx⟩ := y
    subst e4
    exact ⟨Ex.refl _, hx⟩⟩
/-- over a new list -/
theorem wk_new {tl : TE} {Pl : Hp → List V → Prop} {n : Nat} {P : Nat → Hp → V → Prop} (h : EvLP tl σ H Pl) (hn : ∀ H1 xs, Ex H H1 → Pl H1 xs → xs.length = n ∧ ∀ i x H2, Ex H1 H2 → xs[i]? = some x → P i H2 x) : Wk (iList K tl) σ H n P := fun H1 e R k =>
  h H1 e _ fun p xs H2 hp e2 hl pl => ⟨p, rfl, ⟨xs, sq_of hl⟩, by
    obtain ⟨h1, h2⟩ := hn H2 xs (e.trans e2) pl
    have w : Walk (Itl K p) xs.length (fun H => SqL K H p xs) (YAt xs) := walk_list
    rw [h1] at w
    refine k _ _ _ H2 e2 w (fun H3 e3 => sq_of (e3 _ _ hl)) fun i H3 x H4 hi e3 y => ?_
    obtain ⟨e4, hx⟩ := y
    subst e4
    exact ⟨Ex.refl _, h2 i x _ e3 hx⟩⟩

/-! ### comprehensions -/
/-- the indexes below i that are kept -/
def kept (F : Nat → Bool) (i : Nat) : List Nat := (List.range i).filter F
theorem kept_yes {F : Nat → Bool} {i : Nat} (h : F i = true) : kept F (i + 1) = kept F i ++ [i] := by simp [kept, List.range_succ, List.filter_append, h]
theorem kept_no {F : Nat → Bool} {i : Nat} (h : F i = false) : kept F (i + 1) = kept F i := by simp [kept, List.range_succ, List.filter_append, h]
theorem kept_len (F : Nat → Bool) (i : Nat) : (kept F i).length ≤ i := by
  have := List.length_filter_le F (List.range i)
  simpa [kept] using this
theorem kept_all {n : Nat} : kept (fun _ => true) n = List.range n := by simp [kept]
theorem Paired_snoc {α β : Type} {R : α → β → Prop} : ∀ {l : List α} {m : List β} {a : α} {b : β}, Paired R l m → R a b → Paired R (l ++ [a]) (m ++ [b])
  | _, _, _, _, .nil, r => .cons r .nil
  | _, _, _, _, .cons q t, r => .cons q (Paired_snoc t r)
/-- the comprehension's state behind i turns -/
def Cq (H : Hp) (F : Nat → Bool) (R : Nat → Hp → V → Prop) (Dl : Addr) (i : Nat) (H' : Hp) : Prop := H Dl = none ∧ Ex H H' ∧ ∃ ys, H' Dl = some (.lst ys) ∧ Paired (fun i y => R i H' y) (kept F i) ys
theorem el_lc {wi : TI} {g : TG} {tt : TT} {vs : List Nat} {n : Nat} {P : Nat → Hp → V → Prop} (F : Nat → Bool) (R : Nat → Hp → V → Prop) (W : Wk wi σ H n P) (hn : n ≤ 40000)
    (mono : ∀ i H1 H2 y, Ew H1 H2 → R i H1 y → R i H2 y)
    (turn : ∀ i x H1, i < n → Ex H H1 → P i H1 x → ∀ Z : L2.St → Hp → Prop, (∀ σ2 H2, Ex H1 H2 → wipe σ2 vs = wipe σ vs → EvT tt σ2 H2 (F i) → (F i = true → EvP te σ2 H2 (R i)) → Z σ2 H2) → g x (wipe σ vs) H1 Z) :
    EvLP (tLc wi g tt te vs) σ H (fun H2 ys => Paired (fun i y => R i H2 y) (kept F n) ys) := fun H0 e0 Q q =>
  W H0 e0 _ fun J G Y H1 e1 w hG hY D hD => by
    refine lc_it w (Cq H1 F R D) ⟨hD, Ex.new hD, [], upd_same, .nil⟩ (fun i H' _ p => hG H' p.2.1) (fun i x H' H2 hi p y => ?_) (fun H' p => ?_)
    · obtain ⟨p1, p2, ys, p3, p4⟩ := p
      obtain ⟨e2, px⟩ := hY i H' x H2 hi p2 y
      refine turn i x H2 hi ((e0.trans e1).trans (p2.trans e2)) px _ fun σ2 H3 e3 hw ht he => ⟨hw, ht H3 (Ex.refl _) _ fun H4 e4 => ?_⟩
      have p5 : Paired (fun i y => R i H4 y) (kept F i) ys := L2.Paired.mapP p4 fun a b r => mono _ _ _ _ (Ew.of ((e2.trans e3).trans e4)) r
      have e24 : Ex H' H4 := (e2.trans e3).trans e4
      cases hf : F i with
      | true =>
        refine iteT ?_
        refine he hf H4 e4 _ fun y H5 e5 r => ⟨ys, e5 _ _ (e24 _ _ p3), sz_lt (by have := p4.length; have := kept_len F i; omega), p1, Ex.mut ((p2.trans e24).trans e5) p1, ys ++ [y], upd_same, ?_⟩
        rw [kept_yes hf]
        have e6 : Ew H5 (upd H5 D (.lst (ys ++ [y]))) := Ew.lst (e5 _ _ (e24 _ _ p3))
        exact Paired_snoc (L2.Paired.mapP p5 fun a b q => mono _ _ _ _ (Ew.of e5 |>.trans e6) q) (mono _ _ _ _ e6 r)
      | false =>
        refine iteF ⟨p1, p2.trans e24, ys, e24 _ _ p3, ?_⟩
        rw [kept_no hf]
        exact p5
    · obtain ⟨p1, p2, ys, p3, p4⟩ := p
      exact q D ys H' (fresh_back e1 p1) (e1.trans p2) p3 p4
end

/-! ### bools: a comprehension whose items are tests of data -/
theorem given_bools {n : Nat} {H2 : Hp} {f : Nat → Bool} {ys : List V} (h : Paired (fun i y => y = V.bl (f i)) (List.range n) ys) : ys = ((List.range n).map f).map V.bl := by
  have : ∀ {l : List Nat} {ys : List V}, Paired (fun i y => y = V.bl (f i)) l ys → ys = (l.map f).map V.bl := by
    intro l
    induction l with
    | nil => intro ys h; cases h; rfl
    | cons a l ih => intro ys h; cases h with | cons h1 h2 => rw [h1, ih h2]; rfl
  exact this h
section
variable {K : PySem.W.Frag} {σ : L2.St} {H : Hp} {te : TE}
/-- [te for x in ..], all kept, each a bool -/
theorem el_lcB {wi : TI} {j : Nat} {vs : List Nat} {n : Nat} {P : Nat → Hp → V → Prop} (f : Nat → Bool) (W : Wk wi σ H n P) (hn : n ≤ 40000) (hw : ∀ x, wipe ((wipe σ vs).set j (some x)) vs = wipe σ vs)
    (he : ∀ i x H1, i < n → Ex H H1 → P i H1 x → Ev te ((wipe σ vs).set j (some x)) H1 (.bl (f i))) : EvL (tLc wi (gName j) tYes te vs) σ H (((List.range n).map f).map V.bl) := fun H0 e0 Q q =>
  el_lc (fun _ => true) (fun i _ y => y = .bl (f i)) W hn (fun _ _ _ _ _ r => r)
    (fun i x H1 hi e px Z k => k _ H1 (Ex.refl _) (hw x) (fun H2 e2 Q q => q H2 (Ex.refl _)) fun _ => evp (he i x H1 hi e px) fun _ _ => rfl) H0 e0 Q fun p xs H2 hp e2 hl pl => by
      rw [kept_all] at pl
      rw [given_bools (H2 := H2) pl] at hl
      exact q p H2 hp e2 hl
theorem all_range_list {ds : List D} {f : D → Bool} {g : Nat → Bool} (h : ∀ i d, ds[i]? = some d → g i = f d) : ((List.range ds.length).map g).all id = ds.all f := by
  have e : (List.range ds.length).map g = ds.map f := by
    apply List.ext_getElem?
    intro i
    by_cases hi : i < ds.length
    · simp [hi, h i ds[i] (by simp [hi])]
    · simp [hi]
  rw [e, List.all_map]
  rfl
end
/-! ### the names of the top -/
structure Bl (mg : Str → Option Value) : Prop where
  isinstance : mg "isinstance" = none
  int : mg "int" = none
  bool : mg "bool" = none
  str : mg "str" = none
  tuple : mg "tuple" = none
  dict : mg "dict" = none
  list : mg "list" = none
  len : mg "len" = none
  all : mg "all" = none
  any : mg "any" = none
  sorted : mg "sorted" = none
  enumerate : mg "enumerate" = none
  zip : mg "zip" = none
  set : mg "set" = none
  range : mg "range" = none
  max : mg "max" = none
  repr : mg "repr" = none
/-- a def that keeps a promise, by its name -/
structure Okd (P : Program) (w : World) (K : PySem.W.Frag) (mg : Str → Option Value) (base : Heap) (CX : CXT) (k : Nat) (nm : Str) (ps : List Str) (sp : Sp) : Prop where
  ex : ∃ f fd, mg nm = some (.ref f) ∧ PySem.W.keepIn K (.ref f) = true ∧ Binds K fd ps [] ∧ FnOk P w K mg base CX k f fd ps sp
/-- a def of the text, by its name -/
structure Df (K : PySem.W.Frag) (mg : Str → Option Value) (nm : Str) (st : Stmt) (ps : List Str) : Prop where
  ex : ∃ f fd, mg nm = some (.ref f) ∧ Binds K fd ps [] ∧ Fun K nm nm st f fd
section
variable {P : Program} {w : World} {K : PySem.W.Frag} {mg : Str → Option Value} {base : Heap}
theorem Okd.mono {CX : CXT} {j k : Nat} {nm : Str} {ps : List Str} {sp : Sp} (h : Okd P w K mg base CX j nm ps sp) (hk : j ≤ k) : Okd P w K mg base CX k nm ps sp := by
  obtain ⟨f, fd, a, b, c, d⟩ := h.ex
  exact ⟨f, fd, a, b, c, d.mono hk⟩
/-- THE RULE: the body of a def of the text -/
theorem Df.ok {nm : Str} {st : Stmt} {N ps : List Str} {k : Nat} {sp : Sp} (F : Df K mg nm st ps) (S : FnScope N ps (defScope st)) (len : ∀ vs H Q E, sp vs H Q E → vs.length = ps.length)
    (hbody : ∀ (f : Addr) (cdv : Value) (A : Around) (outer : List Env) (s : Shared) (H : Hp) (vs : List V) (Q : VK) (E : XK), Room k (A.deeper (envOfC nm (defScope st) s.heap.objs.size f cdv)) → sp vs H Q E →
      ∃ t, PSs (cxOf CX0 P w K mg base N nm (defScope st) f cdv A outer s H E).nox (defBody st) t ∧ t { nx := fun _ H' => Q .non H', rt := Q } (start N vs) H) : Okd P w K mg base CX0 (k + 1) nm ps sp := by
  obtain ⟨f, fd, h1, h2, h3⟩ := F.ex
  exact ⟨f, fd, h1, h3.kp, h2, h3.ok S len (hbody f)⟩
end
/-- the promises' shape: data in, a bool out -/
def spB1 (K : PySem.W.Frag) (ok : D → Prop) (f : D → Bool) : Sp := fun vs H Q _ => ∃ d v, vs = [v] ∧ Rp K H d v ∧ ok d ∧ RetV (.bl (f d)) H Q
theorem spB1_len {K : PySem.W.Frag} {ok : D → Prop} {f : D → Bool} {vs : List V} {H : Hp} {Q : VK} {E : XK} (h : spB1 K ok f vs H Q E) : vs.length = 1 := by
  obtain ⟨d, v, rfl, _⟩ := h
  rfl
theorem spB1_v {K : PySem.W.Frag} {ok : D → Prop} {f : D → Bool} {H : Hp} {d : D} {v : V} (r : Rp K H d v) (h : ok d) : SpV (spB1 K ok f) ([v] ++ []) H (.bl (f d)) := fun H1 e Q q _ => ⟨d, v, rfl, r.mono e, h, fun H2 e2 => q H2 e2⟩
end K2
/-! is_whole, is_name, is_word, is_param. -/
namespace K2
open PySem L2 Evl PySem.Spec PyProof.Rows
def sSmall : Str := "abcdefghijklmnopqrstuvwxyz"
def sCap : Str := "ABCDEFGHIJKLMNOPQRSTUVWXYZ"
def sDig : Str := "0123456789"
abbrev lSmall : List Nat := sSmall.cps.toList
abbrev lCap : List Nat := sCap.cps.toList
abbrev lDig : List Nat := sDig.cps.toList
structure Cn (mg : Str → Option Value) : Prop where
  small : ∃ u, mg "SMALL" = some u ∧ L2.RelV (.str sSmall) u
  cap : ∃ u, mg "CAPITAL" = some u ∧ L2.RelV (.str sCap) u
  dig : ∃ u, mg "DIGITS" = some u ∧ L2.RelV (.str sDig) u
  longest : ∃ u, mg "LONGEST" = some u ∧ L2.RelV (.int 20) u
/-! ### how large a datum is -/
mutual
def szD : D → Nat
  | .str s => s.length + 1
  | .tup l => szL l + 1
  | _ => 1
def szL : List D → Nat
  | [] => 0
  | d :: l => szD d + szL l
end
theorem szD_pos (d : D) : 1 ≤ szD d := by cases d <;> simp [szD]
theorem szL_len : ∀ l : List D, l.length ≤ szL l
  | [] => Nat.le_refl _
  | d :: l => by
    have := szL_len l
    have := szD_pos d
    simp only [szL, List.length_cons]
    omega
theorem szL_mem : ∀ {l : List D} {i : Nat} {d : D}, l[i]? = some d → szD d ≤ szL l
  | [], i, d, h => by simp at h
  | a :: l, 0, d, h => by simp at h; subst h; simp [szL]
  | a :: l, i + 1, d, h => by
    have := szL_mem (l := l) (i := i) (d := d) (by simpa using h)
    simp only [szL]
    omega
def Sm (d : D) : Prop := szD d ≤ 39000
theorem Sm.len {s : Str} (h : Sm (.str s)) : s.length ≤ 39000 := by
  have h' : s.length + 1 ≤ 39000 := h
  omega
theorem Sm.tlen {l : List D} (h : Sm (.tup l)) : l.length ≤ 39000 := by
  have h' : szL l + 1 ≤ 39000 := h
  have := szL_len l
  omega
theorem Sm.item {l : List D} {i : Nat} {d : D} (h : Sm (.tup l)) (hi : l[i]? = some d) : Sm d := by
  have h' : szL l + 1 ≤ 39000 := h
  have := szL_mem hi
  show szD d ≤ 39000
  omega
/-! ### names -/
def isWhole (d : D) : Bool := isIn d && !isBl d
def headC (c : Nat) : Bool := decide (c ∈ lSmall) || decide (c ∈ lCap)
def okC (c : Nat) : Bool := decide (c ∈ lSmall) || (decide (c ∈ lCap) || (decide (c ∈ lDig) || decide (c = 95)))
def lenOk (s : Str) : Bool := decide ((1 : Int) ≤ s.length) && decide ((s.length : Int) ≤ 20)
def headS (s : Str) : Bool := match s.cps.toList with | [] => false | c :: _ => headC c
def nameS (s : Str) : Bool := lenOk s && headS s && s.cps.toList.all okC
def isName : D → Bool | .str s => nameS s | _ => false
def hasCap (s : Str) : Bool := s.cps.toList.any fun c => decide (c ∈ lCap)
def wordS (s : Str) : Bool := nameS s && !hasCap s
def isWord : D → Bool | .str s => wordS s | _ => false
def paramS (s : Str) : Bool := nameS s && (match s.cps.toList with | [] => false | c :: _ => decide (c ∈ lSmall))
def isParam : D → Bool | .str s => paramS s | _ => false
theorem len_cps (s : Str) : s.length = s.cps.toList.length := by simp [Str.length]
theorem headS_at {s : Str} {c : Nat} (h : s.cps.toList[0]? = some c) : headS s = headC c := by
  unfold headS
  cases e : s.cps.toList with
  | nil => rw [e] at h; simp at h
  | cons a l => rw [e] at h; simp at h; subst h; rfl
theorem size_le {s : Str} {n : Nat} (h : s.length ≤ n) : s.cps.size ≤ n := h
theorem str_of {d : D} (h : isStr d = true) : ∃ x, d = .str x := by
  cases d <;> first | exact ⟨_, rfl⟩ | cases h
theorem not_name {d : D} (h : isStr d = false) : isName d = false := by
  cases d <;> first | rfl | cases h
theorem sign_us (c : Nat) : decide (V.str ⟨#[c]⟩ = V.str "_") = decide (c = 95) := by
  apply decide_eq_decide.mpr
  constructor
  · intro h
    injection h with h
    have h' : (⟨#[c]⟩ : Str).cps = ("_" : Str).cps := congrArg Str.cps h
    have e : ("_" : Str).cps = #[95] := by decide +kernel
    rw [e] at h'
    injection h' with h'
    injection h'
  · intro h
    subst h
    have e : (⟨#[95]⟩ : Str) = "_" := by decide +kernel
    rw [e]
theorem first_of {s : Str} (h : lenOk s = true) : ∃ c, s.cps.toList[0]? = some c := by
  have h1 : (1 : Int) ≤ s.length := by
    unfold lenOk at h
    simp only [Bool.and_eq_true, decide_eq_true_eq] at h
    exact h.1
  rw [len_cps] at h1
  cases e : s.cps.toList with
  | nil => rw [e] at h1; simp at h1
  | cons a l => exact ⟨a, by simp⟩
section
variable {P : Program} {w : World} {K : PySem.W.Frag} {mg : Str → Option Value} {base : Heap}
theorem sc10 : FnScope ["value"] ["value"] (defScope (top 10)) := ⟨rfl, rfl, rfl, by decide +kernel, rfl, by decide +kernel, by decide +kernel⟩
theorem ok_whole (B : Bl mg) (F : Df K mg "is_whole" (top 10) ["value"]) : Okd P w K mg base CX0 1 "is_whole" ["value"] (spB1 K (fun _ => True) isWhole) := by
  refine F.ok sc10 (fun vs H Q E h => spB1_len h) (fun f cdv A outer s H vs Q E hr h => ?_)
  obtain ⟨d, v, rfl, r, _, k⟩ := h
  refine ⟨_, (pss_one (ps_ret (pe_and (pe_callB call_isi (by rfl) B.isinstance boot_isinstance (pa_cons (pv 0) (pa_cons (pe_bltn (v := .ty "int") (by rfl) B.int boot_int rfl) pa_nil))) (pe_one (pe_not (pe_callB call_isi (by rfl) B.isinstance boot_isinstance (pa_cons (pv 0) (pa_cons (pe_bltn (v := .ty "bool") (by rfl) B.bool boot_bool rfl) pa_nil)))))))), ?_⟩
  exact s_ret (ev_andV (ev_isi r (ev_var rfl) (kit_in d)) (fun _ => ev_notV (ev_isi r (ev_var rfl) (kit_bl d)))) fun H1 e => k H1 e
theorem sc11 : FnScope ["value", "sign"] ["value"] (defScope (top 11)) := ⟨rfl, rfl, rfl, by decide +kernel, rfl, by decide +kernel, by decide +kernel⟩
theorem ok_name (B : Bl mg) (C : Cn mg) (F : Df K mg "is_name" (top 11) ["value"]) : Okd P w K mg base CX0 1 "is_name" ["value"] (spB1 K Sm isName) := by
  refine F.ok sc11 (fun vs H Q E h => spB1_len h) (fun f cdv A outer s H vs Q E hr h => ?_)
  obtain ⟨d, v, rfl, r, sm, k⟩ := h
  obtain ⟨u_SMALL, c_SMALL, r_SMALL⟩ := C.small
  obtain ⟨u_CAPITAL, c_CAPITAL, r_CAPITAL⟩ := C.cap
  obtain ⟨u_DIGITS, c_DIGITS, r_DIGITS⟩ := C.dig
  obtain ⟨u_LONGEST, c_LONGEST, r_LONGEST⟩ := C.longest
  refine ⟨_, (pss_cons (ps_if (PW.pt (pw_or (pt_not (pt_val (pe_callB call_isi (by rfl) B.isinstance boot_isinstance (pa_cons (pv 0) (pa_cons (pe_bltn (v := .ty "str") (by rfl) B.str boot_str rfl) pa_nil))))) (pw_or1 (pt_not (pt_chain op_le2 op_le2 pe_int (pe_callB call_len_str (by rfl) B.len PySem.boot_len (pa_cons (pv 0) pa_nil)) (pe_glob (by rfl) c_LONGEST r_LONGEST)))))) (pss_one (ps_ret pe_bl)) pss_nil)
      (pss_cons (ps_if (PW.pt (pw_and (pt_cmpR op_notInS (pe_ix ix_str (pv 0) pe_int (fun _ _ => rfl)) (pe_glob (by rfl) c_SMALL r_SMALL) rfl) (pw_and1 (pt_cmpR op_notInS (pe_ix ix_str (pv 0) pe_int (fun _ _ => rfl)) (pe_glob (by rfl) c_CAPITAL r_CAPITAL) rfl)))) (pss_one (ps_ret pe_bl)) pss_nil)
      (pss_one (ps_ret (pe_callB (cr_all rfl) (by rfl) B.all boot_all (pa_cons (pe_lc (own := [("sign", 1)]) (g := gName 1) (tt := tYes) rfl sc11.nd (pi_str (pv 0)) (blkOk_by (N := ["value", "sign"]) (sc := defScope (top 11)) (by decide +kernel)) (fun _ _ _ _ _ => (pg_name (i := 1) sc11.nd rfl (Or.inl rfl))) (fun _ _ _ _ _ => pts_nil) (fun _ _ _ _ _ => (pe_or (pe_cmpR op_inS (pv 1) (pe_glob (by rfl) c_SMALL r_SMALL) rfl) (pe_or (pe_cmpR op_inS (pv 1) (pe_glob (by rfl) c_CAPITAL r_CAPITAL) rfl) (pe_or (pe_cmpR op_inS (pv 1) (pe_glob (by rfl) c_DIGITS r_DIGITS) rfl) (pe_one (pe_cmpR op_eq (pv 1) pe_str (nomark _)))))))) pa_nil)))))), ?_⟩
  cases hs : isStr d with
  | false =>
    refine q_when (b := !(isStr d) || true) (et_or (et_not (et_B (ev_isi r (ev_var rfl) (kit_str d)))) (fun ha => by rw [hs] at ha; cases ha)) (fun _ H1 e => s_ret ev_c fun H2 e2 => ?_) (fun hb => by rw [hs] at hb; cases hb)
    rw [← not_name hs]
    exact k H2 (e.trans e2)
  | true =>
    obtain ⟨x, rfl⟩ := str_of hs
    cases r
    have hl : x.length ≤ 39000 := sm.len
    refine q_when (b := false || !(decide ((1 : Int) ≤ x.length) && decide ((x.length : Int) ≤ 20))) (et_or (et_not (et_B (ev_isi (Rp.str x) (ev_var rfl) (kit_str _)))) fun _ => et_not (et_chain ev_c (ev_lenS (ev_var rfl) (by omega)) rv_le (fun _ => ev_c) (fun _ => rv_le))) (fun hb H1 e => ?_) (fun hb H1 e => ?_)
    · refine s_ret ev_c fun H2 e2 => ?_
      have q : isName (.str x) = false := by
        show (lenOk x && headS x && _) = false
        unfold lenOk
        rw [Bool.false_or, Bool.not_eq_true'] at hb
        rw [hb]
        rfl
      rw [← q]
      exact k H2 (e.trans e2)
    · have hb' : lenOk x = true := by
        unfold lenOk
        rw [Bool.false_or, Bool.not_eq_false'] at hb
        exact hb
      obtain ⟨c, hc⟩ := first_of hb'
      have hc' : atI x.cps.toList (0 : Int) = some c := atI_nat (j := 0) hc
      refine q_when (et_and (et_test (ev_op (ev_op (ev_var rfl) ev_c (rv_ixS (by omega) hc')) ev_c rv_niS)) fun _ => et_test (ev_op (ev_op (ev_var rfl) ev_c (rv_ixS (by omega) hc')) ev_c rv_niS)) (fun hd H2 e2 => ?_) (fun hd H2 e2 => ?_)
      · refine s_ret ev_c fun H3 e3 => ?_
        have q : isName (.str x) = false := by
          show (lenOk x && headS x && _) = false
          rw [headS_at hc]
          have : headC c = false := by
            unfold headC
            rw [← Bool.not_eq_true', Bool.not_or]
            exact hd
          rw [this, Bool.and_false]
          rfl
        rw [← q]
        exact k H3 ((e.trans e2).trans e3)
      · have hh : headS x = true := by
          rw [headS_at hc]
          unfold headC
          rw [← Bool.not_eq_false', Bool.not_or]
          exact hd
        have q : isName (.str x) = ((List.range x.cps.size).map fun i => match x.cps.toList[i]? with | some c => okC c | none => true).all id := by
          show (lenOk x && headS x && x.cps.toList.all okC) = _
          rw [hb', hh]
          have e1 : (List.range x.cps.size).map (fun i => match x.cps.toList[i]? with | some c => okC c | none => true) = x.cps.toList.map okC := by
            apply List.ext_getElem?
            intro i
            by_cases hi : i < x.cps.size
            · simp [hi]
            · simp [hi]
          rw [e1, List.all_map]
          rfl
        refine s_ret (ev_allB (el_lcB (fun i => match x.cps.toList[i]? with | some c => okC c | none => true) (wk_str (ev_var rfl)) (size_le (by omega)) (fun _ => rfl) fun i y H3 hi e3 py => ?_)) fun H3 e3 => ?_
        · obtain ⟨c', h1, h2⟩ := py
          subst h2
          have h1' : x.cps.toList[i]? = some c' := by simpa using h1
          rw [h1']
          exact ev_orV (ev_op (ev_var rfl) ev_c rv_inS) fun _ => ev_orV (ev_op (ev_var rfl) ev_c rv_inS) fun _ => ev_orV (ev_op (ev_var rfl) ev_c rv_inS) fun _ => ev_is (ev_op (ev_var rfl) ev_c (rv_eq rfl)) (congrArg V.bl (sign_us c'))
        · rw [← q]
          exact k H3 ((e.trans e2).trans e3)

end
end K2
/-! is_word, is_param, leaves, the tests of leaves, is_arg. -/
namespace K2
open PySem L2 Evl PySem.Spec PyProof.Rows
section
variable {P : Program} {w : World} {K : PySem.W.Frag} {mg : Str → Option Value} {base : Heap}
theorem word_eq (d : D) : isWord d = (isName d && !(match d with | .str x => hasCap x | _ => false)) := by cases d <;> rfl
theorem sc12 : FnScope ["value", "sign"] ["value"] (defScope (top 12)) := ⟨rfl, rfl, rfl, by decide +kernel, rfl, by decide +kernel, by decide +kernel⟩
theorem ok_word (B : Bl mg) (C : Cn mg) (F : Df K mg "is_word" (top 12) ["value"]) (O : Okd P w K mg base CX0 1 "is_name" ["value"] (spB1 K Sm isName)) : Okd P w K mg base CX0 2 "is_word" ["value"] (spB1 K Sm isWord) := by
  refine F.ok sc12 (fun vs H Q E h => spB1_len h) (fun f cdv A outer s H vs Q E hr h => ?_)
  obtain ⟨d, v, rfl, r, sm, k⟩ := h
  obtain ⟨u_CAPITAL, c_CAPITAL, r_CAPITAL⟩ := C.cap
  obtain ⟨f_is_name, d_is_name, m_is_name, k_is_name, b_is_name, G_is_name⟩ := O.ex
  refine ⟨_, (pss_one (ps_ret (pe_and (pe_call G_is_name (hr.mono (by first | decide | omega)) (by rfl) m_is_name k_is_name b_is_name .nil pass0 (pa_cons (pv 0) pa_nil)) (pe_one (pe_not (pe_callB (cr_any rfl) (by rfl) B.any boot_any (pa_cons (pe_lc (own := [("sign", 1)]) (g := gName 1) (tt := tYes) rfl sc12.nd (pi_str (pv 0)) (blkOk_by (N := ["value", "sign"]) (sc := defScope (top 12)) (by decide +kernel)) (fun _ _ _ _ _ => (pg_name (i := 1) sc12.nd rfl (Or.inl rfl))) (fun _ _ _ _ _ => pts_nil) (fun _ _ _ _ _ => (pe_cmpR op_inS (pv 1) (pe_glob (by rfl) c_CAPITAL r_CAPITAL) rfl))) pa_nil))))))), ?_⟩
  refine s_ret (v := .bl (isWord d)) ?_ fun H1 e => k H1 e
  rw [word_eq]
  refine ev_andV (ev_call (ea_cons (ev_var rfl) ea_nil) (spB1_v r sm)) fun hn => ev_notV ?_
  obtain ⟨x, rfl⟩ : ∃ x, d = .str x := by
    cases d <;> first | exact ⟨_, rfl⟩ | cases hn
  cases r
  have hl : x.length ≤ 39000 := sm.len
  have q : hasCap x = ((List.range x.cps.size).map fun i => match x.cps.toList[i]? with | some c => decide (c ∈ lCap) | none => true).any id := by
    have e1 : (List.range x.cps.size).map (fun i => match x.cps.toList[i]? with | some c => decide (c ∈ lCap) | none => true) = x.cps.toList.map fun c => decide (c ∈ lCap) := by
      apply List.ext_getElem?
      intro i
      by_cases hi : i < x.cps.size
      · simp [hi]
      · simp [hi]
    rw [e1, List.any_map]
    rfl
  show Ev _ _ _ (.bl (hasCap x))
  rw [q]
  refine ev_anyB (el_lcB _ (wk_str (ev_var rfl)) (size_le (by omega)) (fun _ => rfl) fun i y H3 hi e3 py => ?_)
  obtain ⟨c', h1, h2⟩ := py
  subst h2
  have h1' : x.cps.toList[i]? = some c' := by simpa using h1
  rw [h1']
  exact ev_op (ev_var rfl) ev_c rv_inS
theorem param_eq (d : D) : isParam d = (isName d && (match d with | .str x => (match x.cps.toList with | [] => false | c :: _ => decide (c ∈ lSmall)) | _ => false)) := by cases d <;> rfl
theorem sc13 : FnScope ["value"] ["value"] (defScope (top 13)) := ⟨rfl, rfl, rfl, by decide +kernel, rfl, by decide +kernel, by decide +kernel⟩
theorem ok_param (B : Bl mg) (C : Cn mg) (F : Df K mg "is_param" (top 13) ["value"]) (O : Okd P w K mg base CX0 1 "is_name" ["value"] (spB1 K Sm isName)) : Okd P w K mg base CX0 2 "is_param" ["value"] (spB1 K Sm isParam) := by
  refine F.ok sc13 (fun vs H Q E h => spB1_len h) (fun f cdv A outer s H vs Q E hr h => ?_)
  obtain ⟨d, v, rfl, r, sm, k⟩ := h
  obtain ⟨u_SMALL, c_SMALL, r_SMALL⟩ := C.small
  obtain ⟨f_is_name, d_is_name, m_is_name, k_is_name, b_is_name, G_is_name⟩ := O.ex
  refine ⟨_, (pss_one (ps_ret (pe_and (pe_call G_is_name (hr.mono (by first | decide | omega)) (by rfl) m_is_name k_is_name b_is_name .nil pass0 (pa_cons (pv 0) pa_nil)) (pe_one (pe_cmpR op_inS (pe_ix ix_str (pv 0) pe_int (fun _ _ => rfl)) (pe_glob (by rfl) c_SMALL r_SMALL) rfl))))), ?_⟩
  refine s_ret (v := .bl (isParam d)) ?_ fun H1 e => k H1 e
  rw [param_eq]
  refine ev_andV (ev_call (ea_cons (ev_var rfl) ea_nil) (spB1_v r sm)) fun hn => ?_
  obtain ⟨x, rfl⟩ : ∃ x, d = .str x := by
    cases d <;> first | exact ⟨_, rfl⟩ | cases hn
  cases r
  have hl : x.length ≤ 39000 := sm.len
  have hn' : (lenOk x && headS x && x.cps.toList.all okC) = true := hn
  simp only [Bool.and_eq_true] at hn'
  obtain ⟨c, hc⟩ := first_of hn'.1.1
  have hc' : atI x.cps.toList (0 : Int) = some c := atI_nat (j := 0) hc
  refine ev_is (ev_op (ev_op (ev_var rfl) ev_c (rv_ixS (by omega) hc')) ev_c rv_inS) ?_
  show V.bl (decide (c ∈ lSmall)) = V.bl (match x.cps.toList with | [] => false | c :: _ => decide (c ∈ lSmall))
  cases e : x.cps.toList with
  | nil => rw [e] at hc; simp at hc
  | cons a l => rw [e] at hc; simp at hc; subst hc; rfl
end
/-! ### leaves -/
mutual
def allLv (p : D → Bool) : D → Bool
  | .tup l => allLs p l
  | d => p d
def allLs (p : D → Bool) : List D → Bool
  | [] => true
  | d :: l => allLv p d && allLs p l
end
theorem allLs_eq (p : D → Bool) : ∀ l : List D, allLs p l = l.all (allLv p)
  | [] => rfl
  | d :: l => by simp only [allLs, List.all_cons, allLs_eq p l]
theorem allLv_leaf (p : D → Bool) {d : D} (h : isTup d = false) : allLv p d = p d := by
  cases d <;> first | rfl | cases h
theorem szL_app : ∀ l m : List D, szL (l ++ m) = szL l + szL m
  | [], m => by simp [szL]
  | d :: l, m => by simp only [List.cons_append, szL, szL_app l m]; omega
section
variable {K : PySem.W.Frag} {H : Hp} {σ : L2.St} {ta te : TE} {tz : TS} {Dd : Ends}
theorem Rps.last : ∀ {ds : List D} {vs : List V}, Rps K H ds vs → vs ≠ [] → ∃ ds' d vs' v, ds = ds' ++ [d] ∧ vs = vs' ++ [v] ∧ Rps K H ds' vs' ∧ Rp K H d v
  | _, _, .nil, h => absurd rfl h
  | _, _, .cons (d := d) (v := v) r .nil, _ => ⟨[], d, [], v, rfl, rfl, .nil, r⟩
  | _, _, .cons (d := d) (v := v) r (.cons r2 t), _ => by
    obtain ⟨ds', d', vs', v', h1, h2, h3, h4⟩ := Rps.last (.cons r2 t) (by simp)
    exact ⟨d :: ds', d', v :: vs', v', by rw [h1]; rfl, by rw [h2]; rfl, .cons r h3, h4⟩
theorem et_truL {p : Addr} {xs : List V} (h : Ev ta σ H (.ref p)) (hp : H p = some (.lst xs)) : EvT (fun σ H Q => ta σ H fun x H' => ∃ k, TruV K x H' k ∧ Q k H') σ H (!xs.isEmpty) := fun H1 e _ q =>
  h H1 e _ fun H2 e2 => ⟨_, .inl ⟨xs, sq_of (e2 _ _ (e _ _ hp)), rfl⟩, q H2 e2⟩
theorem q_pop {l : Addr} {xs : List V} {y : V} {i : Nat} (hl : H l = some (.lst (xs ++ [y]))) (ha : Ev ta σ H (.ref l)) (k : ∀ H1, Ex H H1 → tz Dd (σ.set i (some y)) (upd H1 l (.lst xs))) : tSeq (tAsg (tBM0 K "list" rPop ta) (gName i)) tz Dd σ H :=
  ha H (Ex.refl H) _ fun H1 e1 => ⟨.inl ⟨rfl, _, sq_of (e1 _ _ hl)⟩, l, xs ++ [y], y, rfl, rfl, e1 _ _ hl, by simp, by
    rw [List.dropLast_concat]
    exact k H1 e1⟩
theorem el_listT {a : Addr} {xs : List V} (ha : Ev ta σ H (.ref a)) (h : H a = some (.tup xs)) : EvL (tCB (rListS K) (tCons ta tNil)) σ H xs := fun H1 e Q q =>
  ha H1 e _ fun H2 e2 => ⟨a, xs, rfl, Or.inr (st_of (e2 _ _ (e _ _ h))), fun l hl => q l _ (fresh_back e2 hl) (e2.trans (Ex.new hl)) upd_same⟩
theorem call_listQ {X : Cx} : CallR X (.type "list") (rListS X.K) := call_list_of
theorem s_extL {l : Addr} {xs ys : List V} (hl : H l = some (.lst xs)) (ha : Ev ta σ H (.ref l)) (h : EvL te σ H ys) (hz : xs.length + ys.length ≤ 100000) (k : ∀ H1, Ex H H1 → Dd.nx σ (upd H1 l (.lst (xs ++ ys)))) :
    tDrop (tBM K "list" rExtend ta (tCons te tNil)) Dd σ H := ha H (Ex.refl H) _ fun H1 e1 =>
  ⟨Or.inl ⟨rfl, xs, sq_of (e1 l _ hl)⟩, h H1 e1 _ fun p H2 _ e2 hp => ⟨l, p, xs, ys, rfl, rfl, e2 l _ (e1 l _ hl), hp, sz_of hz, k H2 (e1.trans e2)⟩⟩
end
/-- leaves(value): a new list of the leaves, in some order -/
def spLeaves (K : PySem.W.Frag) : Sp := fun vs H Q _ => ∃ d v, vs = [v] ∧ Rp K H d v ∧ Sm d ∧
  ∀ p H2 ls xs, H p = none → Ex H H2 → H2 p = some (.lst xs) → Rps K H2 ls xs → ls.length ≤ szD d → (∀ e ∈ ls, Sm e) → (∀ q : D → Bool, ls.all q = allLv q d) → Q (.ref p) H2
theorem spLeaves_len {K : PySem.W.Frag} {vs : List V} {H : Hp} {Q : VK} {E : XK} (h : spLeaves K vs H Q E) : vs.length = 1 := by
  obtain ⟨d, v, rfl, _⟩ := h
  rfl
section
variable {P : Program} {w : World} {K : PySem.W.Frag} {mg : Str → Option Value} {base : Heap}
theorem sc14 : FnScope ["value", "found", "todo", "part"] ["value"] (defScope (top 14)) := ⟨rfl, rfl, rfl, by decide +kernel, rfl, by decide +kernel, by decide +kernel⟩
theorem ok_leaves (B : Bl mg) (F : Df K mg "leaves" (top 14) ["value"]) : Okd P w K mg base CX0 1 "leaves" ["value"] (spLeaves K) := by
  refine F.ok sc14 (fun vs H Q E h => spLeaves_len h) (fun f cdv A outer s H vs Q E hr h => ?_)
  obtain ⟨d, v, rfl, r, sm, k⟩ := h
  refine ⟨_, (pss_cons (ps_set (i := 1) sc14.nd rfl (Or.inl rfl) (pe_lst pa_nil))
      (pss_cons (ps_set (i := 2) sc14.nd rfl (Or.inl rfl) (pe_lst (pa_cons (pv 0) pa_nil)))
      (pss_cons (ps_while PassesOwn.never (pt_truth (pv 2) (by intro _; rfl)) (pss_cons (ps_set (i := 3) sc14.nd rfl (Or.inl rfl) (pe_bm0 PySem.F.plainAttrs_list PySem.F.slot_list_pop PySem.F.type_list_pop mt_pop (pv 2)))
      (pss_one (ps_if (pt_val (pe_callB call_isi (by rfl) B.isinstance boot_isinstance (pa_cons (pv 3) (pa_cons (pe_bltn (v := .ty "tuple") (by rfl) B.tuple boot_tuple rfl) pa_nil)))) (pss_one (ps_expr (pe_bm PySem.F.plainAttrs_list PySem.F.slot_list_extend PySem.F.type_list_extend mt_extend (pv 2) (pa_cons (pe_callTy call_listQ (by rfl) B.list boot_list (pa_cons (pv 3) pa_nil)) pa_nil)))) (pss_one (ps_expr (pe_bm PySem.F.plainAttrs_list PySem.F.slot_list_append PySem.F.type_list_append mt_append (pv 1) (pa_cons (pv 3) pa_nil))))))))
      (pss_one (ps_ret (pv 1)))))), ?_⟩
  refine q_asgL (el_lst ea_nil (by decide)) fun a H1 na e1 ha => ?_
  refine q_asgL (el_lst (ea_cons (ev_var rfl) ea_nil) (by simp)) fun b H2 nb e2 hb => ?_
  have nb0 : H b = none := fresh_back e1 nb
  have ab : a ≠ b := ne_of_none ha nb
  refine q_while (fun m σ H' => ∃ (st fs : List D) (ts fv : List V) (x : Option V), σ = [some v, some (.ref a), some (.ref b), x] ∧ Ex H H' ∧ H' b = some (.lst ts) ∧ Rps K H' st ts ∧ H' a = some (.lst fv) ∧ Rps K H' fs fv ∧
      m = szL st ∧ fs.length + szL st ≤ szD d ∧ (∀ e ∈ fs, Sm e) ∧ (∀ e ∈ st, Sm e) ∧ ∀ q : D → Bool, (fs.all q && st.all (allLv q)) = allLv q d) (szL [d]) ?_ ?_
  · exact ⟨[d], [], [v], [], none, rfl, e1.trans e2, hb, .cons ((r.mono e1).mono e2) .nil, e2 _ _ ha, .nil, rfl, by simp [szL], by simp, by simpa using sm, fun q => by simp⟩
  · rintro m σ H3 ⟨st, fs, ts, fv, x, rfl, e3, hb3, rs, ha3, rf, rfl, hz, smf, sms, hq⟩
    refine ⟨!ts.isEmpty, et_truL (ev_var rfl) hb3, fun hne H4 e4 => ?_, fun hne H4 e4 => ?_⟩
    · have hts : ts ≠ [] := by
        intro z
        rw [z] at hne
        cases hne
      obtain ⟨st', d1, ts', v1, rfl, rfl, rs', r1⟩ := rs.last hts
      refine ⟨fun σ' H' => ∃ (st fs : List D) (ts fv : List V) (x : Option V), σ' = [some v, some (.ref a), some (.ref b), x] ∧ Ex H H' ∧ H' b = some (.lst ts) ∧ Rps K H' st ts ∧ H' a = some (.lst fv) ∧ Rps K H' fs fv ∧
        szL st < szL (st' ++ [d1]) ∧ fs.length + szL st ≤ szD d ∧ (∀ e ∈ fs, Sm e) ∧ (∀ e ∈ st, Sm e) ∧ ∀ q : D → Bool, (fs.all q && st.all (allLv q)) = allLv q d, ?_, ?_⟩
      · rintro σ2 H' ⟨st2, fs2, ts2, fv2, x2, z1, z2, z3, z4, z5, z6, z7, z8⟩
        exact ⟨_, z7, st2, fs2, ts2, fv2, x2, z1, z2, z3, z4, z5, z6, rfl, z8⟩
      · have hsz : szL (st' ++ [d1]) = szL st' + szD d1 := by rw [szL_app]; simp [szL]
        refine q_pop (e4 _ _ hb3) (ev_var rfl) fun H5 e5 => ?_
        have e35 : Ex H3 H5 := e4.trans e5
        have w5 : Ew H5 (upd H5 b (.lst ts')) := Ew.lst (e35 _ _ hb3)
        have x5 : Ex H (upd H5 b (.lst ts')) := Ex.mut (e3.trans e35) nb0
        have r1' : Rp K (upd H5 b (.lst ts')) d1 v1 := (r1.mono e35).ew w5
        have rs5 : Rps K (upd H5 b (.lst ts')) st' ts' := (rs'.mono e35).ew w5
        have rf5 : Rps K (upd H5 b (.lst ts')) fs fv := (rf.mono e35).ew w5
        have ha5 : upd H5 b (.lst ts') a = some (.lst fv) := by rw [upd_ne ab]; exact e35 _ _ ha3
        have sm1 : Sm d1 := sms d1 (by simp)
        have l1 : ts'.length ≤ 39000 := by
          have := rs'.len
          have := szL_len st'
          have h' : szD d ≤ 39000 := sm
          omega
        refine s_if (et_B (ev_isi r1' (ev_var rfl) (kit_tup d1))) (fun ht H6 e6 => ?_) (fun ht H6 e6 => ?_)
        · cases r1' with
          | tup hc rc =>
            rename_i c vc ds
            have e56 := e6
            have lc : vc.length ≤ 39000 := by
              rw [rc.len]
              exact sm1.tlen
            refine s_extL (e6 _ _ upd_same) (ev_var rfl) (el_listT (ev_var rfl) (e6 _ _ hc)) (by omega) fun H7 e7 => ?_
            have e67 : Ex (upd H5 b (.lst ts')) H7 := e6.trans e7
            have w7 : Ew H7 (upd H7 b (.lst (ts' ++ vc))) := Ew.lst (e67 _ _ upd_same)
            have hd : szD (.tup ds) = szL ds + 1 := rfl
            refine ⟨st' ++ ds, fs, ts' ++ vc, fv, _, rfl, Ex.mut (x5.trans e67) nb0, upd_same, ((rs5.app rc).mono e67).ew w7, by rw [upd_ne ab]; exact e67 _ _ ha5, (rf5.mono e67).ew w7, ?_, ?_, smf, ?_, ?_⟩
            · rw [hsz, szL_app, hd]; omega
            · rw [hsz] at hz; rw [szL_app]; omega
            · intro e he
              rcases List.mem_append.mp he with h | h
              · exact sms e (by simp [h])
              · obtain ⟨i, hi⟩ := List.getElem?_of_mem h
                exact sm1.item hi
            · intro q
              rw [← hq q]
              simp only [List.all_append, List.all_cons, List.all_nil, Bool.and_true]
              have e : allLv q (.tup ds) = ds.all (allLv q) := allLs_eq q ds
              rw [e]
          | _ => cases ht
        · refine s_app (e6 _ _ ha5) (ev_var rfl) (ev_var rfl) (by
            have := rf.len
            have h' : szD d ≤ 39000 := sm
            omega) fun H7 e7 => ?_
          have e67 : Ex (upd H5 b (.lst ts')) H7 := e6.trans e7
          have w7 : Ew H7 (upd H7 a (.lst (fv ++ [v1]))) := Ew.lst (e67 _ _ ha5)
          have p1 := szD_pos d1
          refine ⟨st', fs ++ [d1], ts', fv ++ [v1], _, rfl, Ex.mut (x5.trans e67) (show H a = none from na), by rw [upd_ne ab.symm]; exact e67 _ _ upd_same, (rs5.mono e67).ew w7, upd_same, ((rf5.app (.cons r1' .nil)).mono e67).ew w7, ?_, ?_, ?_, fun e he => sms e (by simp [he]), ?_⟩
          · rw [hsz]; omega
          · rw [hsz] at hz; rw [List.length_append, List.length_singleton]; omega
          · intro e he
            rcases List.mem_append.mp he with h | h
            · exact smf e h
            · have : e = d1 := by simpa using h
              rw [this]; exact sm1
          · intro q
            rw [← hq q]
            simp only [List.all_append, List.all_cons, List.all_nil, Bool.and_true]
            rw [allLv_leaf q ht]
            cases fs.all q <;> cases q d1 <;> cases st'.all (allLv q) <;> rfl
    · have hts : ts = [] := by
        cases ts with
        | nil => rfl
        | cons a l => cases hne
      subst hts
      cases rs
      refine s_ret (ev_var rfl) fun H5 e5 => ?_
      have e35 := e4.trans e5
      exact k a H5 fs fv na (e3.trans e35) (e35 _ _ ha3) (rf.mono e35) (by simp [szL] at hz; omega) smf fun q => by rw [← hq q]; simp
end
end K2
/-! is_plain_leaf, is_arg_leaf, is_plain_value, is_arg. -/
namespace K2
open PySem L2 Evl PySem.Spec PyProof.Rows
/-- does it begin with @ -/
def atS (s : Str) : Bool := match s.cps.toList with | c :: _ => c == 64 | [] => false
def tailS (s : Str) : Str := cutS s (some 1) none
theorem tail_len (s : Str) : (tailS s).length ≤ s.length := by
  rw [len_cps, len_cps s]
  unfold tailS cutS
  simp only [List.length_take, List.length_drop]
  omega
theorem starts_at (s : Str) : Txt.startswith s "@" = atS s := by
  have e1 : ("@" : Str).length = 1 := by decide +kernel
  have e2 : ("@" : Str).cps.toList = [64] := by decide +kernel
  unfold Txt.startswith
  rw [PySem.StrLaws.subAt_eq, e1, e2, len_cps]
  unfold atS
  cases s.cps.toList with
  | nil => simp
  | cons c l =>
    show (decide (0 + 1 ≤ l.length + 1) && ([c] == [64])) = (c == 64)
    have : decide (0 + 1 ≤ l.length + 1) = true := by simp
    rw [this, Bool.true_and]
    cases h : c == 64 with
    | true => rw [beq_iff_eq] at h; subst h; rfl
    | false =>
      rw [beq_eq_false_iff_ne] at h ⊢
      intro z
      injection z with z
      exact h z
def plainLeaf : D → Bool
  | .str s => !atS s
  | .non => true
  | .bl _ => true
  | .int _ => true
  | _ => false
def argLeaf (d : D) : Bool := plainLeaf d || (match d with | .str s => nameS (tailS s) | _ => false)
def isPlainV (d : D) : Bool := allLv plainLeaf d
def isArg (d : D) : Bool := allLv argLeaf d
def isNoneD : D → Bool | .non => true | _ => false
section
variable {K : PySem.W.Frag} {H : Hp} {σ : L2.St} {ta tl te : TE} {v z : V}
def rStarts : V → List V → Hp → VK → Prop := fun x xs H Q => ∃ a b, x = .str a ∧ xs = [.str b] ∧ Q (.bl (Txt.startswith a b)) H
theorem mt_starts {X : Cx} : MtR X "str.startswith" rStarts := mt_startswith
theorem ev_starts {a b : Str} (ha : Ev ta σ H (.str a)) (hb : Ev te σ H (.str b)) : Ev (tM1 rStarts ta te) σ H (.bl (Txt.startswith a b)) := fun H1 e Q q =>
  ha H1 e _ fun H2 e2 => ⟨⟨a, rfl⟩, hb H2 (e.trans e2) _ fun H3 e3 => ⟨a, b, rfl, rfl, q H3 (e2.trans e3)⟩⟩
theorem rv_isN {x : V} : RV rIsN x .non H (.bl (decide (x = .non))) := fun H1 _ _ q => ⟨rfl, q H1 (Ex.refl _)⟩
theorem rv_notN {x : V} : RV rNotN x .non H (.bl (!decide (x = .non))) := fun H1 _ _ q => ⟨rfl, q H1 (Ex.refl _)⟩
theorem ev_slS {x : Str} {tl th : TO} {lo hi : Option Int} (ha : Ev ta σ H (.str x)) (hl : EvO tl σ H lo) (hh : EvO th σ H hi) (hz : x.length ≤ 100000) : Ev (tSl rSlS ta tl th) σ H (.str (cutS x lo hi)) := fun H1 e Q q =>
  ha H1 e _ fun H2 e2 => hl H2 (e.trans e2) _ fun H3 e3 => hh H3 ((e.trans e2).trans e3) _ fun H4 e4 => ⟨x, rfl, sz_of hz, q H4 ((e2.trans e3).trans e4)⟩
theorem allBind {Pl : Hp → List V → Prop} {g : TG} {tt : TT} {vs : List Nat} (h : EvLP tl σ H Pl) (k : ∀ p xs H1, Ex H H1 → H1 p = some (.lst xs) → Pl H1 xs → Ev (tCB (rAll K) (tCons (tLc (iList K (tC (.ref p))) g tt te vs) tNil)) σ H1 z) :
    Ev (tCB (rAll K) (tCons (tLc (iList K tl) g tt te vs) tNil)) σ H z := fun H1 e Q q =>
  h H1 e _ fun p xs H2 hp e2 hl pl => k p xs H2 (e.trans e2) hl pl H2 (Ex.refl _) Q fun H3 e3 => q H3 (e2.trans e3)
theorem Rp.isN {d : D} (r : Rp K H d v) : decide (v = .non) = isNoneD d := by
  cases r <;> simp [isNoneD]
/-- all(test of x for x in a list of data) -/
theorem ev_allD {j : Nat} {vs : List Nat} {p : Addr} {xs : List V} {ds : List D} {f : D → Bool} (hp : H p = some (.lst xs)) (r : Rps K H ds xs) (hn : ds.length ≤ 40000) (hw : ∀ x, wipe ((wipe σ vs).set j (some x)) vs = wipe σ vs)
    (he : ∀ d x H1, d ∈ ds → Ex H H1 → Rp K H1 d x → Ev te ((wipe σ vs).set j (some x)) H1 (.bl (f d))) : Ev (tCB (rAll K) (tCons (tLc (iList K (tC (.ref p))) (gName j) tYes te vs) tNil)) σ H (.bl (ds.all f)) := by
  have e : ds.all f = ((List.range xs.length).map fun i => match ds[i]? with | some d => f d | none => true).all id := by
    rw [r.len]
    exact (all_range_list fun i d h => by rw [h]).symm
  rw [e]
  refine ev_allB (el_lcB _ (wk_lst ev_c hp) (by rw [r.len]; exact hn) hw fun i x H1 hi e px => ?_)
  obtain ⟨d, h1, h2⟩ := r.at_ px
  show Ev _ _ _ (.bl (match ds[i]? with | some d => f d | none => true))
  rw [h1]
  exact he d x H1 (List.mem_of_getElem? h1) e (h2.mono e)
end
section
variable {P : Program} {w : World} {K : PySem.W.Frag} {mg : Str → Option Value} {base : Heap}
theorem sc15 : FnScope ["leaf"] ["leaf"] (defScope (top 15)) := ⟨rfl, rfl, rfl, by decide +kernel, rfl, by decide +kernel, by decide +kernel⟩
theorem ok_plainLeaf (B : Bl mg) (F : Df K mg "is_plain_leaf" (top 15) ["leaf"]) : Okd P w K mg base CX0 1 "is_plain_leaf" ["leaf"] (spB1 K Sm plainLeaf) := by
  refine F.ok sc15 (fun vs H Q E h => spB1_len h) (fun f cdv A outer s H vs Q E hr h => ?_)
  obtain ⟨d, v, rfl, r, sm, k⟩ := h
  refine ⟨_, (pss_cons (ps_if (pt_val (pe_callB call_isi (by rfl) B.isinstance boot_isinstance (pa_cons (pv 0) (pa_cons (pe_bltn (v := .ty "str") (by rfl) B.str boot_str rfl) pa_nil)))) (pss_one (ps_ret (pe_not (pe_m1 PySem.F.slot_str_startswith PySem.F.type_str_startswith mt_starts (pv 0) pe_str)))) pss_nil)
      (pss_one (ps_ret (pe_or (pe_cmpR op_isN1 (pv 0) pe_non (nomark _)) (pe_one (pe_callB call_isi (by rfl) B.isinstance boot_isinstance (pa_cons (pv 0) (pa_cons (pe_bltn (v := .ty "int") (by rfl) B.int boot_int rfl) pa_nil)))))))), ?_⟩
  refine q_when (et_B (ev_isi r (ev_var rfl) (kit_str d))) (fun hs H1 e => ?_) (fun hs H1 e => ?_)
  · obtain ⟨x, rfl⟩ := str_of hs
    cases r
    refine s_ret (v := .bl (plainLeaf (.str x))) (ev_is (ev_notV (ev_starts (ev_var rfl) ev_c)) (by rw [starts_at]; rfl)) fun H2 e2 => k H2 (e.trans e2)
  · refine s_ret (v := .bl (plainLeaf d)) (ev_is (ev_orV (ev_op (ev_var rfl) ev_c rv_isN) fun _ => ev_isi (r.mono e) (ev_var rfl) (kit_in d)) ?_) fun H2 e2 => k H2 (e.trans e2)
    rw [r.isN]
    cases d <;> first | rfl | cases hs
theorem sc16 : FnScope ["leaf"] ["leaf"] (defScope (top 16)) := ⟨rfl, rfl, rfl, by decide +kernel, rfl, by decide +kernel, by decide +kernel⟩
theorem ok_argLeaf (B : Bl mg) (F : Df K mg "is_arg_leaf" (top 16) ["leaf"]) (O1 : Okd P w K mg base CX0 1 "is_plain_leaf" ["leaf"] (spB1 K Sm plainLeaf)) (O2 : Okd P w K mg base CX0 1 "is_name" ["value"] (spB1 K Sm isName)) :
    Okd P w K mg base CX0 2 "is_arg_leaf" ["leaf"] (spB1 K Sm argLeaf) := by
  refine F.ok sc16 (fun vs H Q E h => spB1_len h) (fun f cdv A outer s H vs Q E hr h => ?_)
  obtain ⟨d, v, rfl, r, sm, k⟩ := h
  obtain ⟨f_is_plain_leaf, d_is_plain_leaf, m_is_plain_leaf, k_is_plain_leaf, b_is_plain_leaf, G_is_plain_leaf⟩ := O1.ex
  obtain ⟨f_is_name, d_is_name, m_is_name, k_is_name, b_is_name, G_is_name⟩ := O2.ex
  refine ⟨_, (pss_one (ps_ret (pe_or (pe_call G_is_plain_leaf (hr.mono (by first | decide | omega)) (by rfl) m_is_plain_leaf k_is_plain_leaf b_is_plain_leaf .nil pass0 (pa_cons (pv 0) pa_nil)) (pe_one (pe_and (pe_callB call_isi (by rfl) B.isinstance boot_isinstance (pa_cons (pv 0) (pa_cons (pe_bltn (v := .ty "str") (by rfl) B.str boot_str rfl) pa_nil))) (pe_one (pe_call G_is_name (hr.mono (by first | decide | omega)) (by rfl) m_is_name k_is_name b_is_name .nil pass0 (pa_cons (pe_slice sl_str (pv 0) (po_some pe_int) po_none) pa_nil)))))))), ?_⟩
  refine s_ret (v := .bl (argLeaf d)) ?_ fun H2 e2 => k H2 e2
  refine ev_is (ev_orV (b := isStr d && (match d with | .str s => nameS (tailS s) | _ => false)) (ev_call (ea_cons (ev_var rfl) ea_nil) (spB1_v r sm)) fun _ => ev_andV (ev_isi r (ev_var rfl) (kit_str d)) fun hs => ?_) (by cases d <;> rfl)
  obtain ⟨x, rfl⟩ := str_of hs
  cases r
  have hl : x.length ≤ 39000 := sm.len
  refine ev_call (ea_cons (ev_slS (ev_var rfl) (eo_some ev_c) eo_none (by omega)) ea_nil) (spB1_v (d := .str (tailS x)) (Rp.str _) ?_)
  have := tail_len x
  have sm' : x.length + 1 ≤ 39000 := sm
  show (tailS x).length + 1 ≤ 39000
  omega
theorem leaves_ev {σ : L2.St} {H : Hp} {ta : TE} {E : XK} {d : D} {v : V} (ha : Ev ta σ H v) (r : Rp K H d v) (sm : Sm d) :
    EvLP (tCall (spLeaves K) [] E (tCons ta tNil)) σ H (fun H2 xs => ∃ ls, Rps K H2 ls xs ∧ ls.length ≤ szD d ∧ (∀ e ∈ ls, Sm e) ∧ ∀ q : D → Bool, ls.all q = allLv q d) := fun H1 e Q q =>
  ha H1 e _ fun H2 e2 => ⟨d, v, rfl, (r.mono e).mono e2, sm, fun p H3 ls xs hp e3 hl rl h1 h2 h3 => q p xs H3 (fresh_back e2 hp) (e2.trans e3) hl ⟨ls, rl, h1, h2, h3⟩⟩
theorem sc17 : FnScope ["value", "leaf"] ["value"] (defScope (top 17)) := ⟨rfl, rfl, rfl, by decide +kernel, rfl, by decide +kernel, by decide +kernel⟩
theorem ok_plainV (B : Bl mg) (F : Df K mg "is_plain_value" (top 17) ["value"]) (O1 : Okd P w K mg base CX0 1 "is_plain_leaf" ["leaf"] (spB1 K Sm plainLeaf)) (O2 : Okd P w K mg base CX0 1 "leaves" ["value"] (spLeaves K)) :
    Okd P w K mg base CX0 2 "is_plain_value" ["value"] (spB1 K Sm isPlainV) := by
  refine F.ok sc17 (fun vs H Q E h => spB1_len h) (fun f cdv A outer s H vs Q E hr h => ?_)
  obtain ⟨d, v, rfl, r, sm, k⟩ := h
  obtain ⟨f_is_plain_leaf, d_is_plain_leaf, m_is_plain_leaf, k_is_plain_leaf, b_is_plain_leaf, G_is_plain_leaf⟩ := O1.ex
  obtain ⟨f_leaves, d_leaves, m_leaves, k_leaves, b_leaves, G_leaves⟩ := O2.ex
  refine ⟨_, (pss_one (ps_ret (pe_callB (cr_all rfl) (by rfl) B.all boot_all (pa_cons (pe_lc (own := [("leaf", 1)]) (g := gName 1) (tt := tYes) rfl sc17.nd (pi_list (pe_call G_leaves (hr.mono (by first | decide | omega)) (by rfl) m_leaves k_leaves b_leaves .nil pass0 (pa_cons (pv 0) pa_nil))) (blkOk_by (N := ["value", "leaf"]) (sc := defScope (top 17)) (by decide +kernel)) (fun _ _ _ _ _ => (pg_name (i := 1) sc17.nd rfl (Or.inl rfl))) (fun _ _ _ _ _ => pts_nil) (fun _ _ _ _ _ => (pe_call G_is_plain_leaf (hr.mono (by first | decide | omega)) (by rfl) m_is_plain_leaf k_is_plain_leaf b_is_plain_leaf .nil pass0 (pa_cons (pv 1) pa_nil)))) pa_nil)))), ?_⟩
  refine s_ret (v := .bl (isPlainV d)) (allBind (leaves_ev (ev_var rfl) r sm) fun p xs H1 e hp pl => ?_) fun H2 e2 => k H2 e2
  obtain ⟨ls, rl, h1, h2, h3⟩ := pl
  have sm' : szD d ≤ 39000 := sm
  show Ev _ _ _ (.bl (allLv plainLeaf d))
  rw [← h3 plainLeaf]
  exact ev_allD hp rl (by omega) (fun _ => rfl) fun e x H3 he e3 rx => ev_call (ea_cons (ev_var rfl) ea_nil) (spB1_v rx (h2 e he))
theorem sc18 : FnScope ["value", "leaf"] ["value"] (defScope (top 18)) := ⟨rfl, rfl, rfl, by decide +kernel, rfl, by decide +kernel, by decide +kernel⟩
theorem ok_arg (B : Bl mg) (F : Df K mg "is_arg" (top 18) ["value"]) (O1 : Okd P w K mg base CX0 2 "is_arg_leaf" ["leaf"] (spB1 K Sm argLeaf)) (O2 : Okd P w K mg base CX0 1 "leaves" ["value"] (spLeaves K)) :
    Okd P w K mg base CX0 3 "is_arg" ["value"] (spB1 K Sm isArg) := by
  refine F.ok sc18 (fun vs H Q E h => spB1_len h) (fun f cdv A outer s H vs Q E hr h => ?_)
  obtain ⟨d, v, rfl, r, sm, k⟩ := h
  obtain ⟨f_is_arg_leaf, d_is_arg_leaf, m_is_arg_leaf, k_is_arg_leaf, b_is_arg_leaf, G_is_arg_leaf⟩ := O1.ex
  obtain ⟨f_leaves, d_leaves, m_leaves, k_leaves, b_leaves, G_leaves⟩ := O2.ex
  refine ⟨_, (pss_one (ps_ret (pe_callB (cr_all rfl) (by rfl) B.all boot_all (pa_cons (pe_lc (own := [("leaf", 1)]) (g := gName 1) (tt := tYes) rfl sc18.nd (pi_list (pe_call G_leaves (hr.mono (by first | decide | omega)) (by rfl) m_leaves k_leaves b_leaves .nil pass0 (pa_cons (pv 0) pa_nil))) (blkOk_by (N := ["value", "leaf"]) (sc := defScope (top 18)) (by decide +kernel)) (fun _ _ _ _ _ => (pg_name (i := 1) sc18.nd rfl (Or.inl rfl))) (fun _ _ _ _ _ => pts_nil) (fun _ _ _ _ _ => (pe_call G_is_arg_leaf (hr.mono (by first | decide | omega)) (by rfl) m_is_arg_leaf k_is_arg_leaf b_is_arg_leaf .nil pass0 (pa_cons (pv 1) pa_nil)))) pa_nil)))), ?_⟩
  refine s_ret (v := .bl (isArg d)) (allBind (leaves_ev (ev_var rfl) r sm) fun p xs H1 e hp pl => ?_) fun H2 e2 => k H2 e2
  obtain ⟨ls, rl, h1, h2, h3⟩ := pl
  have sm' : szD d ≤ 39000 := sm
  show Ev _ _ _ (.bl (allLv argLeaf d))
  rw [← h3 argLeaf]
  exact ev_allD hp rl (by omega) (fun _ => rfl) fun e x H3 he e3 rx => ev_call (ea_cons (ev_var rfl) ea_nil) (spB1_v rx (h2 e he))
end
end K2
/-! The tables, the routines of a program, is_plain_routine, names_routine, is_call. -/
namespace K2
open PySem L2 Evl PySem.Spec PyProof.Rows
/-! ### the tables, read off the text -/
def eStr : Expr → Str
  | .Constant (.str x) _ _ => x
  | _ => ""
def eInt : Expr → Int
  | .Constant (.int i) _ _ => i
  | _ => 0
def eElts : Expr → List Expr
  | .Tuple es _ _ => es
  | _ => []
def sVal : Stmt → Expr
  | .Assign _ e _ => e
  | _ => .Constant .none 0 ⟨0, 0, 0, 0⟩
def dKeys : Expr → List (Option Expr)
  | .Dict ks _ _ => ks
  | _ => []
def dVals : Expr → List Expr
  | .Dict _ vs _ => vs
  | _ => []
def tabOf {α : Type} (s : Stmt) (f : Expr → α) : List (Str × α) := ((dKeys (sVal s)).zip (dVals (sVal s))).map fun p => ((match p.1 with | some e => eStr e | none => ""), f p.2)
def arL : List (Str × Int × Int) := tabOf (top 3) fun e => (eInt ((eElts e).getD 0 e), eInt ((eElts e).getD 1 e))
def roL : List (Str × Int) := tabOf (top 4) eInt
def shL : List (Str × List Str) := tabOf (top 23) fun e => (eElts e).map eStr
def barredL : List Str := (eElts (sVal (top 20))).map eStr
def asyncL : List Str := (eElts (sVal (top 21))).map eStr
def loopsL : List Str := (eElts (sVal (top 22))).map eStr
def arity (z : Str) : Option (Int × Int) := arL.lookup z
def routAt (z : Str) : Option Int := roL.lookup z
def shape (z : Str) : Option (List Str) := shL.lookup z
structure Tb (K : PySem.W.Frag) (w : World) (mg : Str → Option Value) : Prop where
  ar : ∃ a u es n, mg "ARITIES" = some u ∧ L2.RelV (.ref a) u ∧ KDict K w a es n ∧ (∀ z, arity z = none → PySem.W.nsIn K a z = some none) ∧
    ∀ z lo hi, arity z = some (lo, hi) → ∃ t u', PySem.W.nsIn K a z = some (some u') ∧ L2.RelV (.ref t) u' ∧ ∀ H, SqT K H t [.int lo, .int hi]
  ro : ∃ a u es n, mg "ROUTINE_AT" = some u ∧ L2.RelV (.ref a) u ∧ KDict K w a es n ∧ (∀ z, routAt z = none → PySem.W.nsIn K a z = some none) ∧
    ∀ z k, routAt z = some k → ∃ u', PySem.W.nsIn K a z = some (some u') ∧ L2.RelV (.int k) u'
  sh : ∃ a u es n, mg "SHAPES" = some u ∧ L2.RelV (.ref a) u ∧ KDict K w a es n ∧ (∀ z, shape z = none → PySem.W.nsIn K a z = some none) ∧
    ∀ z l, shape z = some l → ∃ t u', PySem.W.nsIn K a z = some (some u') ∧ L2.RelV (.ref t) u' ∧ ∀ H, SqT K H t (l.map V.str)
  barred : ∃ a u, mg "BARRED" = some u ∧ L2.RelV (.ref a) u ∧ ∀ H, SqT K H a (barredL.map V.str)
  async : ∃ a u, mg "FOR_ASYNC" = some u ∧ L2.RelV (.ref a) u ∧ ∀ H, SqT K H a (asyncL.map V.str)
  loops : ∃ a u, mg "LOOPS" = some u ∧ L2.RelV (.ref a) u ∧ ∀ H, SqT K H a (loopsL.map V.str)
/-! ### the routines: a dict whose keys are texts -/
abbrev Rt := List (Str × D)
def KRt (K : PySem.W.Frag) (H : Hp) (rt : Rt) (kvs : List (Key × V)) : Prop := Paired (fun (p : Str × D) (q : Key × V) => q.1 = Sum.inr p.1 ∧ Rp K H p.2 q.2) rt kvs
/-- the value v is a dict of these routines -/
def IsRt (K : PySem.W.Frag) (H : Hp) (rt : Rt) (v : V) : Prop := ∃ a kvs, v = .ref a ∧ Rd H a (.dK kvs) ∧ KRt K H rt kvs
/-- of a routine of three parts the first one is a text or a number -/
def RtOk (rt : Rt) : Prop := ∀ w k p b, rt.lookup w = some (.tup [k, p, b]) → (∃ s, k = .str s) ∨ (∃ i, k = .int i)
def knw (rt : Rt) (w : Str) : Bool := (rt.lookup w).isSome
def is3 : D → Bool | .tup ds => decide (((ds.length : Nat) : Int) = 3) | _ => false
def kPlain : D → Bool | .tup [.str k, _, _] => decide (k = "plain") | _ => false
theorem kPlain_is3 {d : D} (h : kPlain d = true) : is3 d = true ∧ isTup d = true := by
  unfold kPlain at h
  split at h
  · exact ⟨rfl, rfl⟩
  · cases h
theorem kPlain_eq (d : D) : kPlain d = (isTup d && (is3 d && kPlain d)) := by
  cases h : kPlain d with
  | true =>
    obtain ⟨h1, h2⟩ := kPlain_is3 h
    rw [h1, h2]
    rfl
  | false => rw [Bool.and_false, Bool.and_false]
theorem is3_of {ds : List D} (h : is3 (.tup ds) = true) : ∃ d0 d1 d2, ds = [d0, d1, d2] := by
  have h' : ((ds.length : Nat) : Int) = 3 := of_decide_eq_true h
  have hl : ds.length = 3 := by omega
  match ds, hl with
  | [a, b, c], _ => exact ⟨a, b, c, rfl⟩
def plr (rt : Rt) (w : Str) : Bool := match rt.lookup w with | some d => kPlain d | none => false
theorem KRt.mono {K : PySem.W.Frag} {H H' : Hp} (e : Ew H H') {rt : Rt} {kvs : List (Key × V)} (h : KRt K H rt kvs) : KRt K H' rt kvs := L2.Paired.mapP h fun _ _ q => ⟨q.1, q.2.ew e⟩
theorem IsRt.mono {K : PySem.W.Frag} {H H' : Hp} (e : Ex H H') {rt : Rt} {v : V} (h : IsRt K H rt v) : IsRt K H' rt v := by
  obtain ⟨a, kvs, h1, h2, h3⟩ := h
  exact ⟨a, kvs, h1, ex_rd e h2, h3.mono (Ew.of e)⟩
theorem KRt.val {K : PySem.W.Frag} {H : Hp} (w : Str) : ∀ {rt : Rt} {kvs : List (Key × V)}, KRt K H rt kvs →
    (rt.lookup w = none ∧ valV kvs (Sum.inr w : Key) = none) ∨ ∃ d v, rt.lookup w = some d ∧ valV kvs (Sum.inr w : Key) = some v ∧ Rp K H d v
  | _, _, .nil => .inl ⟨rfl, rfl⟩
  | (w', d) :: rt, (k, v) :: kvs, .cons h t => by
    obtain ⟨h1, h2⟩ := h
    have h1' : k = Sum.inr w' := h1
    subst h1'
    by_cases e : w = w'
    · subst e
      exact .inr ⟨d, v, by simp [List.lookup], valV_pos (p := ((Sum.inr w : Key), v)) rfl, h2⟩
    · have ih := KRt.val w t
      have e1 : List.lookup w ((w', d) :: rt) = List.lookup w rt := by
        have : (w == w') = false := beq_eq_false_iff_ne.mpr e
        simp [List.lookup, this]
      have e2 : valV (((Sum.inr w' : Key), v) :: kvs) (Sum.inr w : Key) = valV kvs (Sum.inr w : Key) := valV_neg (p := ((Sum.inr w' : Key), v)) fun z => e (Sum.inr.inj z).symm
      rw [e1, e2]
      exact ih
section
variable {K : PySem.W.Frag} {H : Hp} {σ : L2.St} {ta tb td ty te : TE} {v x y : V}
theorem ev_dnotin {a : Addr} {kvs : List (Key × V)} {z : Str} (hy : Ev ty σ H (.str z)) (hd : Ev td σ H (.ref a)) (h : Rd H a (.dK kvs)) : Ev (tDNotIn ty td) σ H (.bl (!(valV kvs (Sum.inr z : Key)).isSome)) := fun H1 e Q q =>
  hy H1 e _ fun H2 e2 => hd H2 (e.trans e2) _ fun H3 e3 => ⟨a, _, rfl, .inl ⟨kvs, Sum.inr z, ex_rd ((e.trans e2).trans e3) h, rfl, rfl⟩, q H3 (e2.trans e3)⟩
theorem ev_din {a : Addr} {kvs : List (Key × V)} {z : Str} (hy : Ev ty σ H (.str z)) (hd : Ev td σ H (.ref a)) (h : Rd H a (.dK kvs)) : Ev (tDIn ty td) σ H (.bl (valV kvs (Sum.inr z : Key)).isSome) := fun H1 e Q q =>
  hy H1 e _ fun H2 e2 => hd H2 (e.trans e2) _ fun H3 e3 => ⟨a, _, rfl, .inl ⟨kvs, Sum.inr z, ex_rd ((e.trans e2).trans e3) h, rfl, rfl⟩, q H3 (e2.trans e3)⟩
theorem ev_dget {a : Addr} {kvs : List (Key × V)} {z : Str} (hd : Ev td σ H (.ref a)) (hy : Ev ty σ H (.str z)) (h : Rd H a (.dK kvs)) (hv : valV kvs (Sum.inr z : Key) = some v) : Ev (tDGet td ty) σ H v := fun H1 e Q q =>
  hd H1 e _ fun H2 e2 => hy H2 (e.trans e2) _ fun H3 e3 => ⟨a, v, rfl, .inl ⟨kvs, Sum.inr z, ex_rd ((e.trans e2).trans e3) h, rfl, hv.symm⟩, q H3 (e2.trans e3)⟩
/-- a written table, asked by a text -/
def rInKd (K : PySem.W.Frag) (d : Addr) : R2 := fun x y H Q => ∃ (z : Str) (r : Option Value), x = .str z ∧ y = .ref d ∧ PySem.W.nsIn K d z = some r ∧ Q (.bl r.isSome) H
def rNotInKd (K : PySem.W.Frag) (d : Addr) : R2 := fun x y H Q => ∃ (z : Str) (r : Option Value), x = .str z ∧ y = .ref d ∧ PySem.W.nsIn K d z = some r ∧ Q (.bl (!r.isSome)) H
theorem op_inKd {X : Cx} {d : Addr} {es : Array DictEntry} {n : Nat} (k : KDict X.K X.w d es n) : OpR X (compareOp .In) (rInKd X.K d) := op_in_kd k
theorem op_notInKd {X : Cx} {d : Addr} {es : Array DictEntry} {n : Nat} (k : KDict X.K X.w d es n) : OpR X (compareOp .NotIn) (rNotInKd X.K d) := op_notIn_kd k
theorem rv_inKd {d : Addr} {z : Str} {r : Option Value} (h : PySem.W.nsIn K d z = some r) : RV (rInKd K d) (.str z) (.ref d) H (.bl r.isSome) := fun H1 _ _ q => ⟨z, r, rfl, rfl, h, q H1 (Ex.refl _)⟩
theorem rv_niKd {d : Addr} {z : Str} {r : Option Value} (h : PySem.W.nsIn K d z = some r) : RV (rNotInKd K d) (.str z) (.ref d) H (.bl (!r.isSome)) := fun H1 _ _ q => ⟨z, r, rfl, rfl, h, q H1 (Ex.refl _)⟩
theorem rv_ixKd {w : World} {d : Addr} {z : Str} {es : Array DictEntry} {n : Nat} {u : Value} (k : KDict K w d es n) (h : PySem.W.nsIn K d z = some (some u)) (r : L2.RelV v u) : RV (rIxD K w) (.ref d) (.str z) H v := fun H1 _ _ q =>
  ⟨d, z, v, rfl, rfl, ⟨es, n, u, k.at_, k.lit, h, r⟩, q H1 (Ex.refl _)⟩
/-! ### parts of a tuple of data -/
theorem evp_sl1 {a : Addr} {vs : List V} {ds : List D} (ha : Ev ta σ H (.ref a)) (h : H a = some (.tup vs)) (r : Rps K H ds vs) (hne : ds ≠ []) :
    EvP (tSl (rSlT K) ta (tPart (tC (.int 1))) tNoPart) σ H (fun H1 v => Rp K H1 (.tup (ds.drop 1)) v) := fun H1 e Q q =>
  ha H1 e _ fun H2 e2 => ⟨1, rfl, a, vs, rfl, st_of (e2 _ _ (e _ _ h)), by
    have hl : 1 ≤ vs.length := by
      rw [r.len]
      cases ds with
      | nil => exact absurd rfl hne
      | cons a l => simp
    rintro ⟨z, _⟩
    have := HT.sIx_nat vs.length 0 1
    have z' : HT.sIx vs.length 0 (some ((1 : Nat) : Int)) = 0 := z
    rw [z'] at this
    omega, fun p hp => by
    have e1 : HT.sIx vs.length 0 (some ((1 : Nat) : Int)) = min 1 vs.length := HT.sIx_nat _ _ _
    have e3 : cutV vs (some 1) none = vs.drop 1 := by
      unfold cutV
      rw [show (some (1 : Int)) = some ((1 : Nat) : Int) from rfl, e1, HT.sIx_none]
      have hl : 1 ≤ vs.length := by
        rw [r.len]
        cases ds with
        | nil => exact absurd rfl hne
        | cons a l => simp
      rw [Nat.min_eq_left hl, List.take_of_length_le (by simp)]
    refine q _ _ (e2.trans (Ex.new hp)) (.tup upd_same ?_)
    rw [e3]
    exact (Rps.drop 1 r).mono ((e.trans e2).trans (Ex.new hp))⟩
theorem wk_tupP {tl : TE} {ds : List D} (h : EvP tl σ H (fun H1 v => Rp K H1 (.tup ds) v)) : Wk (iTup K tl) σ H ds.length (fun i H1 x => ∃ d, ds[i]? = some d ∧ Rp K H1 d x) := fun H1 e R k =>
  h H1 e _ fun v H2 e2 r => by
    cases r with
    | tup ha rs =>
      rename_i a vs
      refine ⟨a, rfl, ⟨vs, st_of ha⟩, ?_⟩
      have w : Walk (Itt K a) vs.length (fun H => SqT K H a vs) (YAt vs) := walk_tup
      rw [rs.len] at w
      refine k _ _ _ H2 e2 w (fun H3 e3 => st_of (e3 _ _ ha)) fun i H3 x H4 hi e3 y => ?_
      obtain ⟨e4, hx⟩ := y
      subst e4
      obtain ⟨d, h1, h2⟩ := rs.at_ hx
      exact ⟨Ex.refl _, d, h1, h2.mono e3⟩
/-- all(test of x for x in data that are walked) -/
theorem ev_allW {wi : TI} {j : Nat} {vs : List Nat} {ds : List D} {f : D → Bool} (W : Wk wi σ H ds.length (fun i H1 x => ∃ d, ds[i]? = some d ∧ Rp K H1 d x)) (hn : ds.length ≤ 40000) (hw : ∀ x, wipe ((wipe σ vs).set j (some x)) vs = wipe σ vs)
    (he : ∀ d x H1, d ∈ ds → Ex H H1 → Rp K H1 d x → Ev te ((wipe σ vs).set j (some x)) H1 (.bl (f d))) : Ev (tCB (rAll K) (tCons (tLc wi (gName j) tYes te vs) tNil)) σ H (.bl (ds.all f)) := by
  have e : ds.all f = ((List.range ds.length).map fun i => match ds[i]? with | some d => f d | none => true).all id := (all_range_list fun i d h => by rw [h]).symm
  rw [e]
  refine ev_allB (el_lcB _ W hn hw fun i x H1 hi e px => ?_)
  obtain ⟨d, h1, h2⟩ := px
  show Ev _ _ _ (.bl (match ds[i]? with | some d => f d | none => true))
  rw [h1]
  exact he d x H1 (List.mem_of_getElem? h1) e h2
end
/-! ### is_plain_routine, names_routine -/
def isPlR (rt : Rt) : D → Bool
  | .str w => plr rt w
  | _ => false
def named (rt : Rt) (op : Str) (d : D) : Bool :=
  if op = "call" then (match d with | .str w => knw rt w | _ => false)
  else if decide (op = "handler") && isNoneD d then true else isPlR rt d
def spPlR (K : PySem.W.Frag) : Sp := fun vs H Q _ => ∃ d v rt z, vs = [v, z] ∧ Rp K H d v ∧ IsRt K H rt z ∧ RtOk rt ∧ RetV (.bl (isPlR rt d)) H Q
def spNamed (K : PySem.W.Frag) : Sp := fun vs H Q _ => ∃ op d v rt z, vs = [.str op, v, z] ∧ Rp K H d v ∧ IsRt K H rt z ∧ RtOk rt ∧ RetV (.bl (named rt op d)) H Q
section
variable {P : Program} {w : World} {K : PySem.W.Frag} {mg : Str → Option Value} {base : Heap}
theorem sc25 : FnScope ["word", "routines", "routine"] ["word", "routines"] (defScope (top 25)) := ⟨rfl, rfl, rfl, by decide +kernel, rfl, by decide +kernel, by decide +kernel⟩
theorem ok_plR (B : Bl mg) (F : Df K mg "is_plain_routine" (top 25) ["word", "routines"]) : Okd P w K mg base CX0 1 "is_plain_routine" ["word", "routines"] (spPlR K) := by
  refine F.ok sc25 (fun vs H Q E h => by obtain ⟨d, v, rt, z, rfl, _⟩ := h; rfl) (fun f cdv A outer s H vs Q E hr h => ?_)
  obtain ⟨d, v, rt, z, rfl, r, ⟨a, kvs, rfl, hR, hK⟩, ok, k⟩ := h
  have hu := hu_of hr
  refine ⟨_, (pss_cons (ps_if (PW.pt (pw_or (pt_not (pt_val (pe_callB call_isi (by rfl) B.isinstance boot_isinstance (pa_cons (pv 0) (pa_cons (pe_bltn (v := .ty "str") (by rfl) B.str boot_str rfl) pa_nil))))) (pw_or1 (pt_cmp (pc_dnotin hu (pv 0) (pv 1)))))) (pss_one (ps_ret pe_bl)) pss_nil)
      (pss_cons (ps_set (i := 2) sc25.nd rfl (Or.inl rfl) (pe_dget hu (pv 1) (pv 0) (fun _ _ => rfl)))
      (pss_one (ps_ret (pe_and (pe_callB call_isi (by rfl) B.isinstance boot_isinstance (pa_cons (pv 2) (pa_cons (pe_bltn (v := .ty "tuple") (by rfl) B.tuple boot_tuple rfl) pa_nil))) (pe_and (pe_cmpR op_eq (pe_callB call_lenQ (by rfl) B.len PySem.boot_len (pa_cons (pv 2) pa_nil)) pe_int (nomark _)) (pe_one (pe_cmpR op_eq (pe_ix ix_tup (pv 2) pe_int (fun _ _ => rfl)) pe_str (nomark _))))))))), ?_⟩
  cases hs : isStr d with
  | false =>
    have q : isPlR rt d = false := by cases d <;> first | rfl | cases hs
    refine q_when (b := !(isStr d) || true) (et_or (et_not (et_B (ev_isi r (ev_var rfl) (kit_str d)))) (fun ha => by rw [hs] at ha; cases ha)) (fun _ H1 e => s_ret ev_c fun H2 e2 => ?_) (fun hb => by rw [hs] at hb; cases hb)
    rw [← q]
    exact k H2 (e.trans e2)
  | true =>
    obtain ⟨x, rfl⟩ := str_of hs
    cases r
    refine q_when (et_or (et_not (et_B (ev_isi (Rp.str x) (ev_var rfl) (kit_str (.str x))))) (fun _ => et_B (ev_dnotin (ev_var rfl) (ev_var rfl) hR))) (fun hb H1 e => ?_) (fun hb H1 e => ?_)
    · refine s_ret ev_c fun H2 e2 => ?_
      rcases hK.val x with ⟨h1, h2⟩ | ⟨d, v, h1, h2, _⟩
      · have q : isPlR rt (.str x) = false := by show plr rt x = false; unfold plr; rw [h1]
        rw [← q]
        exact k H2 (e.trans e2)
      · rw [h2] at hb
        cases hb
    · rcases hK.val x with ⟨h1, h2⟩ | ⟨d, v, h1, h2, h3⟩
      · rw [h2] at hb
        cases hb
      · refine q_asg (ev_dget (ev_var rfl) (ev_var rfl) (ex_rd e hR) h2) fun H2 e2 => ?_
        have r2 : Rp K H2 d v := h3.mono (e.trans e2)
        refine s_ret (v := .bl (isPlR rt (.str x))) ?_ fun H3 e3 => k H3 ((e.trans e2).trans e3)
        have hq : isPlR rt (.str x) = (isTup d && (is3 d && kPlain d)) := by
          show plr rt x = _
          unfold plr
          rw [h1]
          exact kPlain_eq d
        rw [hq]
        refine ev_andV (ev_isi r2 (ev_var rfl) (kit_tup d)) fun ht => ?_
        cases r2 with
        | tup ha rs =>
          rename_i a' vs' ds
          refine ev_andV (ev_is (ev_op (ev_lenT (ev_var rfl) (st_of ha)) ev_c (rv_eq rfl)) ?_) fun hl => ?_
          · rw [rs.len]
            exact congrArg V.bl (decide_eq_decide.mpr ⟨fun z => by injection z, fun z => by rw [z]⟩)
          · obtain ⟨d0, d1, d2, rfl⟩ := is3_of hl
            obtain ⟨v0, g1, g2⟩ := rs.get (i := 0) (d := d0) rfl
            rcases ok x d0 d1 d2 h1 with ⟨s0, rfl⟩ | ⟨i0, rfl⟩
            · cases g2
              refine ev_is (ev_op (ev_op (ev_var rfl) ev_c (rv_ixT (st_of ha) (atI_nat (j := 0) g1))) ev_c (rv_eq rfl)) ?_
              exact congrArg V.bl (decide_eq_decide.mpr ⟨fun z => by injection z, fun z => by rw [z]⟩)
            · cases g2
              exact ev_is (ev_op (ev_op (ev_var rfl) ev_c (rv_ixT (st_of ha) (atI_nat (j := 0) g1))) ev_c (rv_eq rfl)) (congrArg V.bl (decide_eq_false (fun z => nomatch z)))
        | _ => cases ht
end
end K2
/-! names_routine, is_call. -/
namespace K2
open PySem L2 Evl PySem.Spec PyProof.Rows
def inStrs (l : List Str) (s : Str) : Bool := l.any fun y => y == s
theorem inV_strs (l : List Str) (s : Str) : inV (.str s) (l.map V.str) = inStrs l s := by
  unfold inV inStrs
  rw [List.any_map]
  rfl
theorem flat_strs (l : List Str) : (l.map V.str).all flatV = true := by
  rw [List.all_eq_true]
  intro x hx
  obtain ⟨y, _, rfl⟩ := List.mem_map.mp hx
  rfl
def faultOk : D → Bool
  | .str s => nameS s && !inStrs barredL s
  | _ => false
def tailOk (rt : Rt) (op : Str) (args : List D) : Bool :=
  if op = "fault" then (match args with | a :: _ => faultOk a | [] => false)
  else match routAt op with
    | none => true
    | some k => (match args[(k - 1).toNat]? with | some a => named rt op a | none => false)
def callOk (rt : Rt) (op : Str) (args : List D) : Bool :=
  match arity op with
  | none => false
  | some (lo, hi) => (decide (lo ≤ ((args.length : Nat) : Int)) && decide (((args.length : Nat) : Int) ≤ hi) && args.all isArg) && tailOk rt op args
def isCallD (rt : Rt) : D → Bool
  | .tup (.str op :: args) => callOk rt op args
  | _ => false
/-- what the two tables say of one another -/
structure Tie : Prop where
  ro : ∀ op lo hi k, arity op = some (lo, hi) → routAt op = some k → 1 ≤ k ∧ k ≤ lo
  fault : ∀ lo hi, arity "fault" = some (lo, hi) → 1 ≤ lo
theorem lookup_mem {α β : Type} [BEq α] [LawfulBEq α] : ∀ {l : List (α × β)} {a : α} {b : β}, l.lookup a = some b → (a, b) ∈ l
  | [], _, _, h => by simp at h
  | (x, y) :: l, a, b, h => by
    rw [List.lookup_cons] at h
    cases e : a == x with
    | true =>
      rw [e] at h
      have e' : a = x := by simpa using e
      have h' : y = b := by simpa using h
      rw [e', h']
      exact List.mem_cons_self
    | false =>
      rw [e] at h
      exact List.mem_cons_of_mem _ (lookup_mem h)
theorem tie : Tie := by
  have h1 : (arL.all fun p => match routAt p.1 with | none => true | some k => decide (1 ≤ k) && decide (k ≤ p.2.1)) = true := by decide +kernel
  have h2 : (arL.all fun p => !(p.1 == ("fault" : Str)) || decide (1 ≤ p.2.1)) = true := by decide +kernel
  refine ⟨fun op lo hi k h hk => ?_, fun lo hi h => ?_⟩
  · have := List.all_eq_true.mp h1 _ (lookup_mem h)
    simp only at this
    rw [hk] at this
    simpa using this
  · have := List.all_eq_true.mp h2 _ (lookup_mem h)
    simpa using this
def spCall (K : PySem.W.Frag) (f : Rt → D → Bool) : Sp := fun vs H Q _ => ∃ d v rt z, vs = [v, z] ∧ Rp K H d v ∧ Sm d ∧ IsRt K H rt z ∧ RtOk rt ∧ RetV (.bl (f rt d)) H Q
theorem spCall_v {K : PySem.W.Frag} {f : Rt → D → Bool} {H : Hp} {d : D} {v z : V} {rt : Rt} (r : Rp K H d v) (h : Sm d) (hr : IsRt K H rt z) (ok : RtOk rt) : SpV (spCall K f) ([v, z] ++ []) H (.bl (f rt d)) := fun H1 e Q q _ =>
  ⟨d, v, rt, z, rfl, r.mono e, h, hr.mono e, ok, fun H2 e2 => q H2 e2⟩
theorem sm_arg {d0 d : D} {l : List D} (h : Sm (.tup (d0 :: l))) (hd : d ∈ (d0 :: l).drop 1) : Sm d := by
  obtain ⟨i, hi⟩ := List.getElem?_of_mem hd
  exact h.item (i := i + 1) (by simpa using hi)
section
variable {K : PySem.W.Frag} {H : Hp} {σ : L2.St} {te : TE} {tz : TS} {Dd : Ends}
theorem q_unpack2 {i j : Nat} {t : Addr} {x y : V} (h : Ev te σ H (.ref t)) (ht : ∀ H1, Ex H H1 → SqT K H1 t [x, y]) (k : ∀ H1, Ex H H1 → tz Dd ((σ.set i (some x)).set j (some y)) H1) :
    tSeq (tAsg te (gTup K 2 (gCons (gName i) (gCons (gName j) gNil)))) tz Dd σ H :=
  h H (Ex.refl H) _ fun H1 e => ⟨t, [x, y], rfl, ht H1 e, rfl, x, [y], rfl, y, [], rfl, rfl, k H1 e⟩
end
section
variable {P : Program} {w : World} {K : PySem.W.Frag} {mg : Str → Option Value} {base : Heap}
theorem sc26 : FnScope ["op", "word", "routines"] ["op", "word", "routines"] (defScope (top 26)) := ⟨rfl, rfl, rfl, by decide +kernel, rfl, by decide +kernel, by decide +kernel⟩
theorem ok_named (B : Bl mg) (F : Df K mg "names_routine" (top 26) ["op", "word", "routines"]) (O : Okd P w K mg base CX0 1 "is_plain_routine" ["word", "routines"] (spPlR K)) : Okd P w K mg base CX0 2 "names_routine" ["op", "word", "routines"] (spNamed K) := by
  refine F.ok sc26 (fun vs H Q E h => by obtain ⟨op, d, v, rt, z, rfl, _⟩ := h; rfl) (fun f cdv A outer s H vs Q E hr h => ?_)
  obtain ⟨op, d, v, rt, z, rfl, r, hz, ok, k⟩ := h
  obtain ⟨a, kvs, rfl, hR, hK⟩ := id hz
  obtain ⟨f_is_plain_routine, d_is_plain_routine, m_is_plain_routine, k_is_plain_routine, b_is_plain_routine, G_is_plain_routine⟩ := O.ex
  have hu := hu_of hr
  refine ⟨_, (pss_cons (ps_if (pt_cmpR op_eq (pv 0) pe_str (nomark _)) (pss_one (ps_ret (pe_and (pe_callB call_isi (by rfl) B.isinstance boot_isinstance (pa_cons (pv 1) (pa_cons (pe_bltn (v := .ty "str") (by rfl) B.str boot_str rfl) pa_nil))) (pe_one (pe_cmp (pc_din hu (pv 1) (pv 2))))))) pss_nil)
      (pss_cons (ps_if (PW.pt (pw_and (pt_cmpR op_eq (pv 0) pe_str (nomark _)) (pw_and1 (pt_cmpR op_isN1 (pv 1) pe_non (nomark _))))) (pss_one (ps_ret pe_bl)) pss_nil)
      (pss_one (ps_ret (pe_call G_is_plain_routine (hr.mono (by first | decide | omega)) (by rfl) m_is_plain_routine k_is_plain_routine b_is_plain_routine .nil pass0 (pa_cons (pv 1) (pa_cons (pv 2) pa_nil))))))), ?_⟩
  refine q_when (et_test (ev_op (ev_var rfl) ev_c (rv_eq rfl))) (fun h1 H1 e => ?_) (fun h1 H1 e => ?_)
  · have ho : op = "call" := by
      have := of_decide_eq_true h1
      injection this
    have q : named rt op d = (isStr d && (match d with | .str w => knw rt w | _ => false)) := by
      unfold named
      rw [if_pos ho]
      cases d <;> rfl
    refine s_ret (v := .bl (named rt op d)) ?_ fun H2 e2 => k H2 (e.trans e2)
    rw [q]
    refine ev_andV (ev_isi (r.mono e) (ev_var rfl) (kit_str d)) fun hs => ?_
    obtain ⟨x, rfl⟩ := str_of hs
    cases r
    refine ev_is (ev_din (ev_var rfl) (ev_var rfl) (ex_rd e hR)) ?_
    show V.bl _ = V.bl (knw rt x)
    unfold knw
    rcases hK.val x with ⟨g1, g2⟩ | ⟨d, v, g1, g2, _⟩
    · rw [g1, g2]; rfl
    · rw [g1, g2]; rfl
  · have ho : ¬ op = "call" := by
      intro z
      rw [z] at h1
      exact absurd h1 (by simp)
    refine q_when (et_and (et_test (ev_op (ev_var rfl) ev_c (rv_eq rfl))) fun _ => et_test (ev_op (ev_var rfl) ev_c rv_isN)) (fun h2 H2 e2 => ?_) (fun h2 H2 e2 => ?_)
    · have q : named rt op d = true := by
        unfold named
        rw [if_neg ho]
        have : (decide (op = "handler") && isNoneD d) = true := by
          rw [← r.isN]
          rw [← h2]
          exact congrArg (· && _) (decide_eq_decide.mpr ⟨fun z => by rw [z], fun z => by injection z⟩)
        rw [if_pos this]
      refine s_ret (v := .bl (named rt op d)) (by rw [q]; exact ev_c) fun H3 e3 => k H3 ((e.trans e2).trans e3)
    · have q : named rt op d = isPlR rt d := by
        unfold named
        rw [if_neg ho]
        have : ¬ (decide (op = "handler") && isNoneD d) = true := by
          rw [← r.isN]
          have : (decide (V.str op = V.str "handler") && decide (v = V.non)) = (decide (op = "handler") && decide (v = V.non)) := congrArg (· && _) (decide_eq_decide.mpr ⟨fun z => by injection z, fun z => by rw [z]⟩)
          rw [← this, h2]
          exact Bool.false_ne_true
        rw [if_neg this]
      refine s_ret (v := .bl (named rt op d)) ?_ fun H3 e3 => k H3 ((e.trans e2).trans e3)
      rw [q]
      exact ev_call (ea_cons (ev_var rfl) (ea_cons (ev_var rfl) ea_nil)) fun H3 e3 Q q _ => ⟨d, v, rt, .ref a, rfl, r.mono ((e.trans e2).trans e3), (hz.mono (e.trans e2)).mono e3, ok, fun H4 e4 => q H4 e4⟩
theorem sc27 : FnScope ["call", "routines", "op", "least", "most", "arg"] ["call", "routines"] (defScope (top 27)) := ⟨rfl, rfl, rfl, by decide +kernel, rfl, by decide +kernel, by decide +kernel⟩
theorem ok_call (B : Bl mg) (T : Tb K w mg) (F : Df K mg "is_call" (top 27) ["call", "routines"]) (O1 : Okd P w K mg base CX0 3 "is_arg" ["value"] (spB1 K Sm isArg)) (O2 : Okd P w K mg base CX0 1 "is_name" ["value"] (spB1 K Sm isName))
    (O3 : Okd P w K mg base CX0 2 "names_routine" ["op", "word", "routines"] (spNamed K)) : Okd P w K mg base CX0 4 "is_call" ["call", "routines"] (spCall K isCallD) := by
  refine F.ok sc27 (fun vs H Q E h => by obtain ⟨d, v, rt, z, rfl, _⟩ := h; rfl) (fun f cdv A outer s H vs Q E hr h => ?_)
  obtain ⟨d, v, rt, z, rfl, r, sm, hz, ok, k⟩ := h
  obtain ⟨f_is_arg, d_is_arg, m_is_arg, k_is_arg, b_is_arg, G_is_arg⟩ := O1.ex
  obtain ⟨f_is_name, d_is_name, m_is_name, k_is_name, b_is_name, G_is_name⟩ := O2.ex
  obtain ⟨f_names_routine, d_names_routine, m_names_routine, k_names_routine, b_names_routine, G_names_routine⟩ := O3.ex
  obtain ⟨aA, u_ARITIES, esA, nA, c_ARITIES, r_ARITIES, kA, noA, yesA⟩ := T.ar
  obtain ⟨aR, u_ROUTINE_AT, esR, nR, c_ROUTINE_AT, r_ROUTINE_AT, kR, noR, yesR⟩ := T.ro
  obtain ⟨aB, u_BARRED, c_BARRED, r_BARRED, qB⟩ := T.barred
  have hu := hu_of hr
  refine ⟨_, (pss_cons (ps_if (PW.pt (pw_or (pt_not (pt_val (pe_callB call_isi (by rfl) B.isinstance boot_isinstance (pa_cons (pv 0) (pa_cons (pe_bltn (v := .ty "tuple") (by rfl) B.tuple boot_tuple rfl) pa_nil))))) (pw_or1 (pt_cmpR op_eq (pe_callB call_lenQ (by rfl) B.len PySem.boot_len (pa_cons (pv 0) pa_nil)) pe_int (nomark _))))) (pss_one (ps_ret pe_bl)) pss_nil)
      (pss_cons (ps_set (i := 2) sc27.nd rfl (Or.inl rfl) (pe_ix ix_tup (pv 0) pe_int (fun _ _ => rfl)))
      (pss_cons (ps_if (PW.pt (pw_or (pt_not (pt_val (pe_callB call_isi (by rfl) B.isinstance boot_isinstance (pa_cons (pv 2) (pa_cons (pe_bltn (v := .ty "str") (by rfl) B.str boot_str rfl) pa_nil))))) (pw_or1 (pt_cmpR (op_notInKd kA) (pv 2) (pe_glob (by rfl) c_ARITIES r_ARITIES) rfl)))) (pss_one (ps_ret pe_bl)) pss_nil)
      (pss_cons (ps_asg (pe_ix ix_kdict (pe_glob (by rfl) c_ARITIES r_ARITIES) (pv 2) (fun _ _ => rfl)) (pg_tup (by rfl) (pgs_cons (pg_name (i := 3) sc27.nd rfl (Or.inl rfl)) (pgs_cons (pg_name (i := 4) sc27.nd rfl (Or.inl rfl)) pgs_nil))))
      (pss_cons (ps_if (PW.pt (pw_or (pt_not (pt_chain op_le2 op_le2 (pv 3) (pe_op op_sub (pe_callB call_lenQ (by rfl) B.len PySem.boot_len (pa_cons (pv 0) pa_nil)) pe_int) (pv 4))) (pw_or1 (pt_not (pt_val (pe_callB (cr_all rfl) (by rfl) B.all boot_all (pa_cons (pe_lc (own := [("arg", 5)]) (g := gName 5) (tt := tYes) rfl sc27.nd (pi_tup (pe_slice sl_tup (pv 0) (po_some pe_int) po_none)) (blkOk_by (N := ["call", "routines", "op", "least", "most", "arg"]) (sc := defScope (top 27)) (by decide +kernel)) (fun _ _ _ _ _ => (pg_name (i := 5) sc27.nd rfl (Or.inl rfl))) (fun _ _ _ _ _ => pts_nil) (fun _ _ _ _ _ => (pe_call G_is_arg (hr.mono (by first | decide | omega)) (by rfl) m_is_arg k_is_arg b_is_arg .nil pass0 (pa_cons (pv 5) pa_nil)))) pa_nil))))))) (pss_one (ps_ret pe_bl)) pss_nil)
      (pss_cons (ps_if (pt_cmpR op_eq (pv 2) pe_str (nomark _)) (pss_one (ps_ret (pe_and (pe_call G_is_name (hr.mono (by first | decide | omega)) (by rfl) m_is_name k_is_name b_is_name .nil pass0 (pa_cons (pe_ix ix_tup (pv 0) pe_int (fun _ _ => rfl)) pa_nil)) (pe_one (pe_cmpR op_notIn_seq (pe_ix ix_tup (pv 0) pe_int (fun _ _ => rfl)) (pe_glob (by rfl) c_BARRED r_BARRED) rfl))))) pss_nil)
      (pss_cons (ps_if (pt_cmpR (op_inKd kR) (pv 2) (pe_glob (by rfl) c_ROUTINE_AT r_ROUTINE_AT) rfl) (pss_one (ps_ret (pe_call G_names_routine (hr.mono (by first | decide | omega)) (by rfl) m_names_routine k_names_routine b_names_routine .nil pass0 (pa_cons (pv 2) (pa_cons (pe_ix ix_tup (pv 0) (pe_ix ix_kdict (pe_glob (by rfl) c_ROUTINE_AT r_ROUTINE_AT) (pv 2) (fun _ _ => rfl)) (fun _ _ => rfl)) (pa_cons (pv 1) pa_nil)))))) pss_nil)
      (pss_one (ps_ret pe_bl))))))))), ?_⟩
  cases hs : isTup d with
  | false =>
    have q : isCallD rt d = false := by cases d <;> first | rfl | cases hs
    refine q_when (b := !(isTup d) || true) (et_or (et_not (et_B (ev_isi r (ev_var rfl) (kit_tup d)))) (fun ha => by rw [hs] at ha; cases ha)) (fun _ H1 e => s_ret ev_c fun H2 e2 => ?_) (fun hb => by rw [hs] at hb; cases hb)
    rw [← q]
    exact k H2 (e.trans e2)
  | true =>
    cases r with
    | tup ha rs =>
      rename_i a vs ds
      have hlen : ds.length ≤ 39000 := sm.tlen
      refine q_when (et_or (et_not (et_B (ev_isi (Rp.tup ha rs) (ev_var rfl) (kit_tup (.tup ds))))) (fun _ => et_test (ev_op (ev_lenT (ev_var rfl) (st_of ha)) ev_c (rv_eq rfl)))) (fun hb H1 e => ?_) (fun hb H1 e => ?_)
      · have hd : ds = [] := by
          have hb' : decide (V.int (vs.length : Int) = V.int 0) = true := hb
          have := of_decide_eq_true hb'
          injection this with this
          have h1 := rs.len
          cases ds with
          | nil => rfl
          | cons a l => rw [h1] at this; simp at this; omega
        subst hd
        exact s_ret ev_c fun H2 e2 => k H2 (e.trans e2)
      · cases ds with
        | nil =>
          cases rs
          exact absurd hb (by decide +kernel)
        | cons d0 args =>
          obtain ⟨v0, g0, r0⟩ := rs.get (i := 0) (d := d0) rfl
          have ha1 := e _ _ ha
          refine q_asg (ev_op (ev_var rfl) ev_c (rv_ixT (st_of ha1) (atI_nat (j := 0) g0))) fun H2 e2 => ?_
          have ha2 := e2 _ _ ha1
          have e02 := e.trans e2
          cases hs0 : isStr d0 with
          | false =>
            have q : isCallD rt (.tup (d0 :: args)) = false := by cases d0 <;> first | rfl | cases hs0
            refine q_when (b := !(isStr d0) || true) (et_or (et_not (et_B (ev_isi (r0.mono e02) (ev_var rfl) (kit_str d0)))) (fun ha => by rw [hs0] at ha; cases ha)) (fun _ H3 e3 => s_ret ev_c fun H4 e4 => ?_) (fun hb => by rw [hs0] at hb; cases hb)
            rw [← q]
            exact k H4 ((e02.trans e3).trans e4)
          | true =>
            obtain ⟨op, rfl⟩ := str_of hs0
            cases r0
            cases hAr : arity op with
            | none =>
              have q : isCallD rt (.tup (.str op :: args)) = false := by
                show callOk rt op args = false
                unfold callOk
                rw [hAr]
              refine q_when (et_or (et_not (et_B (ev_isi (Rp.str op) (ev_var rfl) (kit_str (.str op))))) (fun _ => et_test (ev_op (ev_var rfl) ev_c (rv_niKd (noA op hAr))))) (fun _ H3 e3 => s_ret ev_c fun H4 e4 => ?_) (fun hb => nomatch hb)
              rw [← q]
              exact k H4 ((e02.trans e3).trans e4)
            | some lh =>
              obtain ⟨lo, hi⟩ := lh
              obtain ⟨t, ut, n1, n2, n3⟩ := yesA op lo hi hAr
              refine q_when (et_or (et_not (et_B (ev_isi (Rp.str op) (ev_var rfl) (kit_str (.str op))))) (fun _ => et_test (ev_op (ev_var rfl) ev_c (rv_niKd n1)))) (fun hb => nomatch hb) (fun _ H3 e3 => ?_)
              have e03 := e02.trans e3
              have ha3 := e3 _ _ ha2
              have hz3 := hz.mono e03
              refine q_unpack2 (ev_op ev_c (ev_var rfl) (rv_ixKd kA n1 n2)) (fun H4 _ => n3 H4) fun H4 e4 => ?_
              have e04 := e03.trans e4
              have ha4 := e4 _ _ ha3
              have rs4 := rs.mono e04
              have hl : (vs.length : Int) - 1 = (args.length : Int) := by
                rw [rs.len, List.length_cons]
                omega
              have h0 : ((.str op : D) :: args) ≠ [] := by simp
              refine q_when (b := !(decide (lo ≤ ((args.length : Nat) : Int)) && decide (((args.length : Nat) : Int) ≤ hi)) || !(args.all isArg)) (et_or (et_not (et_chain (ev_var rfl) (ev_is (ev_op (ev_lenT (ev_var rfl) (st_of ha4)) ev_c rv_I0) (congrArg V.int hl)) rv_le (fun _ => ev_var rfl) (fun _ => rv_le)))
                (fun _ => et_not (et_B (ev_allW (wk_tupP (evp_sl1 (ev_var rfl) ha4 rs4 h0)) (Nat.le_trans (by simp) (Nat.le_trans hlen (by decide))) (fun _ => rfl) fun d x H5 hd e5 rx => ev_call (ea_cons (ev_var rfl) ea_nil) (spB1_v rx (sm_arg sm hd)))))) (fun hb H5 e5 => s_ret ev_c fun H6 e6 => ?_) (fun hb H5 e5 => ?_)
              · have q : isCallD rt (.tup (.str op :: args)) = false := by
                  show callOk rt op args = false
                  unfold callOk
                  rw [hAr]
                  rw [← Bool.not_and, Bool.not_eq_true'] at hb
                  show ((decide (lo ≤ ((args.length : Nat) : Int)) && decide (((args.length : Nat) : Int) ≤ hi) && args.all isArg) && tailOk rt op args) = false
                  rw [hb, Bool.false_and]
                rw [← q]
                exact k H6 ((e04.trans e5).trans e6)
              · have hc : (decide (lo ≤ ((args.length : Nat) : Int)) && decide (((args.length : Nat) : Int) ≤ hi) && args.all isArg) = true := by
                  rw [← Bool.not_and, Bool.not_eq_false'] at hb
                  exact hb
                have q : isCallD rt (.tup (.str op :: args)) = tailOk rt op args := by
                  show callOk rt op args = _
                  unfold callOk
                  rw [hAr]
                  show ((decide (lo ≤ ((args.length : Nat) : Int)) && decide (((args.length : Nat) : Int) ≤ hi) && args.all isArg) && tailOk rt op args) = _
                  rw [hc, Bool.true_and]
                have hlo : lo ≤ ((args.length : Nat) : Int) := by
                  simp only [Bool.and_eq_true, decide_eq_true_eq] at hc
                  exact hc.1.1
                have e05 := e04.trans e5
                have ha5 := e5 _ _ ha4
                have rs5 := rs4.mono e5
                have hz5 := hz.mono e05
                refine q_when (et_test (ev_op (ev_var rfl) ev_c (rv_eq rfl))) (fun h1 H6 e6 => ?_) (fun h1 H6 e6 => ?_)
                · have ho : op = "fault" := by
                    have := of_decide_eq_true h1
                    injection this
                  subst ho
                  have hlo1 := tie.fault lo hi hAr
                  cases args with
                  | nil => simp at hlo; omega
                  | cons d1 args =>
                    obtain ⟨v1, g1, r1⟩ := rs5.get (i := 1) (d := d1) rfl
                    have q2 : tailOk rt "fault" (d1 :: args) = (isName d1 && !(match d1 with | .str s => inStrs barredL s | _ => false)) := by
                      show (if ("fault" : Str) = "fault" then faultOk d1 else _) = _
                      rw [if_pos rfl]
                      cases d1 <;> rfl
                    refine s_ret (v := .bl (isCallD rt (.tup (.str "fault" :: d1 :: args)))) ?_ fun H7 e7 => k H7 ((e05.trans e6).trans e7)
                    rw [q, q2]
                    have e1 : Ev (tOp (rIxT K) (tVar 0) (tC (.int 1))) _ H6 v1 := ev_op (ev_var (σ := [some (.ref a), some z, some (.str "fault"), some (.int lo), some (.int hi), none]) rfl) ev_c (rv_ixT (st_of (e6 _ _ ha5)) (atI_nat (j := 1) g1))
                    refine ev_andV (ev_call (ea_cons e1 ea_nil) (spB1_v (r1.mono e6) (sm_arg sm (by simp)))) fun hn => ?_
                    obtain ⟨x, rfl⟩ : ∃ x, d1 = .str x := by
                      cases d1 <;> first | exact ⟨_, rfl⟩ | cases hn
                    cases r1
                    refine ev_is (ev_op e1 ev_c (rv_niT (qB H6) rfl (flat_strs _))) ?_
                    rw [inV_strs]
                · have ho : ¬ op = "fault" := by
                    intro z
                    rw [z] at h1
                    exact absurd h1 (by simp)
                  have q2 : tailOk rt op args = (match routAt op with | none => true | some k => (match args[(k - 1).toNat]? with | some a => named rt op a | none => false)) := by
                    unfold tailOk
                    rw [if_neg ho]
                  cases hRo : routAt op with
                  | none =>
                    rw [hRo] at q2
                    refine q_when (et_test (ev_op (ev_var rfl) ev_c (rv_inKd (noR op hRo)))) (fun hb => nomatch hb) (fun _ H7 e7 => s_ret ev_c fun H8 e8 => ?_)
                    rw [← show isCallD rt (.tup (.str op :: args)) = true by rw [q, q2]]
                    exact k H8 (((e05.trans e6).trans e7).trans e8)
                  | some kk =>
                    rw [hRo] at q2
                    obtain ⟨ur, m1, m2⟩ := yesR op kk hRo
                    obtain ⟨k1, k2⟩ := tie.ro op lo hi kk hAr hRo
                    have hk : (kk - 1).toNat < args.length := by omega
                    have hkk : kk = (((kk - 1).toNat + 1 : Nat) : Int) := by omega
                    have g0' : args[(kk - 1).toNat]? = some args[(kk - 1).toNat] := List.getElem?_eq_getElem hk
                    obtain ⟨v1, g1, r1⟩ := rs5.get (i := (kk - 1).toNat + 1) (d := args[(kk - 1).toNat]) (by simpa using g0')
                    have q3 : tailOk rt op args = named rt op args[(kk - 1).toNat] := by
                      rw [q2]
                      show (match args[(kk - 1).toNat]? with | some a => named rt op a | none => false) = _
                      rw [g0']
                    refine q_when (et_test (ev_op (ev_var rfl) ev_c (rv_inKd m1))) (fun _ H7 e7 => ?_) (fun hb => nomatch hb)
                    have e67 := e6.trans e7
                    have e57 := e05.trans e67
                    refine s_ret (v := .bl (isCallD rt (.tup (.str op :: args)))) ?_ fun H8 e8 => k H8 (e57.trans e8)
                    rw [q, q3]
                    refine ev_call (ea_cons (ev_var rfl) (ea_cons (ev_op (ev_var rfl) (ev_op ev_c (ev_var rfl) (rv_ixKd kR m1 m2)) (rv_ixT (st_of (e67 _ _ ha5)) (by rw [hkk]; exact atI_nat g1))) (ea_cons (ev_var rfl) ea_nil))) ?_
                    exact fun H9 e9 Q q _ => ⟨op, args[(kk - 1).toNat], v1, rt, z, rfl, (r1.mono e67).mono e9, (hz.mono e57).mono e9, ok, fun H10 e10 => q H10 e10⟩
    | _ => cases hs
end
end K2
/-! is_target, is_handler, is_part, is_step. -/
namespace K2
open PySem L2 Evl PySem.Spec PyProof.Rows RZ
def isTarget (d : D) : Bool := isNoneD d || isName d
def kindsOk : D → Bool
  | .tup l => !l.isEmpty && l.all isName
  | _ => false
def isHandler : D → Bool
  | .tup [ks, t, b] => kindsOk ks && (isTarget t && isTup b)
  | _ => false
def handlersOk : D → Bool
  | .tup l => l.all isHandler
  | _ => false
def partOk (rt : Rt) (sh : Str) (d : D) : Bool :=
  if sh = "call" then isCallD rt d else if sh = "name" then isName d else if sh = "target" then isTarget d else if sh = "arg" then isArg d else if sh = "body" then isTup d else handlersOk d
def zipOk (rt : Rt) : List Str → List D → Bool
  | a :: l, d :: ds => partOk rt a d && zipOk rt l ds
  | _, _ => true
def stepOk (rt : Rt) (async inLoop : Bool) (word : Str) (parts : List D) : Bool :=
  if word = "say" ∨ (word = "raise" ∧ parts.length ≤ 1) then parts.all isArg
  else match shape word with
    | none => false
    | some sh => if parts.length ≠ sh.length then false
      else if (decide (word = "break") && !inLoop || inStrs asyncL word && !async) = true then false
      else zipOk rt sh parts
def isStepD (rt : Rt) (async inLoop : Bool) : D → Bool
  | .tup (.str word :: parts) => stepOk rt async inLoop word parts
  | _ => false
theorem decV_str (a b : Str) : decide (V.str a = V.str b) = decide (a = b) := decide_eq_decide.mpr ⟨fun z => by injection z, fun z => by rw [z]⟩
section
variable {K : PySem.W.Frag} {a b : Addr} {xs ys : List V}
theorem walk_zipT {n : Nat} (hn : n = min xs.length ys.length) : Walk (ItzT K a b) n (fun H => SqT K H a xs ∧ SqT K H b ys) (YPair (fun i => xs[i]?) (fun i => ys[i]?)) := by
  subst hn
  refine ⟨fun i _ hi q => ?_, fun _ q => ⟨xs, ys, q.1, q.2, by omega⟩, fun i H v H' _ q y => ?_⟩
  · have h1 : i < xs.length := by omega
    have h2 : i < ys.length := by omega
    exact ⟨xs, ys, xs[i], ys[i], q.1, q.2, by simp [h1], by simp [h2]⟩
  · obtain ⟨T, x, z, h1, h2, h3, h4, h5⟩ := y
    exact ⟨T, x, z, h1, h2, h3, h4 xs q.1, h5 ys q.2⟩
/-- zip of a tuple of texts and a tuple of data -/
theorem wk_zip {σ : L2.St} {H : Hp} {ta tb : TE} {l : List Str} {ds : List D} {vs : List V} (ha : Ev ta σ H (.ref a)) (hb : Ev tb σ H (.ref b)) (h1 : ∀ H1, Ex H H1 → SqT K H1 a (l.map V.str)) (h2 : H b = some (.tup vs)) (r : Rps K H ds vs) (hn : l.length = ds.length) :
    Wk (iZipA K (tCons ta (tCons tb tNil))) σ H ds.length (fun i H1 x => ∃ T s d v, x = .ref T ∧ H1 T = some (.tup [.str s, v]) ∧ l[i]? = some s ∧ ds[i]? = some d ∧ Rp K H1 d v) := fun H1 e R k =>
  ha H1 e _ fun H2 e2 => hb H2 (e.trans e2) _ fun H3 e3 => by
    have e03 := (e.trans e2).trans e3
    refine ⟨a, b, l.map V.str, vs, rfl, .inr ⟨h1 H3 e03, st_of (e03 _ _ h2), ?_⟩⟩
    have hm : ds.length = min (l.map V.str).length vs.length := by
      rw [List.length_map, r.len, hn, Nat.min_self]
    refine k _ _ _ H3 (e2.trans e3) (walk_zipT (K := K) (xs := l.map V.str) (ys := vs) hm) (fun H4 e4 => ⟨h1 H4 (e03.trans e4), st_of ((e03.trans e4) _ _ h2)⟩) fun i H4 x H5 hi e4 y => ?_
    obtain ⟨T, x1, y1, rfl, hT, rfl, g1, g2⟩ := y
    have e5 : Ex H4 (upd H4 T (.tup [x1, y1])) := Ex.new hT
    have g1' : (l.map V.str)[i]? = some x1 := g1
    rw [List.getElem?_map] at g1'
    cases hl : l[i]? with
    | none => rw [hl] at g1'; cases g1'
    | some s =>
      rw [hl] at g1'
      cases g1'
      obtain ⟨d, q1, q2⟩ := r.at_ g2
      exact ⟨e5, T, s, d, y1, rfl, upd_same, hl, q1, q2.mono ((e03.trans e4).trans e5)⟩
theorem el_lcBg {σ : L2.St} {H : Hp} {te : TE} {g : TG} {wi : TI} {vs : List Nat} {n : Nat} {P : Nat → Hp → V → Prop} (f : Nat → Bool) (W : Wk wi σ H n P) (hn : n ≤ 40000)
    (turn : ∀ i x H1, i < n → Ex H H1 → P i H1 x → ∀ Z : L2.St → Hp → Prop, (∀ σ2 H2, Ex H1 H2 → wipe σ2 vs = wipe σ vs → Ev te σ2 H2 (.bl (f i)) → Z σ2 H2) → g x (wipe σ vs) H1 Z) :
    EvL (tLc wi g tYes te vs) σ H (((List.range n).map f).map V.bl) := fun H0 e0 Q q =>
  el_lc (fun _ => true) (fun i _ y => y = .bl (f i)) W hn (fun _ _ _ _ _ r => r)
    (fun i x H1 hi e px Z k => turn i x H1 hi e px Z fun σ2 H2 e2 hw he => k σ2 H2 e2 hw (fun H2 e2 Q q => q H2 (Ex.refl _)) fun _ => evp he fun _ _ => rfl) H0 e0 Q fun p xs H2 hp e2 hl pl => by
      rw [kept_all] at pl
      rw [given_bools (H2 := H2) pl] at hl
      exact q p H2 hp e2 hl
theorem ev_len0 {σ : L2.St} {H : Hp} {ta : TE} {vs : List V} (ha : Ev ta σ H (.ref a)) (h : H a = some (.tup vs)) : Ev (tOp rEq (tCB (rLenQ K) (tCons ta tNil)) (tC (.int 0))) σ H (.bl vs.isEmpty) :=
  ev_is (ev_op (ev_lenT ha (st_of h)) ev_c (rv_eq rfl)) (by
    cases vs with
    | nil => rfl
    | cons x l => exact congrArg V.bl (decide_eq_false fun z => by injection z with z; simp at z; omega))
end
section
variable {K : PySem.W.Frag} {H : Hp} {σ : L2.St} {te : TE} {tz : TS} {Dd : Ends}
theorem q_unpack3 {i j l : Nat} {t : Addr} {x y z : V} (h : Ev te σ H (.ref t)) (ht : ∀ H1, Ex H H1 → SqT K H1 t [x, y, z]) (k : ∀ H1, Ex H H1 → tz Dd (((σ.set i (some x)).set j (some y)).set l (some z)) H1) :
    tSeq (tAsg te (gTup K 3 (gCons (gName i) (gCons (gName j) (gCons (gName l) gNil))))) tz Dd σ H :=
  h H (Ex.refl H) _ fun H1 e => ⟨t, [x, y, z], rfl, ht H1 e, rfl, x, [y, z], rfl, y, [z], rfl, z, [], rfl, rfl, k H1 e⟩
end
theorem Rps.empty {K : PySem.W.Frag} {H : Hp} {ds : List D} {vs : List V} (r : Rps K H ds vs) : vs.isEmpty = ds.isEmpty := by cases r <;> rfl
def spPart (K : PySem.W.Frag) : Sp := fun vs H Q _ => ∃ sh d v rt z, vs = [.str sh, v, z] ∧ Rp K H d v ∧ Sm d ∧ IsRt K H rt z ∧ RtOk rt ∧ RetV (.bl (partOk rt sh d)) H Q
def spStep (K : PySem.W.Frag) : Sp := fun vs H Q _ => ∃ d v kd il rt z, vs = [v, .str kd, .bl il, z] ∧ Rp K H d v ∧ Sm d ∧ IsRt K H rt z ∧ RtOk rt ∧ RetV (.bl (isStepD rt (decide (kd = "async")) il d)) H Q
section
variable {P : Program} {w : World} {K : PySem.W.Frag} {mg : Str → Option Value} {base : Heap}
theorem sc28 : FnScope ["value"] ["value"] (defScope (top 28)) := ⟨rfl, rfl, rfl, by decide +kernel, rfl, by decide +kernel, by decide +kernel⟩
theorem ok_target (B : Bl mg) (F : Df K mg "is_target" (top 28) ["value"]) (O : Okd P w K mg base CX0 1 "is_name" ["value"] (spB1 K Sm isName)) : Okd P w K mg base CX0 2 "is_target" ["value"] (spB1 K Sm isTarget) := by
  refine F.ok sc28 (fun vs H Q E h => spB1_len h) (fun f cdv A outer s H vs Q E hr h => ?_)
  obtain ⟨d, v, rfl, r, sm, k⟩ := h
  obtain ⟨f_is_name, d_is_name, m_is_name, k_is_name, b_is_name, G_is_name⟩ := O.ex
  refine ⟨_, (pss_one (ps_ret (pe_or (pe_cmpR op_isN1 (pv 0) pe_non (nomark _)) (pe_one (pe_call G_is_name (hr.mono (by first | decide | omega)) (by rfl) m_is_name k_is_name b_is_name .nil pass0 (pa_cons (pv 0) pa_nil)))))), ?_⟩
  exact s_ret (v := .bl (isTarget d)) (ev_orV (ev_is (ev_op (ev_var rfl) ev_c rv_isN) (congrArg V.bl r.isN)) fun _ => ev_call (ea_cons (ev_var rfl) ea_nil) (spB1_v r sm)) fun H2 e2 => k H2 e2
theorem sc29 : FnScope ["handler", "kinds", "target", "body", "kind"] ["handler"] (defScope (top 29)) := ⟨rfl, rfl, rfl, by decide +kernel, rfl, by decide +kernel, by decide +kernel⟩
theorem ok_handler (B : Bl mg) (F : Df K mg "is_handler" (top 29) ["handler"]) (O : Okd P w K mg base CX0 1 "is_name" ["value"] (spB1 K Sm isName)) (O2 : Okd P w K mg base CX0 2 "is_target" ["value"] (spB1 K Sm isTarget)) :
    Okd P w K mg base CX0 3 "is_handler" ["handler"] (spB1 K Sm isHandler) := by
  refine F.ok sc29 (fun vs H Q E h => spB1_len h) (fun f cdv A outer s H vs Q E hr h => ?_)
  obtain ⟨d, v, rfl, r, sm, k⟩ := h
  obtain ⟨f_is_name, d_is_name, m_is_name, k_is_name, b_is_name, G_is_name⟩ := O.ex
  obtain ⟨f_is_target, d_is_target, m_is_target, k_is_target, b_is_target, G_is_target⟩ := O2.ex
  refine ⟨_, (pss_cons (ps_if (PW.pt (pw_or (pt_not (pt_val (pe_callB call_isi (by rfl) B.isinstance boot_isinstance (pa_cons (pv 0) (pa_cons (pe_bltn (v := .ty "tuple") (by rfl) B.tuple boot_tuple rfl) pa_nil))))) (pw_or1 (pt_cmpR op_ne (pe_callB call_lenQ (by rfl) B.len PySem.boot_len (pa_cons (pv 0) pa_nil)) pe_int (nomark _))))) (pss_one (ps_ret pe_bl)) pss_nil)
      (pss_cons (ps_asg (pv 0) (pg_tup (by rfl) (pgs_cons (pg_name (i := 1) sc29.nd rfl (Or.inl rfl)) (pgs_cons (pg_name (i := 2) sc29.nd rfl (Or.inl rfl)) (pgs_cons (pg_name (i := 3) sc29.nd rfl (Or.inl rfl)) pgs_nil)))))
      (pss_cons (ps_if (PW.pt (pw_or (pt_not (pt_val (pe_callB call_isi (by rfl) B.isinstance boot_isinstance (pa_cons (pv 1) (pa_cons (pe_bltn (v := .ty "tuple") (by rfl) B.tuple boot_tuple rfl) pa_nil))))) (pw_or (pt_cmpR op_eq (pe_callB call_lenQ (by rfl) B.len PySem.boot_len (pa_cons (pv 1) pa_nil)) pe_int (nomark _)) (pw_or1 (pt_not (pt_val (pe_callB (cr_all rfl) (by rfl) B.all boot_all (pa_cons (pe_lc (own := [("kind", 4)]) (g := gName 4) (tt := tYes) rfl sc29.nd (pi_tup (pv 1)) (blkOk_by (N := ["handler", "kinds", "target", "body", "kind"]) (sc := defScope (top 29)) (by decide +kernel)) (fun _ _ _ _ _ => (pg_name (i := 4) sc29.nd rfl (Or.inl rfl))) (fun _ _ _ _ _ => pts_nil) (fun _ _ _ _ _ => (pe_call G_is_name (hr.mono (by first | decide | omega)) (by rfl) m_is_name k_is_name b_is_name .nil pass0 (pa_cons (pv 4) pa_nil)))) pa_nil)))))))) (pss_one (ps_ret pe_bl)) pss_nil)
      (pss_one (ps_ret (pe_and (pe_call G_is_target (hr.mono (by first | decide | omega)) (by rfl) m_is_target k_is_target b_is_target .nil pass0 (pa_cons (pv 2) pa_nil)) (pe_one (pe_callB call_isi (by rfl) B.isinstance boot_isinstance (pa_cons (pv 3) (pa_cons (pe_bltn (v := .ty "tuple") (by rfl) B.tuple boot_tuple rfl) pa_nil)))))))))), ?_⟩
  cases h3 : (isTup d && is3 d) with
  | false =>
    have q : isHandler d = false := by
      unfold isHandler
      split
      · cases h3
      · rfl
    refine q_when (b := !(isTup d) || !(is3 d)) (et_or (et_not (et_B (ev_isi r (ev_var rfl) (kit_tup d)))) (fun ht => ?_)) (fun _ H1 e => s_ret ev_c fun H2 e2 => ?_) (fun hb => by rw [← Bool.not_and, h3] at hb; cases hb)
    · cases r with
      | tup ha rs =>
        refine et_is (et_test (ev_op (ev_lenT (ev_var rfl) (st_of ha)) ev_c (rv_ne rfl))) ?_
        show (!decide (V.int _ = V.int 3)) = !(decide _)
        rw [rs.len]
        exact congrArg (!·) (decide_eq_decide.mpr ⟨fun z => by injection z, fun z => by rw [z]⟩)
      | _ => cases ht
    · rw [← q]
      exact k H2 (e.trans e2)
  | true =>
    rw [Bool.and_eq_true] at h3
    obtain ⟨ht, h3⟩ := h3
    cases r with
    | tup ha rs =>
      rename_i a vs ds
      obtain ⟨d0, d1, d2, rfl⟩ := is3_of h3
      obtain ⟨v0, g0, r0⟩ := rs.get (i := 0) (d := d0) rfl
      obtain ⟨v1, g1, r1⟩ := rs.get (i := 1) (d := d1) rfl
      obtain ⟨v2, g2, r2⟩ := rs.get (i := 2) (d := d2) rfl
      have hv : vs = [v0, v1, v2] := by
        have := rs.len
        match vs, this with
        | [x, y, z], _ => simp at g0 g1 g2; rw [g0, g1, g2]
      subst hv
      have s0 : Sm d0 := sm.item (i := 0) rfl
      have s1 : Sm d1 := sm.item (i := 1) rfl
      refine q_when (b := false) (et_is (et_or (et_not (et_B (ev_isi (Rp.tup ha rs) (ev_var rfl) (kit_tup _)))) (fun _ => et_test (ev_op (ev_lenT (ev_var rfl) (st_of ha)) ev_c (rv_ne rfl)))) rfl) (fun hb => nomatch hb) (fun _ H1 e => ?_)
      have ha1 := e _ _ ha
      refine q_unpack3 (ev_var rfl) (fun H2 e2 => st_of (e2 _ _ ha1)) fun H2 e2 => ?_
      have e02 := e.trans e2
      have r0' := r0.mono e02
      refine q_when (b := !(kindsOk d0)) ?_ (fun hb H3 e3 => s_ret ev_c fun H4 e4 => ?_) (fun hb H3 e3 => ?_)
      · cases ht0 : isTup d0 with
        | false => 
          have : kindsOk d0 = false := by cases d0 <;> first | rfl | cases ht0
          rw [this]
          refine et_is (et_or (b := true) (et_not (et_B (ev_isi r0' (ev_var rfl) (kit_tup d0)))) (fun z => by rw [ht0] at z; cases z)) (by rw [ht0]; rfl)
        | true =>
          cases r0' with
          | tup hk rk =>
            rename_i ak vk dk
            refine et_is (et_or (et_not (et_B (ev_isi (Rp.tup hk rk) (ev_var rfl) (kit_tup _)))) (fun _ => et_or (et_test (ev_len0 (ev_var rfl) hk)) (fun _ => et_not (et_B (ev_allW (wk_tup (ev_var rfl) hk rk) (by have := s0.tlen; omega) (fun _ => rfl) fun e x H3 he e3 rx => ev_call (ea_cons (ev_var rfl) ea_nil) (spB1_v rx ?_)))))) ?_
            · obtain ⟨i, hi⟩ := List.getElem?_of_mem he
              exact s0.item hi
            · show (false || (vk.isEmpty || !(dk.all isName))) = !(!dk.isEmpty && dk.all isName)
              rw [rk.empty]
              cases dk.isEmpty <;> cases dk.all isName <;> rfl
          | _ => cases ht0
      · have q : isHandler (.tup [d0, d1, d2]) = false := by
          show (kindsOk d0 && _) = false
          rw [Bool.not_eq_true'] at hb
          rw [hb]
          rfl
        rw [← q]
        exact k H4 ((e02.trans e3).trans e4)
      · have q : isHandler (.tup [d0, d1, d2]) = (isTarget d1 && isTup d2) := by
          show (kindsOk d0 && _) = _
          rw [Bool.not_eq_false'] at hb
          rw [hb]
          rfl
        have e03 := e02.trans e3
        refine s_ret (v := .bl (isHandler (.tup [d0, d1, d2]))) ?_ fun H4 e4 => k H4 (e03.trans e4)
        rw [q]
        exact ev_andV (ev_call (ea_cons (ev_var rfl) ea_nil) (spB1_v (r1.mono e03) s1)) fun _ => ev_isi (r2.mono e03) (ev_var rfl) (kit_tup d2)
    | _ => cases ht
theorem et_eqS {K : PySem.W.Frag} {σ : L2.St} {H : Hp} {ta : TE} {x y : Str} (ha : Ev ta σ H (.str x)) : EvT (tTest (tOp rEq ta (tC (.str y)))) σ H (decide (x = y)) := et_is (et_test (ev_op ha ev_c (rv_eq rfl))) (decV_str x y)
theorem sc30 : FnScope ["shape", "part", "routines", "handler"] ["shape", "part", "routines"] (defScope (top 30)) := ⟨rfl, rfl, rfl, by decide +kernel, rfl, by decide +kernel, by decide +kernel⟩
theorem ok_part (B : Bl mg) (F : Df K mg "is_part" (top 30) ["shape", "part", "routines"]) (O1 : Okd P w K mg base CX0 1 "is_name" ["value"] (spB1 K Sm isName)) (O2 : Okd P w K mg base CX0 2 "is_target" ["value"] (spB1 K Sm isTarget))
    (O3 : Okd P w K mg base CX0 4 "is_call" ["call", "routines"] (spCall K isCallD)) (O4 : Okd P w K mg base CX0 3 "is_arg" ["value"] (spB1 K Sm isArg)) (O5 : Okd P w K mg base CX0 3 "is_handler" ["handler"] (spB1 K Sm isHandler)) :
    Okd P w K mg base CX0 5 "is_part" ["shape", "part", "routines"] (spPart K) := by
  refine F.ok sc30 (fun vs H Q E h => by obtain ⟨sh, d, v, rt, z, rfl, _⟩ := h; rfl) (fun f cdv A outer s H vs Q E hr h => ?_)
  obtain ⟨sh, d, v, rt, z, rfl, r, sm, hz, ok, k⟩ := h
  obtain ⟨f_is_name, d_is_name, m_is_name, k_is_name, b_is_name, G_is_name⟩ := O1.ex
  obtain ⟨f_is_target, d_is_target, m_is_target, k_is_target, b_is_target, G_is_target⟩ := O2.ex
  obtain ⟨f_is_call, d_is_call, m_is_call, k_is_call, b_is_call, G_is_call⟩ := O3.ex
  obtain ⟨f_is_arg, d_is_arg, m_is_arg, k_is_arg, b_is_arg, G_is_arg⟩ := O4.ex
  obtain ⟨f_is_handler, d_is_handler, m_is_handler, k_is_handler, b_is_handler, G_is_handler⟩ := O5.ex
  refine ⟨_, (pss_cons (ps_if (pt_cmpR op_eq (pv 0) pe_str (nomark _)) (pss_one (ps_ret (pe_call G_is_call (hr.mono (by first | decide | omega)) (by rfl) m_is_call k_is_call b_is_call .nil pass0 (pa_cons (pv 1) (pa_cons (pv 2) pa_nil))))) pss_nil)
      (pss_cons (ps_if (pt_cmpR op_eq (pv 0) pe_str (nomark _)) (pss_one (ps_ret (pe_call G_is_name (hr.mono (by first | decide | omega)) (by rfl) m_is_name k_is_name b_is_name .nil pass0 (pa_cons (pv 1) pa_nil)))) pss_nil)
      (pss_cons (ps_if (pt_cmpR op_eq (pv 0) pe_str (nomark _)) (pss_one (ps_ret (pe_call G_is_target (hr.mono (by first | decide | omega)) (by rfl) m_is_target k_is_target b_is_target .nil pass0 (pa_cons (pv 1) pa_nil)))) pss_nil)
      (pss_cons (ps_if (pt_cmpR op_eq (pv 0) pe_str (nomark _)) (pss_one (ps_ret (pe_call G_is_arg (hr.mono (by first | decide | omega)) (by rfl) m_is_arg k_is_arg b_is_arg .nil pass0 (pa_cons (pv 1) pa_nil)))) pss_nil)
      (pss_cons (ps_if (pt_cmpR op_eq (pv 0) pe_str (nomark _)) (pss_one (ps_ret (pe_callB call_isi (by rfl) B.isinstance boot_isinstance (pa_cons (pv 1) (pa_cons (pe_bltn (v := .ty "tuple") (by rfl) B.tuple boot_tuple rfl) pa_nil))))) pss_nil)
      (pss_one (ps_ret (pe_and (pe_callB call_isi (by rfl) B.isinstance boot_isinstance (pa_cons (pv 1) (pa_cons (pe_bltn (v := .ty "tuple") (by rfl) B.tuple boot_tuple rfl) pa_nil))) (pe_one (pe_callB (cr_all rfl) (by rfl) B.all boot_all (pa_cons (pe_lc (own := [("handler", 3)]) (g := gName 3) (tt := tYes) rfl sc30.nd (pi_tup (pv 1)) (blkOk_by (N := ["shape", "part", "routines", "handler"]) (sc := defScope (top 30)) (by decide +kernel)) (fun _ _ _ _ _ => (pg_name (i := 3) sc30.nd rfl (Or.inl rfl))) (fun _ _ _ _ _ => pts_nil) (fun _ _ _ _ _ => (pe_call G_is_handler (hr.mono (by first | decide | omega)) (by rfl) m_is_handler k_is_handler b_is_handler .nil pass0 (pa_cons (pv 3) pa_nil)))) pa_nil))))))))))), ?_⟩
  refine q_when (et_eqS (K := K) (ev_var rfl)) (fun h1 H1 e1 => ?_) (fun h1 H1 e1 => ?_)
  · have h1 := of_decide_eq_true h1
    refine s_ret (ev_call (ea_cons (ev_var rfl) (ea_cons (ev_var rfl) ea_nil)) (spCall_v (r.mono e1) sm (hz.mono e1) ok)) fun H2 e2 => ?_
    rw [← show partOk rt sh d = isCallD rt d by unfold partOk; rw [if_pos h1]]
    exact k H2 (e1.trans e2)
  have n1 := of_decide_eq_false h1
  refine q_when (et_eqS (K := K) (ev_var rfl)) (fun h2 H2 e2 => ?_) (fun h2 H2 e2 => ?_)
  · have h2 := of_decide_eq_true h2
    refine s_ret (ev_call (ea_cons (ev_var rfl) ea_nil) (spB1_v (r.mono (e1.trans e2)) sm)) fun H3 e3 => ?_
    rw [← show partOk rt sh d = isName d by unfold partOk; rw [if_neg n1, if_pos h2]]
    exact k H3 ((e1.trans e2).trans e3)
  have n2 := of_decide_eq_false h2
  refine q_when (et_eqS (K := K) (ev_var rfl)) (fun h3 H3 e3 => ?_) (fun h3 H3 e3 => ?_)
  · have h3 := of_decide_eq_true h3
    refine s_ret (ev_call (ea_cons (ev_var rfl) ea_nil) (spB1_v (r.mono ((e1.trans e2).trans e3)) sm)) fun H4 e4 => ?_
    rw [← show partOk rt sh d = isTarget d by unfold partOk; rw [if_neg n1, if_neg n2, if_pos h3]]
    exact k H4 (((e1.trans e2).trans e3).trans e4)
  have n3 := of_decide_eq_false h3
  refine q_when (et_eqS (K := K) (ev_var rfl)) (fun h4 H4 e4 => ?_) (fun h4 H4 e4 => ?_)
  · have h4 := of_decide_eq_true h4
    refine s_ret (ev_call (ea_cons (ev_var rfl) ea_nil) (spB1_v (r.mono (((e1.trans e2).trans e3).trans e4)) sm)) fun H5 e5 => ?_
    rw [← show partOk rt sh d = isArg d by unfold partOk; rw [if_neg n1, if_neg n2, if_neg n3, if_pos h4]]
    exact k H5 ((((e1.trans e2).trans e3).trans e4).trans e5)
  have n4 := of_decide_eq_false h4
  refine q_when (et_eqS (K := K) (ev_var rfl)) (fun h5 H5 e5 => ?_) (fun h5 H5 e5 => ?_)
  · have h5 := of_decide_eq_true h5
    refine s_ret (ev_isi (r.mono ((((e1.trans e2).trans e3).trans e4).trans e5)) (ev_var rfl) (kit_tup d)) fun H6 e6 => ?_
    rw [← show partOk rt sh d = isTup d by unfold partOk; rw [if_neg n1, if_neg n2, if_neg n3, if_neg n4, if_pos h5]]
    exact k H6 (((((e1.trans e2).trans e3).trans e4).trans e5).trans e6)
  have n5 := of_decide_eq_false h5
  have e05 := (((e1.trans e2).trans e3).trans e4).trans e5
  refine s_ret (v := .bl (handlersOk d)) ?_ fun H6 e6 => ?_
  · have r5 := r.mono e05
    refine ev_is (ev_andV (b := handlersOk d) (ev_isi r5 (ev_var rfl) (kit_tup d)) fun ht => ?_) (by cases d <;> rfl)
    cases r5 with
    | tup ha rs =>
      refine ev_allW (wk_tup (ev_var rfl) ha rs) (by have := sm.tlen; omega) (fun _ => rfl) fun e x H7 he e7 rx => ev_call (ea_cons (ev_var rfl) ea_nil) (spB1_v rx ?_)
      obtain ⟨i, hi⟩ := List.getElem?_of_mem he
      exact sm.item hi
    | _ => cases ht
  · rw [← show partOk rt sh d = handlersOk d by unfold partOk; rw [if_neg n1, if_neg n2, if_neg n3, if_neg n4, if_neg n5]]
    exact k H6 (e05.trans e6)
theorem zipOk_at (rt : Rt) : ∀ (l : List Str) (ds : List D), l.length = ds.length → zipOk rt l ds = ((List.range ds.length).map fun i => match l[i]?, ds[i]? with | some s, some d => partOk rt s d | _, _ => true).all id
  | [], [], _ => rfl
  | a :: l, d :: ds, h => by
    have ih := zipOk_at rt l ds (by simpa using h)
    show (partOk rt a d && zipOk rt l ds) = _
    rw [ih, List.length_cons, List.range_succ_eq_map]
    simp only [List.map_cons, List.all_cons, List.map_map]
    rfl
  | [], _ :: _, h => by simp at h
  | _ :: _, [], h => by simp at h
theorem sc31 : FnScope ["step", "kind", "in_loop", "routines", "word", "parts", "part", "shape"] ["step", "kind", "in_loop", "routines"] (defScope (top 31)) := ⟨rfl, rfl, rfl, by decide +kernel, rfl, by decide +kernel, by decide +kernel⟩
theorem ok_step (B : Bl mg) (T : Tb K w mg) (F : Df K mg "is_step" (top 31) ["step", "kind", "in_loop", "routines"]) (O1 : Okd P w K mg base CX0 3 "is_arg" ["value"] (spB1 K Sm isArg)) (O2 : Okd P w K mg base CX0 5 "is_part" ["shape", "part", "routines"] (spPart K)) :
    Okd P w K mg base CX0 6 "is_step" ["step", "kind", "in_loop", "routines"] (spStep K) := by
  refine F.ok sc31 (fun vs H Q E h => by obtain ⟨d, v, kd, il, rt, z, rfl, _⟩ := h; rfl) (fun f cdv A outer s H vs Q E hr h => ?_)
  obtain ⟨d, v, kd, il, rt, z, rfl, r, sm, hz, ok, k⟩ := h
  obtain ⟨f_is_arg, d_is_arg, m_is_arg, k_is_arg, b_is_arg, G_is_arg⟩ := O1.ex
  obtain ⟨f_is_part, d_is_part, m_is_part, k_is_part, b_is_part, G_is_part⟩ := O2.ex
  obtain ⟨aS, u_SHAPES, esS, nS, c_SHAPES, r_SHAPES, kS, noS, yesS⟩ := T.sh
  obtain ⟨aF, u_FOR_ASYNC, c_FOR_ASYNC, r_FOR_ASYNC, qF⟩ := T.async
  have hu := hu_of hr
  refine ⟨_, (pss_cons (ps_if (PW.pt (pw_or (pt_not (pt_val (pe_callB call_isi (by rfl) B.isinstance boot_isinstance (pa_cons (pv 0) (pa_cons (pe_bltn (v := .ty "tuple") (by rfl) B.tuple boot_tuple rfl) pa_nil))))) (pw_or (pt_cmpR op_eq (pe_callB call_lenQ (by rfl) B.len PySem.boot_len (pa_cons (pv 0) pa_nil)) pe_int (nomark _)) (pw_or1 (pt_not (pt_val (pe_callB call_isi (by rfl) B.isinstance boot_isinstance (pa_cons (pe_ix ix_tup (pv 0) pe_int (fun _ _ => rfl)) (pa_cons (pe_bltn (v := .ty "str") (by rfl) B.str boot_str rfl) pa_nil))))))))) (pss_one (ps_ret pe_bl)) pss_nil)
      (pss_cons (ps_par (i := 4) (j := 5) (by rfl) sc31.nd rfl rfl (by decide) rfl rfl (pa_cons (pe_ix ix_tup (pv 0) pe_int (fun _ _ => rfl)) (pa_cons (pe_slice sl_tup (pv 0) (po_some pe_int) po_none) pa_nil)) (by rfl))
      (pss_cons (ps_if (PW.pt (pw_or (pt_cmpR op_eq (pv 4) pe_str (nomark _)) (pw_or1 (PW.pt (pw_and (pt_cmpR op_eq (pv 4) pe_str (nomark _)) (pw_and1 (pt_cmpR op_le2 (pe_callB call_lenQ (by rfl) B.len PySem.boot_len (pa_cons (pv 5) pa_nil)) pe_int (nomark _)))))))) (pss_one (ps_ret (pe_callB (cr_all rfl) (by rfl) B.all boot_all (pa_cons (pe_lc (own := [("part", 6)]) (g := gName 6) (tt := tYes) rfl sc31.nd (pi_tup (pv 5)) (blkOk_by (N := ["step", "kind", "in_loop", "routines", "word", "parts", "part", "shape"]) (sc := defScope (top 31)) (by decide +kernel)) (fun _ _ _ _ _ => (pg_name (i := 6) sc31.nd rfl (Or.inl rfl))) (fun _ _ _ _ _ => pts_nil) (fun _ _ _ _ _ => (pe_call G_is_arg (hr.mono (by first | decide | omega)) (by rfl) m_is_arg k_is_arg b_is_arg .nil pass0 (pa_cons (pv 6) pa_nil)))) pa_nil)))) pss_nil)
      (pss_cons (ps_if (PW.pt (pw_or (pt_cmpR (op_notInKd kS) (pv 4) (pe_glob (by rfl) c_SHAPES r_SHAPES) rfl) (pw_or1 (pt_cmpR op_ne (pe_callB call_lenQ (by rfl) B.len PySem.boot_len (pa_cons (pv 5) pa_nil)) (pe_callB call_lenQ (by rfl) B.len PySem.boot_len (pa_cons (pe_ix ix_kdict (pe_glob (by rfl) c_SHAPES r_SHAPES) (pv 4) (fun _ _ => rfl)) pa_nil)) (nomark _))))) (pss_one (ps_ret pe_bl)) pss_nil)
      (pss_cons (ps_if (PW.pt (pw_or (PW.pt (pw_and (pt_cmpR op_eq (pv 4) pe_str (nomark _)) (pw_and1 (pt_not (pt_val (pv 2)))))) (pw_or1 (PW.pt (pw_and (pt_cmpR op_in_seq (pv 4) (pe_glob (by rfl) c_FOR_ASYNC r_FOR_ASYNC) rfl) (pw_and1 (pt_cmpR op_ne (pv 1) pe_str (nomark _)))))))) (pss_one (ps_ret pe_bl)) pss_nil)
      (pss_one (ps_ret (pe_callB (cr_all rfl) (by rfl) B.all boot_all (pa_cons (pe_lc (own := [("shape", 7), ("part", 6)]) (g := gTup K 2 (gCons (gName 7) (gCons (gName 6) gNil))) (tt := tYes) rfl sc31.nd (pi_zipA (by rfl) B.zip (pa_cons (pe_ix ix_kdict (pe_glob (by rfl) c_SHAPES r_SHAPES) (pv 4) (fun _ _ => rfl)) (pa_cons (pv 5) pa_nil))) (blkOk_by (N := ["step", "kind", "in_loop", "routines", "word", "parts", "part", "shape"]) (sc := defScope (top 31)) (by decide +kernel)) (fun _ _ _ _ _ => (pg_tup (by rfl) (pgs_cons (pg_name (i := 7) sc31.nd rfl (Or.inl rfl)) (pgs_cons (pg_name (i := 6) sc31.nd rfl (Or.inl rfl)) pgs_nil)))) (fun _ _ _ _ _ => pts_nil) (fun _ _ _ _ _ => (pe_call G_is_part (hr.mono (by first | decide | omega)) (by rfl) m_is_part k_is_part b_is_part .nil pass0 (pa_cons (pv 7) (pa_cons (pv 6) (pa_cons (pv 3) pa_nil)))))) pa_nil))))))))), ?_⟩
  cases hs : isTup d with
  | false =>
    have q : isStepD rt (decide (kd = "async")) il d = false := by cases d <;> first | rfl | cases hs
    refine q_when (b := !(isTup d) || true) (et_or (et_not (et_B (ev_isi r (ev_var rfl) (kit_tup d)))) (fun ha => by rw [hs] at ha; cases ha)) (fun _ H1 e => s_ret ev_c fun H2 e2 => ?_) (fun hb => by rw [hs] at hb; cases hb)
    rw [← q]
    exact k H2 (e.trans e2)
  | true =>
    cases r with
    | tup ha rs =>
      rename_i a vs ds
      have hlen : ds.length ≤ 39000 := sm.tlen
      cases ds with
      | nil =>
        cases rs
        refine q_when (b := true) (et_is (et_or (et_not (et_B (ev_isi (Rp.tup ha .nil) (ev_var rfl) (kit_tup _)))) (fun _ => et_or (b := false) (et_test (ev_len0 (ev_var rfl) ha)) (fun z => nomatch z))) rfl) (fun _ H1 e => s_ret ev_c fun H2 e2 => k H2 (e.trans e2)) (fun hb => nomatch hb)
      | cons d0 parts =>
        obtain ⟨v0, g0, r0⟩ := rs.get (i := 0) (d := d0) rfl
        have hne : vs.isEmpty = false := by rw [rs.empty]; rfl
        have i0 : ∀ {σ : L2.St} {H1 : Hp}, σ[0]? = some (some (.ref a)) → Ex H H1 → Ev (tOp (rIxT K) (tVar 0) (tC (.int 0))) σ H1 v0 := fun hσ e => ev_op (ev_var hσ) ev_c (rv_ixT (st_of (e _ _ ha)) (atI_nat (j := 0) g0))
        refine q_when (b := !(isStr d0)) (et_is (et_or (et_not (et_B (ev_isi (Rp.tup ha rs) (ev_var rfl) (kit_tup _)))) (fun _ => et_or (et_test (ev_len0 (ev_var rfl) ha)) (fun _ => et_not (et_B (ev_isi r0 (i0 rfl (Ex.refl _)) (kit_str d0)))))) (by rw [hne]; rfl)) (fun hb H1 e => s_ret ev_c fun H2 e2 => ?_) (fun hb H1 e1 => ?_)
        · have q : isStepD rt (decide (kd = "async")) il (.tup (d0 :: parts)) = false := by
            rw [Bool.not_eq_true'] at hb
            cases d0 <;> first | rfl | cases hb
          rw [← q]
          exact k H2 (e.trans e2)
        · rw [Bool.not_eq_false'] at hb
          obtain ⟨word, rfl⟩ := str_of hb
          cases r0
          have ha1 := e1 _ _ ha
          have rs1 := rs.mono e1
          have q0 : isStepD rt (decide (kd = "async")) il (.tup (.str word :: parts)) = stepOk rt (decide (kd = "async")) il word parts := rfl
          rw [q0] at k
          refine i0 rfl e1 H1 (Ex.refl _) _ fun H2 e2 => evp_sl1 (ev_var rfl) ha1 rs1 (by simp) H2 e2 _ fun pv H3 e3 rp => ⟨_, _, rfl, ?_⟩
          have e03 := (e1.trans e2).trans e3
          have ha3 := e03 _ _ ha
          have rp' : Rp K H3 (.tup parts) pv := rp
          cases rp' with
          | tup hp rps =>
            rename_i pa pvs
            have sp : ∀ e ∈ parts, Sm e := fun e he => by
              obtain ⟨i, hi⟩ := List.getElem?_of_mem he
              exact sm.item (i := i + 1) (by simpa using hi)
            have plen : parts.length ≤ 39000 := by
              simp only [List.length_cons] at hlen
              omega
            refine q_when (b := decide (word = "say") || (decide (word = "raise") && decide (((pvs.length : Nat) : Int) ≤ 1))) (et_or (et_eqS (K := K) (ev_var rfl)) (fun _ => et_and (et_eqS (K := K) (ev_var rfl)) (fun _ => et_test (ev_op (ev_lenT (ev_var rfl) (st_of hp)) ev_c rv_le)))) (fun hb H4 e4 => ?_) (fun hb H4 e4 => ?_)
            · have hc : word = "say" ∨ (word = "raise" ∧ parts.length ≤ 1) := by
                rw [rps.len] at hb
                simp only [Bool.or_eq_true, Bool.and_eq_true, decide_eq_true_eq] at hb
                rcases hb with h | ⟨h, g⟩
                · exact .inl h
                · exact .inr ⟨h, by omega⟩
              have q : stepOk rt (decide (kd = "async")) il word parts = parts.all isArg := by
                unfold stepOk
                rw [if_pos hc]
              rw [q] at k
              refine s_ret (v := .bl (parts.all isArg)) ?_ fun H5 e5 => k H5 ((e03.trans e4).trans e5)
              exact ev_allW (wk_tup (ev_var rfl) (e4 _ _ hp) (rps.mono e4)) (by omega) (fun _ => rfl) fun e x H7 he e7 rx => ev_call (ea_cons (ev_var rfl) ea_nil) (spB1_v rx (sp e he))
            · have hc : ¬ (word = "say" ∨ (word = "raise" ∧ parts.length ≤ 1)) := by
                rw [rps.len] at hb
                intro h
                rcases h with h | ⟨h, g⟩
                · rw [h] at hb
                  exact absurd hb (by simp)
                · rw [h] at hb
                  have : decide (((parts.length : Nat) : Int) ≤ 1) = true := decide_eq_true (by omega)
                  rw [this] at hb
                  exact absurd hb (by simp)
              have e04 := e03.trans e4
              cases hS : shape word with
              | none =>
                have q : stepOk rt (decide (kd = "async")) il word parts = false := by
                  unfold stepOk
                  rw [if_neg hc, hS]
                rw [q] at k
                refine q_when (b := true) (et_is (et_or (b := false) (et_test (ev_op (ev_var rfl) ev_c (rv_niKd (noS word hS)))) (fun z => nomatch z)) rfl) (fun _ H5 e5 => s_ret ev_c fun H6 e6 => k H6 ((e04.trans e5).trans e6)) (fun hb => nomatch hb)
              | some sh =>
                obtain ⟨t, ut, n1, n2, n3⟩ := yesS word sh hS
                refine q_when (b := !decide (parts.length = sh.length)) (et_is (et_or (et_test (ev_op (ev_var rfl) ev_c (rv_niKd n1))) (fun _ => et_test (ev_op (ev_lenT (ev_var rfl) (st_of (e4 _ _ hp))) (ev_lenT (ev_op ev_c (ev_var rfl) (rv_ixKd kS n1 n2)) (n3 H4)) (rv_ne rfl)))) ?_) (fun hb H5 e5 => ?_) (fun hb H5 e5 => ?_)
                · rw [rps.len, List.length_map]
                  show (false || !decide (V.int _ = V.int _)) = !decide _
                  rw [Bool.false_or]
                  exact congrArg (!·) (decide_eq_decide.mpr ⟨fun z => by injection z with z; omega, fun z => by rw [z]⟩)
                · have hb' : parts.length ≠ sh.length := by simpa using hb
                  have q : stepOk rt (decide (kd = "async")) il word parts = false := by
                    unfold stepOk
                    rw [if_neg hc, hS]
                    show (if parts.length ≠ sh.length then false else _) = false
                    rw [if_pos hb']
                  rw [q] at k
                  exact s_ret ev_c fun H6 e6 => k H6 ((e04.trans e5).trans e6)
                · have hb' : ¬ parts.length ≠ sh.length := by simpa using hb
                  have e05 := e04.trans e5
                  refine q_when (b := decide (word = "break") && !il || inStrs asyncL word && !decide (kd = "async")) ?_ (fun hb H6 e6 => ?_) (fun hb H6 e6 => ?_)
                  · refine et_or (et_and (et_eqS (K := K) (ev_var rfl)) (fun _ => et_not (et_B (ev_var rfl)))) (fun _ => et_and (et_is (et_test (ev_op (ev_var rfl) ev_c (rv_isT (qF H5) rfl (flat_strs _)))) (inV_strs _ _)) (fun _ => et_is (et_test (ev_op (ev_var rfl) ev_c (rv_ne rfl))) ?_))
                    rw [decV_str]
                  · have q : stepOk rt (decide (kd = "async")) il word parts = false := by
                      unfold stepOk
                      rw [if_neg hc, hS]
                      show (if parts.length ≠ sh.length then false else if (decide (word = "break") && !il || inStrs asyncL word && !decide (kd = "async")) = true then false else zipOk rt sh parts) = false
                      rw [if_neg hb', if_pos hb]
                    rw [q] at k
                    exact s_ret ev_c fun H7 e7 => k H7 ((e05.trans e6).trans e7)
                  · have hl : sh.length = parts.length := by omega
                    have q : stepOk rt (decide (kd = "async")) il word parts = zipOk rt sh parts := by
                      unfold stepOk
                      rw [if_neg hc, hS]
                      show (if parts.length ≠ sh.length then false else if (decide (word = "break") && !il || inStrs asyncL word && !decide (kd = "async")) = true then false else zipOk rt sh parts) = _
                      rw [if_neg hb', if_neg (by rw [hb]; exact Bool.false_ne_true)]
                    have e06 := e05.trans e6
                    rw [q, zipOk_at rt sh parts hl] at k
                    refine s_ret (ev_allB ?_) fun H7 e7 => k H7 (e06.trans e7)
                    have hz6 := hz.mono e06
                    have e46 := (e4.trans e5).trans e6
                    have W := wk_zip (K := K) (σ := [some (.ref a), some (.str kd), some (.bl il), some z, some (.str word), some (.ref pa), none, none]) (H := H6) (ta := tOp (rIxD K w) (tC (.ref aS)) (tVar 4)) (tb := tVar 5) (ev_op ev_c (ev_var rfl) (rv_ixKd kS n1 n2)) (ev_var rfl) (fun H7 _ => n3 H7) (e46 _ _ hp) (rps.mono e46) hl
                    refine el_lcBg (fun i => match sh[i]?, parts[i]? with | some s, some d => partOk rt s d | _, _ => true) W (by omega) fun i x H8 hi e8 px Z hZ => ?_
                    obtain ⟨Ta, s', d', v', rfl, hTa, g1, g2, rx⟩ := px
                    refine ⟨Ta, [.str s', v'], rfl, st_of hTa, rfl, .str s', [v'], rfl, v', [], rfl, rfl, hZ _ H8 (Ex.refl _) rfl ?_⟩
                    show Ev _ _ _ (.bl (match sh[i]?, parts[i]? with | some s, some d => partOk rt s d | _, _ => true))
                    rw [g1, g2]
                    exact ev_call (ea_cons (ev_var rfl) (ea_cons (ev_var rfl) (ea_cons (ev_var rfl) ea_nil))) fun H9 e9 Q q _ => ⟨s', d', v', rt, z, rfl, rx.mono e9, sp d' (List.mem_of_getElem? g2), hz6.mono (e8.trans e9), ok, fun H10 e10 => q H10 e10⟩
    | _ => cases hs
end
end K2
/-! enumerate(t) and enumerate(t, start=k) of a tuple, as walks. -/
namespace K2
open PySem L2 PySem.Spec PyProof.Rows
/-- the tuple at a, each item in a new pair with its count from k on -/
def ItN (K : PySem.W.Frag) (a : Addr) (k : Int) : It :=
  ⟨fun i H => ∃ (xs : List V) (x : V), SqT K H a xs ∧ xs[i]? = some x, fun i H v H' => ∃ T x, v = .ref T ∧ H T = none ∧ H' = upd H T (.tup [.int (k + (i : Int)), x]) ∧ ∀ xs, SqT K H a xs → xs[i]? = some x,
    fun i H => ∃ xs : List V, SqT K H a xs ∧ xs.length = i⟩
theorem turn_enumN {P : Program} {w : World} {K : PySem.W.Frag} {elts : List Expr} {kk : Nat} {tpos : Pos} (a e it : Addr) (k : Int) :
    Turn P w K (.Tuple elts kk tpos) (ItN K a k) [e, it] e (fun i h => (∃ old, IsEnum h e it (k + (i : Int)) old) ∧ h.IsTupleIter it a i ∧ e ≠ it ∧ a ≠ it ∧ a ≠ e) where
  mem := by simp
  obj := fun i h st b hb => by
    obtain ⟨⟨old, he⟩, ⟨o, ho, hc, hd⟩, _⟩ := st
    have e' : b = e ∨ b = it := by simpa using hb
    rcases e' with z | z
    · rw [z]; exact ⟨_, he, fun v q => nomatch q⟩
    · rw [z]; exact ⟨o, ho, fun v q => by rw [hd] at q; cases q⟩
  keep := fun i h h' st k => let ⟨⟨old, he⟩, hi, hne⟩ := st; ⟨⟨old, k e (by simp) _ he⟩, hi.at fun o q => k it (by simp) o q, hne⟩
  item := by
    intro X hP hw hK hc i pins s σ H E I hf st hg
    subst hP hw hK
    obtain ⟨⟨old, he⟩, hit, hne, hai, hae⟩ := st
    obtain ⟨xs, x, hq, hx⟩ := hg
    obtain ⟨its, rv, p, hz⟩ := I.tuple hq
    obtain ⟨u, hu, ru⟩ := rv.get hx
    have hel : e < s.heap.objs.size := Heap.lt_size he
    have hil : it < s.heap.objs.size := by obtain ⟨_, q, _⟩ := hit; exact Heap.lt_size q
    have hlt : i < its.toArray.size := by
      have := (List.getElem?_eq_some_iff.mp hu).1
      simpa using this
    have Dd : PySem.Draws X.prog X.w X.A.in1 it [it, a] its.toArray.size (fun i v => its.toArray[i]? = some v) (fun i h => h.IsTupleIter it a i ∧ h.IsTuple a its.toArray) := PySem.Draws.tuple (A := X.A.in1) (I.ok.hd hc) it a hai its.toArray
    refine wpAny_pyNext_enum_itemC Dd he ⟨hit, p⟩ hlt hne (by simp [hne, Ne.symm hae]) fun y h' tk hy ho hst hT hsz hk => ?_
    have hyu : y = u := by
      have : its.toArray[i]? = some u := by simpa using hu
      rw [this] at hy
      exact (Option.some.inj hy).symm
    subst hyu
    refine ⟨_, rfl, wpAny_letOwnedTupleGo_enum (s := { s with heap := h', toks := tk + 1 }) ho fun h'' he' sb => ?_⟩
    have hT2 : h''.get? s.heap.objs.size = some { cls := .type "tuple", data := .seq #[.int (k + (i : Int)) tk, y] } := (sb.2 _ (Nat.ne_of_gt hel)).trans hT
    have new : ObjOk X.prog X.w (upd H s.heap.objs.size (.tup [.int (k + (i : Int)), x])) h'' s.heap.objs.size (.tup [.int (k + (i : Int)), x]) :=
      ⟨by show 2 ≤ sizeLine; decide, [.int (k + (i : Int)) tk, y], .cons ⟨_, rfl⟩ (.cons ru .nil), ⟨_, hT2, rfl, _, rfl⟩⟩
    have I1 : Inv X pins σ (upd H s.heap.objs.size (.tup [.int (k + (i : Int)), x])) { s with heap := h'', toks := tk + 1 } :=
      I.turnedNew (ch := [e, it]) (fun b ob hb q => (sb.2 b (fun z => hb (by simp [z]))).trans (hk b ob (fun z => hb (by simp [z])) (fun z => hb (by simp [z])) q)) hf (Nat.le_refl _) new
    refine ⟨.ref s.heap.objs.size, _, I1, rfl, ⟨_, x, rfl, I.hok.fresh (Nat.le_refl _), rfl, fun ys hy => by rw [I.tuple_inj hy hq]; exact hx⟩, ⟨⟨y, ?_⟩, hst.1.at fun o q => (sb.2 it (Ne.symm hne)).trans q, hne, hai, hae⟩, fun b hb => ?_⟩
    · have e1 : k + ((i + 1 : Nat) : Int) = k + (i : Int) + 1 := by omega
      rw [e1]; exact he'
    · have hb' : b < s.heap.objs.size := by
        have e' : b = e ∨ b = it := by simpa using hb
        rcases e' with z | z
        · rw [z]; exact hel
        · rw [z]; exact hil
      rw [upd_ne (Nat.ne_of_lt hb')]
      exact (hf b hb).1
  done := by
    intro X hP hw hK hc i pins s σ H E I hf st hg
    subst hP hw hK
    obtain ⟨⟨old, he⟩, hit, hne, hai, hae⟩ := st
    obtain ⟨xs, hq, hx⟩ := hg
    obtain ⟨its, rv, p, hz⟩ := I.tuple hq
    obtain ⟨f0, f1, f2, f3, f4, f5⟩ := hf it (by simp)
    have hl := rv.length
    have Dd : PySem.Draws X.prog X.w X.A.in1 it [it, a] its.toArray.size (fun i v => its.toArray[i]? = some v) (fun i h => h.IsTupleIter it a i ∧ h.IsTuple a its.toArray) := PySem.Draws.tuple (A := X.A.in1) (I.ok.hd hc) it a hai its.toArray
    have hn : i = its.toArray.size := by simp; omega
    exact wpAny_pyNext_enum_endD Dd he ⟨by rw [← hn]; exact hit, p⟩ fun h' eb => ⟨rfl, I.turned (t' := s.toks) (fun b o hb q => eb b o hb q) f0 f1 f3 f4 f5⟩
  self := fun A i s Q E st h => let ⟨⟨_, he⟩, _⟩ := st; wpAny_pyIter_enum he h

theorem meets_enumerate_newB0 {v : Value} {o : Obj} {H : Heap → Prop} (B : PySem.Begins v o H) :
    Meets (Builtin.«enumerate.__new__» ⟨[.type "enumerate", v], []⟩) (fun _ R s => H s.heap ∧
      R (.ok (.ret (.ref (s.heap.push o).objs.size))) { s with heap := (s.heap.push o).push { cls := .type "enumerate", data := .fields #[.none, .bool false, .ref s.heap.objs.size, rawInt 0, .none, .none] } }) :=
  .of_wp fun prog w A R s h => by
    obtain ⟨hp, g, d, tk, os⟩ := s; obtain ⟨h1, h⟩ := h
    have hsub := sub_enumerate
    have q1 : ∀ {A' : Around} {E : Value → Shared → Prop} {Q : Value → Shared → Prop}, Q (.ref hp.objs.size) ⟨hp.push o, g, d, tk, os⟩ → wpAny (model prog w) A' (pyIter v) Q E ⟨hp, g, d, tk, os⟩ :=
      fun q => B.iter prog w _ _ ⟨hp, g, d, tk, os⟩ _ h1 q
    wp_walk using q1
    refine wpAny_stack_any fun st => wpAny_pure ?_
    split
    · rename_i c _ _ _ _ _
      cases (c == Value.type "enumerate")
      · wp_walk using q1
        exact ⟨_, rfl, h⟩
      · wp_walk using q1
        exact ⟨_, rfl, h⟩
    · wp_walk using q1
      exact ⟨_, rfl, h⟩
theorem enum_begins0 {prog : Program} {w : World} {A : Around} {E : Value → Shared → Prop} {s : Shared} {v : Value} {o : Obj} {H : Heap → Prop} {Q : Value → Shared → Prop} (B : PySem.Begins v o H) (h1 : H s.heap)
    (h : ∀ h', IsEnum h' (s.heap.objs.size + 1) s.heap.objs.size 0 .none → h'.get? s.heap.objs.size = some o → h'.objs.size = s.heap.objs.size + 2 →
      (∀ b o, s.heap.get? b = some o → h'.get? b = some o) → Q (.ref (s.heap.objs.size + 1)) { s with heap := h' }) :
    wpAny (model prog w) A (call (.type "enumerate") [v]) Q E s := by
  refine callType_new F.called_enumerate (by decide) (F.typeCall_enumerate_1 _) (F.newCall_enumerate_1 _) (fun obj => F.args_object_init_2 obj _) F.entry_enumerate_new
    (meets_enumerate_newB0 B) ⟨h1, ?_⟩
  have hz : (s.heap.push o).objs.size = s.heap.objs.size + 1 := Heap.size_push ..
  show _ ∧ _
  rw [hz]
  have he : IsEnum ((s.heap.push o).push { cls := .type "enumerate", data := .fields #[.none, .bool false, .ref s.heap.objs.size, rawInt 0, .none, .none] }) (s.heap.objs.size + 1) s.heap.objs.size 0 .none := by
    have := Heap.get?_push_size (s.heap.push o) (o := { cls := .type "enumerate", data := .fields #[.none, .bool false, .ref s.heap.objs.size, rawInt 0, .none, .none] }) rfl
    rw [hz] at this; exact this
  refine ⟨⟨_, he, rfl⟩, h _ he (Heap.get?_push_of_some _ (Heap.get?_push_size _ B.free)) (by rw [Heap.size_push, hz]) fun b o x => Heap.get?_push_of_some _ (Heap.get?_push_of_some _ x)⟩
def iEnumT (K : PySem.W.Frag) (ta : TA) : TI := fun σ H R => ta σ H fun vs H1 => ∃ a xs, vs = [.ref a] ∧ SqT K H1 a xs ∧ R (ItN K a 0) H1
section
variable {X : Cx} {e : Expr} {ta : TA} {p pos tpos : Pos} {elts : List Expr} {kk : Nat}
theorem begin_enum {pins : List (Addr × Obj)} {s1 : Shared} {σ : L2.St} {H1 : Hp} {R : It → Hp → Prop} {a : Addr} {xs : List V} {k : Int} {h' : Heap} (I1 : L2.Inv X pins σ H1 s1) (hq : SqT X.K H1 a xs)
    (he : IsEnum h' (s1.heap.objs.size + 1) s1.heap.objs.size k .none) (hit : h'.get? s1.heap.objs.size = some { cls := .type "tuple_iterator", data := .fields #[.ref a, .int 0 0] }) (hk : ∀ b o, s1.heap.get? b = some o → h'.get? b = some o) (q : R (ItN X.K a k) H1) {E : Value → Shared → Prop} {t' : Nat} :
    wpAny (model X.prog X.w) X.A (pyIter (.ref (s1.heap.objs.size + 1))) (PIE X pins σ (.Tuple elts kk tpos) R) E { s1 with heap := h', toks := t' } := by
  obtain ⟨its, rv, p', hz⟩ := I1.tuple hq
  refine wpAny_pyIter_enum he ?_
  have I2 : L2.Inv X pins σ H1 { s1 with heap := h', toks := t' } := I1.kept (t' := t') hk
  have hla : a < s1.heap.objs.size := p'.lt
  refine ⟨s1.heap.objs.size + 1, [s1.heap.objs.size + 1, s1.heap.objs.size], _, _, H1, rfl, I2, turn_enumN a (s1.heap.objs.size + 1) s1.heap.objs.size k, ⟨⟨.none, ?_⟩, ⟨_, hit, rfl, rfl⟩, Nat.succ_ne_self _, Nat.ne_of_lt hla, Nat.ne_of_lt (Nat.lt_succ_of_lt hla)⟩, fun b hb => ?_, q⟩
  · show IsEnum h' _ _ (k + ((0 : Nat) : Int)) _
    rw [show k + ((0 : Nat) : Int) = k by omega]
    exact he
  · have e' : b = s1.heap.objs.size + 1 ∨ b = s1.heap.objs.size := by simpa using hb
    have hle : s1.heap.objs.size ≤ b := by
      rcases e' with z | z
      · rw [z]; exact Nat.le_add_right _ _
      · rw [z]; exact Nat.le_refl _
    exact I1.fpOk hle (I1.hok.fresh hle)
theorem pi_enumT (hg : Gl X "enumerate") (hm : X.mg "enumerate" = none) (ha : PA X [e] ta) (hs : starEach [e] X.env = [(false, eval e X.env)] := by rfl) :
    PI X (.Tuple elts kk tpos) (.Call (.Name "enumerate" p) [e] [] pos) (iEnumT X.K ta) := by
  refine ⟨fun pins s σ H R I h => ?_⟩
  refine Call_ (ld_blt I hg hm boot_enumerate (PyProof.Rows.callWith_type1 (thn (ha.run pos pins s σ H _ I h) fun us s1 ⟨vs, H1, I1, r1, q1⟩ => ?_) hs rfl))
  obtain ⟨a, xs, ex, hq, q⟩ := q1
  subst ex
  cases r1 with
  | cons r rr =>
    cases rr
    cases r
    obtain ⟨its, rv, p', hz⟩ := I1.tuple hq
    exact enum_begins0 (PySem.begins_tuple a its.toArray) p' fun h' he hit hsz hk => begin_enum I1 hq he hit hk q
def iEnumK (K : PySem.W.Frag) (ta tk : TA) : TI := fun σ H R => ta σ H fun vs H1 => tk σ H1 fun zs H2 => ∃ a xs k, vs = [.ref a] ∧ zs = [.int k] ∧ -(2 ^ 63) ≤ k ∧ k < 2 ^ 63 ∧ SqT K H2 a xs ∧ R (ItN K a k) H2
theorem callWith_type_kw {M : Model} {A : Around} {E : Value → Shared → Prop} {s : Shared} {env : Env} {T : String} {rest : List Expr} {kws : List Keyword} {Q : Value → Shared → Prop}
    (h : wpAny M A (spliced (backTo pos (starEach (e :: rest) env))) (fun vs s₁ => wpAny M A (evalAll ((backToKw pos (keywordEach kws env)).map (·.2)))
      (fun kvs s₂ => wpAny M A (call (.type T) vs (((backToKw pos (keywordEach kws env)).filterMap (·.1)).zip kvs)) Q E s₂) E s₁) E s)
    (he : backTo pos (starEach (e :: rest) env) = (false, eval e env) :: backTo pos (starEach rest env) := by rfl)
    (hplain : (backTo pos (starEach (e :: rest) env)).any (·.1) = false := by rfl)
    (hall : (backToKw pos (keywordEach kws env)).all (·.1.isSome) = true := by rfl)
    (hkw : (backToKw pos (keywordEach kws env)).any (·.1.isNone) = false := by rfl) :
    wpAny M A (callWith pos (.type T) [] (backTo pos (starEach (e :: rest) env)) (backToKw pos (keywordEach kws env))) Q E s := by
  unfold callWith
  refine wpAny_bind (wpAny_holding (wpAny_mono (Q := fun a s₁ => wpAny M A (call (.type T) ([] ++ a.pos) a.kw) Q E s₁) ?_ (fun a s₁ h₁ => wpAny_bind (wpAny_standAt ?_)) fun _ _ x => x))
  · rw [he] at h ⊢
    exact evalArgs_kwB hall h
  · simp only [hplain, hkw, Bool.or_false]
    refine wpAny_bind (wpAny_pure ?_)
    exact wpAny_bind (wpAny_mono h₁ (fun r s₂ hr => wpAny_bind (wpAny_holding (wpAny_point (wpAny_pure hr)))) fun _ _ x => x)
theorem pi_enumK {e2 : Expr} {kp : Pos} {tk : TA} (hg : Gl X "enumerate") (hm : X.mg "enumerate" = none) (ha : PA X [e] ta) (hk : PK X [⟨some "start", e2, kp⟩] tk)
    (he : backTo pos (starEach [e] X.env) = (false, eval e X.env) :: backTo pos (starEach [] X.env) := by rfl) (hpl : (backTo pos (starEach [e] X.env)).any (·.1) = false := by rfl)
    (hall : (backToKw pos (keywordEach [⟨some "start", e2, kp⟩] X.env)).all (·.1.isSome) = true := by rfl) (hnone : (backToKw pos (keywordEach [⟨some "start", e2, kp⟩] X.env)).any (·.1.isNone) = false := by rfl)
    (hks : (backToKw pos (keywordEach [⟨some "start", e2, kp⟩] X.env)).filterMap (·.1) = [Str.ofString "start"] := by rfl) :
    PI X (.Tuple elts kk tpos) (.Call (.Name "enumerate" p) [e] [⟨some "start", e2, kp⟩] pos) (iEnumK X.K ta tk) := by
  refine ⟨fun pins s σ H R I h => ?_⟩
  refine wpAny_Call_Name_kw (ld_blt I hg hm boot_enumerate ?_)
  refine callWith_type_kw (thn (ha.run pos pins s σ H _ I h) fun us s1 ⟨vs, H1, I1, r1, q1⟩ => thn (hk.run pos pins s1 σ H1 _ I1 q1) fun ws s2 ⟨zs, H2, I2, r2, q2⟩ => ?_) he hpl hall hnone
  rw [hks]
  obtain ⟨a, xs, k, ex, ez, h0, h1, hq, q⟩ := q2
  subst ex ez
  cases r1 with
  | cons r rr =>
    cases rr
    cases r
    cases r2 with
    | cons r rr =>
      cases rr
      obtain ⟨t, rfl⟩ := r
      obtain ⟨its, rv, p', hz⟩ := I2.tuple hq
      exact PySem.enum_begins_start (PySem.begins_tuple a its.toArray) p' h0 h1 fun h' he hit hsz hk => begin_enum (t' := s2.toks) I2 hq he hit hk q
end
end K2
/-! A written table's get with a default; walks of enumerate. -/
namespace K2
open PySem L2 Evl PySem.Spec PyProof.Rows RZ
def tKGet2 (K : PySem.W.Frag) (d : Addr) (td ty tx : TE) : TE := fun σ H Q => td σ H fun x H1 => x = .ref d ∧ ty σ H1 fun y H2 => tx σ H2 fun z H3 => ∃ (s : Str) (r : Option Value) (v : V), y = .str s ∧ PySem.W.nsIn K d s = some r ∧
  (∀ u, r = some u → L2.RelV v u) ∧ (r = none → v = z) ∧ Q v H3
section
variable {X : Cx} {o e f : Expr} {apos cpos : Pos} {td ty tx : TE} {d : Addr} {es : Array DictEntry} {n : Nat}
theorem pe_kget2 (D : KDict X.K X.w d es n) (ho : PE X o td) (he : PE X e ty) (hf : PE X f tx) (m : M2 X o "get" apos e f cpos) : PE X (.Call (.Attribute o "get" apos) [e, f] [] cpos) (tKGet2 X.K d td ty tx) := by
  refine ⟨fun pins s σ H Q I h => ?_⟩
  refine wpAny_Call_method m.base m.few m.line PySem.F.plainAttrs_dict PySem.F.slot_dict_get PySem.F.type_dict_get (thn (ho.run pins s σ H _ I h) fun u s1 ⟨x, H1, I1, rx, ex, q1⟩ => ?_)
  subst ex
  obtain rfl : u = Value.ref d := rx
  have ob : s1.heap.get? d = some ⟨.type "dict", none, .dict es n, #[]⟩ := I1.kIn _ _ D.at_
  refine ⟨⟨_, ob, rfl⟩, fun b q => ?_, ?_⟩
  · cases q
    exact ⟨_, ob, rfl⟩
  · rw [m.trees]
    refine Calls.callWith_builtin rfl (Calls.evalArgs_plain (Calls.spliced_cons (thn (he.run pins s1 σ H1 _ I1 q1) fun iv s2 ⟨y, H2, I2, ry, q2⟩ =>
      Calls.spliced_cons (thn (hf.run pins s2 σ H2 _ I2 q2) fun fv s3 ⟨z, H3, I3, rz, st, r, v, ey, hn, h1, h2, q3⟩ => Calls.spliced_nil ?_))))
    subst ey
    obtain ⟨t, rfl⟩ := ry
    have hm := PySem.W.mapOf_K (prog := X.prog) (w := X.w) I3.kIn D.at_ D.lit
    refine call_meetsIn PySem.F.slot_dict_get hm.typeIs PySem.F.entry_dict_get (PySem.F.args_dict_get_3 _ _ _) (meets_dict_get_default (strKind X.prog X.w) d (strKind_is X.prog X.w st t) D.low fv) ⟨_, hm, ?_⟩
    refine ⟨v, H3, I3.tok _, ?_, q3⟩
    rw [PySem.W.find_K D.at_ hn]
    cases r with
    | none => rw [h2 rfl]; exact rz
    | some u => exact h1 u rfl
end
section
variable {K : PySem.W.Frag} {σ : L2.St} {H : Hp} {ta tb : TE} {a : Addr} {ds : List D} {vs : List V}
theorem walk_enumN {xs : List V} {k : Int} : Walk (ItN K a k) xs.length (fun H => SqT K H a xs) (YPair (fun i => some (.int (k + (i : Int)))) (fun i => xs[i]?)) :=
  ⟨fun i _ hi q => ⟨xs, xs[i], q, by simp [hi]⟩, fun _ q => ⟨xs, q, rfl⟩, fun i H v H' hi q y => by
    obtain ⟨T, x, h1, h2, h3, h4⟩ := y
    exact ⟨T, .int (k + (i : Int)), x, h1, h2, h3, rfl, h4 xs q⟩⟩
/-- enumerate of a tuple of data -/
theorem wk_enum (ha : Ev ta σ H (.ref a)) (h : H a = some (.tup vs)) (r : Rps K H ds vs) : Wk (iEnumT K (tCons ta tNil)) σ H ds.length (fun i H1 x => ∃ T d v, x = .ref T ∧ H1 T = some (.tup [.int (i : Int), v]) ∧ ds[i]? = some d ∧ Rp K H1 d v) := fun H1 e R k =>
  ha H1 e _ fun H2 e2 => by
    have e02 := e.trans e2
    refine ⟨a, vs, rfl, st_of (e02 _ _ h), ?_⟩
    have w : Walk (ItN K a 0) vs.length _ _ := walk_enumN
    rw [r.len] at w
    refine k _ _ _ H2 e2 w (fun H3 e3 => st_of ((e02.trans e3) _ _ h)) fun i H3 x H4 hi e3 y => ?_
    obtain ⟨T, x1, y1, rfl, hT, rfl, g1, g2⟩ := y
    have g1' : some (V.int ((0 : Int) + (i : Int))) = some x1 := g1
    cases g1'
    have e4 : Ex H3 (upd H3 T (.tup [.int ((0 : Int) + (i : Int)), y1])) := Ex.new hT
    obtain ⟨d, q1, q2⟩ := r.at_ g2
    refine ⟨e4, T, d, y1, rfl, ?_, q1, q2.mono ((e02.trans e3).trans e4)⟩
    rw [upd_same, show (0 : Int) + (i : Int) = (i : Int) by omega]
/-- enumerate of a written tuple of texts, from k on -/
theorem wk_enumK {tk : TE} {l : List Str} {k : Int} (ha : Ev ta σ H (.ref a)) (hk : Ev tk σ H (.int k)) (h : ∀ H1, Ex H H1 → SqT K H1 a (l.map V.str)) (h0 : -(2 ^ 63) ≤ k) (h1 : k < 2 ^ 63) :
    Wk (iEnumK K (tCons ta tNil) (tCons tk tNil)) σ H l.length (fun i H1 x => ∃ T s, x = .ref T ∧ H1 T = some (.tup [.int (k + (i : Int)), .str s]) ∧ l[i]? = some s) := fun H1 e R kk =>
  ha H1 e _ fun H2 e2 => hk H2 (e.trans e2) _ fun H3 e3 => by
    have e03 := (e.trans e2).trans e3
    refine ⟨a, l.map V.str, k, rfl, rfl, h0, h1, h H3 e03, ?_⟩
    have w : Walk (ItN K a k) (l.map V.str).length _ _ := walk_enumN
    rw [List.length_map] at w
    refine kk _ _ _ H3 (e2.trans e3) w (fun H4 e4 => h H4 (e03.trans e4)) fun i H4 x H5 hi e4 y => ?_
    obtain ⟨T, x1, y1, rfl, hT, rfl, g1, g2⟩ := y
    have g1' : some (V.int (k + (i : Int))) = some x1 := g1
    cases g1'
    have g2' : (l.map V.str)[i]? = some y1 := g2
    rw [List.getElem?_map] at g2'
    cases hl : l[i]? with
    | none => rw [hl] at g2'; cases g2'
    | some s =>
      rw [hl] at g2'
      cases g2'
      exact ⟨Ex.new hT, T, s, rfl, upd_same, hl⟩
end
end K2
/-! for loops by what must stand meanwhile; inner_bodies. -/
namespace K2
open PySem L2 Evl PySem.Spec PyProof.Rows RZ
/-- what is walked while G stands -/
def WkG (wi : TI) (σ : L2.St) (H : Hp) (n : Nat) (G : Hp → Prop) (P : Nat → Hp → V → Prop) : Prop :=
  ∀ H1, Ex H H1 → ∀ R : It → Hp → Prop, (∀ (J : It) (Y : Nat → Hp → V → Hp → Prop) (H2 : Hp), Ex H1 H2 → G H2 → Walk J n G Y → (∀ i H3 x H4, i < n → G H3 → Y i H3 x H4 → Ex H3 H4 ∧ P i H4 x) → R J H2) → wi σ H1 R
section
variable {K : PySem.W.Frag} {σ : L2.St} {H : Hp} {ta tb tl te : TE} {a : Addr} {vs : List V} {wi : TI} {g : TG} {tbd tz : TS} {Dd : Ends} {n : Nat} {G : Hp → Prop} {P : Nat → Hp → V → Prop}
theorem s_forG (W : WkG wi σ H n G P) (Pv : Nat → L2.St → Hp → Prop) (h0 : ∀ H1, Ex H H1 → G H1 → Pv 0 σ H1) (hG : ∀ i σ' H', i ≤ n → Pv i σ' H' → G H')
    (hs : ∀ i x σ' H0 H', i < n → Pv i σ' H0 → Ex H0 H' → P i H' x → g x σ' H' fun σ2 H2 => tbd { Dd with nx := Pv (i + 1), ct := Pv (i + 1), bk := Dd.nx } σ2 H2) (hd : ∀ σ' H', Pv n σ' H' → Dd.nx σ' H') : tFor wi g tbd Dd σ H :=
  W H (Ex.refl H) _ fun J Y H2 e2 g2 w hY => for_it w Pv (h0 H2 e2 g2) hG (fun i x σ' H0 H' hi p y => let ⟨e, q⟩ := hY i H0 x H' hi (hG i σ' H0 (Nat.le_of_lt hi) p) y; hs i x σ' H0 H' hi p e q) hd
theorem q_forG (W : WkG wi σ H n G P) (Pv : Nat → L2.St → Hp → Prop) (h0 : ∀ H1, Ex H H1 → G H1 → Pv 0 σ H1) (hG : ∀ i σ' H', i ≤ n → Pv i σ' H' → G H')
    (hs : ∀ i x σ' H0 H', i < n → Pv i σ' H0 → Ex H0 H' → P i H' x → g x σ' H' fun σ2 H2 => tbd { Dd with nx := Pv (i + 1), ct := Pv (i + 1), bk := tz Dd } σ2 H2) (hd : ∀ σ' H', Pv n σ' H' → tz Dd σ' H') : tSeq (tFor wi g tbd) tz Dd σ H :=
  s_forG (Dd := { Dd with nx := tz Dd }) W Pv h0 hG hs hd
theorem wkg_tup (h : Ev tl σ H (.ref a)) (ha : H a = some (.tup vs)) : WkG (iTup K tl) σ H vs.length (fun H1 => SqT K H1 a vs) (fun i _ x => vs[i]? = some x) := fun H1 e R k =>
  h H1 e _ fun H2 e2 => ⟨a, rfl, ⟨vs, st_of ((e.trans e2) _ _ ha)⟩, k _ _ H2 e2 (st_of ((e.trans e2) _ _ ha)) walk_tup fun i H3 x H4 hi g3 y => by
    obtain ⟨e4, hx⟩ := y
    subst e4
    exact ⟨Ex.refl _, hx⟩⟩
theorem wkg_lst (h : Ev tl σ H (.ref a)) (ha : H a = some (.lst vs)) : WkG (iList K tl) σ H vs.length (fun H1 => SqL K H1 a vs) (fun i _ x => vs[i]? = some x) := fun H1 e R k =>
  h H1 e _ fun H2 e2 => ⟨a, rfl, ⟨vs, sq_of ((e.trans e2) _ _ ha)⟩, k _ _ H2 e2 (sq_of ((e.trans e2) _ _ ha)) walk_list fun i H3 x H4 hi g3 y => by
    obtain ⟨e4, hx⟩ := y
    subst e4
    exact ⟨Ex.refl _, hx⟩⟩
theorem wkg_enum (h : Ev ta σ H (.ref a)) (ha : ∀ H1, Ex H H1 → SqT K H1 a vs) : WkG (iEnumT K (tCons ta tNil)) σ H vs.length (fun H1 => SqT K H1 a vs) (fun i H1 x => ∃ T v, x = .ref T ∧ H1 T = some (.tup [.int (i : Int), v]) ∧ vs[i]? = some v) := fun H1 e R k =>
  h H1 e _ fun H2 e2 => ⟨a, vs, rfl, ha _ (e.trans e2), k _ _ H2 e2 (ha _ (e.trans e2)) walk_enumN fun i H3 x H4 hi g3 y => by
    obtain ⟨T, x1, y1, rfl, hT, rfl, g1, g2⟩ := y
    have g1' : some (V.int ((0 : Int) + (i : Int))) = some x1 := g1
    cases g1'
    refine ⟨Ex.new hT, T, y1, rfl, ?_, g2⟩
    rw [upd_same, show (0 : Int) + (i : Int) = (i : Int) by omega]⟩
theorem wkg_enumK {tk : TE} {k : Int} (h : Ev ta σ H (.ref a)) (hk : Ev tk σ H (.int k)) (ha : ∀ H1, Ex H H1 → SqT K H1 a vs) (h0 : -(2 ^ 63) ≤ k) (h1 : k < 2 ^ 63) :
    WkG (iEnumK K (tCons ta tNil) (tCons tk tNil)) σ H vs.length (fun H1 => SqT K H1 a vs) (fun i H1 x => ∃ T v, x = .ref T ∧ H1 T = some (.tup [.int (k + (i : Int)), v]) ∧ vs[i]? = some v) := fun H1 e R kk =>
  h H1 e _ fun H2 e2 => hk H2 (e.trans e2) _ fun H3 e3 => ⟨a, vs, k, rfl, rfl, h0, h1, ha _ ((e.trans e2).trans e3), kk _ _ H3 (e2.trans e3) (ha _ ((e.trans e2).trans e3)) walk_enumN fun i H4 x H5 hi g3 y => by
    obtain ⟨T, x1, y1, rfl, hT, rfl, g1, g2⟩ := y
    have g1' : some (V.int (k + (i : Int))) = some x1 := g1
    cases g1'
    exact ⟨Ex.new hT, T, y1, rfl, upd_same, g2⟩⟩
/-- xs.append of a value of which P is known -/
theorem s_appP {l : Addr} {xs : List V} {Pp : Hp → V → Prop} (hl : H l = some (.lst xs)) (ha : Ev ta σ H (.ref l)) (h : EvP te σ H Pp) (hz : xs.length < 100000) (k : ∀ v H1, Ex H H1 → Pp H1 v → Dd.nx σ (upd H1 l (.lst (xs ++ [v])))) :
    tDrop (tBM K "list" rAppend ta (tCons te tNil)) Dd σ H := ha H (Ex.refl H) _ fun H1 e1 =>
  ⟨Or.inl ⟨rfl, xs, sq_of (e1 l _ hl)⟩, h H1 e1 _ fun v H2 e2 p => ⟨l, xs, v, rfl, rfl, e2 l _ (e1 l _ hl), sz_lt hz, k v H2 (e1.trans e2) p⟩⟩
end
section
variable {K : PySem.W.Frag} {σ : L2.St} {H : Hp} {te : TE} {g : TG} {tbd tz : TS} {Dd : Ends} {tk : TA}
theorem q_forBindK {Pp : Hp → V → Prop} (h : EvP te σ H Pp) (k : ∀ v H1, Ex H H1 → Pp H1 v → tSeq (tFor (iEnumK K (tCons (tC v) tNil) tk) g tbd) tz Dd σ H1) : tSeq (tFor (iEnumK K (tCons te tNil) tk) g tbd) tz Dd σ H :=
  h H (Ex.refl H) _ fun v H1 e p => k v H1 e p
theorem evp_kget_no {d : Addr} {td ty tx : TE} {z : Str} {Pp : Hp → V → Prop} (h1 : Ev td σ H (.ref d)) (h2 : Ev ty σ H (.str z)) (h3 : EvP tx σ H Pp) (hn : PySem.W.nsIn K d z = some none) : EvP (tKGet2 K d td ty tx) σ H Pp := fun H1 e Q q =>
  h1 H1 e _ fun H2 e2 => ⟨rfl, h2 H2 (e.trans e2) _ fun H3 e3 => h3 H3 ((e.trans e2).trans e3) _ fun v H4 e4 p => ⟨z, none, v, rfl, hn, (fun u h => nomatch h), (fun _ => rfl), q v H4 ((e2.trans e3).trans e4) p⟩⟩
theorem evp_kget_yes {d : Addr} {td ty tx : TE} {z : Str} {u : Value} {v : V} {Pp Pq : Hp → V → Prop} (h1 : Ev td σ H (.ref d)) (h2 : Ev ty σ H (.str z)) (h3 : EvP tx σ H Pq) (hn : PySem.W.nsIn K d z = some (some u)) (r : L2.RelV v u) (pv : ∀ H1, Pp H1 v) : EvP (tKGet2 K d td ty tx) σ H Pp := fun H1 e Q q =>
  h1 H1 e _ fun H2 e2 => ⟨rfl, h2 H2 (e.trans e2) _ fun H3 e3 => h3 H3 ((e.trans e2).trans e3) _ fun v' H4 e4 p => ⟨z, some u, v, rfl, hn, (fun u' h => by cases h; exact r), (fun h => nomatch h), q v H4 ((e2.trans e3).trans e4) (pv H4)⟩⟩
end
theorem sqT_lst {K : PySem.W.Frag} {H : Hp} {a p : Addr} {xs ys zs : List V} (hp : H p = some (.lst ys)) (h : SqT K H a xs) : SqT K (upd H p (.lst zs)) a xs := by
  rcases h with (h | ⟨o, h⟩) | h
  · refine .inl (.inl ?_)
    rw [upd_ne (by intro z; rw [z, hp] at h; cases h)]
    exact h
  · refine .inl (.inr ⟨o, ?_⟩)
    rw [upd_ne (by intro z; rw [z, hp] at h; cases h)]
    exact h
  · exact .inr h
theorem sqT_ex {K : PySem.W.Frag} {H H' : Hp} {a : Addr} {xs : List V} (e : Ex H H') (h : SqT K H a xs) : SqT K H' a xs := ex_t e h
/-! ### inner_bodies -/
def third : D → D
  | .tup [_, _, b] => b
  | _ => .non
def hItem (at_ : Int) (hs : List D) (r : Nat) : List D := match hs[r]? with | some h => [D.tup [D.tup [D.int at_, D.int (r : Int), D.int 2], third h]] | none => []
def hItems (at_ : Int) (hs : List D) (n : Nat) : List D := (List.range n).flatMap (hItem at_ hs)
def innOf (at_ : Int) (s : Str) (d : D) : List D :=
  if s = "body" then [D.tup [D.tup [D.int at_], d]] else if s = "handlers" then (match d with | .tup hs => hItems at_ hs hs.length | _ => []) else []
def innAt (sh : List Str) (parts : List D) (i : Nat) : List D := match sh[i]?, parts[i]? with | some s, some d => innOf (1 + (i : Int)) s d | _, _ => []
def inn (sh : List Str) (parts : List D) (n : Nat) : List D := (List.range n).flatMap (innAt sh parts)
def shapeOr (word : Str) : List Str := match shape word with | some sh => sh | none => []
def innerB (word : Str) (parts : List D) : List D := inn (shapeOr word) parts (shapeOr word).length
theorem inn_succ (sh : List Str) (parts : List D) (n : Nat) : inn sh parts (n + 1) = inn sh parts n ++ innAt sh parts n := by simp [inn, List.range_succ]
theorem hItems_succ (at_ : Int) (hs : List D) (n : Nat) : hItems at_ hs (n + 1) = hItems at_ hs n ++ hItem at_ hs n := by simp [hItems, List.range_succ]
theorem hItems_len (at_ : Int) (hs : List D) : ∀ n, (hItems at_ hs n).length ≤ n
  | 0 => by simp [hItems]
  | n + 1 => by
    rw [hItems_succ, List.length_append]
    have := hItems_len at_ hs n
    have : (hItem at_ hs n).length ≤ 1 := by unfold hItem; split <;> simp
    omega
theorem innOf_len (at_ : Int) (s : Str) (d : D) : (innOf at_ s d).length ≤ szD d := by
  unfold innOf
  split
  · have := szD_pos d; simp; omega
  · split
    · split
      · rename_i hs
        have := hItems_len at_ hs hs.length
        have := szL_len hs
        show _ ≤ szL hs + 1
        omega
      · simp
    · simp
theorem inn_len (sh : List Str) (parts : List D) : ∀ n, (inn sh parts n).length ≤ szL (parts.take n)
  | 0 => by simp [inn]
  | n + 1 => by
    rw [inn_succ, List.length_append]
    have ih := inn_len sh parts n
    cases h : parts[n]? with
    | none =>
      have e : innAt sh parts n = [] := by unfold innAt; rw [h]; split <;> simp_all
      have : parts.length ≤ n := List.getElem?_eq_none_iff.mp h
      rw [e, List.take_of_length_le (by omega)]
      rw [List.take_of_length_le this] at ih
      simpa using ih
    | some d =>
      have e : parts.take (n + 1) = parts.take n ++ [d] := by
        rw [List.take_succ, h]; rfl
      rw [e, szL_app]
      have : (innAt sh parts n).length ≤ szD d := by
        unfold innAt
        rw [h]
        split
        · rename_i s d' h1 h2
          cases h2
          exact innOf_len _ _ _
        · simp
      show _ ≤ szL (parts.take n) + (szD d + 0)
      omega
theorem szL_take (l : List D) (n : Nat) : szL (l.take n) ≤ szL l := by
  have := szL_app (l.take n) (l.drop n)
  rw [List.take_append_drop] at this
  omega
/-- the parts fit the word's shape -/
def Fits (word : Str) (parts : List D) : Prop := (shapeOr word).length ≤ parts.length ∧ ∀ (i : Nat) (s : Str) (d : D), (shapeOr word)[i]? = some s → parts[i]? = some d →
  (s = "handlers" → ∃ hs : List D, d = D.tup hs ∧ ∀ h ∈ hs, ∃ a b c : D, h = D.tup [a, b, c])
def spInner (K : PySem.W.Frag) : Sp := fun vs H Q _ => ∃ word parts v, vs = [v] ∧ Rp K H (.tup (.str word :: parts)) v ∧ Sm (.tup (.str word :: parts)) ∧ Fits word parts ∧
  ∀ p H2 xs, H p = none → Ex H H2 → H2 p = some (.lst xs) → Rps K H2 (innerB word parts) xs → Q (.ref p) H2
section
variable {P : Program} {w : World} {K : PySem.W.Frag} {mg : Str → Option Value} {base : Heap}
theorem sc32 : FnScope ["step", "found", "at", "shape", "row", "handler"] ["step"] (defScope (top 32)) := ⟨rfl, rfl, rfl, by decide +kernel, rfl, by decide +kernel, by decide +kernel⟩
theorem ok_inner (B : Bl mg) (T : Tb K w mg) (F : Df K mg "inner_bodies" (top 32) ["step"]) : Okd P w K mg base CX0 1 "inner_bodies" ["step"] (spInner K) := by
  refine F.ok sc32 (fun vs H Q E h => by obtain ⟨word, parts, v, rfl, _⟩ := h; rfl) (fun f cdv A outer s H vs Q E hr h => ?_)
  obtain ⟨word, parts, v, rfl, r, sm, fit, k⟩ := h
  obtain ⟨aS, u_SHAPES, esS, nS, c_SHAPES, r_SHAPES, kS, noS, yesS⟩ := T.sh
  refine ⟨_, (pss_cons (ps_set (i := 1) sc32.nd rfl (Or.inl rfl) (pe_lst pa_nil))
      (pss_cons (ps_for PassesOwn.never rfl (pi_enumK (by rfl) B.enumerate (pa_cons (pe_kget2 kS (pe_glob (by rfl) c_SHAPES r_SHAPES) (pe_ix ix_tup (pv 0) pe_int (fun _ _ => rfl)) (pe_tup pa_nil) ⟨rfl, rfl, rfl, rfl⟩) pa_nil) (pk_cons pe_int pk_nil)) (pg_tup (by rfl) (pgs_cons (pg_name (i := 2) sc32.nd rfl (Or.inl rfl)) (pgs_cons (pg_name (i := 3) sc32.nd rfl (Or.inl rfl)) pgs_nil))) (pss_one (ps_if (pt_cmpR op_eq (pv 3) pe_str (nomark _)) (pss_one (ps_expr (pe_bm PySem.F.plainAttrs_list PySem.F.slot_list_append PySem.F.type_list_append mt_append (pv 1) (pa_cons (pe_tup (pa_cons (pe_tup (pa_cons (pv 2) pa_nil)) (pa_cons (pe_ix ix_tup (pv 0) (pv 2) (fun _ _ => rfl)) pa_nil))) pa_nil)))) (pss_one (ps_if (pt_cmpR op_eq (pv 3) pe_str (nomark _)) (pss_one (ps_for PassesOwn.never rfl (pi_enumT (by rfl) B.enumerate (pa_cons (pe_ix ix_tup (pv 0) (pv 2) (fun _ _ => rfl)) pa_nil)) (pg_tup (by rfl) (pgs_cons (pg_name (i := 4) sc32.nd rfl (Or.inl rfl)) (pgs_cons (pg_name (i := 5) sc32.nd rfl (Or.inl rfl)) pgs_nil))) (pss_one (ps_expr (pe_bm PySem.F.plainAttrs_list PySem.F.slot_list_append PySem.F.type_list_append mt_append (pv 1) (pa_cons (pe_tup (pa_cons (pe_tup (pa_cons (pv 2) (pa_cons (pv 4) (pa_cons pe_int pa_nil)))) (pa_cons (pe_ix ix_tup (pv 5) pe_int (fun _ _ => rfl)) pa_nil))) pa_nil)))))) pss_nil)))))
      (pss_one (ps_ret (pv 1))))), ?_⟩
  cases r with
  | tup ha rs =>
    rename_i sa svs
    obtain ⟨v0, g0, r0⟩ := rs.get (i := 0) (d := .str word) rfl
    cases r0
    refine q_asgL (el_lst ea_nil (by simp)) fun fa H1 nfa e1 hfa => ?_
    have ha1 := e1 _ _ ha
    refine q_forBindK (Pp := fun H1 v => ∃ t, v = .ref t ∧ ∀ H2, Ex H1 H2 → SqT K H2 t ((shapeOr word).map V.str)) ?_ fun v H2 e2 pv => ?_
    · cases hS : shape word with
      | none =>
        have hsh : shapeOr word = [] := by unfold shapeOr; rw [hS]
        rw [hsh]
        exact evp_kget_no ev_c (ev_op (ev_var rfl) ev_c (rv_ixT (st_of ha1) (atI_nat (j := 0) g0))) (fun H3 e3 Q q => ⟨by simp, fun p hp => q _ _ (Ex.new hp) ⟨p, rfl, fun H4 e4 => st_of (e4 _ _ upd_same)⟩⟩) (noS word hS)
      | some sh =>
        obtain ⟨t, ut, n1, n2, n3⟩ := yesS word sh hS
        have hsh : shapeOr word = sh := by unfold shapeOr; rw [hS]
        rw [hsh]
        exact evp_kget_yes (Pq := fun _ _ => True) ev_c (ev_op (ev_var rfl) ev_c (rv_ixT (st_of ha1) (atI_nat (j := 0) g0))) (fun H3 e3 Q q => ⟨by simp, fun p hp => q _ _ (Ex.new hp) trivial⟩) n1 n2 (fun H1 => ⟨t, rfl, fun H2 _ => n3 H2⟩)
    · obtain ⟨t, rfl, hst⟩ := pv
      have e02 := e1.trans e2
      have ha2 := e2 _ _ ha1
      have fit1 := fit.1
      refine q_forG (wkg_enumK (vs := (shapeOr word).map V.str) ev_c ev_c (fun H3 e3 => hst H3 e3) (by decide) (by decide)) (fun i σ' H' => ∃ x2 x3 x4 x5 fv, σ' = [some (.ref sa), some (.ref fa), x2, x3, x4, x5] ∧ Ex H H' ∧ SqT K H' t ((shapeOr word).map V.str) ∧ H' fa = some (.lst fv) ∧ Rps K H' (inn (shapeOr word) parts i) fv)
        (fun H3 e3 g3 => ⟨none, none, none, none, [], rfl, e02.trans e3, g3, e3 _ _ (e2 _ _ hfa), .nil⟩) (fun i σ' H' _ ⟨_, _, _, _, _, _, _, g, _⟩ => g) ?_ ?_
      · rintro i x σ' H0 H3 hi ⟨x2, x3, x4, x5, fv, rfl, e0, g0', hf0, rf0⟩ e3 ⟨T, vv, rfl, hT, hvv⟩
        rw [List.getElem?_map] at hvv
        cases hsi : (shapeOr word)[i]? with
        | none => rw [hsi] at hvv; cases hvv
        | some sx =>
          rw [hsi] at hvv
          cases hvv
          rw [List.length_map] at hi
          have hip : i < parts.length := by omega
          have hpi : parts[i]? = some parts[i] := List.getElem?_eq_getElem hip
          obtain ⟨vd, gd, rd⟩ := rs.get (i := i + 1) (d := parts[i]) (by simpa using hpi)
          have sd : Sm parts[i] := sm.item (i := i + 1) (by simpa using hpi)
          have e03 := e0.trans e3
          have ha3 := e03 _ _ ha
          have hf3 := e3 _ _ hf0
          have rf3 := rf0.mono e3
          have rd3 := rd.mono e03
          have hat : (1 : Int) + (i : Int) = ((i + 1 : Nat) : Int) := by omega
          have hstep : ∀ {σ : L2.St} {H4 : Hp}, σ[0]? = some (some (.ref sa)) → σ[2]? = some (some (.int (1 + (i : Int)))) → Ex H3 H4 → Ev (tOp (rIxT K) (tVar 0) (tVar 2)) σ H4 vd := fun h0 h2 e4 => ev_op (ev_var h0) (ev_var h2) (rv_ixT (st_of (e4 _ _ ha3)) (by rw [hat]; exact atI_nat gd))
          have fl : fv.length ≤ 39000 := by
            rw [rf0.len]
            have h1 := inn_len (shapeOr word) parts i
            have h2 := szL_take parts i
            have h3 : szL (.str word :: parts) + 1 ≤ 39000 := sm
            simp only [szL] at h3
            omega
          have iat : innAt (shapeOr word) parts i = innOf (1 + (i : Int)) sx parts[i] := by unfold innAt; rw [hsi, hpi]
          refine ⟨T, _, rfl, st_of hT, rfl, .int (1 + (i : Int)), [.str sx], rfl, .str sx, [], rfl, rfl, ?_⟩
          refine s_if (et_eqS (K := K) (ev_var rfl)) (fun hb H4 e4 => ?_) (fun hb H4 e4 => ?_)
          · have hb := of_decide_eq_true hb
            refine s_appP (e4 _ _ hf3) (ev_var rfl) (Pp := fun H1 v => Rp K H1 (.tup [.tup [.int (1 + (i : Int))], parts[i]]) v) (evp_tup (eap_cons (evp_tup (eap_cons (evp_d (ev_var rfl) (Rp.int _)) eap_nil) (by simp)) (eap_cons (evp_d (hstep rfl rfl e4) (rd3.mono e4)) eap_nil)) (by simp)) (by omega) fun v H5 e5 rv => ?_
            have e35 := e4.trans e5
            have w5 : Ew H5 (upd H5 fa (.lst (fv ++ [v]))) := Ew.lst (e35 _ _ hf3)
            refine ⟨_, _, _, _, fv ++ [v], rfl, Ex.mut (e03.trans e35) nfa, sqT_lst (e35 _ _ hf3) (sqT_ex (e3.trans e35) g0'), upd_same, ?_⟩
            rw [inn_succ, iat]
            have : innOf (1 + (i : Int)) sx parts[i] = [.tup [.tup [.int (1 + (i : Int))], parts[i]]] := by unfold innOf; rw [if_pos hb]
            rw [this]
            exact ((rf3.mono e35).ew w5).app (.cons (rv.ew w5) .nil)
          · have hb := of_decide_eq_false hb
            refine s_if (et_eqS (K := K) (ev_var rfl)) (fun hc H5 e5 => ?_) (fun hc H5 e5 => ?_)
            · have hc := of_decide_eq_true hc
              obtain ⟨hs, ehs, hh⟩ := fit.2 i sx parts[i] hsi hpi hc
              have e35 := e4.trans e5
              have rdh : Rp K H5 (.tup hs) vd := by
                rw [← ehs]
                exact rd3.mono e35
              have inof : innOf (1 + (i : Int)) sx parts[i] = hItems (1 + (i : Int)) hs hs.length := by
                unfold innOf
                rw [if_neg hb, if_pos hc, ehs]
              have hsl : hs.length ≤ 39000 := by rw [ehs] at sd; exact sd.tlen
              cases rdh with
              | tup hha rhs =>
                rename_i hA hvs
                have wl := rhs.len
                refine s_forG (wkg_enum (K := K) (a := hA) (vs := hvs) (hstep rfl rfl e35) (fun H6 e6 => st_of (e6 _ _ hha))) (fun r σ' H' => ∃ x4 x5 fv', σ' = [some (.ref sa), some (.ref fa), some (.int (1 + (i : Int))), some (.str sx), x4, x5] ∧ Ex H H' ∧ SqT K H' t ((shapeOr word).map V.str) ∧ SqT K H' hA hvs ∧ Rps K H' hs hvs ∧ H' fa = some (.lst fv') ∧ Rps K H' (inn (shapeOr word) parts i ++ hItems (1 + (i : Int)) hs r) fv')
                  (fun H6 e6 g6 => ⟨_, _, fv, rfl, (e03.trans e35).trans e6, sqT_ex ((e3.trans e35).trans e6) g0', g6, rhs.mono e6, (e35.trans e6) _ _ hf3, by
                    have : hItems (1 + (i : Int)) hs 0 = [] := rfl
                    rw [this, List.append_nil]
                    exact rf3.mono (e35.trans e6)⟩) (fun r σ' H' _ ⟨_, _, _, _, _, _, g, _⟩ => g) ?_ ?_
                · rintro r x σ' H6 H7 hr ⟨x4, x5, fv', rfl, e06, gt6, gh6, rh6, hf6, rf6⟩ e7 ⟨T2, hv, rfl, hT2, hhv⟩
                  obtain ⟨dh, q1, q2⟩ := (rh6.mono e7).at_ hhv
                  obtain ⟨da, db, dc, rfl⟩ := hh dh (List.mem_of_getElem? q1)
                  cases q2 with
                  | tup hx rx =>
                    rename_i xa xvs
                    obtain ⟨vc, c1, c2⟩ := rx.get (i := 2) (d := dc) rfl
                    have hf7 := e7 _ _ hf6
                    have rf7 := rf6.mono e7
                    have fl' : fv'.length < 100000 := by
                      rw [rf6.len, List.length_append]
                      have h1 := inn_len (shapeOr word) parts i
                      have h2 := szL_take parts i
                      have h3 : szL (.str word :: parts) + 1 ≤ 39000 := sm
                      have h4 := hItems_len (1 + (i : Int)) hs r
                      simp only [szL] at h3
                      rw [wl] at hr
                      omega
                    have hit : hItem (1 + (i : Int)) hs r = [.tup [.tup [.int (1 + (i : Int)), .int (r : Int), .int 2], dc]] := by unfold hItem; rw [q1]; rfl
                    refine ⟨T2, _, rfl, st_of hT2, rfl, .int (r : Int), [.ref xa], rfl, .ref xa, [], rfl, rfl, ?_⟩
                    refine s_appP hf7 (ev_var rfl) (Pp := fun H1 v => Rp K H1 (.tup [.tup [.int (1 + (i : Int)), .int (r : Int), .int 2], dc]) v) (evp_tup (eap_cons (evp_tup (eap_cons (evp_d (ev_var rfl) (Rp.int _)) (eap_cons (evp_d (ev_var rfl) (Rp.int _)) (eap_cons (evp_d ev_c (Rp.int 2)) eap_nil))) (by simp)) (eap_cons (evp_d (ev_op (ev_var rfl) ev_c (rv_ixT (st_of hx) (atI_nat (j := 2) c1))) c2) eap_nil)) (by simp)) fl' fun v H8 e8 rv => ?_
                    have w8 : Ew H8 (upd H8 fa (.lst (fv' ++ [v]))) := Ew.lst (e8 _ _ hf7)
                    refine ⟨_, _, fv' ++ [v], rfl, Ex.mut ((e06.trans e7).trans e8) nfa, sqT_lst (e8 _ _ hf7) (sqT_ex (e7.trans e8) gt6), sqT_lst (e8 _ _ hf7) (sqT_ex (e7.trans e8) gh6), (rh6.mono (e7.trans e8)).ew w8, upd_same, ?_⟩
                    rw [hItems_succ, hit, ← List.append_assoc]
                    exact ((rf7.mono e8).ew w8).app (.cons (rv.ew w8) .nil)
                · rintro σ' H6 ⟨x4, x5, fv', rfl, e06, gt6, gh6, rh6, hf6, rf6⟩
                  refine ⟨_, _, _, _, fv', rfl, e06, gt6, hf6, ?_⟩
                  rw [inn_succ, iat, inof]
                  rw [wl] at rf6
                  exact rf6
            · have hc := of_decide_eq_false hc
              have e35 := e4.trans e5
              refine ⟨_, _, _, _, fv, rfl, e03.trans e35, sqT_ex (e3.trans e35) g0', e35 _ _ hf3, ?_⟩
              rw [inn_succ, iat]
              have : innOf (1 + (i : Int)) sx parts[i] = [] := by unfold innOf; rw [if_neg hb, if_neg hc]
              rw [this, List.append_nil]
              exact rf3.mono e35
      · rintro σ' H' ⟨x2, x3, x4, x5, fv, rfl, e0, g0', hf0, rf0⟩
        rw [List.length_map] at rf0
        exact s_ret (ev_var rfl) fun H5 e5 => k fa H5 fv nfa (e0.trans e5) (e5 _ _ hf0) (rf0.mono e5)
end
end K2
/-! The steps that are still to be read, and the first of them that is none: the mathematics. -/
namespace K2
open PySem
structure It3 where
  step : D
  place : List D
  il : Bool
def toD (i : It3) : D := .tup [i.step, .tup i.place, .bl i.il]
def szI (l : List It3) : Nat := szL (l.map It3.step)
theorem szI_app (a b : List It3) : szI (a ++ b) = szI a + szI b := by unfold szI; rw [List.map_append, szL_app]
theorem szI_len (l : List It3) : l.length ≤ szI l := by
  have := szL_len (l.map It3.step)
  simpa [szI] using this
def kid (place way : List D) (il : Bool) (steps : List D) (i : Nat) : List It3 := match steps[i]? with | some s => [⟨s, place ++ (way ++ [D.int (i : Int)]), il⟩] | none => []
def kidsN (place way : List D) (il : Bool) (steps : List D) (n : Nat) : List It3 := (List.range n).flatMap (kid place way il steps)
def kids (place : List D) (il : Bool) : D → List It3
  | .tup [.tup way, .tup steps] => kidsN place way il steps steps.length
  | _ => []
def chil (place : List D) (il : Bool) (prs : List D) (n : Nat) : List It3 := (List.range n).flatMap fun i => match prs[i]? with | some p => kids place il p | none => []
theorem kidsN_succ (place way : List D) (il : Bool) (steps : List D) (n : Nat) : kidsN place way il steps (n + 1) = kidsN place way il steps n ++ kid place way il steps n := by simp [kidsN, List.range_succ]
theorem chil_succ (place : List D) (il : Bool) (prs : List D) (n : Nat) (p : D) (h : prs[n]? = some p) : chil place il prs (n + 1) = chil place il prs n ++ kids place il p := by simp [chil, List.range_succ, h]
theorem kidsN_sz (place way : List D) (il : Bool) (steps : List D) : ∀ n, szI (kidsN place way il steps n) ≤ szL (steps.take n)
  | 0 => by simp [kidsN, szI, szL]
  | n + 1 => by
    rw [kidsN_succ, szI_app]
    have ih := kidsN_sz place way il steps n
    cases h : steps[n]? with
    | none =>
      have e : kid place way il steps n = [] := by unfold kid; rw [h]
      have l : steps.length ≤ n := List.getElem?_eq_none_iff.mp h
      rw [e, List.take_of_length_le (by omega)]
      rw [List.take_of_length_le l] at ih
      simpa [szI, szL] using ih
    | some s =>
      have e : kid place way il steps n = [⟨s, place ++ (way ++ [D.int (n : Int)]), il⟩] := by unfold kid; rw [h]
      have e2 : steps.take (n + 1) = steps.take n ++ [s] := by rw [List.take_succ, h]; rfl
      rw [e, e2, szL_app]
      show _ + (szD s + 0) ≤ _ + (szD s + 0)
      omega
/-- what a pair of a way and steps weighs -/
def szP : D → Nat
  | .tup [.tup _, .tup steps] => szL steps
  | _ => 0
def szPs (l : List D) : Nat := (l.map szP).sum
theorem szPs_app (a b : List D) : szPs (a ++ b) = szPs a + szPs b := by simp [szPs]
theorem kids_sz (place : List D) (il : Bool) (p : D) : szI (kids place il p) ≤ szP p := by
  unfold kids
  split
  · rename_i way steps
    have := kidsN_sz place way il steps steps.length
    rw [List.take_length] at this
    exact this
  · simp [szI, szL]
theorem chil_sz (place : List D) (il : Bool) (prs : List D) : ∀ n, szI (chil place il prs n) ≤ szPs (prs.take n)
  | 0 => by simp [chil, szI, szL]
  | n + 1 => by
    have ih := chil_sz place il prs n
    cases h : prs[n]? with
    | none =>
      have e : chil place il prs (n + 1) = chil place il prs n := by simp [chil, List.range_succ, h]
      have l : prs.length ≤ n := List.getElem?_eq_none_iff.mp h
      rw [e, List.take_of_length_le (by omega)]
      rw [List.take_of_length_le l] at ih
      exact ih
    | some p =>
      have e2 : prs.take (n + 1) = prs.take n ++ [p] := by rw [List.take_succ, h]; rfl
      rw [chil_succ _ _ _ _ _ h, szI_app, e2, szPs_app]
      have := kids_sz place il p
      simp only [szPs, List.map_cons, List.map_nil, List.sum_cons, List.sum_nil] at ih ⊢
      omega
theorem szP_le : ∀ d : D, szP (.tup [.tup [], d]) ≤ szD d
  | .tup l => by show szL l ≤ szL l + 1; omega
  | .non => Nat.zero_le _
  | .bl _ => Nat.zero_le _
  | .int _ => Nat.zero_le _
  | .str _ => Nat.zero_le _
  | .lst => Nat.zero_le _
  | .dct => Nat.zero_le _
theorem szP_way (w w' : List D) : ∀ d : D, szP (.tup [.tup w, d]) = szP (.tup [.tup w', d])
  | .tup _ => rfl
  | .non => rfl
  | .bl _ => rfl
  | .int _ => rfl
  | .str _ => rfl
  | .lst => rfl
  | .dct => rfl
theorem szP_d (w : List D) (d : D) : szP (.tup [.tup w, d]) ≤ szD d := by rw [szP_way w []]; exact szP_le d
theorem third_sz (h : D) : szD (third h) ≤ szD h := by
  unfold third
  split
  · rename_i a b c
    show szD c ≤ (szD a + (szD b + (szD c + 0))) + 1
    omega
  · have := szD_pos h
    show 1 ≤ szD h
    exact this
theorem hItems_sz (at_ : Int) (hs : List D) : ∀ n, szPs (hItems at_ hs n) ≤ szL (hs.take n)
  | 0 => by simp [hItems, szPs]
  | n + 1 => by
    rw [hItems_succ, szPs_app]
    have ih := hItems_sz at_ hs n
    cases h : hs[n]? with
    | none =>
      have e : hItem at_ hs n = [] := by unfold hItem; rw [h]
      have l : hs.length ≤ n := List.getElem?_eq_none_iff.mp h
      rw [e, List.take_of_length_le (by omega)]
      rw [List.take_of_length_le l] at ih
      simpa [szPs] using ih
    | some s =>
      have e : hItem at_ hs n = [D.tup [D.tup [D.int at_, D.int (n : Int), D.int 2], third s]] := by unfold hItem; rw [h]
      have e2 : hs.take (n + 1) = hs.take n ++ [s] := by rw [List.take_succ, h]; rfl
      rw [e, e2, szL_app]
      have h1 := szP_d [D.int at_, D.int (n : Int), D.int 2] (third s)
      have h2 := third_sz s
      show _ + (szP _ + 0) ≤ _ + (szD s + 0)
      omega
theorem innOf_sz (at_ : Int) (s : Str) (d : D) : szPs (innOf at_ s d) ≤ szD d := by
  unfold innOf
  split
  · have := szP_d [D.int at_] d
    show szP _ + 0 ≤ _
    omega
  · split
    · split
      · rename_i hs
        have := hItems_sz at_ hs hs.length
        rw [List.take_length] at this
        show _ ≤ szL hs + 1
        omega
      · simp [szPs]
    · simp [szPs]
theorem inn_sz (sh : List Str) (parts : List D) : ∀ n, szPs (inn sh parts n) ≤ szL (parts.take n)
  | 0 => by simp [inn, szPs]
  | n + 1 => by
    rw [inn_succ, szPs_app]
    have ih := inn_sz sh parts n
    cases h : parts[n]? with
    | none =>
      have e : innAt sh parts n = [] := by unfold innAt; rw [h]; split <;> simp_all
      have l : parts.length ≤ n := List.getElem?_eq_none_iff.mp h
      rw [e, List.take_of_length_le (by omega)]
      rw [List.take_of_length_le l] at ih
      simpa [szPs] using ih
    | some d =>
      have e2 : parts.take (n + 1) = parts.take n ++ [d] := by rw [List.take_succ, h]; rfl
      rw [e2, szL_app]
      have : szPs (innAt sh parts n) ≤ szD d := by
        unfold innAt
        rw [h]
        split
        · rename_i s d' h1 h2
          cases h2
          exact innOf_sz _ _ _
        · simp [szPs]
      show _ ≤ _ + (szD d + 0)
      omega
/-- the steps in the bodies of a step -/
def childs (place : List D) (il : Bool) : D → List It3
  | .tup (.str word :: parts) => chil place (il || inStrs loopsL word) (innerB word parts) (innerB word parts).length
  | _ => []
theorem childs_sz (place : List D) (il : Bool) (d : D) : szI (childs place il d) + 1 ≤ szD d := by
  unfold childs
  split
  · rename_i word parts
    have h1 := chil_sz place (il || inStrs loopsL word) (innerB word parts) (innerB word parts).length
    rw [List.take_length] at h1
    have h2 := inn_sz (shapeOr word) parts (shapeOr word).length
    have h3 := szL_take parts (shapeOr word).length
    have h4 : innerB word parts = inn (shapeOr word) parts (shapeOr word).length := rfl
    rw [h4] at h1
    rw [h4]
    show _ ≤ ((word.length + 1) + szL parts) + 1
    omega
  · have := szD_pos d
    simp only [szI, List.map_nil, szL]
    omega
/-- the place of the first of these steps that is none -/
def bad (rt : Rt) (async : Bool) : Nat → List It3 → Option (List D)
  | 0, _ => none
  | _ + 1, [] => none
  | n + 1, i :: rest => if isStepD rt async i.il i.step = true then bad rt async n (childs i.place i.il i.step ++ rest) else some i.place
theorem bad_fuel (rt : Rt) (async : Bool) : ∀ (n m : Nat) (l : List It3), szI l < n → szI l < m → bad rt async n l = bad rt async m l
  | 0, _, l, h, _ => absurd h (Nat.not_lt_zero _)
  | _, 0, l, _, h => absurd h (Nat.not_lt_zero _)
  | n + 1, m + 1, [], _, _ => rfl
  | n + 1, m + 1, i :: rest, h1, h2 => by
    unfold bad
    have h3 := childs_sz i.place i.il i.step
    have h4 : szI (i :: rest) = szD i.step + szI rest := rfl
    have ih := bad_fuel rt async n m (childs i.place i.il i.step ++ rest) (by rw [szI_app]; omega) (by rw [szI_app]; omega)
    rw [ih]
/-- .. with enough steps -/
def firstBad (rt : Rt) (async : Bool) (l : List It3) : Option (List D) := bad rt async (szI l + 1) l
theorem firstBad_nil (rt : Rt) (async : Bool) : firstBad rt async [] = none := rfl
theorem firstBad_cons (rt : Rt) (async : Bool) (i : It3) (rest : List It3) :
    firstBad rt async (i :: rest) = if isStepD rt async i.il i.step = true then firstBad rt async (childs i.place i.il i.step ++ rest) else some i.place := by
  unfold firstBad
  have h3 := childs_sz i.place i.il i.step
  have h4 : szI (i :: rest) = szD i.step + szI rest := rfl
  have e : bad rt async (szI (i :: rest) + 1) (i :: rest) = if isStepD rt async i.il i.step = true then bad rt async (szI (i :: rest)) (childs i.place i.il i.step ++ rest) else some i.place := rfl
  rw [e, bad_fuel rt async (szI (i :: rest)) (szI (childs i.place i.il i.step ++ rest) + 1) _ (by rw [szI_app]; omega) (by omega)]
/-- a body's steps, from the top -/
def topItems (wd : Str) (body : List D) : List It3 := kidsN [D.str wd] [] false body body.length
def wrongAt (rt : Rt) (async : Bool) (wd : Str) (body : List D) : Option (List D) := firstBad rt async (topItems wd body)
/-! ### a step fits its word -/
theorem shape_say : shape "say" = none := by decide +kernel
theorem shape_raise : shape "raise" = none := by decide +kernel
theorem zipOk_get (rt : Rt) : ∀ (l : List Str) (ds : List D) (i : Nat) (s : Str) (d : D), zipOk rt l ds = true → l[i]? = some s → ds[i]? = some d → partOk rt s d = true
  | [], _, i, s, d, _, h, _ => by simp at h
  | _ :: _, [], i, s, d, _, _, h => by simp at h
  | a :: l, e :: ds, 0, s, d, h, h1, h2 => by
    simp at h1 h2
    subst h1 h2
    have h' : (partOk rt a e && zipOk rt l ds) = true := h
    rw [Bool.and_eq_true] at h'
    exact h'.1
  | a :: l, e :: ds, i + 1, s, d, h, h1, h2 => by
    have h' : (partOk rt a e && zipOk rt l ds) = true := h
    rw [Bool.and_eq_true] at h'
    exact zipOk_get rt l ds i s d h'.2 (by simpa using h1) (by simpa using h2)
theorem partOk_handlers (rt : Rt) (d : D) : partOk rt "handlers" d = handlersOk d := by
  unfold partOk
  rw [if_neg (by decide +kernel), if_neg (by decide +kernel), if_neg (by decide +kernel), if_neg (by decide +kernel), if_neg (by decide +kernel)]
theorem partOk_body (rt : Rt) (d : D) : partOk rt "body" d = isTup d := by
  unfold partOk
  rw [if_neg (by decide +kernel), if_neg (by decide +kernel), if_neg (by decide +kernel), if_neg (by decide +kernel), if_pos rfl]
theorem handler_of {h : D} (q : isHandler h = true) : ∃ a b st, h = .tup [a, b, .tup st] := by
  unfold isHandler at q
  split at q
  · rename_i ks t b
    simp only [Bool.and_eq_true] at q
    have ht := q.2.2
    cases b with
    | tup st => exact ⟨ks, t, st, rfl⟩
    | _ => cases ht
  · cases q
/-- what a step that is one is known to be -/
structure Good (word : Str) (parts : List D) : Prop where
  len : (shapeOr word).length ≤ parts.length
  body : ∀ (i : Nat) (d : D), (shapeOr word)[i]? = some "body" → parts[i]? = some d → isTup d = true
  hand : ∀ (i : Nat) (d : D), (shapeOr word)[i]? = some "handlers" → parts[i]? = some d → ∃ hs : List D, d = .tup hs ∧ ∀ h ∈ hs, ∃ a b st, h = D.tup [a, b, .tup st]
theorem good_of {rt : Rt} {async il : Bool} {word : Str} {parts : List D} (h : stepOk rt async il word parts = true) : Good word parts := by
  unfold stepOk at h
  by_cases hc : word = "say" ∨ (word = "raise" ∧ parts.length ≤ 1)
  · have hs : shapeOr word = [] := by
      unfold shapeOr
      rcases hc with e | ⟨e, _⟩
      · rw [e, shape_say]
      · rw [e, shape_raise]
    refine ⟨by rw [hs]; exact Nat.zero_le _, fun i d h1 => ?_, fun i d h1 => ?_⟩ <;> (rw [hs] at h1; simp at h1)
  · rw [if_neg hc] at h
    cases hS : shape word with
    | none =>
      have hs : shapeOr word = [] := by unfold shapeOr; rw [hS]
      refine ⟨by rw [hs]; exact Nat.zero_le _, fun i d h1 => ?_, fun i d h1 => ?_⟩ <;> (rw [hs] at h1; simp at h1)
    | some sh =>
      have hs : shapeOr word = sh := by unfold shapeOr; rw [hS]
      rw [hS] at h
      have h : (if parts.length ≠ sh.length then false else if (decide (word = "break") && !il || inStrs asyncL word && !async) = true then false else zipOk rt sh parts) = true := h
      by_cases hl : parts.length ≠ sh.length
      · rw [if_pos hl] at h; cases h
      · rw [if_neg hl] at h
        by_cases hb : (decide (word = "break") && !il || inStrs asyncL word && !async) = true
        · rw [if_pos hb] at h; cases h
        · rw [if_neg hb] at h
          refine ⟨by rw [hs]; omega, fun i d h1 h2 => ?_, fun i d h1 h2 => ?_⟩
          · rw [hs] at h1
            have := zipOk_get rt sh parts i _ d h h1 h2
            rw [partOk_body] at this
            exact this
          · rw [hs] at h1
            have := zipOk_get rt sh parts i _ d h h1 h2
            rw [partOk_handlers] at this
            cases d with
            | tup hs' =>
              refine ⟨hs', rfl, fun e he => ?_⟩
              have : hs'.all isHandler = true := this
              exact handler_of (List.all_eq_true.mp this e he)
            | _ => cases this
theorem Good.fits {word : Str} {parts : List D} (g : Good word parts) : Fits word parts := by
  refine ⟨g.len, fun i s d h1 h2 e => ?_⟩
  subst e
  obtain ⟨hs, e, q⟩ := g.hand i d h1 h2
  exact ⟨hs, e, fun h hm => let ⟨a, b, st, z⟩ := q h hm; ⟨a, b, .tup st, z⟩⟩
/-- each pair is a way and a tuple of steps -/
theorem Good.pairs {word : Str} {parts : List D} (g : Good word parts) : ∀ p ∈ innerB word parts, ∃ way steps, p = D.tup [D.tup way, D.tup steps] ∧ way.length ≤ 3 := by
  intro p hp
  unfold innerB inn at hp
  rw [List.mem_flatMap] at hp
  obtain ⟨i, _, hi⟩ := hp
  unfold innAt at hi
  split at hi
  · rename_i s d h1 h2
    unfold innOf at hi
    split at hi
    · rename_i hs
      subst hs
      have ht := g.body i d h1 h2
      have : p = D.tup [D.tup [D.int (1 + (i : Int))], d] := by simpa using hi
      cases d with
      | tup st => exact ⟨_, st, this, by simp⟩
      | _ => cases ht
    · split at hi
      · rename_i hs
        subst hs
        obtain ⟨hs, rfl, q⟩ := g.hand i d h1 h2
        have hi : p ∈ hItems (1 + (i : Int)) hs hs.length := hi
        unfold hItems at hi
        rw [List.mem_flatMap] at hi
        obtain ⟨r, _, hr⟩ := hi
        unfold hItem at hr
        split at hr
        · rename_i h hh
          obtain ⟨a, b, st, rfl⟩ := q h (List.mem_of_getElem? hh)
          have : p = D.tup [D.tup [D.int (1 + (i : Int)), D.int (r : Int), D.int 2], D.tup st] := by simpa [third] using hr
          exact ⟨_, st, this, by simp⟩
        · simp at hr
      · simp at hi
  · simp at hi
end K2
/-! first_wrong_step. -/
namespace K2
open PySem L2 Evl PySem.Spec PyProof.Rows RZ StX
section
variable {K : PySem.W.Frag} {σ : L2.St} {H : Hp} {ta te : TE} {tz : TS} {Dd : Ends} {g : TG} {tbd : TS}
theorem eap_star {t : TA} {ds es : List D} (h : EvP te σ H (fun H1 v => Rp K H1 (.tup ds) v)) (hr : EvAP t σ H (fun H1 vs => Rps K H1 es vs)) : EvAP (tStar K te t) σ H (fun H1 vs => Rps K H1 (ds ++ es) vs) := fun H1 e Q q =>
  h H1 e _ fun v H2 e2 r => by
    cases r with
    | tup ha rs =>
      rename_i a vs
      exact ⟨a, vs, rfl, .inl (st_of ha), hr H2 (e.trans e2) _ fun ws H3 e3 rw => q _ H3 (e2.trans e3) ((rs.mono e3).app rw)⟩
theorem evp_tupL {ta : TA} {ds : List D} (h : EvAP ta σ H (fun H1 vs => Rps K H1 ds vs)) (hl : ds.length ≤ 1000000) : EvP (tTup ta) σ H (fun H1 v => Rp K H1 (.tup ds) v) := fun H1 e Q q =>
  h H1 e _ fun vs H2 e2 ps => ⟨Nat.le_trans (by rw [ps.len]; exact hl) (by decide), fun p hp => q _ _ (e2.trans (Ex.new hp)) (.tup upd_same (ps.mono (Ex.new hp)))⟩
theorem q_rev {l : Addr} {xs : List V} (hl : H l = some (.lst xs)) (ha : Ev ta σ H (.ref l)) (k : ∀ H1, Ex H H1 → tz Dd σ (upd H1 l (.lst xs.reverse))) : tSeq (tDrop (tBM0 K "list" rReverse ta)) tz Dd σ H :=
  ha H (Ex.refl H) _ fun H1 e1 => ⟨.inl ⟨rfl, _, sq_of (e1 _ _ hl)⟩, l, xs, rfl, rfl, e1 _ _ hl, k H1 e1⟩
theorem s_extend {l b : Addr} {xs ys : List V} (hl : H l = some (.lst xs)) (hb : H b = some (.lst ys)) (ha : Ev ta σ H (.ref l)) (h : Ev te σ H (.ref b)) (hz : xs.length + ys.length ≤ 100000) (k : ∀ H1, Ex H H1 → Dd.nx σ (upd H1 l (.lst (xs ++ ys)))) :
    tDrop (tBM K "list" rExtend ta (tCons te tNil)) Dd σ H := ha H (Ex.refl H) _ fun H1 e1 =>
  ⟨Or.inl ⟨rfl, xs, sq_of (e1 l _ hl)⟩, h H1 e1 _ fun H2 e2 => ⟨l, b, xs, ys, rfl, rfl, e2 l _ (e1 l _ hl), e2 b _ (e1 b _ hb), sz_of hz, k H2 (e1.trans e2)⟩⟩
theorem q_asgLP {Pl : Hp → List V → Prop} {i : Nat} (h : EvLP te σ H Pl) (k : ∀ p xs H1, H p = none → Ex H H1 → H1 p = some (.lst xs) → Pl H1 xs → tz Dd (σ.set i (some (.ref p))) H1) : tSeq (tAsg te (gName i)) tz Dd σ H :=
  h H (Ex.refl H) _ fun p xs H1 hp e hl pl => k p xs H1 hp e hl pl
theorem Rps.rev : ∀ {ds : List D} {vs : List V}, Rps K H ds vs → Rps K H ds.reverse vs.reverse
  | _, _, .nil => .nil
  | _, _, .cons r t => by
    rw [List.reverse_cons, List.reverse_cons]
    exact (Rps.rev t).app (.cons r .nil)
theorem q_forBindL {Pl : Hp → List V → Prop} {tl : TE} (h : EvLP tl σ H Pl) (k : ∀ p xs H1, H p = none → Ex H H1 → H1 p = some (.lst xs) → Pl H1 xs → tSeq (tFor (iList K (tC (.ref p))) g tbd) tz Dd σ H1) : tSeq (tFor (iList K tl) g tbd) tz Dd σ H :=
  h H (Ex.refl H) _ fun p xs H1 hp e hl pl => k p xs H1 hp e hl pl
/-- x = list.pop(): the value is unpacked -/
theorem q_popT {l t : Addr} {xs : List V} {a b c : V} {i j m : Nat} (hl : H l = some (.lst (xs ++ [.ref t]))) (ht : H t = some (.tup [a, b, c])) (ha : Ev ta σ H (.ref l)) (k : ∀ H1, Ex H H1 → tz Dd (((σ.set i (some a)).set j (some b)).set m (some c)) (upd H1 l (.lst xs))) :
    tSeq (tAsg (tBM0 K "list" rPop ta) (gTup K 3 (gCons (gName i) (gCons (gName j) (gCons (gName m) gNil))))) tz Dd σ H :=
  ha H (Ex.refl H) _ fun H1 e1 => ⟨.inl ⟨rfl, _, sq_of (e1 _ _ hl)⟩, l, xs ++ [.ref t], .ref t, rfl, rfl, e1 _ _ hl, by simp, by
    rw [List.dropLast_concat]
    refine ⟨t, [a, b, c], rfl, st_of ?_, rfl, a, [b, c], rfl, b, [c], rfl, c, [], rfl, rfl, k H1 e1⟩
    have hne : t ≠ l := by
      intro z
      rw [z, hl] at ht
      cases ht
    rw [upd_ne hne]
    exact e1 _ _ ht⟩
theorem Rps.snoc_inv : ∀ {ds : List D} {d : D} {vs : List V}, Rps K H (ds ++ [d]) vs → ∃ vs' v, vs = vs' ++ [v] ∧ Rps K H ds vs' ∧ Rp K H d v
  | [], _, _, .cons r .nil => ⟨[], _, rfl, .nil, r⟩
  | _ :: ds, _, _, .cons r t => by
    obtain ⟨vs', v, e, h1, h2⟩ := Rps.snoc_inv (ds := ds) t
    exact ⟨_ :: vs', v, by rw [e]; rfl, .cons r h1, h2⟩
theorem Rps.app_inv : ∀ {ds es : List D} {vs : List V}, Rps K H (ds ++ es) vs → ∃ v1 v2, vs = v1 ++ v2 ∧ Rps K H ds v1 ∧ Rps K H es v2
  | [], _, vs, h => ⟨[], vs, rfl, .nil, h⟩
  | _ :: ds, _, _, .cons r t => by
    obtain ⟨v1, v2, e, h1, h2⟩ := Rps.app_inv (ds := ds) t
    exact ⟨_ :: v1, v2, by rw [e]; rfl, .cons r h1, h2⟩
theorem Rps.one {d : D} {vs : List V} (h : Rps K H [d] vs) : ∃ v, vs = [v] ∧ Rp K H d v := by
  cases h with
  | cons r t => cases t; exact ⟨_, rfl, r⟩
theorem Rps.two {d e : D} {vs : List V} (h : Rps K H [d, e] vs) : ∃ v u, vs = [v, u] ∧ Rp K H d v ∧ Rp K H e u := by
  cases h with
  | cons r t =>
    obtain ⟨u, rfl, q⟩ := t.one
    exact ⟨_, u, rfl, r, q⟩
theorem Rps.three {d e f : D} {vs : List V} (h : Rps K H [d, e, f] vs) : ∃ v u w, vs = [v, u, w] ∧ Rp K H d v ∧ Rp K H e u ∧ Rp K H f w := by
  cases h with
  | cons r t =>
    obtain ⟨u, w, rfl, q, q2⟩ := t.two
    exact ⟨_, u, w, rfl, r, q, q2⟩
theorem Rp.ofTup {ds : List D} {v : V} (h : Rp K H (.tup ds) v) : ∃ a vs, v = .ref a ∧ H a = some (.tup vs) ∧ Rps K H ds vs := by
  cases h with
  | tup ha rs => exact ⟨_, _, rfl, ha, rs⟩
theorem Rps.map_at {α : Type} {f : α → D} : ∀ {l : List α} {vs : List V}, (∀ (i : Nat) (a : α), l[i]? = some a → ∃ v, vs[i]? = some v ∧ Rp K H (f a) v) → vs.length = l.length → Rps K H (l.map f) vs
  | [], [], _, _ => .nil
  | [], _ :: _, _, h => by simp at h
  | _ :: _, [], _, h => by simp at h
  | a :: l, v :: vs, h, hl => by
    obtain ⟨v', h1, h2⟩ := h 0 a rfl
    have h1' : v = v' := by simpa using h1
    subst h1'
    exact .cons h2 (Rps.map_at (fun i b hb => by simpa using h (i + 1) b (by simpa using hb)) (by simpa using hl))
end
theorem Paired.at_ {α β : Type} {R : α → β → Prop} : ∀ {l : List α} {m : List β} {i : Nat} {a : α}, Paired R l m → l[i]? = some a → ∃ b, m[i]? = some b ∧ R a b
  | _, _, i, _, .nil, h => by simp at h
  | _, _, 0, a, .cons r t, h => by simp at h; subst h; exact ⟨_, rfl, r⟩
  | _, _, i + 1, a, .cons r t, h => by simpa using Paired.at_ (i := i) t (by simpa using h)
theorem inner_ev {K : PySem.W.Frag} {σ : L2.St} {H : Hp} {ta : TE} {E : XK} {word : Str} {parts : List D} {v : V} (ha : Ev ta σ H v) (r : Rp K H (.tup (.str word :: parts)) v) (sm : Sm (.tup (.str word :: parts))) (fit : Fits word parts) :
    EvLP (tCall (spInner K) [] E (tCons ta tNil)) σ H (fun H2 xs => Rps K H2 (innerB word parts) xs) := fun H1 e Q q =>
  ha H1 e _ fun H2 e2 => ⟨word, parts, v, rfl, (r.mono e).mono e2, sm, fit, fun p H3 xs hp e3 hl rl => q p xs H3 (fresh_back e2 hp) (e2.trans e3) hl rl⟩
theorem le_sum_mem : ∀ {l : List Nat} {a : Nat}, a ∈ l → a ≤ l.sum
  | b :: t, a, h => by
    rw [List.sum_cons]
    rcases List.mem_cons.mp h with h | h
    · omega
    · have := le_sum_mem h; omega
theorem chil_place {word : Str} {parts : List D} {it i : It3} {il : Bool} {N : Nat} (g : Good word parts) (hp : it.place.length + 4 * szD it.step ≤ 2 + 4 * N) (hs : it.step = .tup (.str word :: parts)) (hi : i ∈ chil it.place il (innerB word parts) (innerB word parts).length) :
    i.place.length + 4 * szD i.step ≤ 2 + 4 * N := by
  unfold chil at hi
  rw [List.mem_flatMap] at hi
  obtain ⟨n, _, hn⟩ := hi
  split at hn
  · rename_i pr hpr
    obtain ⟨way, steps, rfl, hw⟩ := g.pairs pr (List.mem_of_getElem? hpr)
    have hn : i ∈ kidsN it.place way il steps steps.length := hn
    unfold kidsN at hn
    rw [List.mem_flatMap] at hn
    obtain ⟨r, _, hr⟩ := hn
    unfold kid at hr
    split at hr
    · rename_i s hsr
      have : i = ⟨s, it.place ++ (way ++ [D.int (r : Int)]), il⟩ := by simpa using hr
      subst this
      have q0 := szL_mem hsr
      have q1 := inn_sz (shapeOr word) parts (shapeOr word).length
      have q2 := szL_take parts (shapeOr word).length
      have q3 : innerB word parts = inn (shapeOr word) parts (shapeOr word).length := rfl
      rw [← q3] at q1
      have q4 : szL steps ≤ szPs (innerB word parts) := by
        have : szP (.tup [.tup way, .tup steps]) ∈ (innerB word parts).map szP := List.mem_map_of_mem (List.mem_of_getElem? hpr)
        exact le_sum_mem this
      rw [hs] at hp
      have q5 : szD (.tup (.str word :: parts)) = ((word.length + 1) + szL parts) + 1 := rfl
      show (it.place ++ (way ++ [D.int (r : Int)])).length + 4 * szD s ≤ _
      simp only [List.length_append, List.length_cons, List.length_nil]
      omega
    · simp at hr
  · simp at hn
def spFirst (K : PySem.W.Frag) : Sp := fun vs H Q _ => ∃ wd kd ps body rt v z, vs = [.str wd, v, z] ∧ Rp K H (.tup [.str kd, ps, .tup body]) v ∧ Sm (.tup body) ∧ IsRt K H rt z ∧ RtOk rt ∧
  (wrongAt rt (decide (kd = "async")) wd body = none → ∀ H2, Ex H H2 → Q .non H2) ∧
  ∀ pl, wrongAt rt (decide (kd = "async")) wd body = some pl → ∀ v H2, Ex H H2 → Rp K H2 (.tup pl) v → Q v H2
theorem topItems_at (wd : Str) (body : List D) (n : Nat) : ∀ i, i < n → n ≤ body.length → (kidsN [D.str wd] [] false body n)[i]? = (body[i]?).map fun s => ⟨s, [D.str wd, D.int (i : Int)], false⟩ := by
  induction n with
  | zero => intro i h; omega
  | succ n ih =>
    intro i h hn
    have hl : ∀ m, m ≤ body.length → (kidsN [D.str wd] [] false body m).length = m := by
      intro m
      induction m with
      | zero => intro _; simp [kidsN]
      | succ m ihm =>
        intro hm
        rw [kidsN_succ, List.length_append, ihm (by omega)]
        have : body[m]? = some body[m] := List.getElem?_eq_getElem (by omega)
        unfold kid
        rw [this]
        simp
    rw [kidsN_succ]
    by_cases hi : i < n
    · rw [List.getElem?_append_left (by rw [hl n (by omega)]; exact hi)]
      exact ih i hi (by omega)
    · have e : i = n := by omega
      subst e
      rw [List.getElem?_append_right (by rw [hl i (by omega)]; exact Nat.le_refl _), hl i (by omega), Nat.sub_self]
      have : body[i]? = some body[i] := List.getElem?_eq_getElem (by omega)
      unfold kid
      rw [this]
      simp
theorem topItems_len (wd : Str) (body : List D) : (topItems wd body).length = body.length := by
  have : ∀ m, m ≤ body.length → (kidsN [D.str wd] [] false body m).length = m := by
    intro m
    induction m with
    | zero => intro _; simp [kidsN]
    | succ m ihm =>
      intro hm
      rw [kidsN_succ, List.length_append, ihm (by omega)]
      have : body[m]? = some body[m] := List.getElem?_eq_getElem (by omega)
      unfold kid
      rw [this]
      simp
  exact this _ (Nat.le_refl _)
section
variable {P : Program} {w : World} {K : PySem.W.Frag} {mg : Str → Option Value} {base : Heap}
theorem sc33 : FnScope ["word", "routine", "routines", "todo", "kind", "_", "body", "inner_loop", "inner", "step", "place", "in_loop", "way", "steps", "at", "inner_step"] ["word", "routine", "routines"] (defScope (top 33)) := ⟨rfl, rfl, rfl, by decide +kernel, rfl, by decide +kernel, by decide +kernel⟩
theorem ok_first (B : Bl mg) (T : Tb K w mg) (F : Df K mg "first_wrong_step" (top 33) ["word", "routine", "routines"]) (O1 : Okd P w K mg base CX0 6 "is_step" ["step", "kind", "in_loop", "routines"] (spStep K)) (O2 : Okd P w K mg base CX0 1 "inner_bodies" ["step"] (spInner K)) :
    Okd P w K mg base CX0 7 "first_wrong_step" ["word", "routine", "routines"] (spFirst K) := by
  refine F.ok sc33 (fun vs H Q E h => by obtain ⟨wd, kd, ps, body, rt, v, z, rfl, _⟩ := h; rfl) (fun f cdv A outer s H vs Q E hr h => ?_)
  obtain ⟨wd, kd, ps, body, rt, v, z, rfl, r, sm, hz, ok, k1, k2⟩ := h
  obtain ⟨f_is_step, d_is_step, m_is_step, k_is_step, b_is_step, G_is_step⟩ := O1.ex
  obtain ⟨f_inner_bodies, d_inner_bodies, m_inner_bodies, k_inner_bodies, b_inner_bodies, G_inner_bodies⟩ := O2.ex
  obtain ⟨aL, u_LOOPS, c_LOOPS, r_LOOPS, qL⟩ := T.loops
  refine ⟨_, (pss_cons (ps_asg (pv 1) (pg_tup (by rfl) (pgs_cons (pg_name (i := 4) sc33.nd rfl (Or.inl rfl)) (pgs_cons (pg_name (i := 5) sc33.nd rfl (Or.inl rfl)) (pgs_cons (pg_name (i := 6) sc33.nd rfl (Or.inl rfl)) pgs_nil)))))
      (pss_cons (ps_setLc (i := 3) (own := [("at", 14), ("step", 9)]) (g := gTup K 2 (gCons (gName 14) (gCons (gName 9) gNil))) (tt := tYes) rfl sc33.nd rfl rfl (sw_true rfl rfl rfl (by decide +kernel)) (pi_enumT (by rfl) B.enumerate (pa_cons (pv 6) pa_nil)) (blkOk_by (N := ["word", "routine", "routines", "todo", "kind", "_", "body", "inner_loop", "inner", "step", "place", "in_loop", "way", "steps", "at", "inner_step"]) (sc := defScope (top 33)) (by decide +kernel)) (fun _ _ _ _ _ => (pg_tup (by rfl) (pgs_cons (pg_name (i := 14) sc33.nd rfl (Or.inl rfl)) (pgs_cons (pg_name (i := 9) sc33.nd rfl (Or.inl rfl)) pgs_nil)))) (fun _ _ _ _ _ => pts_nil) (fun _ _ _ _ _ => (pe_tup (pa_cons (pv 9) (pa_cons (pe_tup (pa_cons (pv 0) (pa_cons (pv 14) pa_nil))) (pa_cons pe_bl pa_nil))))))
      (pss_cons (ps_expr (pe_bm0 PySem.F.plainAttrs_list PySem.F.slot_list_reverse PySem.F.type_list_reverse mt_reverse (pv 3)))
      (pss_cons (ps_while PassesOwn.never (pt_truth (pv 3) (by intro _; rfl)) (pss_cons (ps_asg (pe_bm0 PySem.F.plainAttrs_list PySem.F.slot_list_pop PySem.F.type_list_pop mt_pop (pv 3)) (pg_tup (by rfl) (pgs_cons (pg_name (i := 9) sc33.nd rfl (Or.inl rfl)) (pgs_cons (pg_name (i := 10) sc33.nd rfl (Or.inl rfl)) (pgs_cons (pg_name (i := 11) sc33.nd rfl (Or.inl rfl)) pgs_nil)))))
      (pss_cons (ps_if (pt_not (pt_val (pe_call G_is_step (hr.mono (by first | decide | omega)) (by rfl) m_is_step k_is_step b_is_step .nil pass0 (pa_cons (pv 9) (pa_cons (pv 4) (pa_cons (pv 11) (pa_cons (pv 2) pa_nil))))))) (pss_one (ps_ret (pv 10))) pss_nil)
      (pss_cons (ps_set (i := 7) sc33.nd rfl (Or.inl rfl) (pe_or (pv 11) (pe_one (pe_cmpR op_in_seq (pe_ix ix_tup (pv 9) pe_int (fun _ _ => rfl)) (pe_glob (by rfl) c_LOOPS r_LOOPS) rfl))))
      (pss_cons (ps_set (i := 8) sc33.nd rfl (Or.inl rfl) (pe_lst pa_nil))
      (pss_cons (ps_for PassesOwn.never rfl (pi_list (pe_call G_inner_bodies (hr.mono (by first | decide | omega)) (by rfl) m_inner_bodies k_inner_bodies b_inner_bodies .nil pass0 (pa_cons (pv 9) pa_nil))) (pg_tup (by rfl) (pgs_cons (pg_name (i := 12) sc33.nd rfl (Or.inl rfl)) (pgs_cons (pg_name (i := 13) sc33.nd rfl (Or.inl rfl)) pgs_nil))) (pss_one (ps_for PassesOwn.never rfl (pi_enumT (by rfl) B.enumerate (pa_cons (pv 13) pa_nil)) (pg_tup (by rfl) (pgs_cons (pg_name (i := 14) sc33.nd rfl (Or.inl rfl)) (pgs_cons (pg_name (i := 15) sc33.nd rfl (Or.inl rfl)) pgs_nil))) (pss_one (ps_expr (pe_bm PySem.F.plainAttrs_list PySem.F.slot_list_append PySem.F.type_list_append mt_append (pv 8) (pa_cons (pe_tup (pa_cons (pv 15) (pa_cons (pe_tup (pa_star (pv 10) (pa_star (pv 12) (pa_cons (pv 14) pa_nil)))) (pa_cons (pv 7) pa_nil)))) pa_nil)))))))
      (pss_cons (ps_expr (pe_bm0 PySem.F.plainAttrs_list PySem.F.slot_list_reverse PySem.F.type_list_reverse mt_reverse (pv 8)))
      (pss_one (ps_expr (pe_bm PySem.F.plainAttrs_list PySem.F.slot_list_extend PySem.F.type_list_extend mt_extend (pv 3) (pa_cons (pv 8) pa_nil)))))))))))
      (pss_one (ps_ret pe_non)))))), ?_⟩
  obtain ⟨ra, rvs, rfl, hra, rrs⟩ := r.ofTup
  obtain ⟨vk, vp, vb, rfl, rk, rp, rb⟩ := rrs.three
  cases rk
  obtain ⟨ba, bvs, rfl, hba, rbs⟩ := rb.ofTup
  have smb : szL body + 1 ≤ 39000 := sm
  refine q_unpack3 (ev_var rfl) (fun H1 e1 => st_of (e1 _ _ hra)) fun H1 e1 => ?_
  have hba1 := e1 _ _ hba
  have rbs1 := rbs.mono e1
  have LC : EvLP _ _ H1 (fun H2 ys => Paired (fun (i : Nat) y => ∃ d, body[i]? = some d ∧ Rp K H2 (toD ⟨d, [.str wd, .int (i : Int)], false⟩) y) (kept (fun _ => true) body.length) ys) :=
    el_lc (te := tTup (tCons (tVar 9) (tCons (tTup (tCons (tVar 0) (tCons (tVar 14) tNil))) (tCons (tC (.bl false)) tNil)))) (g := gTup K 2 (gCons (gName 14) (gCons (gName 9) gNil))) (tt := tYes) (vs := [14, 9])
      (fun _ => true) (fun (i : Nat) H2 y => ∃ d, body[i]? = some d ∧ Rp K H2 (toD ⟨d, [.str wd, .int (i : Int)], false⟩) y)
      (wk_enum (ta := tVar 6) (σ := [some (.str wd), some (.ref ra), some z, none, some (.str kd), some vp, some (.ref ba), none, none, none, none, none, none, none, none, none]) (ev_var rfl) hba1 rbs1) (by have := szL_len body; omega)
      (fun i H2 H3 y e ⟨d, h1, h2⟩ => ⟨d, h1, h2.ew e⟩) (fun i x H2 hi e2 ⟨T, d, v, hx, hT, hd, rd⟩ Z hZ => by
        subst hx
        refine ⟨T, _, rfl, st_of hT, rfl, .int (i : Int), [v], rfl, v, [], rfl, rfl, hZ _ H2 (Ex.refl _) rfl (fun H3 e3 Q q => q H3 (Ex.refl _)) fun _ => ?_⟩
        refine (evp_tup (eap_cons (evp_d (ev_var rfl) rd) (eap_cons (evp_tup (eap_cons (evp_d (ev_var rfl) (Rp.str wd)) (eap_cons (evp_d (ev_var rfl) (Rp.int _)) eap_nil)) (by simp)) (eap_cons (evp_d ev_c (Rp.bl false)) eap_nil))) (by simp)).imp fun H3 y e3 ry => ⟨d, hd, ry⟩)
  refine q_asgLP LC fun p xs H2 np e2 hp pl => ?_
  have np0 : H p = none := fresh_back e1 np
  have e02 := e1.trans e2
  rw [kept_all] at pl
  have rx : Rps K H2 ((topItems wd body).map toD) xs := by
    refine Rps.map_at (fun i a ha => ?_) ?_
    · have hi : i < body.length := by
        have := (List.getElem?_eq_some_iff.mp ha).1
        rw [topItems_len] at this
        exact this
      obtain ⟨y, h1, d, h2, h3⟩ := Paired.at_ (i := i) (a := i) pl (by simp [hi])
      have h4 := topItems_at wd body body.length i hi (Nat.le_refl _)
      have h4' : (topItems wd body)[i]? = (body[i]?).map fun s => ⟨s, [D.str wd, D.int (i : Int)], false⟩ := h4
      rw [h2, ha] at h4'
      have h5 : a = ⟨d, [D.str wd, D.int (i : Int)], false⟩ := Option.some.inj h4'
      subst h5
      exact ⟨y, h1, h3⟩
    · have := pl.length
      rw [topItems_len]
      simpa using this.symm
  refine q_rev hp (ev_var rfl) fun H3 e3 => ?_
  have w3 : Ew H3 (upd H3 p (.lst xs.reverse)) := Ew.lst (e3 _ _ hp)
  refine q_while (fun m σ' H' => ∃ (l : List It3) (ts : List V) (x7 x8 x9 x10 x11 x12 x13 x14 x15 : Option V), σ' = [some (.str wd), some (.ref ra), some z, some (.ref p), some (.str kd), some vp, some (.ref ba), x7, x8, x9, x10, x11, x12, x13, x14, x15] ∧
      Ex H H' ∧ H' p = some (.lst ts) ∧ Rps K H' ((l.map toD).reverse) ts ∧ m = szI l ∧ szI l ≤ szL body ∧ (∀ i ∈ l, i.place.length + 4 * szD i.step ≤ 2 + 4 * szL body) ∧ firstBad rt (decide (kd = "async")) l = wrongAt rt (decide (kd = "async")) wd body) (szI (topItems wd body)) ?_ ?_
  · have sz0 : szI (topItems wd body) ≤ szL body := by
      have := kidsN_sz [D.str wd] [] false body body.length
      rw [List.take_length] at this
      exact this
    refine ⟨topItems wd body, xs.reverse, none, none, none, none, none, none, none, none, none, rfl, Ex.mut (e02.trans e3) np0, upd_same, ((rx.mono e3).ew w3).rev, rfl, sz0, fun i hi => ?_, rfl⟩
    obtain ⟨n, hn⟩ := List.getElem?_of_mem hi
    have hl : n < body.length := by
      have := (List.getElem?_eq_some_iff.mp hn).1
      rw [topItems_len] at this
      exact this
    have h4 : (topItems wd body)[n]? = (body[n]?).map fun s => ⟨s, [D.str wd, D.int (n : Int)], false⟩ := topItems_at wd body body.length n hl (Nat.le_refl _)
    have hb : body[n]? = some body[n] := List.getElem?_eq_getElem hl
    rw [hb, hn] at h4
    have h5 : i = ⟨body[n], [D.str wd, D.int (n : Int)], false⟩ := Option.some.inj h4
    subst h5
    have := szL_mem hb
    show 2 + 4 * szD body[n] ≤ _
    omega
  · rintro m σ' H4 ⟨l, ts, x7, x8, x9, x10, x11, x12, x13, x14, x15, rfl, e4, hp4, rt4, rfl, hsz, hpl, hfb⟩
    refine ⟨!ts.isEmpty, et_truL (ev_var rfl) hp4, fun hne H5 e5 => ?_, fun hne H5 e5 => ?_⟩
    · cases l with
      | nil =>
        cases rt4
        cases hne
      | cons it rest =>
        rw [List.map_cons, List.reverse_cons] at rt4
        obtain ⟨ts', vt, rfl, rts', rvt⟩ := rt4.snoc_inv
        obtain ⟨t, tvs, rfl, ht, rtv⟩ := rvt.ofTup
        obtain ⟨sv, pv, bv, rfl, rsv, rpv, rbv⟩ := rtv.three
        cases rbv
        refine ⟨fun σ' H' => ∃ (l : List It3) (ts : List V) (x7 x8 x9 x10 x11 x12 x13 x14 x15 : Option V), σ' = [some (.str wd), some (.ref ra), some z, some (.ref p), some (.str kd), some vp, some (.ref ba), x7, x8, x9, x10, x11, x12, x13, x14, x15] ∧
          Ex H H' ∧ H' p = some (.lst ts) ∧ Rps K H' ((l.map toD).reverse) ts ∧ szI l < szI (it :: rest) ∧ szI l ≤ szL body ∧ (∀ i ∈ l, i.place.length + 4 * szD i.step ≤ 2 + 4 * szL body) ∧ firstBad rt (decide (kd = "async")) l = wrongAt rt (decide (kd = "async")) wd body, ?_, ?_⟩
        · rintro σ2 H' ⟨l, ts, x7, x8, x9, x10, x11, x12, x13, x14, x15, z1, z2, z3, z4, z5, z6⟩
          exact ⟨_, z5, l, ts, x7, x8, x9, x10, x11, x12, x13, x14, x15, z1, z2, z3, z4, rfl, z6⟩
        · refine q_popT (e5 _ _ hp4) (e5 _ _ ht) (ev_var rfl) fun H6 e6 => ?_
          have e46 := e5.trans e6
          have hp6 := e46 _ _ hp4
          have w6 : Ew H6 (upd H6 p (.lst ts')) := Ew.lst hp6
          have x6 : Ex H (upd H6 p (.lst ts')) := Ex.mut (e4.trans e46) np0
          have rsv6 := (rsv.mono e46).ew w6
          have rpv6 := (rpv.mono e46).ew w6
          have rts6 := (rts'.mono e46).ew w6
          have hpit := hpl it (by simp)
          have hszit : szI (it :: rest) = szD it.step + szI rest := rfl
          have smi : Sm it.step := by
            show szD it.step ≤ 39000
            omega
          refine q_when (et_not (et_B (ev_call (sp := spStep K) (z := .bl (isStepD rt (decide (kd = "async")) it.il it.step)) (ea_cons (ev_var rfl) (ea_cons (ev_var rfl) (ea_cons (ev_var rfl) (ea_cons (ev_var rfl) ea_nil)))) fun H7 e7 Q q _ => ⟨it.step, sv, kd, it.il, rt, z, rfl, rsv6.mono e7, smi, (hz.mono x6).mono e7, ok, fun H8 e8 => q H8 e8⟩))) (fun hb H7 e7 => ?_) (fun hb H7 e7 => ?_)
          · rw [Bool.not_eq_true'] at hb
            rw [firstBad_cons, hb] at hfb
            refine s_ret (ev_var rfl) fun H8 e8 => ?_
            exact k2 it.place hfb.symm pv H8 ((x6.trans e7).trans e8) ((rpv6.mono e7).mono e8)
          · rw [Bool.not_eq_false'] at hb
            rw [firstBad_cons, if_pos hb] at hfb
            obtain ⟨word, parts, hstep⟩ : ∃ word parts, it.step = .tup (.str word :: parts) := by
              unfold isStepD at hb
              split at hb
              · rename_i word parts hst
                exact ⟨word, parts, hst⟩
              · cases hb
            have hgood : Good word parts := by
              rw [hstep] at hb
              exact good_of hb
            have hch : childs it.place it.il it.step = chil it.place (it.il || inStrs loopsL word) (innerB word parts) (innerB word parts).length := by rw [hstep]; rfl
            have hcs := childs_sz it.place it.il it.step
            rw [hch] at hfb hcs
            have rsv7 : Rp K H7 (.tup (.str word :: parts)) sv := by
              rw [← hstep]
              exact rsv6.mono e7
            obtain ⟨sa, svs, rfl, hsa, rss⟩ := rsv7.ofTup
            obtain ⟨v0, g0, r0⟩ := rss.get (i := 0) (d := .str word) rfl
            cases r0
            refine q_asg (v := .bl (it.il || inStrs loopsL word)) (ev_orV (ev_var rfl) fun _ => ev_is (ev_op (ev_op (ev_var rfl) ev_c (rv_ixT (st_of hsa) (atI_nat (j := 0) g0))) ev_c (rv_isT (qL H7) rfl (flat_strs _))) (congrArg V.bl (inV_strs _ _))) fun H8 e8 => ?_
            refine q_asgL (el_lst ea_nil (by simp)) fun ia H9 nia e9 hia => ?_
            have e79 := e8.trans e9
            have smst : Sm (.tup (.str word :: parts)) := by rw [← hstep]; exact smi
            have rst9 : Rp K H9 (.tup (.str word :: parts)) (.ref sa) := (Rp.tup hsa rss).mono e79
            refine q_forBindL (inner_ev (E := E0) (ev_var rfl) rst9 smst hgood.fits) fun p2 xs2 H10 np2 e10 hp2 rx2 => ?_
            have ne_ia : ia ≠ p2 := ne_of_none hia np2
            have e69 := e7.trans e79
            have x9 : Ex H H9 := x6.trans e69
            have e710 := e79.trans e10
            have p_at9 : H9 p = some (.lst ts') := e69 _ _ upd_same
            have ne_p2 : p ≠ p2 := ne_of_none p_at9 np2
            have nia0 : H ia = none := fresh_back ((x6.trans e7).trans e8) nia
            have ne_p : p ≠ ia := by
              intro z
              have : H8 p = some (.lst ts') := (e7.trans e8) _ _ upd_same
              rw [z, nia] at this
              cases this
            have np20 : H p2 = none := fresh_back x9 np2
            have lx2 := rx2.len
            have szprs : ∀ n, szI (chil it.place (it.il || inStrs loopsL word) (innerB word parts) n) ≤ szD it.step := fun n => by
              have h1 := chil_sz it.place (it.il || inStrs loopsL word) (innerB word parts) n
              have h2 := inn_sz (shapeOr word) parts (shapeOr word).length
              have h3 := szL_take parts (shapeOr word).length
              have h5 : szPs ((innerB word parts).take n) ≤ szPs (innerB word parts) := by
                have := szPs_app ((innerB word parts).take n) ((innerB word parts).drop n)
                rw [List.take_append_drop] at this
                omega
              have h4 : innerB word parts = inn (shapeOr word) parts (shapeOr word).length := rfl
              rw [← h4] at h2
              rw [hstep]
              show _ ≤ ((word.length + 1) + szL parts) + 1
              omega
            refine q_forG (wkg_lst ev_c hp2) (fun i σ' H' => ∃ (x12 x13 x14 x15 : Option V) (iv : List V), σ' = [some (.str wd), some (.ref ra), some z, some (.ref p), some (.str kd), some vp, some (.ref ba), some (.bl (it.il || inStrs loopsL word)), some (.ref ia), some (.ref sa), some pv, some (.bl it.il), x12, x13, x14, x15] ∧
              Ex H H' ∧ H' p = some (.lst ts') ∧ H' p2 = some (.lst xs2) ∧ Rps K H' (innerB word parts) xs2 ∧ Rps K H' (rest.map toD).reverse ts' ∧ Rp K H' (.tup it.place) pv ∧ H' ia = some (.lst iv) ∧ Rps K H' ((chil it.place (it.il || inStrs loopsL word) (innerB word parts) i).map toD) iv)
              (fun H11 e11 g11 => ⟨_, _, _, _, [], rfl, (x9.trans e10).trans e11, (e10.trans e11) _ _ p_at9, e11 _ _ hp2, rx2.mono e11, (rts6.mono e69).mono (e10.trans e11), (rpv6.mono e69).mono (e10.trans e11), (e10.trans e11) _ _ hia, .nil⟩)
              (fun i σ' H' _ ⟨_, _, _, _, _, _, _, _, g, _⟩ => sq_of g) ?_ ?_
            · rintro i x σ' H11 H12 hi ⟨x12, x13, x14, x15, iv, rfl, x11, hp11, hp211, rx11, rt11, rp11, hi11, ri11⟩ e12 hxi
              obtain ⟨pr, hpr, rpr⟩ := rx11.at_ hxi
              obtain ⟨way, steps, rfl, hway⟩ := hgood.pairs pr (List.mem_of_getElem? hpr)
              obtain ⟨T, tv, rfl, hT, rT⟩ := (rpr.mono e12).ofTup
              obtain ⟨wv, sv2, rfl, rw_, rs2⟩ := rT.two
              obtain ⟨sa2, svs2, rfl, hs2, rss2⟩ := rs2.ofTup
              have ls2 := rss2.len
              refine ⟨T, _, rfl, st_of hT, rfl, wv, [.ref sa2], rfl, .ref sa2, [], rfl, rfl, ?_⟩
              refine s_forG (wkg_enum (K := K) (ev_var rfl) (fun H13 e13 => st_of (e13 _ _ hs2))) (fun r σ' H' => ∃ (x14 x15 : Option V) (iv' : List V), σ' = [some (.str wd), some (.ref ra), some z, some (.ref p), some (.str kd), some vp, some (.ref ba), some (.bl (it.il || inStrs loopsL word)), some (.ref ia), some (.ref sa), some pv, some (.bl it.il), some wv, some (.ref sa2), x14, x15] ∧
                Ex H H' ∧ H' p = some (.lst ts') ∧ H' p2 = some (.lst xs2) ∧ Rps K H' (innerB word parts) xs2 ∧ Rps K H' (rest.map toD).reverse ts' ∧ Rp K H' (.tup it.place) pv ∧ Rp K H' (.tup way) wv ∧ H' sa2 = some (.tup svs2) ∧ Rps K H' steps svs2 ∧ H' ia = some (.lst iv') ∧
                Rps K H' ((chil it.place (it.il || inStrs loopsL word) (innerB word parts) i ++ kidsN it.place way (it.il || inStrs loopsL word) steps r).map toD) iv')
                (fun H13 e13 g13 => ⟨_, _, iv, rfl, (x11.trans e12).trans e13, (e12.trans e13) _ _ hp11, (e12.trans e13) _ _ hp211, rx11.mono (e12.trans e13), rt11.mono (e12.trans e13), rp11.mono (e12.trans e13), rw_.mono e13, e13 _ _ hs2, rss2.mono e13, (e12.trans e13) _ _ hi11, by
                  have : kidsN it.place way (it.il || inStrs loopsL word) steps 0 = [] := rfl
                  rw [this, List.append_nil]
                  exact ri11.mono (e12.trans e13)⟩)
                (fun r σ' H' _ ⟨_, _, _, _, _, _, _, _, _, _, _, g, _⟩ => st_of g) ?_ ?_
              · rintro r x σ' H13 H14 hr' ⟨x14, x15, iv', rfl, x13', hp13, hp213, rx13, rt13, rp13, rw13, hs13, rs13, hi13, ri13⟩ e14 ⟨T2, sv3, rfl, hT2, hsv3⟩
                obtain ⟨sd, hsd, rsd⟩ := (rs13.mono e14).at_ hsv3
                have hkid : kid it.place way (it.il || inStrs loopsL word) steps r = [⟨sd, it.place ++ (way ++ [D.int (r : Int)]), it.il || inStrs loopsL word⟩] := by unfold kid; rw [hsd]
                refine ⟨T2, _, rfl, st_of hT2, rfl, .int (r : Int), [sv3], rfl, sv3, [], rfl, rfl, ?_⟩
                have hlen : iv'.length < 100000 := by
                  have h1 := ri13.len
                  rw [List.length_map, List.length_append] at h1
                  have h2 := szI_len (chil it.place (it.il || inStrs loopsL word) (innerB word parts) i)
                  have h3 := szprs i
                  have h4 : r < steps.length := by omega
                  have h5 : (kidsN it.place way (it.il || inStrs loopsL word) steps r).length ≤ szL steps := by
                    have h6 := szI_len (kidsN it.place way (it.il || inStrs loopsL word) steps r)
                    have h7 := kidsN_sz it.place way (it.il || inStrs loopsL word) steps r
                    have h8 := szL_take steps r
                    omega
                  have h9 : szL steps ≤ szD it.step := by
                    have q1 := inn_sz (shapeOr word) parts (shapeOr word).length
                    have q2 := szL_take parts (shapeOr word).length
                    have q3 : innerB word parts = inn (shapeOr word) parts (shapeOr word).length := rfl
                    rw [← q3] at q1
                    have q4 : szL steps ≤ szPs (innerB word parts) := by
                      have : szP (.tup [.tup way, .tup steps]) ∈ (innerB word parts).map szP := List.mem_map_of_mem (List.mem_of_getElem? hpr)
                      exact le_sum_mem this
                    rw [hstep]
                    show _ ≤ ((word.length + 1) + szL parts) + 1
                    omega
                  have h10 : szD it.step ≤ 39000 := smi
                  omega
                refine s_appP (e14 _ _ hi13) (ev_var rfl) (Pp := fun H1 v => Rp K H1 (toD ⟨sd, it.place ++ (way ++ [D.int (r : Int)]), it.il || inStrs loopsL word⟩) v)
                  (evp_tup (eap_cons (evp_d (ev_var rfl) rsd) (eap_cons (evp_tupL (eap_star (evp_d (ev_var rfl) (rp13.mono e14)) (eap_star (evp_d (ev_var rfl) (rw13.mono e14)) (eap_cons (evp_d (ev_var rfl) (Rp.int _)) eap_nil))) (by simp only [List.length_append, List.length_cons, List.length_nil]; omega)) (eap_cons (evp_d (ev_var rfl) (Rp.bl _)) eap_nil))) (by simp)) hlen fun v H15 e15 rv => ?_
                have e1315 := e14.trans e15
                have w15 : Ew H15 (upd H15 ia (.lst (iv' ++ [v]))) := Ew.lst (e1315 _ _ hi13)
                refine ⟨_, _, iv' ++ [v], rfl, Ex.mut (x13'.trans e1315) nia0, by rw [upd_ne ne_p]; exact e1315 _ _ hp13, by rw [upd_ne (Ne.symm ne_ia)]; exact e1315 _ _ hp213, (rx13.mono e1315).ew w15, (rt13.mono e1315).ew w15, (rp13.mono e1315).ew w15, (rw13.mono e1315).ew w15, (w15 sa2).1 _ (e1315 _ _ hs13), (rs13.mono e1315).ew w15, upd_same, ?_⟩
                rw [kidsN_succ, hkid, ← List.append_assoc, List.map_append]
                exact ((ri13.mono e1315).ew w15).app (.cons (rv.ew w15) .nil)
              · rintro σ' H13 ⟨x14, x15, iv', rfl, x13', hp13, hp213, rx13, rt13, rp13, rw13, hs13, rs13, hi13, ri13⟩
                refine ⟨_, _, _, _, iv', rfl, x13', hp13, hp213, rx13, rt13, rp13, hi13, ?_⟩
                rw [chil_succ _ _ _ _ _ hpr]
                show Rps K H13 ((_ ++ kidsN it.place way (it.il || inStrs loopsL word) steps steps.length).map toD) iv'
                rw [← ls2]
                exact ri13
            · rintro σ' H11 ⟨x12, x13, x14, x15, iv, rfl, x11, hp11, hp211, rx11, rt11, rp11, hi11, ri11⟩
              rw [lx2] at ri11
              refine q_rev hi11 (ev_var rfl) fun H12 e12 => ?_
              have w12 : Ew H12 (upd H12 ia (.lst iv.reverse)) := Ew.lst (e12 _ _ hi11)
              have x12' : Ex H (upd H12 ia (.lst iv.reverse)) := Ex.mut (x11.trans e12) nia0
              have hp12 : upd H12 ia (.lst iv.reverse) p = some (.lst ts') := by rw [upd_ne ne_p]; exact e12 _ _ hp11
              have hszr : szI (it :: rest) = szD it.step + szI rest := rfl
              have li := ri11.len
              have lr := rt11.len
              rw [List.length_map] at li
              rw [List.length_reverse, List.length_map] at lr
              have li2 := szI_len (chil it.place (it.il || inStrs loopsL word) (innerB word parts) (innerB word parts).length)
              have lr2 := szI_len rest
              refine s_extend hp12 upd_same (ev_var rfl) (ev_var rfl) (by rw [List.length_reverse]; omega) fun H13 e13 => ?_
              have w13 : Ew H13 (upd H13 p (.lst (ts' ++ iv.reverse))) := Ew.lst (e13 _ _ hp12)
              refine ⟨chil it.place (it.il || inStrs loopsL word) (innerB word parts) (innerB word parts).length ++ rest, ts' ++ iv.reverse, _, _, _, _, _, _, _, _, _, rfl, Ex.mut (x12'.trans e13) np0, upd_same, ?_, ?_, ?_, ?_, hfb⟩
              · rw [List.map_append, List.reverse_append]
                exact ((((rt11.mono e12).ew w12).mono e13).ew w13).app (((((ri11.mono e12).ew w12).mono e13).ew w13).rev)
              · rw [szI_app]; omega
              · rw [szI_app]; omega
              · intro i hi
                rcases List.mem_append.mp hi with h | h
                · exact chil_place hgood hpit hstep h
                · exact hpl i (by simp [h])
    · have hts : ts = [] := by
        cases ts with
        | nil => rfl
        | cons a l => cases hne
      subst hts
      have hl : l = [] := by
        have := rt4.len
        cases l with
        | nil => rfl
        | cons a l => simp at this
      subst hl
      exact s_ret ev_c fun H6 e6 => k1 hfb.symm H6 ((e4.trans e5).trans e6)
end
end K2
/-! is_routine. -/
namespace K2
open PySem L2 Evl PySem.Spec PyProof.Rows RZ StX
def keysL (ws : List Str) : List (Key × V) := ws.foldl (fun m x => putK m (Sum.inr x : Key) (.bl true)) []
theorem keysL_snoc (ws : List Str) (x : Str) : keysL (ws ++ [x]) = putK (keysL ws) (Sum.inr x : Key) (.bl true) := by unfold keysL; rw [List.foldl_append]; rfl
theorem keysL_len : ∀ ws : List Str, (keysL ws).length ≤ ws.length := by
  intro ws
  have : ∀ n, (keysL (ws.take n)).length ≤ n := by
    intro n
    induction n with
    | zero => simp [keysL]
    | succ n ih =>
      rw [List.take_succ]
      cases h : ws[n]? with
      | none => simp; omega
      | some x =>
        show (keysL (ws.take n ++ [x])).length ≤ _
        rw [keysL_snoc]
        have := length_putK (keysL (ws.take n)) (Sum.inr x : Key) (.bl true)
        omega
  have := this ws.length
  rwa [List.take_length] at this
def distinctS (ws : List Str) : Bool := decide (ws.length = (keysL ws).length)
def strD : D → Str | .str s => s | _ => ""
def kindOk (k : Str) : Bool := inStrs ["async", "plain"] k
def parOk (ps : List D) : Bool := ps.all isParam && distinctS (ps.map strD)
def isRoutine : D → Bool
  | .tup [.str k, .tup ps, .tup _] => kindOk k && parOk ps
  | _ => false
def headOk : D → D → Bool
  | .str k, .tup _ => kindOk k
  | _, _ => false
def parD : D → Bool
  | .tup ps => parOk ps
  | _ => false
theorem isRoutine_eq (d0 d1 d2 : D) : isRoutine (.tup [d0, d1, d2]) = (headOk d0 d2 && parD d1) := by
  cases d0 <;> cases d2 <;> cases d1 <;> first | rfl | (simp [isRoutine, headOk, parD])
section
variable {K : PySem.W.Frag} {H : Hp} {σ : L2.St} {ti : TE}
def rLenD : List V → Hp → VK → Prop := fun xs H Q => ∃ a kvs, xs = [V.ref a] ∧ H a = some (.dK kvs) ∧ Q (.int kvs.length) H
theorem call_lenDr {X : Cx} : CallR X (.builtin "len") rLenD := call_lenD
theorem ev_lenDc {a : Addr} {ws : List Str} {j : Nat} {vs : List Nat} (ha : Ev ti σ H (.ref a)) (h : H a = some (.tup (ws.map V.str))) (hn : ws.length ≤ 39000) (hw : ∀ x, wipe ((wipe σ vs).set j (some x)) vs = wipe σ vs) (hj : ∀ x, ((wipe σ vs).set j (some x))[j]? = some (some x)) :
    Ev (tCB rLenD (tCons (tDc (iTup K ti) (gName j) tYes (tVar j) (tC (.bl true)) vs) tNil)) σ H (.int (keysL ws).length) := fun H1 e Q q =>
  ha H1 e _ fun H2 e2 => ⟨a, rfl, ⟨_, st_of (e2 _ _ (e _ _ h))⟩, fun Dn hD => by
    refine dc_tup (K := K) (xs := ws.map V.str) (fun i H' => Ex H2 H' ∧ H' Dn = some (.dK (keysL (ws.take i)))) ⟨Ex.new hD, upd_same⟩ (fun i H' _ p => st_of (p.1 _ _ (e2 _ _ (e _ _ h)))) (fun i x H' hx p => ?_) (fun H' p => ?_)
    · obtain ⟨p1, p2⟩ := p
      rw [List.getElem?_map] at hx
      cases hs : ws[i]? with
      | none => rw [hs] at hx; cases hx
      | some s =>
        rw [hs] at hx
        cases hx
        refine ⟨hw _, iteT (B := Ex H2 H' ∧ H' Dn = some (HO.dK (keysL (List.take (i + 1) ws)))) ?_⟩
        refine ⟨.str s, hj _, keysL (ws.take i), Sum.inr s, rfl, p2, sz_lt ?_, Ex.mut p1 hD, ?_⟩
        · have := keysL_len (ws.take i)
          rw [List.length_take] at this
          omega
        · rw [List.take_succ, hs]
          show _ = some (HO.dK (keysL (ws.take i ++ [s])))
          rw [keysL_snoc]
          exact upd_same
    · obtain ⟨p1, p2⟩ := p
      rw [List.length_map, List.take_length] at p2
      exact ⟨Dn, keysL ws, rfl, p2, q H' (e2.trans p1)⟩⟩
theorem strs_of {ps : List D} {vs : List V} (h : ps.all isParam = true) (r : Rps K H ps vs) : vs = (ps.map strD).map V.str := by
  induction ps generalizing vs with
  | nil => cases r; rfl
  | cons d ps ih =>
    cases r with
    | cons r t =>
      rw [List.all_cons, Bool.and_eq_true] at h
      rw [ih h.2 t]
      obtain ⟨s, rfl⟩ : ∃ s, d = .str s := by
        cases d <;> first | exact ⟨_, rfl⟩ | exact absurd h.1 (by simp [isParam])
      cases r
      rfl
end
section
variable {P : Program} {w : World} {K : PySem.W.Frag} {mg : Str → Option Value} {base : Heap}
theorem sc36 : FnScope ["routine", "kind", "params", "body", "name"] ["routine"] (defScope (top 36)) := ⟨rfl, rfl, rfl, by decide +kernel, rfl, by decide +kernel, by decide +kernel⟩
theorem ok_routine (B : Bl mg) (F : Df K mg "is_routine" (top 36) ["routine"]) (O : Okd P w K mg base CX0 2 "is_param" ["value"] (spB1 K Sm isParam)) :
    Okd P w K mg base CX0 3 "is_routine" ["routine"] (spB1 K Sm isRoutine) := by
  refine F.ok sc36 (fun vs H Q E h => spB1_len h) (fun f cdv A outer s H vs Q E hr h => ?_)
  obtain ⟨d, v, rfl, r, sm, k⟩ := h
  obtain ⟨f_is_param, d_is_param, m_is_param, k_is_param, b_is_param, G_is_param⟩ := O.ex
  refine ⟨_, (pss_cons (ps_if (PW.pt (pw_or (pt_not (pt_val (pe_callB call_isi (by rfl) B.isinstance boot_isinstance (pa_cons (pv 0) (pa_cons (pe_bltn (v := .ty "tuple") (by rfl) B.tuple boot_tuple rfl) pa_nil))))) (pw_or1 (pt_cmpR op_ne (pe_callB call_lenQ (by rfl) B.len PySem.boot_len (pa_cons (pv 0) pa_nil)) pe_int (nomark _))))) (pss_one (ps_ret pe_bl)) pss_nil)
      (pss_cons (ps_asg (pv 0) (pg_tup (by rfl) (pgs_cons (pg_name (i := 1) sc36.nd rfl (Or.inl rfl)) (pgs_cons (pg_name (i := 2) sc36.nd rfl (Or.inl rfl)) (pgs_cons (pg_name (i := 3) sc36.nd rfl (Or.inl rfl)) pgs_nil)))))
      (pss_cons (ps_if (PW.pt (pw_or (pt_not (pt_val (pe_callB call_isi (by rfl) B.isinstance boot_isinstance (pa_cons (pv 1) (pa_cons (pe_bltn (v := .ty "str") (by rfl) B.str boot_str rfl) pa_nil))))) (pw_or (pt_cmpR op_notIn_seq (pv 1) (pe_tup (pa_cons pe_str (pa_cons pe_str pa_nil))) rfl) (pw_or1 (pt_not (pt_val (pe_callB call_isi (by rfl) B.isinstance boot_isinstance (pa_cons (pv 3) (pa_cons (pe_bltn (v := .ty "tuple") (by rfl) B.tuple boot_tuple rfl) pa_nil))))))))) (pss_one (ps_ret pe_bl)) pss_nil)
      (pss_cons (ps_if (PW.pt (pw_or (pt_not (pt_val (pe_callB call_isi (by rfl) B.isinstance boot_isinstance (pa_cons (pv 2) (pa_cons (pe_bltn (v := .ty "tuple") (by rfl) B.tuple boot_tuple rfl) pa_nil))))) (pw_or1 (pt_not (pt_val (pe_callB (cr_all rfl) (by rfl) B.all boot_all (pa_cons (pe_lc (own := [("name", 4)]) (g := gName 4) (tt := tYes) rfl sc36.nd (pi_tup (pv 2)) (blkOk_by (N := ["routine", "kind", "params", "body", "name"]) (sc := defScope (top 36)) (by decide +kernel)) (fun _ _ _ _ _ => (pg_name (i := 4) sc36.nd rfl (Or.inl rfl))) (fun _ _ _ _ _ => pts_nil) (fun _ _ _ _ _ => (pe_call G_is_param (hr.mono (by first | decide | omega)) (by rfl) m_is_param k_is_param b_is_param .nil pass0 (pa_cons (pv 4) pa_nil)))) pa_nil))))))) (pss_one (ps_ret pe_bl)) pss_nil)
      (pss_one (ps_ret (pe_cmpR op_eq (pe_callB call_lenQ (by rfl) B.len PySem.boot_len (pa_cons (pv 2) pa_nil)) (pe_callB call_lenDr (by rfl) B.len PySem.boot_len (pa_cons (pe_dc (own := [("name", 4)]) (g := gName 4) (tt := tYes) rfl sc36.nd (pi_tup (pv 2)) (blkOk_by (N := ["routine", "kind", "params", "body", "name"]) (sc := defScope (top 36)) (by decide +kernel)) (fun _ _ _ _ _ => (pg_name (i := 4) sc36.nd rfl (Or.inl rfl))) (fun _ _ _ _ _ => pts_nil) (fun _ _ _ _ _ => (pv 4)) (fun _ _ _ _ _ => pe_bl)) pa_nil)) (nomark _)))))))), ?_⟩
  cases h3 : (isTup d && is3 d) with
  | false =>
    have q : isRoutine d = false := by
      unfold isRoutine
      split
      · cases h3
      · rfl
    refine q_when (b := !(isTup d) || !(is3 d)) (et_or (et_not (et_B (ev_isi r (ev_var rfl) (kit_tup d)))) (fun ht => ?_)) (fun _ H1 e => s_ret ev_c fun H2 e2 => ?_) (fun hb => by rw [← Bool.not_and, h3] at hb; cases hb)
    · cases r with
      | tup ha rs =>
        refine et_is (et_test (ev_op (ev_lenT (ev_var rfl) (st_of ha)) ev_c (rv_ne rfl))) ?_
        show (!decide (V.int _ = V.int 3)) = !(decide _)
        rw [rs.len]
        exact congrArg (!·) (decide_eq_decide.mpr ⟨fun z => by injection z, fun z => by rw [z]⟩)
      | _ => cases ht
    · rw [← q]
      exact k H2 (e.trans e2)
  | true =>
    rw [Bool.and_eq_true] at h3
    obtain ⟨ht, h3⟩ := h3
    cases r with
    | tup ha rs =>
      rename_i a vs ds
      obtain ⟨d0, d1, d2, rfl⟩ := is3_of h3
      obtain ⟨v0, v1, v2, rfl, r0, r1, r2⟩ := rs.three
      have s1 : Sm d1 := sm.item (i := 1) rfl
      refine q_when (b := false) (et_is (et_or (et_not (et_B (ev_isi (Rp.tup ha rs) (ev_var rfl) (kit_tup _)))) (fun _ => et_test (ev_op (ev_lenT (ev_var rfl) (st_of ha)) ev_c (rv_ne rfl)))) rfl) (fun hb => nomatch hb) (fun _ H1 e => ?_)
      have ha1 := e _ _ ha
      refine q_unpack3 (ev_var rfl) (fun H2 e2 => st_of (e2 _ _ ha1)) fun H2 e2 => ?_
      have e02 := e.trans e2
      rw [isRoutine_eq] at k
      refine q_when (b := !(headOk d0 d2)) ?_ (fun hb H3 e3 => s_ret ev_c fun H4 e4 => ?_) (fun hb H3 e3 => ?_)
      · cases hs0 : isStr d0 with
        | false =>
          have : headOk d0 d2 = false := by cases d0 <;> first | rfl | cases hs0
          rw [this]
          refine et_is (et_or (b := true) (et_not (et_B (ev_isi (r0.mono e02) (ev_var rfl) (kit_str d0)))) (fun z => by rw [hs0] at z; cases z)) (by rw [hs0]; rfl)
        | true =>
          obtain ⟨x, rfl⟩ := str_of hs0
          cases r0
          refine et_is (et_or (et_not (et_B (ev_isi (Rp.str x) (ev_var rfl) (kit_str _)))) (fun _ => et_or (et_test (ev_niU (xs := (["async", "plain"] : List Str).map V.str) (ev_var rfl) (eu_tup (ea_cons ev_c (ea_cons ev_c ea_nil)) (by decide)) rfl rfl)) (fun _ => et_not (et_B (ev_isi (r2.mono e02) (ev_var rfl) (kit_tup d2)))))) ?_
          rw [inV_strs]
          show (false || (!kindOk x || !isTup d2)) = !(headOk (.str x) d2)
          cases d2 <;> simp [headOk, isTup]
      · rw [Bool.not_eq_true'] at hb
        rw [hb] at k
        exact k H4 ((e02.trans e3).trans e4)
      · rw [Bool.not_eq_false'] at hb
        rw [hb] at k
        have e03 := e02.trans e3
        have r1' := r1.mono e03
        refine q_when (b := !(match d1 with | .tup ps => ps.all isParam | _ => false)) ?_ (fun hb H4 e4 => s_ret ev_c fun H5 e5 => ?_) (fun hb H4 e4 => ?_)
        · cases ht1 : isTup d1 with
          | false =>
            refine et_is (et_or (b := true) (et_not (et_B (ev_isi r1' (ev_var rfl) (kit_tup d1)))) (fun z => by rw [ht1] at z; cases z)) ?_
            rw [ht1]
            cases d1 <;> first | rfl | cases ht1
          | true =>
            cases r1' with
            | tup hk rk =>
              rename_i ak vk dk
              refine et_is (et_or (et_not (et_B (ev_isi (Rp.tup hk rk) (ev_var rfl) (kit_tup _)))) (fun _ => et_not (et_B (ev_allW (wk_tup (ev_var rfl) hk rk) (by have := s1.tlen; omega) (fun _ => rfl) fun e x H3 he e3 rx => ev_call (ea_cons (ev_var rfl) ea_nil) (spB1_v rx ?_))))) ?_
              · obtain ⟨i, hi⟩ := List.getElem?_of_mem he
                exact s1.item hi
              · rfl
            | _ => cases ht1
        · have q : parD d1 = false := by
            cases d1 <;> first | rfl | skip
            rename_i ps
            have hb' : (!(ps.all isParam)) = true := hb
            rw [Bool.not_eq_true'] at hb'
            show (ps.all isParam && _) = false
            rw [hb']
            rfl
          rw [q] at k
          exact k H5 ((e03.trans e4).trans e5)
        · cases r1' with
          | tup hk rk =>
            rename_i ak vk dk
            have hb' : (!(dk.all isParam)) = false := hb
            rw [Bool.not_eq_false'] at hb'
            have hvs := strs_of hb' rk
            subst hvs
            have hk4 := e4 _ _ hk
            have hl : (dk.map strD).length ≤ 39000 := by rw [List.length_map]; exact s1.tlen
            refine s_ret (ev_is (ev_op (ev_lenT (ev_var rfl) (st_of hk4)) (ev_lenDc (ev_var rfl) hk4 hl (fun _ => rfl) (fun _ => rfl)) (rv_eq rfl)) ?_) fun H5 e5 => k H5 ((e03.trans e4).trans e5)
            show V.bl _ = V.bl (true && (dk.all isParam && distinctS (dk.map strD)))
            rw [hb', Bool.true_and, Bool.true_and]
            unfold distinctS
            rw [List.length_map]
            exact congrArg V.bl (decide_eq_decide.mpr ⟨fun z => by injection z with z; omega, fun z => by rw [z]⟩)
          | _ => exact absurd hb (by simp)
    | _ => cases ht
end
end K2
/-! The errors: LoopError.__init__, BadProgram.__init__, raise BadProgram(..). -/
namespace K2
open PySem L2 Evl PySem.Spec PyProof.Rows RZ StX
/-- C.m(self, ..), m a def of the class at C, read off the class -/
def tCFn (C : Addr) (sp : Sp) (dvs : List V) (E : XK) (ta : TE) (t : TA) : TE := fun σ H Q => ta σ H fun x H1 => x = .ref C ∧ t σ H1 fun vs H2 => sp (vs ++ dvs) H2 Q E
theorem pe_clsfn {X : Cx} {CX : CXT} {k : Nat} {C g : Addr} {mc : Value} {fd : FuncData} {ps : List Str} {sp : Sp} {E : XK} {dvs : List V} {ds : List Value} {o e : Expr} {es : List Expr} {m : Str} {pos apos : Pos} {ta : TE} {t : TA} {pl : Sem Bool}
    (he : PE X o ta) (r : ClX.CRead X.K C mc) (c : ClX.CVal X.K C mc m (.ref g) (.ref g)) (F : FnOk X.prog X.w X.K X.mg X.base CX k g fd ps sp) (hr : Room k X.A) (hk : PySem.W.keepIn X.K (.ref g) = true) (hb : Binds X.K fd ps ds) (hd : Vals dvs ds) (hx : Passes CX X E) (ha : PA X (e :: es) t)
    (hst : starEach (e :: es) X.env = (false, eval e X.env) :: starEach es X.env := by rfl) (hpl : (backTo pos (starEach es X.env)).any (·.1) = false := by rfl)
    (ht : eval (.Call (.Attribute o m apos) (e :: es) [] pos) X.env = (do
      let ov ← eval o X.env
      standAt apos.atName
      let (f, first) ← holding [ov] (getMethod ov m pl)
      callWith pos f first (backTo pos (starEach (e :: es) X.env)) (backToKw pos (keywordEach [] X.env))) := by rfl) :
    PE X (.Call (.Attribute o m apos) (e :: es) [] pos) (tCFn C sp dvs E ta t) := by
  refine ⟨fun pins s σ H Q I h => ?_⟩
  refine PySem.W.methodCall_KW (pl := pl) (thn (he.run pins s σ H _ I h) fun u s1 ⟨x, H1, I1, rx, ex, q⟩ => ?_) ht
  subst ex
  obtain rfl : u = Value.ref C := rx
  refine PySem.W.method_cls I1.kIn r.ga (ClX.getcval_ok I1 r c fun s2 I2 => ?_)
  refine PySem.W.callWith_K (h₀ := X.base) I2.ok.mod.kin hk (thn (ha.run pos pins s2 σ H1 _ I2 q) fun us s3 ⟨vs, H2, I3, r3, q3⟩ => ⟨I3.kIn, ?_⟩) hst hpl
  exact run_fn F hr hb hd hx I3 r3 q3
abbrev FD (K : PySem.W.Frag) (x qual : Str) (st : Stmt) (dvs : List V) (kws : List (Str × V)) (f : Addr) (fd : FuncData) : Prop := FunD K x qual (defArgs st) (defBody st) (defScope st) dvs kws f fd
def sLE : Stmt := inClass (top 1) 0
def sBP : Stmt := inClass (top 2) 0
/-- what the top says of the two classes of errors -/
structure Ers (K : PySem.W.Frag) (mg : Str → Option Value) (C : Addr) : Prop where
  m_BadProgram : mg "BadProgram" = some (.ref C)
  T : OexC K C
  why : PySem.W.findIn K (.ref C) "why" = some none
  place : PySem.W.findIn K (.ref C) "place" = some none
  ini : ∃ f fd d, PySem.W.findIn K (.ref C) "__init__" = some (some (.ref f)) ∧ PySem.W.typeIn K (.ref f) = some (.type "function") ∧ FD K "__init__" "BadProgram.__init__" sBP [d] [] f fd
  base : ∃ L f fd d, mg "LoopError" = some (.ref L) ∧ PySem.W.keepIn K (.ref L) = true ∧ ClX.CRead K L (.type "type") ∧ ClX.CVal K L (.type "type") "__init__" (.ref f) (.ref f) ∧ PySem.W.keepIn K (.ref f) = true ∧ FD K "__init__" "LoopError.__init__" sLE [d] [] f fd
def spLE (K : PySem.W.Frag) : Sp := fun vs H Q _ => ∃ a C y, vs = [.ref a, y] ∧ OexC K C ∧ PySem.W.findIn K (.ref C) "why" = some none ∧ H a = some (exo a C none) ∧ ∀ dx, H dx = none → dx ≠ a → Q .non (upd (upd H dx (exd dx [("why", y)])) a (exo a C (some dx)))
def spBP (K : PySem.W.Frag) (C : Addr) : Sp := fun vs H Q _ => ∃ a y, vs = [.ref a, y] ∧ H a = some (exo a C none) ∧ ∀ dx z, H dx = none → dx ≠ a → Q .non (upd (upd (upd H dx (exd dx [("why", z)])) a (exo a C (some dx))) dx (exd dx [("place", y), ("why", z)]))
section
variable {P : Program} {w : World} {K : PySem.W.Frag} {mg : Str → Option Value} {base : Heap}
theorem bind2 {x qual y z : Str} {st : Stmt} {f : Addr} {fd : FuncData} {d : V} (F : FD K x qual st [d] [] f fd)
    (h : ∀ (T : Addr) (kV doc pm : Value) (an : Option Addr) (cdv ct : Value) (us its : List Value), us.length = 2 → its.length = 1 →
      ∃ k, bindArgs (PySem.W.fnOf x qual (defArgs st) (defBody st) (defScope st) (.ref T) kV doc pm an cdv ct) ⟨us, []⟩ = seqItems? (.ref T) >>= k ∧ k (some its.toArray) = pure (([y, z] : List Str).zip (us ++ its.drop 1)) := by
        exact fun T kV doc pm an cdv ct us its h1 h2 => match us, its, h1, h2 with | [_, _], [_], _, _ => ⟨_, rfl, rfl⟩) : Binds K fd [y, z] [] := by
  obtain ⟨ds, v, b⟩ := FunD.binds1 F (ps := [y, z]) 2 1 (by simp) rfl h
  cases v
  exact b
theorem scLE : FnScope ["self", "why"] ["self", "why"] (defScope sLE) := ⟨rfl, rfl, rfl, by decide +kernel, rfl, by decide +kernel, by decide +kernel⟩
theorem ok_LE {f : Addr} {fd : FuncData} {d : V} (F : FD K "__init__" "LoopError.__init__" sLE [d] [] f fd) : FnOk P w K mg base CX0 1 f fd ["self", "why"] (spLE K) := by
  refine F.ok scLE (fun vs H Q E h => ?_) (fun cdv A outer s H vs Q E hr h => ?_)
  · obtain ⟨a, C, y, rfl, _⟩ := h
    rfl
  · obtain ⟨a, C, y, rfl, T, hw, ha, k⟩ := h
    refine ⟨_, pss_one (ps_ost (pv 0) (pv 1)), ?_⟩
    exact ⟨_, rfl, _, rfl, a, C, rfl, T, hw, .inl ⟨ha, fun dx h1 h2 => k dx h1 h2⟩⟩
theorem scBP : FnScope ["self", "place"] ["self", "place"] (defScope sBP) := ⟨rfl, rfl, rfl, by decide +kernel, rfl, by decide +kernel, by decide +kernel⟩
theorem ok_BP {C f : Addr} {fd : FuncData} {d : V} (R : Ers K mg C) (F : FD K "__init__" "BadProgram.__init__" sBP [d] [] f fd) : FnOk P w K mg base CX0 2 f fd ["self", "place"] (spBP K C) := by
  obtain ⟨L, g, gd, d2, mL, kL, rL, cL, kG, FL⟩ := R.base
  have GL : FnOk P w K mg base CX0 1 g gd ["self", "why"] (spLE K) := ok_LE FL
  refine F.ok scBP (fun vs H Q E h => ?_) (fun cdv A outer s H vs Q E hr h => ?_)
  · obtain ⟨a, y, rfl, _⟩ := h
    rfl
  · obtain ⟨a, y, rfl, ha, k⟩ := h
    have bL : Binds K gd ["self", "why"] [] := bind2 FL
    refine ⟨_, pss_cons (ps_expr (pe_clsfn (E := E0) (pe_glob (v := .ref L) (by rfl) mL rfl) rL cL GL (hr.mono (by decide)) kG bL .nil pass0 (pa_cons (pv 0) (pa_cons pe_str pa_nil))))
      (pss_one (ps_ost (pv 0) (pv 1))), ?_⟩
    refine ⟨rfl, _, rfl, ?_⟩
    refine ⟨a, C, _, rfl, R.T, R.why, ha, fun dx h1 h2 => ?_⟩
    exact ⟨_, rfl, _, rfl, a, C, rfl, R.T, R.place, .inr ⟨dx, _, upd_same, (upd_ne h2).trans upd_same, by decide, k dx _ h1 h2⟩⟩
theorem s_mkBad {C : Addr} {σ : L2.St} {H : Hp} {te : TE} {Pp : Hp → V → Prop} {Q : XK} (h : EvP te σ H Pp)
    (k : ∀ y d z H1 H2, Ex H H1 → Pp H1 y → Ex H1 H2 → H2 d = some (.xd [("place", y), ("why", z)]) → Q (.ref C) (some d) H2) : tMkO C (spBP K C) [] (tCons te tNil) σ H Q :=
  h H (Ex.refl H) _ fun y H1 e p => ⟨(by simp : ([y] : List V).length ≤ 1000), fun a ha => ⟨a, y, rfl, upd_same, fun dx z h1 h2 => by
    have h1' : H1 dx = none := by rw [upd_ne h2] at h1; exact h1
    refine ⟨rfl, dx, _, ?_, upd_same, h1', k y dx z H1 _ e p (fun b o hb => ?_) upd_same⟩
    · rw [upd_ne (Ne.symm h2)]
      exact upd_same
    · have na : b ≠ a := ne_of_none hb ha
      have nd : b ≠ dx := ne_of_none hb h1'
      rw [upd_ne nd, del_ne na, upd_ne nd, upd_ne na, upd_ne nd, upd_ne na]
      exact hb⟩⟩
/-- what is wanted when BadProgram(place) leaves -/
def Bad (K : PySem.W.Frag) (C : Addr) (pl : List D) (H : Hp) (E : XK) : Prop := ∀ d y z H2, Ex H H2 → Rp K H2 (.tup pl) y → H2 d = some (.xd [("place", y), ("why", z)]) → E (.ref C) (some d) H2
theorem Bad.mono {C : Addr} {pl : List D} {H H' : Hp} {E : XK} (e : Ex H H') (h : Bad K C pl H E) : Bad K C pl H' E := fun d y z H2 e2 => h d y z H2 (e.trans e2)
theorem s_bad {C : Addr} {σ : L2.St} {H : Hp} {te : TE} {pl : List D} {E : XK} (h : EvP te σ H (fun H1 v => Rp K H1 (.tup pl) v)) (b : Bad K C pl H E) : tMkO C (spBP K C) [] (tCons te tNil) σ H E :=
  s_mkBad h fun y d z H1 H2 e r e2 q => b d y z H2 (e.trans e2) (r.mono e2) q
/-- the rule for raise BadProgram(e) -/
theorem ps_bad {C fB : Addr} {dB : FuncData} {X : Cx} {W : WX} {e : Expr} {te : TE} {p pos pos2 : Pos} (hc : X.calm = true) (R : Ers X.K X.mg C) (G : FnOk X.prog X.w X.K X.mg X.base CX0 2 fB dB ["self", "place"] (spBP X.K C)) (b : Binds X.K dB ["self", "place"] [])
    (iC : PySem.W.findIn X.K (.ref C) "__init__" = some (some (.ref fB))) (tI : PySem.W.typeIn X.K (.ref fB) = some (.type "function")) (hr : Room 3 X.A) (tk : Takes X W) (he : PE X e te) (hg : Gl X "BadProgram")
    (hst : starEach (e :: []) X.env = (false, eval e X.env) :: starEach [] X.env := by rfl) (hpl : (backTo pos (starEach [] X.env)).any (·.1) = false := by rfl) :
    PS X (.Raise (some (.Call (.Name "BadProgram" p) [e] [] pos)) none pos2) (fun _ σ H => tMkO C (spBP X.K C) [] (tCons te tNil) σ H fun cls d H' => W cls d σ H') :=
  ps_raise hc tk (pmk_oex R.T iC tI G hr b .nil (fun _ _ _ _ _ _ _ h => h.elim) hg R.m_BadProgram (pa_cons he pa_nil hst) (by decide) hst hpl)
structure Errs (P : Program) (w : World) (K : PySem.W.Frag) (mg : Str → Option Value) (base : Heap) (C fB : Addr) (dB : FuncData) : Prop where
  R : Ers K mg C
  G : FnOk P w K mg base CX0 2 fB dB ["self", "place"] (spBP K C)
  b : Binds K dB ["self", "place"] []
  iC : PySem.W.findIn K (.ref C) "__init__" = some (some (.ref fB))
  tI : PySem.W.typeIn K (.ref fB) = some (.type "function")
theorem errs {C : Addr} (R : Ers K mg C) : ∃ fB dB, Errs P w K mg base C fB dB := by
  obtain ⟨f, fd, d, i, t, F⟩ := R.ini
  exact ⟨f, fd, R, ok_BP R F, bind2 F, i, t⟩
end
end K2
/-! check_routines. -/
namespace K2
open PySem L2 Evl PySem.Spec PyProof.Rows RZ StX
def lookD (rt : Rt) (x : Str) : D := (rt.lookup x).getD .non
def wrongR (rt : Rt) (x : Str) : Option (List D) :=
  if isRoutine (lookD rt x) then (match lookD rt x with | .tup [.str k, _, .tup body] => wrongAt rt (decide (k = "async")) x body | _ => none) else some [.str x]
def firstR (rt : Rt) : List Str → Option (List D)
  | [] => none
  | x :: ws => match wrongR rt x with | some p => some p | none => firstR rt ws
def wordsOk (rt : Rt) : Bool := rt.all fun p => wordS p.1
def IsRtU (K : PySem.W.Frag) (H : Hp) (rt : Rt) (a : Addr) : Prop := ∃ kvs, H a = some (.dK kvs) ∧ KRt K H rt kvs
/-- what a dict of routines is like -/
structure RtG (rt : Rt) : Prop where
  ok : RtOk rt
  len : rt.length < 64
  ks : ∀ p ∈ rt, Sm (.str p.1)
  vs : ∀ p ∈ rt, Sm p.2
theorem KRt.keys {K : PySem.W.Frag} {H : Hp} : ∀ {rt : Rt} {kvs : List (Key × V)}, KRt K H rt kvs → kvs.map (·.1) = (rt.map (·.1)).map Sum.inr
  | _, _, .nil => rfl
  | _, _, .cons h t => by
    rw [List.map_cons, List.map_cons, List.map_cons, KRt.keys t, h.1]
theorem KRt.len {K : PySem.W.Frag} {H : Hp} {rt : Rt} {kvs : List (Key × V)} (h : KRt K H rt kvs) : kvs.length = rt.length := by
  have := congrArg List.length h.keys
  simpa using this
theorem lookup_some {x : Str} : ∀ {rt : Rt}, x ∈ rt.map (·.1) → ∃ d, rt.lookup x = some d ∧ (x, d) ∈ rt
  | [], h => by simp at h
  | (y, d) :: rt, h => by
    by_cases e : x = y
    · subst e
      exact ⟨d, by simp [List.lookup], by simp⟩
    · have e' : (x == y) = false := beq_eq_false_iff_ne.mpr e
      have h' : x ∈ rt.map (·.1) := by
        rw [List.map_cons, List.mem_cons] at h
        exact h.resolve_left e
      obtain ⟨d', h1, h2⟩ := lookup_some h'
      exact ⟨d', by rw [List.lookup_cons, e']; exact h1, List.mem_cons_of_mem _ h2⟩
section
variable {K : PySem.W.Frag} {H : Hp} {σ : L2.St} {t te ta td : TE} {tz tbd : TS} {Dd : Ends} {g : TG}
/-- a list is made while a dict is locked -/
theorem el_lock {d : Addr} {u : HO} {xs : List V} (h : H d = some u) (mu : Mut (some u)) (k : ∀ H1, Ex H H1 → ∀ od, EvL t σ (upd H1 d (.frz od u)) xs) : EvL (tLockE t) σ H xs := fun H1 e Q q =>
  ⟨d, u, e _ _ h, mu, fun od => k H1 e od _ (Ex.refl _) _ fun p H2 hp e2 hl => by
    have hpd : p ≠ d := fun z => by rw [z, upd_same] at hp; cases hp
    have hp1 : H1 p = none := by rw [upd_ne hpd] at hp; exact hp
    refine ⟨e2 d _ upd_same, q p (upd H2 d u) hp1 (fun b o hb => ?_) (by rw [upd_ne hpd]; exact hl)⟩
    by_cases hbd : b = d
    · subst hbd
      rw [upd_same]
      rw [e _ _ h] at hb
      exact hb
    · rw [upd_ne hbd]
      exact e2 b o (by rw [upd_ne hbd]; exact hb)⟩
theorem wk_keys {d : Addr} {o : Obj} {kvs : List (Key × V)} (h : Ev td σ H (.ref d)) (hd : H d = some (.frz o (.dK kvs))) : Wk (iKeys td) σ H kvs.length (fun i _ x => ∃ k v, kvs[i]? = some (k, v) ∧ x = kV k) := fun H1 e R k =>
  h H1 e _ fun H2 e2 => ⟨d, o, rfl, .inl ⟨kvs, e2 _ _ (e _ _ hd), k _ _ _ H2 e2 walk_keys (fun H3 e3 => e3 _ _ (e2 _ _ (e _ _ hd))) fun i H3 x H4 hi e3 y => by
    obtain ⟨e4, hx⟩ := y
    subst e4
    exact ⟨Ex.refl _, hx⟩⟩⟩
def rSortD : List V → Hp → VK → Prop := fun xs H Q => ∃ (a : Addr) (kvs : List (Key × V)) (ks : List Str), xs = [.ref a] ∧ Rd H a (.dK kvs) ∧ kvs.map (·.1) = ks.map Sum.inr ∧ ks.length < 64 ∧ ∀ ys p, ys.Perm ks → sortedS ys = true → H p = none → Q (.ref p) (upd H p (.lst (ys.map V.str)))
theorem call_sortD {X : Cx} (hc : X.calm = true) : CallR X (.builtin "sorted") rSortD := call_sortedD hc
theorem el_sortD {a : Addr} {kvs : List (Key × V)} {ks : List Str} (ha : Ev ta σ H (.ref a)) (h : Rd H a (.dK kvs)) (hk : kvs.map (·.1) = ks.map Sum.inr) (hl : ks.length < 64) :
    EvLP (tCB rSortD (tCons ta tNil)) σ H (fun _ xs => ∃ ys, ys.Perm ks ∧ sortedS ys = true ∧ xs = ys.map V.str) := fun H1 e Q q =>
  ha H1 e _ fun H2 e2 => ⟨a, kvs, ks, rfl, ex_rd (e.trans e2) h, hk, hl, fun ys p hp hs hn => q p (ys.map V.str) _ (fresh_back e2 hn) (e2.trans (Ex.new hn)) upd_same ⟨ys, hp, hs, rfl⟩⟩
theorem s_forBindL {Pl : Hp → List V → Prop} {tl : TE} (h : EvLP tl σ H Pl) (k : ∀ p xs H1, H p = none → Ex H H1 → H1 p = some (.lst xs) → Pl H1 xs → tFor (iList K (tC (.ref p))) g tbd Dd σ H1) : tFor (iList K tl) g tbd Dd σ H :=
  h H (Ex.refl H) _ fun p xs H1 hp e hl pl => k p xs H1 hp e hl pl
end
/-- a def that may raise -/
theorem Df.okX {P : Program} {w : World} {K : PySem.W.Frag} {mg : Str → Option Value} {base : Heap} {nm : Str} {st : Stmt} {N ps : List Str} {k : Nat} {sp : Sp} (F : Df K mg nm st ps) (S : FnScope N ps (defScope st)) (len : ∀ vs H Q E, sp vs H Q E → vs.length = ps.length)
    (hbody : ∀ (f : Addr) (cdv : Value) (A : Around) (outer : List Env) (s : Shared) (H : Hp) (vs : List V) (Q : VK) (E : XK), Room k (A.deeper (envOfC nm (defScope st) s.heap.objs.size f cdv)) → sp vs H Q E →
      ∃ t, PSs (cxOf (L2.CX P w) P w K mg base N nm (defScope st) f cdv A outer s H E) (defBody st) t ∧ t { nx := fun _ H' => Q .non H', rt := Q } (start N vs) H) : Okd P w K mg base (L2.CX P w) (k + 1) nm ps sp := by
  obtain ⟨f, fd, h1, h2, h3⟩ := F.ex
  exact ⟨f, fd, h1, h3.kp, h2, h3.okX S len (hbody f)⟩
/-- the place that is told, or None -/
def PlR (K : PySem.W.Frag) (r : Option (List D)) (H : Hp) (v : V) : Prop := (r = none → v = .non) ∧ ∀ pl, r = some pl → Rp K H (.tup pl) v
theorem PlR.mono {K : PySem.W.Frag} {r : Option (List D)} {H H' : Hp} {v : V} (e : Ex H H') (h : PlR K r H v) : PlR K r H' v := ⟨h.1, fun pl q => (h.2 pl q).mono e⟩
theorem evp_first {K : PySem.W.Frag} {σ : L2.St} {H : Hp} {t1 t2 t3 : TE} {wd kd : Str} {ps : D} {b : List D} {rt : Rt} {v z : V} (h1 : Ev t1 σ H (.str wd)) (h2 : Ev t2 σ H v) (h3 : Ev t3 σ H z) (r : Rp K H (.tup [.str kd, ps, .tup b]) v) (sm : Sm (.tup b)) (hz : IsRt K H rt z) (ok : RtOk rt) :
    EvP (tCall (spFirst K) [] E0 (tCons t1 (tCons t2 (tCons t3 tNil)))) σ H (PlR K (wrongAt rt (decide (kd = "async")) wd b)) := fun H1 e Q q =>
  ea_cons h1 (ea_cons h2 (ea_cons h3 ea_nil)) H1 e _ fun H2 e2 => ⟨wd, kd, ps, b, rt, v, z, rfl, r.mono (e.trans e2), sm, hz.mono (e.trans e2), ok,
    fun hn H3 e3 => q .non H3 (e2.trans e3) ⟨fun _ => rfl, fun pl hp => by (rw [hn] at hp; cases hp)⟩, fun pl hp v H3 e3 r3 => q v H3 (e2.trans e3) ⟨fun hn => (by rw [hn] at hp; cases hp), fun pl' hp' => by (rw [hp] at hp'; cases hp'; exact r3)⟩⟩
theorem rt_form {d : D} (h : isRoutine d = true) : ∃ kd ps b, d = .tup [.str kd, .tup ps, .tup b] := by
  unfold isRoutine at h
  split at h
  · exact ⟨_, _, _, rfl⟩
  · cases h
/-- the way out of a check: a place, or none -/
def Out (K : PySem.W.Frag) (C : Addr) (r : Option (List D)) (H : Hp) (Q : VK) (E : XK) : Prop := (r = none → ∀ H2, Ex H H2 → Q .non H2) ∧ ∀ pl, r = some pl → Bad K C pl H E
def spChkR (K : PySem.W.Frag) (C : Addr) : Sp := fun vs H Q E => ∃ z, vs = [z] ∧ ((∃ d, Rp K H d z ∧ isDct d = false ∧ Bad K C [] H E) ∨
  ∃ rt a, z = .ref a ∧ IsRtU K H rt a ∧ RtG rt ∧ (wordsOk rt = false → Bad K C [] H E) ∧ (wordsOk rt = true → ∀ ys : List Str, ys.Perm (rt.map (·.1)) → sortedS ys = true → Out K C (firstR rt ys) H Q E))
section
variable {P : Program} {w : World} {K : PySem.W.Frag} {mg : Str → Option Value} {base : Heap} {C fB : Addr} {dB : FuncData}
theorem sc37 : FnScope ["routines", "word", "place"] ["routines"] (defScope (top 37)) := ⟨rfl, rfl, rfl, by decide +kernel, rfl, by decide +kernel, by decide +kernel⟩
theorem ok_chkR (B : Bl mg) (ER : Errs P w K mg base C fB dB) (F : Df K mg "check_routines" (top 37) ["routines"]) (O1 : Okd P w K mg base CX0 2 "is_word" ["value"] (spB1 K Sm isWord)) (O2 : Okd P w K mg base CX0 3 "is_routine" ["routine"] (spB1 K Sm isRoutine))
    (O3 : Okd P w K mg base CX0 7 "first_wrong_step" ["word", "routine", "routines"] (spFirst K)) : Okd P w K mg base (L2.CX P w) 8 "check_routines" ["routines"] (spChkR K C) := by
  refine F.okX sc37 (fun vs H Q E h => by obtain ⟨z, rfl, _⟩ := h; rfl) (fun f cdv A outer s H vs Q E hr h => ?_)
  obtain ⟨z, rfl, h⟩ := h
  obtain ⟨f_is_word, d_is_word, m_is_word, k_is_word, b_is_word, G_is_word⟩ := O1.ex
  obtain ⟨f_is_routine, d_is_routine, m_is_routine, k_is_routine, b_is_routine, G_is_routine⟩ := O2.ex
  obtain ⟨f_first_wrong_step, d_first_wrong_step, m_first_wrong_step, k_first_wrong_step, b_first_wrong_step, G_first_wrong_step⟩ := O3.ex
  have hu := hu_of hr
  refine ⟨_, (pss_cons (ps_if (PW.pt (pw_or (pt_not (pt_val (pe_callB call_isi (by rfl) B.isinstance boot_isinstance (pa_cons (pv 0) (pa_cons (pe_bltn (v := .ty "dict") (by rfl) B.dict boot_dict rfl) pa_nil))))) (pw_or1 (pt_not (pt_val (pe_callB (cr_all rfl) (by rfl) B.all boot_all (pa_cons (pe_lock (pe_lc (own := [("word", 1)]) (g := gName 1) (tt := tYes) rfl sc37.nd (pi_keys (pv 0)) (blkOk_by (N := ["routines", "word", "place"]) (sc := defScope (top 37)) (by decide +kernel)) (fun _ _ _ _ _ => (pg_name (i := 1) sc37.nd rfl (Or.inl rfl))) (fun _ _ _ _ _ => pts_nil) (fun _ _ _ _ _ => (pe_call G_is_word (hr.mono (by first | decide | omega)) (by rfl) m_is_word k_is_word b_is_word .nil pass0 (pa_cons (pv 1) pa_nil))))) pa_nil))))))) (pss_one (ps_bad rfl ER.R ER.G ER.b ER.iC ER.tI (hr.mono (by decide)) (takes_of rfl rfl rfl rfl) (pe_tup pa_nil) (by rfl))) pss_nil)
      (pss_one (ps_for (passes_of rfl) rfl (pi_list (pe_callB (call_sortD rfl) (by rfl) B.sorted boot_sorted (pa_cons (pv 0) pa_nil))) (pg_name (i := 1) sc37.nd rfl (Or.inl rfl)) (pss_cons (ps_if (pt_not (pt_val (pe_call G_is_routine (hr.mono (by first | decide | omega)) (by rfl) m_is_routine k_is_routine b_is_routine .nil pass0 (pa_cons (pe_dget hu (pv 0) (pv 1) (fun _ _ => rfl)) pa_nil)))) (pss_one (ps_bad rfl ER.R ER.G ER.b ER.iC ER.tI (hr.mono (by decide)) (takes_of rfl rfl rfl rfl) (pe_tup (pa_cons (pv 1) pa_nil)) (by rfl))) pss_nil)
      (pss_cons (ps_set (i := 2) sc37.nd rfl (Or.inl rfl) (pe_call G_first_wrong_step (hr.mono (by first | decide | omega)) (by rfl) m_first_wrong_step k_first_wrong_step b_first_wrong_step .nil pass0 (pa_cons (pv 1) (pa_cons (pe_dget hu (pv 0) (pv 1) (fun _ _ => rfl)) (pa_cons (pv 0) pa_nil)))))
      (pss_one (ps_if (pt_cmpR op_notN1 (pv 2) pe_non (nomark _)) (pss_one (ps_bad rfl ER.R ER.G ER.b ER.iC ER.tI (hr.mono (by decide)) (takes_of rfl rfl rfl rfl) (pv 2) (by rfl))) pss_nil))))))), ?_⟩
  rcases h with ⟨d, r, hd, bad⟩ | ⟨rt, a, rfl, ⟨kvs, ha, kr⟩, G, bad, k⟩
  · refine q_when (b := !(isDct d) || true) (et_or (et_not (et_B (ev_isi r (ev_var rfl) (kit_dct d)))) (fun z => by rw [hd] at z; cases z)) (fun _ H1 e => ?_) (fun hb => by rw [hd] at hb; cases hb)
    exact s_bad (evp_tup eap_nil (by simp)) (bad.mono e)
  · have rd : Rp K H .dct (.ref a) := .dct ha
    have lk := kr.len
    refine q_when (b := !(isDct .dct) || !(wordsOk rt)) (et_or (et_not (et_B (ev_isi rd (ev_var rfl) (kit_dct _)))) fun _ => et_not (et_B (ev_is (ev_allB (el_lock ha trivial fun H1 e od => el_lcB (σ := start ["routines", "word", "place"] [.ref a]) (te := tCall (spB1 K Sm isWord) [] E0 (tCons (tVar 1) tNil)) (j := 1) (vs := [1])
      (fun i => match rt[i]? with | some p => wordS p.1 | none => true) (wk_keys (ev_var rfl) upd_same) (by have := G.len; omega) (fun _ => rfl) fun i x H2 hi e2 ⟨ky, v, hk, hx⟩ => by
        obtain ⟨p, hp⟩ : ∃ p, rt[i]? = some p := ⟨rt[i]'(by omega), List.getElem?_eq_getElem (by omega)⟩
        obtain ⟨q, hq1, hq2⟩ := Paired.at_ kr hp
        rw [hk] at hq1
        cases hq1
        have e1 : ky = Sum.inr p.1 := hq2.1
        subst e1
        subst hx
        rw [hp]
        exact ev_call (ea_cons (ev_var rfl) ea_nil) (spB1_v (Rp.str p.1) (G.ks p (List.mem_of_getElem? hp))))) (by
      have e1 : (List.range kvs.length).map (fun i => match rt[i]? with | some p => wordS p.1 | none => true) = rt.map fun p => wordS p.1 := by
        apply List.ext_getElem?
        intro i
        by_cases hi : i < rt.length
        · simp [hi, lk]
        · simp [hi, lk]
      rw [e1, List.all_map]
      rfl)))) (fun hb H1 e => ?_) (fun hb H1 e => ?_)
    · have hb' : wordsOk rt = false := by
        have : (false || !(wordsOk rt)) = true := hb
        simpa using this
      exact s_bad (evp_tup eap_nil (by simp)) ((bad hb').mono e)
    · have hb' : wordsOk rt = true := by
        have : (false || !(wordsOk rt)) = false := hb
        simpa using this
      refine s_forBindL (el_sortD (ev_var rfl) (.inl (e _ _ ha)) kr.keys (by rw [List.length_map]; exact G.len)) fun p xs H2 np e2 hp ⟨ys, hperm, hs, hx⟩ => ?_
      subst hx
      obtain ⟨o1, o2⟩ := k hb' ys hperm hs
      have e02 := e.trans e2
      refine s_forG (wkg_lst ev_c hp) (fun i σ' H' => ∃ x1 x2, σ' = [some (.ref a), x1, x2] ∧ Ex H H' ∧ H' p = some (.lst (ys.map V.str)) ∧ firstR rt ys = firstR rt (ys.drop i))
        (fun H3 e3 _ => ⟨_, _, rfl, e02.trans e3, e3 _ _ hp, rfl⟩) (fun i σ' H' _ ⟨_, _, _, _, q, _⟩ => sq_of q) ?_ ?_
      · rintro i x σ' H3 H4 hi ⟨x1, x2, rfl, e3, hp3, hf⟩ e4 hx
        rw [List.getElem?_map] at hx
        cases hw : ys[i]? with
        | none => rw [hw] at hx; cases hx
        | some wd =>
          rw [hw] at hx
          cases hx
          have hd : ys.drop i = wd :: ys.drop (i + 1) := by
            have hl : i < ys.length := (List.getElem?_eq_some_iff.mp hw).1
            rw [List.drop_eq_getElem_cons hl]
            have : ys[i] = wd := (List.getElem?_eq_some_iff.mp hw).2
            rw [this]
          have hmem : wd ∈ rt.map (·.1) := hperm.subset (List.mem_of_getElem? hw)
          obtain ⟨d, hl, hdm⟩ := lookup_some hmem
          have hlook : lookD rt wd = d := by unfold lookD; rw [hl]; rfl
          have e04 := e3.trans e4
          have kr4 := kr.mono (Ew.of e04)
          have ha4 := e04 _ _ ha
          have smd := G.vs _ hdm
          rcases kr4.val wd with ⟨q, _⟩ | ⟨d', v, q1, q2, rv⟩
          · rw [hl] at q; cases q
          · rw [hl] at q1
            cases q1
            rw [hd] at hf
            refine q_when (et_not (et_B (ev_call (ea_cons (ev_dget (ev_var rfl) (ev_var rfl) (.inl ha4) q2) ea_nil) (spB1_v rv smd)))) (fun hb H5 e5 => ?_) (fun hb H5 e5 => ?_)
            · have hr : wrongR rt wd = some [.str wd] := by
                rw [Bool.not_eq_true'] at hb
                unfold wrongR
                rw [hlook, hb]
                rfl
              have hf' : firstR rt ys = some [.str wd] := by rw [hf]; unfold firstR; rw [hr]
              exact s_bad (evp_tup (eap_cons (evp_d (ev_var rfl) (Rp.str wd)) eap_nil) (by simp)) ((o2 _ hf').mono (e04.trans e5))
            · rw [Bool.not_eq_false'] at hb
              obtain ⟨kd, ps, b, rfl⟩ := rt_form hb
              have hr : wrongR rt wd = wrongAt rt (decide (kd = "async")) wd b := by
                unfold wrongR
                rw [hlook, if_pos hb]
              have smb : Sm (.tup b) := smd.item (i := 2) rfl
              refine q_asgP (evp_first (ev_var rfl) (ev_dget (ev_var rfl) (ev_var rfl) (.inl (e5 _ _ ha4)) q2) (ev_var rfl) (rv.mono e5) smb ⟨a, kvs, rfl, .inl (e5 _ _ ha4), kr4.mono (Ew.of e5)⟩ G.ok) fun pv H6 e6 hpv => ?_
              refine s_when (et_test (ev_op (ev_var rfl) ev_c rv_notN)) (fun hn H7 e7 => ?_) (fun hn H7 e7 => ?_)
              · rw [Bool.not_eq_true', decide_eq_false_iff_not] at hn
                cases hw2 : wrongAt rt (decide (kd = "async")) wd b with
                | none => exact absurd (hpv.1 hw2) hn
                | some pl =>
                  have hf' : firstR rt ys = some pl := by rw [hf]; unfold firstR; rw [hr, hw2]
                  exact s_bad (evp_d (ev_var rfl) ((hpv.2 pl hw2).mono e7)) ((o2 _ hf').mono (((e04.trans e5).trans e6).trans e7))
              · rw [Bool.not_eq_false', decide_eq_true_eq] at hn
                cases hw2 : wrongAt rt (decide (kd = "async")) wd b with
                | some pl =>
                  have := hpv.2 pl hw2
                  rw [hn] at this
                  cases this
                | none =>
                  refine ⟨_, _, rfl, ((e04.trans e5).trans e6).trans e7, ((e4.trans e5).trans (e6.trans e7)) _ _ hp3, ?_⟩
                  rw [hf]
                  show firstR rt (wd :: _) = _
                  rw [firstR, hr, hw2]
      · rintro σ' H3 ⟨x1, x2, rfl, e3, hp3, hf⟩
        rw [List.length_map, List.drop_length] at hf
        exact o1 hf H3 e3
end
end K2
/-! is_arrival, check_outside. -/
namespace K2
open PySem L2 Evl PySem.Spec PyProof.Rows RZ StX
def isArrD (m : Int) : D → Bool
  | .tup [.int i, b, c] => decide (m ≤ i) && (isWord b && isPlainV c)
  | _ => false
def headI : D → Int
  | .tup (.int i :: _) => i
  | _ => 0
def firstA (m : Int) (i : Nat) : List D → Option (List D)
  | [] => none
  | d :: l => if isArrD m d then firstA (headI d) (i + 1) l else some [.str "outside", .int (i : Int)]
def outsideR : D → Option (List D)
  | .tup l => firstA 0 0 l
  | _ => some [.str "outside"]
theorem arr_form {m : Int} {d : D} (h : isArrD m d = true) : ∃ i b c, d = .tup [.int i, b, c] := by
  unfold isArrD at h
  split at h
  · exact ⟨_, _, _, rfl⟩
  · cases h
theorem whole_form {d : D} (h : isWhole d = true) : ∃ i, d = .int i := by
  cases d <;> first | exact ⟨_, rfl⟩ | cases h
def spArr (K : PySem.W.Frag) : Sp := fun vs H Q _ => ∃ d v m, vs = [v, .int m] ∧ Rp K H d v ∧ Sm d ∧ RetV (.bl (isArrD m d)) H Q
def spChkO (K : PySem.W.Frag) (C : Addr) : Sp := fun vs H Q E => ∃ d v, vs = [v] ∧ Rp K H d v ∧ Sm d ∧ Out K C (outsideR d) H Q E
section
variable {P : Program} {w : World} {K : PySem.W.Frag} {mg : Str → Option Value} {base : Heap} {C fB : Addr} {dB : FuncData}
theorem sc38 : FnScope ["row", "earliest"] ["row", "earliest"] (defScope (top 38)) := ⟨rfl, rfl, rfl, by decide +kernel, rfl, by decide +kernel, by decide +kernel⟩
theorem ok_arr (B : Bl mg) (F : Df K mg "is_arrival" (top 38) ["row", "earliest"]) (O1 : Okd P w K mg base CX0 1 "is_whole" ["value"] (spB1 K (fun _ => True) isWhole)) (O2 : Okd P w K mg base CX0 2 "is_word" ["value"] (spB1 K Sm isWord))
    (O3 : Okd P w K mg base CX0 2 "is_plain_value" ["value"] (spB1 K Sm isPlainV)) : Okd P w K mg base CX0 3 "is_arrival" ["row", "earliest"] (spArr K) := by
  refine F.ok sc38 (fun vs H Q E h => by obtain ⟨d, v, m, rfl, _⟩ := h; rfl) (fun f cdv A outer s H vs Q E hr h => ?_)
  obtain ⟨d, v, m, rfl, r, sm, k⟩ := h
  obtain ⟨f_is_whole, d_is_whole, m_is_whole, k_is_whole, b_is_whole, G_is_whole⟩ := O1.ex
  obtain ⟨f_is_word, d_is_word, m_is_word, k_is_word, b_is_word, G_is_word⟩ := O2.ex
  obtain ⟨f_is_plain_value, d_is_plain_value, m_is_plain_value, k_is_plain_value, b_is_plain_value, G_is_plain_value⟩ := O3.ex
  refine ⟨_, (pss_cons (ps_if (PW.pt (pw_or (pt_not (pt_val (pe_callB call_isi (by rfl) B.isinstance boot_isinstance (pa_cons (pv 0) (pa_cons (pe_bltn (v := .ty "tuple") (by rfl) B.tuple boot_tuple rfl) pa_nil))))) (pw_or (pt_cmpR op_ne (pe_callB call_lenQ (by rfl) B.len PySem.boot_len (pa_cons (pv 0) pa_nil)) pe_int (nomark _)) (pw_or1 (pt_not (pt_val (pe_call G_is_whole (hr.mono (by first | decide | omega)) (by rfl) m_is_whole k_is_whole b_is_whole .nil pass0 (pa_cons (pe_ix ix_tup (pv 0) pe_int (fun _ _ => rfl)) pa_nil)))))))) (pss_one (ps_ret pe_bl)) pss_nil)
      (pss_one (ps_ret (pe_and (pe_cmpR op_ge1 (pe_ix ix_tup (pv 0) pe_int (fun _ _ => rfl)) (pv 1) (nomark _)) (pe_and (pe_call G_is_word (hr.mono (by first | decide | omega)) (by rfl) m_is_word k_is_word b_is_word .nil pass0 (pa_cons (pe_ix ix_tup (pv 0) pe_int (fun _ _ => rfl)) pa_nil)) (pe_one (pe_call G_is_plain_value (hr.mono (by first | decide | omega)) (by rfl) m_is_plain_value k_is_plain_value b_is_plain_value .nil pass0 (pa_cons (pe_ix ix_tup (pv 0) pe_int (fun _ _ => rfl)) pa_nil)))))))), ?_⟩
  cases h3 : (isTup d && is3 d) with
  | false =>
    have q : isArrD m d = false := by
      unfold isArrD
      split
      · cases h3
      · rfl
    refine q_when (b := !(isTup d) || (!(is3 d) || true)) (et_or (et_not (et_B (ev_isi r (ev_var rfl) (kit_tup d)))) (fun ht => et_or ?_ (fun hq => ?_))) (fun _ H1 e => s_ret ev_c fun H2 e2 => ?_) (fun hb => by
      have : (!(isTup d) || (!(is3 d) || true)) = true := by cases isTup d <;> cases is3 d <;> rfl
      rw [this] at hb; cases hb)
    · cases r with
      | tup ha rs =>
        refine et_is (et_test (ev_op (ev_lenT (ev_var rfl) (st_of ha)) ev_c (rv_ne rfl))) ?_
        show (!decide (V.int _ = V.int 3)) = !(decide _)
        rw [rs.len]
        exact congrArg (!·) (decide_eq_decide.mpr ⟨fun z => by injection z, fun z => by rw [z]⟩)
      | _ => cases ht
    · have h1 : isTup d = true := by simpa using ht
      have h2 : is3 d = true := by simpa using hq
      rw [h1, h2] at h3
      cases h3
    · rw [← q]
      exact k H2 (e.trans e2)
  | true =>
    rw [Bool.and_eq_true] at h3
    obtain ⟨ht, h3⟩ := h3
    cases r with
    | tup ha rs =>
      rename_i a vs ds
      obtain ⟨d0, d1, d2, rfl⟩ := is3_of h3
      obtain ⟨v0, v1, v2, rfl, r0, r1, r2⟩ := rs.three
      have s1 : Sm d1 := sm.item (i := 1) rfl
      have s2 : Sm d2 := sm.item (i := 2) rfl
      have ix0 : atI [v0, v1, v2] (0 : Int) = some v0 := atI_nat (j := 0) rfl
      have ix1 : atI [v0, v1, v2] (1 : Int) = some v1 := atI_nat (j := 1) rfl
      have ix2 : atI [v0, v1, v2] (2 : Int) = some v2 := atI_nat (j := 2) rfl
      refine q_when (b := !(isWhole d0)) (et_is (et_or (et_not (et_B (ev_isi (Rp.tup ha rs) (ev_var rfl) (kit_tup _)))) (fun _ => et_or (et_test (ev_op (ev_lenT (ev_var rfl) (st_of ha)) ev_c (rv_ne rfl)))
        (fun _ => et_not (et_B (ev_call (ea_cons (ev_op (ev_var rfl) ev_c (rv_ixT (st_of ha) ix0)) ea_nil) (spB1_v r0 trivial)))))) rfl) (fun hb H1 e => s_ret ev_c fun H2 e2 => ?_) (fun hb H1 e => ?_)
      · have q : isArrD m (.tup [d0, d1, d2]) = false := by
          rw [Bool.not_eq_true'] at hb
          cases d0 <;> first | rfl | (exact Bool.noConfusion (show true = false from hb))
        rw [← q]
        exact k H2 (e.trans e2)
      · rw [Bool.not_eq_false'] at hb
        obtain ⟨i, rfl⟩ := whole_form hb
        cases r0
        have ha1 := st_of (K := K) (e _ _ ha)
        refine s_ret (ev_andV (ev_op (ev_op (ev_var rfl) ev_c (rv_ixT ha1 ix0)) (ev_var rfl) rv_I0) fun _ => ev_andV (ev_call (ea_cons (ev_op (ev_var rfl) ev_c (rv_ixT ha1 ix1)) ea_nil) (spB1_v (r1.mono e) s1)) fun _ => ev_call (ea_cons (ev_op (ev_var rfl) ev_c (rv_ixT ha1 ix2)) ea_nil) (spB1_v (r2.mono e) s2)) fun H2 e2 => k H2 (e.trans e2)
    | _ => cases ht
theorem sc39 : FnScope ["outside", "earliest", "at", "row"] ["outside"] (defScope (top 39)) := ⟨rfl, rfl, rfl, by decide +kernel, rfl, by decide +kernel, by decide +kernel⟩
theorem ok_chkO (B : Bl mg) (ER : Errs P w K mg base C fB dB) (F : Df K mg "check_outside" (top 39) ["outside"]) (O1 : Okd P w K mg base CX0 3 "is_arrival" ["row", "earliest"] (spArr K)) :
    Okd P w K mg base (L2.CX P w) 5 "check_outside" ["outside"] (spChkO K C) := by
  refine F.okX sc39 (fun vs H Q E h => by obtain ⟨d, v, rfl, _⟩ := h; rfl) (fun f cdv A outer s H vs Q E hr h => ?_)
  obtain ⟨d, v, rfl, r, sm, o1, o2⟩ := h
  obtain ⟨f_is_arrival, d_is_arrival, m_is_arrival, k_is_arrival, b_is_arrival, G_is_arrival⟩ := O1.ex
  refine ⟨_, (pss_cons (ps_if (pt_not (pt_val (pe_callB call_isi (by rfl) B.isinstance boot_isinstance (pa_cons (pv 0) (pa_cons (pe_bltn (v := .ty "tuple") (by rfl) B.tuple boot_tuple rfl) pa_nil))))) (pss_one (ps_bad rfl ER.R ER.G ER.b ER.iC ER.tI (hr.mono (by decide)) (takes_of rfl rfl rfl rfl) (pe_tup (pa_cons pe_str pa_nil)) (by rfl))) pss_nil)
      (pss_cons (ps_set (i := 1) sc39.nd rfl (Or.inl rfl) pe_int)
      (pss_one (ps_for (passes_of rfl) rfl (pi_enumT (by rfl) B.enumerate (pa_cons (pv 0) pa_nil)) (pg_tup (by rfl) (pgs_cons (pg_name (i := 2) sc39.nd rfl (Or.inl rfl)) (pgs_cons (pg_name (i := 3) sc39.nd rfl (Or.inl rfl)) pgs_nil))) (pss_cons (ps_if (pt_not (pt_val (pe_call G_is_arrival (hr.mono (by first | decide | omega)) (by rfl) m_is_arrival k_is_arrival b_is_arrival .nil pass0 (pa_cons (pv 3) (pa_cons (pv 1) pa_nil))))) (pss_one (ps_bad rfl ER.R ER.G ER.b ER.iC ER.tI (hr.mono (by decide)) (takes_of rfl rfl rfl rfl) (pe_tup (pa_cons pe_str (pa_cons (pv 2) pa_nil))) (by rfl))) pss_nil)
      (pss_one (ps_set (i := 1) sc39.nd rfl (Or.inl rfl) (pe_ix ix_tup (pv 3) pe_int (fun _ _ => rfl))))))))), ?_⟩
  refine q_when (et_not (et_B (ev_isi r (ev_var rfl) (kit_tup d)))) (fun hb H1 e => ?_) (fun hb H1 e => ?_)
  · have q : outsideR d = some [.str "outside"] := by
      rw [Bool.not_eq_true'] at hb
      cases d <;> first | rfl | cases hb
    exact s_bad (evp_tup (eap_cons (evp_d ev_c (Rp.str _)) eap_nil) (by simp)) ((o2 _ q).mono e)
  · rw [Bool.not_eq_false'] at hb
    cases r with
    | tup ha rs =>
      rename_i a vs ds
      refine q_asg ev_c fun H2 e2 => ?_
      have e02 := e.trans e2
      have ha2 := e02 _ _ ha
      refine s_forG (wkg_enum (K := K) (ev_var rfl) (fun H3 e3 => st_of (e3 _ _ ha2))) (fun i σ' H' => ∃ (m : Int) (x2 x3 : Option V), σ' = [some (.ref a), some (.int m), x2, x3] ∧ Ex H H' ∧ outsideR (.tup ds) = firstA m i (ds.drop i))
        (fun H3 e3 _ => ⟨0, _, _, rfl, e02.trans e3, rfl⟩) (fun i σ' H' _ ⟨_, _, _, _, e, _⟩ => st_of (e _ _ ha)) ?_ ?_
      · rintro i x σ' H3 H4 hi ⟨m, x2, x3, rfl, e3, hf⟩ e4 ⟨T, y, rfl, hT, hy⟩
        have e04 := e3.trans e4
        obtain ⟨dd, hd, rd⟩ := (rs.mono e04).at_ hy
        have hdr : ds.drop i = dd :: ds.drop (i + 1) := by
          have hl : i < ds.length := (List.getElem?_eq_some_iff.mp hd).1
          rw [List.drop_eq_getElem_cons hl]
          have : ds[i] = dd := (List.getElem?_eq_some_iff.mp hd).2
          rw [this]
        rw [hdr] at hf
        refine ⟨T, _, rfl, st_of hT, rfl, .int (i : Int), [y], rfl, y, [], rfl, rfl, ?_⟩
        have smd : Sm dd := sm.item hd
        refine q_when (et_not (et_B (ev_call (sp := spArr K) (z := .bl (isArrD m dd)) (ea_cons (ev_var rfl) (ea_cons (ev_var rfl) ea_nil)) fun H5 e5 Q q _ => ⟨dd, y, m, rfl, rd.mono e5, smd, fun H6 e6 => q H6 e6⟩))) (fun hb H5 e5 => ?_) (fun hb H5 e5 => ?_)
        · rw [Bool.not_eq_true'] at hb
          have hf' : outsideR (.tup ds) = some [.str "outside", .int (i : Int)] := by
            rw [hf]
            unfold firstA
            rw [hb]
            rfl
          exact s_bad (evp_tup (eap_cons (evp_d ev_c (Rp.str _)) (eap_cons (evp_d (ev_var rfl) (Rp.int _)) eap_nil)) (by simp)) ((o2 _ hf').mono (e04.trans e5))
        · rw [Bool.not_eq_false'] at hb
          obtain ⟨j, b, c, rfl⟩ := arr_form hb
          have rd5 := rd.mono e5
          obtain ⟨ta, tvs, rfl, hta, rts⟩ := rd5.ofTup
          obtain ⟨v0, v1, v2, rfl, r0, r1, r2⟩ := rts.three
          cases r0
          refine s_asg (ev_op (ev_var rfl) ev_c (rv_ixT (st_of hta) (atI_nat (j := 0) rfl))) fun H6 e6 => ?_
          refine ⟨j, _, _, rfl, (e04.trans e5).trans e6, ?_⟩
          rw [hf]
          show firstA m i (_ :: _) = _
          rw [firstA, if_pos hb]
          rfl
      · rintro σ' H3 ⟨m, x2, x3, rfl, e3, hf⟩
        rw [rs.len, List.drop_length] at hf
        exact o1 hf H3 e3
    | _ => cases hb
end
end K2
/-! used_ops. -/
namespace K2
open PySem L2 Evl PySem.Spec PyProof.Rows RZ StX
/-! ### steps that are steps all the way down -/
def stOf : D → List D
  | .tup [_, .tup st] => st
  | _ => []
def Vs (rt : Rt) : Nat → D → Prop
  | 0, _ => False
  | n + 1, s => ∃ word parts, s = .tup (.str word :: parts) ∧ (∃ async il, stepOk rt async il word parts = true) ∧ ∀ p ∈ innerB word parts, ∀ s' ∈ stOf p, Vs rt n s'
theorem Vs.mono {rt : Rt} : ∀ {n m : Nat} {s : D}, n ≤ m → Vs rt n s → Vs rt m s
  | 0, _, _, _, h => h.elim
  | n + 1, 0, _, h, _ => absurd h (by omega)
  | n + 1, m + 1, s, h, ⟨word, parts, h1, h2, h3⟩ => ⟨word, parts, h1, h2, fun p hp s' hs => Vs.mono (by omega) (h3 p hp s' hs)⟩
def szQ (p : D) : Nat := szL (stOf p) + 1
def szQs (l : List D) : Nat := (l.map szQ).sum
theorem szQs_app (a b : List D) : szQs (a ++ b) = szQs a + szQs b := by simp [szQs]
theorem szQ_d (w : List D) (d : D) : szQ (.tup [.tup w, d]) ≤ szD d := by
  cases d with
  | tup st => exact Nat.le_refl _
  | str s => exact Nat.le_add_left 1 s.length
  | _ => exact Nat.le_refl _
theorem third_lt {h : D} : szQ (.tup [.tup [], third h]) ≤ szD h := Nat.le_trans (szQ_d [] (third h)) (third_sz h)
theorem hItems_szQ (at_ : Int) (hs : List D) : ∀ n, szQs (hItems at_ hs n) ≤ szL (hs.take n)
  | 0 => by simp [hItems, szQs]
  | n + 1 => by
    rw [hItems_succ, szQs_app]
    have ih := hItems_szQ at_ hs n
    cases h : hs[n]? with
    | none =>
      have e : hItem at_ hs n = [] := by unfold hItem; rw [h]
      have l : hs.length ≤ n := List.getElem?_eq_none_iff.mp h
      rw [e, List.take_of_length_le (by omega)]
      rw [List.take_of_length_le l] at ih
      simpa [szQs] using ih
    | some s =>
      have e : hItem at_ hs n = [D.tup [D.tup [D.int at_, D.int (n : Int), D.int 2], third s]] := by unfold hItem; rw [h]
      have e2 : hs.take (n + 1) = hs.take n ++ [s] := by rw [List.take_succ, h]; rfl
      rw [e, e2, szL_app]
      have h1 := szQ_d [D.int at_, D.int (n : Int), D.int 2] (third s)
      have h2 := third_sz s
      show _ + (szQ _ + 0) ≤ _ + (szD s + 0)
      omega
theorem innOf_szQ (at_ : Int) (s : Str) (d : D) : szQs (innOf at_ s d) ≤ szD d := by
  unfold innOf
  split
  · have := szQ_d [D.int at_] d
    show szQ _ + 0 ≤ _
    omega
  · split
    · split
      · rename_i hs
        have := hItems_szQ at_ hs hs.length
        rw [List.take_length] at this
        show _ ≤ szL hs + 1
        omega
      · simp [szQs]
    · simp [szQs]
theorem inn_szQ (sh : List Str) (parts : List D) : ∀ n, szQs (inn sh parts n) ≤ szL (parts.take n)
  | 0 => by simp [inn, szQs]
  | n + 1 => by
    rw [inn_succ, szQs_app]
    have ih := inn_szQ sh parts n
    cases h : parts[n]? with
    | none =>
      have e : innAt sh parts n = [] := by unfold innAt; rw [h]; split <;> simp_all
      have l : parts.length ≤ n := List.getElem?_eq_none_iff.mp h
      rw [e, List.take_of_length_le (by omega)]
      rw [List.take_of_length_le l] at ih
      simpa [szQs] using ih
    | some d =>
      have e2 : parts.take (n + 1) = parts.take n ++ [d] := by rw [List.take_succ, h]; rfl
      rw [e2, szL_app]
      have : szQs (innAt sh parts n) ≤ szD d := by
        unfold innAt
        rw [h]
        split
        · rename_i s d' h1 h2
          cases h2
          exact innOf_szQ _ _ _
        · simp [szQs]
      show _ ≤ _ + (szD d + 0)
      omega
theorem innerB_szQ (word : Str) (parts : List D) : szQs (innerB word parts) ≤ szL parts := Nat.le_trans (inn_szQ (shapeOr word) parts (shapeOr word).length) (szL_take parts _)
theorem inner_lt {word : Str} {parts : List D} {p s : D} (hp : p ∈ innerB word parts) (hs : s ∈ stOf p) : szD s < szD (.tup (.str word :: parts)) := by
  have h1 := innerB_szQ word parts
  have h2 : szQ p ≤ szQs (innerB word parts) := le_sum_mem (List.mem_map_of_mem hp)
  obtain ⟨i, hi⟩ := List.getElem?_of_mem hs
  have h3 := szL_mem hi
  have h4 : szD (.tup (.str word :: parts)) = ((word.length + 1) + szL parts) + 1 := rfl
  have h5 : szQ p = szL (stOf p) + 1 := rfl
  omega
/-- of steps of which none is the first that is none each is one, all the way down -/
theorem vs_of_first {rt : Rt} {async : Bool} : ∀ (n : Nat) (l : List It3), szI l ≤ n → firstBad rt async l = none → ∀ i ∈ l, Vs rt (szD i.step) i.step
  | n, [], _, _, i, hi => nomatch hi
  | 0, it :: rest, hn, _, i, hi => by
    have h4 : szI (it :: rest) = szD it.step + szI rest := rfl
    have := szD_pos it.step
    omega
  | n + 1, it :: rest, hn, h, i, hi => by
    have h4 : szI (it :: rest) = szD it.step + szI rest := rfl
    have h3 := childs_sz it.place it.il it.step
    rw [firstBad_cons] at h
    cases hb : isStepD rt async it.il it.step with
    | false => rw [hb] at h; exact nomatch h
    | true =>
      rw [if_pos hb] at h
      have ih := vs_of_first n (childs it.place it.il it.step ++ rest) (by rw [szI_app]; omega) h
      rcases List.mem_cons.mp hi with e | e
      · subst e
        obtain ⟨word, parts, hst⟩ : ∃ word parts, i.step = .tup (.str word :: parts) := by
          unfold isStepD at hb
          split at hb
          · rename_i word parts hst
            exact ⟨word, parts, hst⟩
          · cases hb
        have hok : stepOk rt async i.il word parts = true := by
          rw [hst] at hb
          exact hb
        obtain ⟨m, hm⟩ : ∃ m, szD i.step = m + 1 := ⟨szD i.step - 1, by have := szD_pos i.step; omega⟩
        rw [hm, hst]
        refine ⟨word, parts, rfl, ⟨async, i.il, hok⟩, fun p hp s' hs => ?_⟩
        have hlt := inner_lt hp hs
        rw [← hst, hm] at hlt
        refine Vs.mono (n := szD s') (by omega) ?_
        obtain ⟨way, steps, rfl, _⟩ := (good_of hok).pairs p hp
        obtain ⟨k, hk⟩ := List.getElem?_of_mem hp
        obtain ⟨j, hj⟩ := List.getElem?_of_mem (show s' ∈ steps from hs)
        have hmem : (⟨s', i.place ++ (way ++ [D.int (j : Int)]), i.il || inStrs loopsL word⟩ : It3) ∈ childs i.place i.il i.step := by
          rw [hst]
          show _ ∈ chil i.place (i.il || inStrs loopsL word) (innerB word parts) (innerB word parts).length
          unfold chil
          refine List.mem_flatMap.mpr ⟨k, List.mem_range.mpr (List.getElem?_eq_some_iff.mp hk).1, ?_⟩
          rw [hk]
          show _ ∈ kidsN i.place way (i.il || inStrs loopsL word) steps steps.length
          unfold kidsN
          refine List.mem_flatMap.mpr ⟨j, List.mem_range.mpr (List.getElem?_eq_some_iff.mp hj).1, ?_⟩
          unfold kid
          rw [hj]
          exact List.mem_singleton.mpr rfl
        exact ih _ (List.mem_append_left _ hmem)
      · exact ih i (List.mem_append_right _ e)
theorem vs_of_wrong {rt : Rt} {async : Bool} {wd : Str} {body : List D} (h : wrongAt rt async wd body = none) : ∀ s ∈ body, Vs rt (szD s) s := by
  intro s hs
  obtain ⟨j, hj⟩ := List.getElem?_of_mem hs
  have hlt := (List.getElem?_eq_some_iff.mp hj).1
  have h4 := topItems_at wd body body.length j hlt (Nat.le_refl _)
  rw [hj] at h4
  exact vs_of_first _ _ (Nat.le_refl _) h _ (List.mem_of_getElem? h4)
/-! ### where a step's call stands -/
def caL : List (Str × Int) := [("do", 1), ("let", 2), ("await", 2), ("if", 1), ("while", 1), ("with", 2)]
def callAt (z : Str) : Option Int := caL.lookup z
structure Ca (K : PySem.W.Frag) (w : World) (mg : Str → Option Value) : Prop where
  ca : ∃ a u es n, mg "CALL_AT" = some u ∧ L2.RelV (.ref a) u ∧ KDict K w a es n ∧ (∀ z, callAt z = none → PySem.W.nsIn K a z = some none) ∧
    ∀ z k, callAt z = some k → ∃ u', PySem.W.nsIn K a z = some (some u') ∧ L2.RelV (.int k) u'
theorem partOk_call (rt : Rt) (d : D) : partOk rt "call" d = isCallD rt d := by
  unfold partOk
  rw [if_pos rfl]
theorem call_of {rt : Rt} {d : D} (h : isCallD rt d = true) : ∃ op args, d = .tup (.str op :: args) := by
  unfold isCallD at h
  split at h
  · rename_i op args
    exact ⟨op, args, rfl⟩
  · cases h
theorem shape_calls : ∀ p ∈ caL, ∃ sh k, shape p.1 = some sh ∧ p.2 = ((k + 1 : Nat) : Int) ∧ sh[k]? = some ("call" : Str) ∧ p.1 ≠ ("say" : Str) ∧ p.1 ≠ ("raise" : Str) := by
  intro p hp
  simp only [caL, List.mem_cons, List.not_mem_nil, or_false] at hp
  rcases hp with rfl | rfl | rfl | rfl | rfl | rfl
  · exact ⟨["call"], 0, by decide +kernel, rfl, by decide +kernel, by decide +kernel, by decide +kernel⟩
  · exact ⟨["name", "call"], 1, by decide +kernel, rfl, by decide +kernel, by decide +kernel, by decide +kernel⟩
  · exact ⟨["target", "call"], 1, by decide +kernel, rfl, by decide +kernel, by decide +kernel, by decide +kernel⟩
  · exact ⟨["call", "body", "body"], 0, by decide +kernel, rfl, by decide +kernel, by decide +kernel, by decide +kernel⟩
  · exact ⟨["call", "body"], 0, by decide +kernel, rfl, by decide +kernel, by decide +kernel, by decide +kernel⟩
  · exact ⟨["target", "call", "body"], 1, by decide +kernel, rfl, by decide +kernel, by decide +kernel, by decide +kernel⟩
/-- the call of a step that has one -/
theorem step_call {rt : Rt} {async il : Bool} {word : Str} {parts : List D} {k : Int} (h : stepOk rt async il word parts = true) (hc : callAt word = some k) : ∃ j op args, k = ((j + 1 : Nat) : Int) ∧ parts[j]? = some (.tup (.str op :: args)) := by
  obtain ⟨sh, j, h1, h2, h3, h4, h5⟩ := shape_calls _ (lookup_mem hc)
  unfold stepOk at h
  rw [if_neg (by rintro (e | ⟨e, _⟩) <;> contradiction)] at h
  have h1' : shape word = some sh := h1
  rw [h1'] at h
  have h : (if parts.length ≠ sh.length then false else if (decide (word = "break") && !il || inStrs asyncL word && !async) = true then false else zipOk rt sh parts) = true := h
  by_cases hl : parts.length ≠ sh.length
  · rw [if_pos hl] at h; cases h
  · rw [if_neg hl] at h
    by_cases hb : (decide (word = "break") && !il || inStrs asyncL word && !async) = true
    · rw [if_pos hb] at h; cases h
    · rw [if_neg hb] at h
      have hj : j < parts.length := by
        have := (List.getElem?_eq_some_iff.mp h3).1
        omega
      have hp : parts[j]? = some parts[j] := List.getElem?_eq_getElem hj
      have := zipOk_get rt sh parts j _ _ h h3 hp
      rw [partOk_call] at this
      obtain ⟨op, args, e⟩ := call_of this
      exact ⟨j, op, args, h2, by rw [hp, e]⟩
end K2
/-! used_ops: the def. -/
namespace K2
open PySem L2 Evl PySem.Spec PyProof.Rows RZ StX
def OkB (rt : Rt) (b : List D) : Prop := Sm (.tup b) ∧ ∀ s ∈ b, ∃ n, Vs rt n s
def VB (rt : Rt) : Prop := ∀ p ∈ rt, ∃ k ps body, p.2 = .tup [k, ps, .tup body] ∧ OkB rt body
def msr (l : List (List D)) : Nat := (l.map fun b => szL b + 1).sum
theorem msr_app (a b : List (List D)) : msr (a ++ b) = msr a + msr b := by simp [msr]
theorem msr_len : ∀ l : List (List D), l.length ≤ msr l
  | [] => Nat.le_refl _
  | b :: l => by
    have := msr_len l
    show l.length + 1 ≤ (szL b + 1) + msr l
    omega
def inns (word : Str) (parts : List D) : List (List D) := (innerB word parts).map stOf
theorem inns_msr (word : Str) (parts : List D) : msr (inns word parts) = szQs (innerB word parts) := by
  unfold msr inns szQs
  rw [List.map_map]
  rfl
def spUsed (K : PySem.W.Frag) : Sp := fun vs H Q _ => ∃ a kvs rt, vs = [.ref a] ∧ H a = some (.dK kvs) ∧ KRt K H rt kvs ∧ RtG rt ∧ VB rt ∧ ∀ d es H2, H d = none → Ex H H2 → H2 d = some (.dK es) → Q (.ref d) H2
theorem Rps.of_pair {K : PySem.W.Frag} {H : Hp} {f : Nat → D} : ∀ {l : List Nat} {ys : List V}, Paired (fun i y => Rp K H (f i) y) l ys → Rps K H (l.map f) ys
  | _, _, .nil => .nil
  | _, _, .cons q t => .cons q (Rps.of_pair t)
section
variable {K : PySem.W.Frag} {H : Hp} {σ : L2.St} {ta te : TE} {tz : TS} {Dd : Ends} {t : TS}
theorem s_extLP {l : Addr} {xs : List V} {Pl : Hp → List V → Prop} (hl : H l = some (.lst xs)) (ha : Ev ta σ H (.ref l)) (h : EvLP te σ H Pl) (hz : ∀ H1 ys, Pl H1 ys → xs.length + ys.length ≤ 16000000) (k : ∀ H1 ys H2, Ex H H1 → Pl H1 ys → Ew H1 H2 → Ex H1 H2 ∨ True → H2 = upd H1 l (.lst (xs ++ ys)) → Dd.nx σ H2) :
    tDrop (tBM K "list" rExtend ta (tCons te tNil)) Dd σ H := ha H (Ex.refl H) _ fun H1 e1 =>
  ⟨Or.inl ⟨rfl, xs, sq_of (e1 l _ hl)⟩, h H1 e1 _ fun p ys H2 np e2 hp pl => ⟨l, p, xs, ys, rfl, rfl, e2 l _ (e1 l _ hl), hp, Nat.le_trans (hz _ _ pl) (by decide), k H2 ys _ (e1.trans e2) pl (Ew.lst (e2 l _ (e1 l _ hl))) (.inr trivial) rfl⟩⟩
/-- a list made while a dict is locked, given a name -/
theorem q_lockAsg {d : Addr} {u : HO} {i : Nat} {Pl : Hp → List V → Prop} (h : H d = some u) (mu : Mut (some u)) (hl : ∀ od, EvLP te σ (upd H d (.frz od u)) Pl) (mono : ∀ od H1 xs, Ex (upd H d (.frz od u)) H1 → H1 d = some (.frz od u) → Pl H1 xs → Pl (upd H1 d u) xs)
    (k : ∀ p xs H1, H p = none → Ex H H1 → H1 p = some (.lst xs) → Pl H1 xs → tz Dd (σ.set i (some (.ref p))) H1) : tSeq (tLock (tAsg te (gName i))) tz Dd σ H :=
  ⟨d, u, h, mu, fun od => hl od _ (Ex.refl _) _ fun p xs H1 np e hp pl => by
    have hpd : p ≠ d := fun z => by rw [z, upd_same] at np; cases np
    have hd1 := e d _ upd_same
    refine ⟨hd1, k p xs (upd H1 d u) (by rw [upd_ne hpd] at np; exact np) (fun b o hb => ?_) (by rw [upd_ne hpd]; exact hp) (mono od H1 xs e hd1 pl)⟩
    by_cases hbd : b = d
    · subst hbd
      rw [upd_same]
      rw [h] at hb
      exact hb
    · rw [upd_ne hbd]
      exact e b o (by rw [upd_ne hbd]; exact hb)⟩
end
theorem ew_unlock {H1 : Hp} {d : Addr} {od : Obj} {kvs : List (Key × V)} (h : H1 d = some (.frz od (.dK kvs))) : Ew H1 (upd H1 d (.dK kvs)) := fun a => by
  by_cases e : a = d
  · subst e
    refine ⟨fun z q => ?_, fun z q => ?_, fun z q => ?_⟩ <;> (rw [h] at q; cases q)
  · refine ⟨fun z q => ?_, fun z q => ⟨z, ?_⟩, fun z q => ⟨z, ?_⟩⟩ <;> (rw [upd_ne e]; exact q)
theorem msr_le : ∀ {l : List (List D)}, (∀ b ∈ l, szL b + 1 ≤ 39000) → msr l ≤ 39000 * l.length
  | [], _ => Nat.le_refl _
  | b :: l, h => by
    have h1 := h b (by simp)
    have h2 := msr_le (l := l) fun c hc => h c (List.mem_cons_of_mem _ hc)
    show (szL b + 1) + msr l ≤ 39000 * (l.length + 1)
    omega
def bodyOfR : D → List D
  | .tup [_, _, .tup b] => b
  | _ => []
def bodyRt (rt : Rt) (i : Nat) : List D := match rt[i]? with | some p => bodyOfR (lookD rt p.1) | none => []
theorem s_dputS {td ty tv : TE} {σ : L2.St} {H : Hp} {Dd : Ends} {a : Addr} {es : List (Key × V)} {z : Str} {v : V} (hv : Ev tv σ H v) (hd : Ev td σ H (.ref a)) (hy : Ev ty σ H (.str z)) (ha : H a = some (.dK es)) (hl : es.length < 16000000)
    (k : ∀ H1, Ex H H1 → Dd.nx σ (upd H1 a (.dK (putK es (Sum.inr z : Key) v)))) : sDPut td ty tv Dd σ H :=
  hv H (Ex.refl H) _ fun H1 e1 => hd H1 e1 _ fun H2 e2 => hy H2 (e1.trans e2) _ fun H3 e3 => ⟨a, _, rfl, DPut.k (k := Sum.inr z) (((e1.trans e2).trans e3) _ _ ha) (Nat.lt_of_lt_of_le hl (by decide)), k H3 ((e1.trans e2).trans e3)⟩
theorem putK_len {es : List (Key × V)} {k : Key} {v : V} : (putK es k v).length ≤ es.length + 1 := by
  induction es with
  | nil => simp [putK]
  | cons p es ih =>
    unfold putK
    split <;> simp_all
section
variable {P : Program} {w : World} {K : PySem.W.Frag} {mg : Str → Option Value} {base : Heap}
theorem sc34 : FnScope ["routines", "found", "todo", "body", "step", "word", "_", "steps"] ["routines"] (defScope (top 34)) := ⟨rfl, rfl, rfl, by decide +kernel, rfl, by decide +kernel, by decide +kernel⟩
theorem ok_used (B : Bl mg) (A6 : Ca K w mg) (F : Df K mg "used_ops" (top 34) ["routines"]) (O2 : Okd P w K mg base CX0 1 "inner_bodies" ["step"] (spInner K)) : Okd P w K mg base CX0 2 "used_ops" ["routines"] (spUsed K) := by
  refine F.ok sc34 (fun vs H Q E h => by obtain ⟨a, kvs, rt, rfl, _⟩ := h; rfl) (fun f cdv A outer s H vs Q E hr h => ?_)
  obtain ⟨a, kvs, rt, rfl, ha, kr, G, vb, k⟩ := h
  obtain ⟨f_inner_bodies, d_inner_bodies, m_inner_bodies, k_inner_bodies, b_inner_bodies, G_inner_bodies⟩ := O2.ex
  obtain ⟨aC, u_CALL_AT, esC, nC, c_CALL_AT, r_CALL_AT, kC, noC, yesC⟩ := A6.ca
  have hu := hu_of hr
  refine ⟨_, (pss_cons (ps_set (i := 1) sc34.nd rfl (Or.inl rfl) pe_dnewK)
      (pss_cons (ps_lock (ps_setLc (i := 2) (own := [("word", 5)]) (g := gName 5) (tt := tYes) rfl sc34.nd rfl rfl (sw_true rfl rfl rfl (by decide +kernel)) (pi_keys (pv 0)) (blkOk_by (N := ["routines", "found", "todo", "body", "step", "word", "_", "steps"]) (sc := defScope (top 34)) (by decide +kernel)) (fun _ _ _ _ _ => (pg_name (i := 5) sc34.nd rfl (Or.inl rfl))) (fun _ _ _ _ _ => pts_nil) (fun _ _ _ _ _ => (pe_ix (r := rIxT K) ix_tup (pe_dget (td := tVar 0) hu (pv 0) (pv 5) (fun _ _ => rfl)) pe_int (fun _ _ => rfl)))))
      (pss_cons (ps_while PassesOwn.never (pt_truth (pv 2) (by intro _; rfl)) (pss_cons (ps_set (i := 3) sc34.nd rfl (Or.inl rfl) (pe_bm0 PySem.F.plainAttrs_list PySem.F.slot_list_pop PySem.F.type_list_pop mt_pop (pv 2)))
      (pss_one (ps_for PassesOwn.never rfl (pi_tup (pv 3)) (pg_name (i := 4) sc34.nd rfl (Or.inl rfl)) (pss_cons (ps_if (pt_cmpR (op_inKd kC) (pe_ix ix_tup (pv 4) pe_int (fun _ _ => rfl)) (pe_glob (by rfl) c_CALL_AT r_CALL_AT) rfl) (pss_one (ps_dput hu (pv 1) (pe_ix ix_tup (pe_ix ix_tup (pv 4) (pe_ix ix_kdict (pe_glob (by rfl) c_CALL_AT r_CALL_AT) (pe_ix ix_tup (pv 4) pe_int (fun _ _ => rfl)) (fun _ _ => rfl)) (fun _ _ => rfl)) pe_int (fun _ _ => rfl)) pe_bl rfl)) pss_nil)
      (pss_one (ps_expr (pe_bm PySem.F.plainAttrs_list PySem.F.slot_list_extend PySem.F.type_list_extend mt_extend (pv 2) (pa_cons (pe_lc (own := [("_", 6), ("steps", 7)]) (g := gTup K 2 (gCons (gName 6) (gCons (gName 7) gNil))) (tt := tYes) rfl sc34.nd (pi_list (pe_call G_inner_bodies (hr.mono (by first | decide | omega)) (by rfl) m_inner_bodies k_inner_bodies b_inner_bodies .nil pass0 (pa_cons (pv 4) pa_nil))) (blkOk_by (N := ["routines", "found", "todo", "body", "step", "word", "_", "steps"]) (sc := defScope (top 34)) (by decide +kernel)) (fun _ _ _ _ _ => (pg_tup (by rfl) (pgs_cons (pg_name (i := 6) sc34.nd rfl (Or.inl rfl)) (pgs_cons (pg_name (i := 7) sc34.nd rfl (Or.inl rfl)) pgs_nil)))) (fun _ _ _ _ _ => pts_nil) (fun _ _ _ _ _ => (pv 7))) pa_nil)))))))))
      (pss_one (ps_ret (pv 1)))))), ?_⟩
  have hlk := kr.len
  refine fun fd nfd => ?_
  have e1 : Ex H (upd H fd (.dK [])) := Ex.new nfd
  have hfd1 : (upd H fd (.dK [])) fd = some (.dK []) := upd_same
  generalize upd H fd (.dK []) = H1 at *
  have ha1 := e1 _ _ ha
  have kr1 := kr.mono (Ew.of e1)
  have hbody : ∀ i, i < kvs.length → ∃ p d v, rt[i]? = some p ∧ rt.lookup p.1 = some d ∧ valV kvs (Sum.inr p.1 : Key) = some v ∧ Rp K H1 d v ∧ ∃ k ps body, d = .tup [k, ps, .tup body] ∧ OkB rt body := fun i hi => by
    have hp : rt[i]? = some (rt[i]'(by omega)) := List.getElem?_eq_getElem (by omega)
    obtain ⟨d, hl, hm⟩ := lookup_some (List.mem_map_of_mem (f := (·.1)) (List.mem_of_getElem? hp))
    rcases kr1.val (rt[i]'(by omega)).1 with ⟨q, _⟩ | ⟨d', v, q1, q2, rv⟩
    · rw [hl] at q; cases q
    · rw [hl] at q1
      cases q1
      exact ⟨_, d, v, hp, hl, q2, rv, vb _ hm⟩
  refine q_lockAsg (Pl := fun _ ys => Paired (fun i y => Rp K H1 (.tup (bodyRt rt i)) y) (kept (fun _ => true) kvs.length) ys) ha1 trivial (fun od => ?_) (fun _ _ _ _ _ h => h) fun td xs H2 ntd e2 htd pl => ?_
  · refine el_lc (fun _ => true) (fun i _ y => Rp K H1 (.tup (bodyRt rt i)) y) (wk_keys (ev_var rfl) upd_same) (by have := G.len; omega) (fun _ _ _ _ _ h => h) (fun i x H2 hi e2 ⟨ky, v, hk, hx⟩ Z hZ => ?_)
    obtain ⟨p, d, v', hp, hl, hv, rv, kk, ps, body, hd, okb⟩ := hbody i hi
    obtain ⟨q, hq1, hq2⟩ := Paired.at_ kr1 hp
    rw [hk] at hq1
    cases hq1
    have ek : ky = Sum.inr p.1 := hq2.1
    subst ek
    subst hx
    subst hd
    obtain ⟨t, tvs, rfl, ht, rts⟩ := rv.ofTup
    obtain ⟨w0, w1, w2, rfl, r0, r1, r2⟩ := rts.three
    have hta : t ≠ a := fun z => by rw [z, ha1] at ht; cases ht
    refine hZ _ H2 (Ex.refl _) rfl (fun H3 e3 Q q => q H3 (Ex.refl _)) fun _ => ?_
    have hbt : bodyRt rt i = body := by
      unfold bodyRt
      rw [hp]
      show bodyOfR (lookD rt p.1) = body
      unfold lookD
      rw [hl]
      rfl
    refine evp (ev_op (ev_dget (ev_var rfl) (ev_var rfl) (.inr ⟨od, e2 _ _ upd_same⟩) hv) ev_c (rv_ixT (st_of (e2 _ _ (by rw [upd_ne hta]; exact ht))) (atI_nat (j := 2) rfl))) fun _ _ => ?_
    rw [hbt]
    exact r2
  obtain ⟨l0, hl0⟩ : ∃ l0 : List (List D), l0 = (List.range kvs.length).map (bodyRt rt) := ⟨_, rfl⟩
  rw [kept_all] at pl
  have rl0 : Rps K H1 (l0.map D.tup) xs := by
    have := Rps.of_pair (f := fun i => D.tup (bodyRt rt i)) pl
    rw [hl0, List.map_map]
    exact this
  have ok0 : ∀ b ∈ l0, OkB rt b := fun b hb => by
    rw [hl0] at hb
    obtain ⟨i, hi, rfl⟩ := List.mem_map.mp hb
    obtain ⟨p, d, v', hp, hl, hv, rv, kk, ps, body, hd, okb⟩ := hbody i (List.mem_range.mp hi)
    have hbt : bodyRt rt i = body := by
      unfold bodyRt
      rw [hp]
      show bodyOfR (lookD rt p.1) = body
      unfold lookD
      rw [hl, hd]
      rfl
    rw [hbt]
    exact okb
  have hm0 : msr l0 ≤ 39000 * 64 := by
    have h1 := msr_le (l := l0) fun b hb => (ok0 b hb).1
    have h2 : l0.length = kvs.length := by rw [hl0]; simp
    have := G.len
    omega
  have e02 := e1.trans e2
  refine q_while (fun m σ' H' => ∃ (l : List (List D)) (ts : List V) (es : List (Key × V)) (x3 x4 x5 x6 x7 : Option V), σ' = [some (.ref a), some (.ref fd), some (.ref td), x3, x4, x5, x6, x7] ∧ Ex H H' ∧ H' fd = some (.dK es) ∧ H' td = some (.lst ts) ∧ Rps K H' (l.map D.tup) ts ∧ (∀ b ∈ l, OkB rt b) ∧ m = msr l ∧ es.length + msr l ≤ 5000000)
    (msr l0) ⟨l0, xs, [], none, none, none, none, none, rfl, e02, e2 _ _ hfd1, htd, rl0.mono e2, ok0, rfl, by simp; omega⟩ ?_
  rintro m σ' H3 ⟨l, ts, es, x3, x4, x5, x6, x7, rfl, e3, hfd, htd3, rl, okl, rfl, hbd⟩
  refine ⟨!ts.isEmpty, et_truL (ev_var rfl) htd3, fun hne H4 e4 => ⟨_, fun _ _ h => h, ?_⟩, fun _ H4 e4 => s_ret (ev_var rfl) fun H5 e5 => k fd es H5 nfd ((e3.trans e4).trans e5) ((e4.trans e5) _ _ hfd)⟩
  obtain ⟨l', body, rfl⟩ : ∃ l' body, l = l' ++ [body] := by
    cases h : l with
    | nil =>
      rw [h] at rl
      cases rl
      cases hne
    | cons b r => exact ⟨(b :: r).dropLast, (b :: r).getLast (by simp), (List.dropLast_concat_getLast _).symm⟩
  rw [List.map_append] at rl
  obtain ⟨ts', bv, rfl, rl', rbv⟩ := Rps.snoc_inv rl
  obtain ⟨ba, bvs, rfl, hba, rbs⟩ := rbv.ofTup
  have okb := okl body (by simp)
  have smb : szL body + 1 ≤ 39000 := okb.1
  have hml : msr (l' ++ [body]) = msr l' + (szL body + 1) := by rw [msr_app]; rfl
  refine q_pop (e4 _ _ htd3) (ev_var rfl) fun H5 e5 => ?_
  have e45 := e4.trans e5
  have htd5 := e45 _ _ htd3
  have w5 : Ew H5 (upd H5 td (.lst ts')) := Ew.lst htd5
  have ntd0 : H td = none := fresh_back e1 ntd
  have ex6 : Ex H (upd H5 td (.lst ts')) := Ex.mut (e3.trans e45) ntd0
  have htd6 : (upd H5 td (.lst ts')) td = some (.lst ts') := upd_same
  have ne_ft : fd ≠ td := fun z => by rw [z, htd3] at hfd; cases hfd
  have ne_bt : ba ≠ td := fun z => by rw [z, htd3] at hba; cases hba
  have hfd6 : (upd H5 td (.lst ts')) fd = some (.dK es) := by rw [upd_ne ne_ft]; exact e45 _ _ hfd
  have hba6 : (upd H5 td (.lst ts')) ba = some (.tup bvs) := by rw [upd_ne ne_bt]; exact e45 _ _ hba
  have rl6 := (rl'.mono e45).ew w5
  have rbs6 := (rbs.mono e45).ew w5
  generalize upd H5 td (.lst ts') = H6 at *
  refine s_forG (wkg_tup (ev_var rfl) hba6) (fun i σ' H' => ∃ (acc : List (List D)) (ts2 : List V) (es2 : List (Key × V)) (x4 x5 x6 x7 : Option V), σ' = [some (.ref a), some (.ref fd), some (.ref td), some (.ref ba), x4, x5, x6, x7] ∧ Ex H H' ∧ H' ba = some (.tup bvs) ∧ Rps K H' body bvs ∧ H' fd = some (.dK es2) ∧ H' td = some (.lst ts2) ∧
      Rps K H' ((l' ++ acc).map D.tup) ts2 ∧ (∀ b ∈ l' ++ acc, OkB rt b) ∧ msr (l' ++ acc) + szL (body.drop i) + 1 ≤ msr (l' ++ [body]) ∧ es2.length + msr (l' ++ acc) + szL (body.drop i) ≤ 5000000)
    (fun H7 e7 _ => ⟨[], ts', es, _, _, _, _, rfl, ex6.trans e7, e7 _ _ hba6, rbs6.mono e7, e7 _ _ hfd6, e7 _ _ htd6, by rw [List.append_nil]; exact rl6.mono e7, by rw [List.append_nil]; exact fun b hb => okl b (List.mem_append_left _ hb), by rw [List.append_nil, List.drop_zero, hml]; omega, by rw [List.append_nil, List.drop_zero]; omega⟩)
    (fun i σ' H' _ ⟨_, _, _, _, _, _, _, _, _, g, _⟩ => st_of g) ?_ ?_
  · rintro i x σ' H7 H8 hi ⟨acc, ts2, es2, x4, x5, x6, x7, rfl, e7, hba7, rb7, hfd7, htd7, rl7, ok7, hm7, hb7⟩ e8 hx
    obtain ⟨d, hd, rd⟩ := (rb7.mono e8).at_ hx
    obtain ⟨n, hvs⟩ := okb.2 d (List.mem_of_getElem? hd)
    obtain ⟨n, rfl⟩ : ∃ n', n = n' + 1 := by
      cases n with
      | zero => exact hvs.elim
      | succ n => exact ⟨n, rfl⟩
    obtain ⟨word, parts, rfl, ⟨async, il, hok⟩, hin⟩ := hvs
    obtain ⟨sa, svs, rfl, hsa, rss⟩ := rd.ofTup
    obtain ⟨v0, g0, r0⟩ := rss.get (i := 0) (d := .str word) rfl
    cases r0
    have hgood := good_of hok
    have hdl : i < body.length := (List.getElem?_eq_some_iff.mp hd).1
    have hdrop : body.drop i = (.tup (.str word :: parts)) :: body.drop (i + 1) := by
      rw [List.drop_eq_getElem_cons hdl]
      rw [(List.getElem?_eq_some_iff.mp hd).2]
    have hszd : szL (body.drop i) = szD (.tup (.str word :: parts)) + szL (body.drop (i + 1)) := by rw [hdrop]; rfl
    have hsz1 : szD (.tup (.str word :: parts)) = ((word.length + 1) + szL parts) + 1 := rfl
    have hsmd : szD (.tup (.str word :: parts)) ≤ szL body := szL_mem hd
    have smd : Sm (.tup (.str word :: parts)) := by show szD _ ≤ 39000; omega
    have hinn := innerB_szQ word parts
    have hmi : msr (l' ++ acc ++ inns word parts) = msr (l' ++ acc) + szQs (innerB word parts) := by rw [msr_app, inns_msr]
    have hnl : (inns word parts).length ≤ szQs (innerB word parts) := by rw [← inns_msr]; exact msr_len _
    have hl2 : (l' ++ acc).length = ts2.length := by have := rl7.len; simpa using this.symm
    have hl3 := msr_len (l' ++ acc)
    have cont : ∀ H9 es', Ew H8 H9 → Ex H H9 → H9 ba = some (.tup bvs) → H9 sa = some (.tup svs) → H9 fd = some (.dK es') → es'.length ≤ es2.length + 1 → H9 td = some (.lst ts2) →
        tDrop (tBM K "list" rExtend (tVar 2) (tCons (tLc (iList K (tCall (spInner K) [] E0 (tCons (tVar 4) tNil))) (gTup K 2 (gCons (gName 6) (gCons (gName 7) gNil))) tYes (tVar 7) [6, 7]) tNil))
        { nx := fun σ' H' => ∃ (acc : List (List D)) (ts2 : List V) (es2 : List (Key × V)) (x4 x5 x6 x7 : Option V), σ' = [some (.ref a), some (.ref fd), some (.ref td), some (.ref ba), x4, x5, x6, x7] ∧ Ex H H' ∧ H' ba = some (.tup bvs) ∧ Rps K H' body bvs ∧ H' fd = some (.dK es2) ∧ H' td = some (.lst ts2) ∧
            Rps K H' ((l' ++ acc).map D.tup) ts2 ∧ (∀ b ∈ l' ++ acc, OkB rt b) ∧ msr (l' ++ acc) + szL (body.drop (i + 1)) + 1 ≤ msr (l' ++ [body]) ∧ es2.length + msr (l' ++ acc) + szL (body.drop (i + 1)) ≤ 5000000, rt := Q, bk := fun _ _ => False, ct := fun _ _ => False }
        [some (.ref a), some (.ref fd), some (.ref td), some (.ref ba), some (.ref sa), x5, x6, x7] H9 := by
      intro H9 es' w9 e9 hba9 hsa9 hfd9 hes' htd9
      have rb9 := (rb7.mono e8).ew w9
      have rl9 := (rl7.mono e8).ew w9
      have rst9 : Rp K H9 (.tup (.str word :: parts)) (.ref sa) := .tup hsa9 (rss.ew w9)
      have LC : EvLP (tLc (iList K (tCall (spInner K) [] E0 (tCons (tVar 4) tNil))) (gTup K 2 (gCons (gName 6) (gCons (gName 7) gNil))) tYes (tVar 7) [6, 7]) [some (.ref a), some (.ref fd), some (.ref td), some (.ref ba), some (.ref sa), x5, x6, x7] H9
          (fun H2 ys => Rps K H2 ((inns word parts).map D.tup) ys) := fun H0 e0 Q q =>
        el_lc (n := (innerB word parts).length) (P := fun i H1 x => ∃ d, (innerB word parts)[i]? = some d ∧ Rp K H1 d x) (fun _ => true) (fun i H1 y => ∃ p, (innerB word parts)[i]? = some p ∧ Rp K H1 (.tup (stOf p)) y)
          (wk_new (inner_ev (ev_var rfl) rst9 smd hgood.fits) fun H1 xs e rx => ⟨rx.len, fun i x H2 e2 hx => let ⟨d, h1, h2⟩ := rx.at_ hx; ⟨d, h1, h2.mono e2⟩⟩)
          (by have := hnl; unfold inns at this; rw [List.length_map] at this; omega) (fun i H1 H2 y e ⟨p, h1, h2⟩ => ⟨p, h1, h2.ew e⟩)
          (fun i x H1 hi e ⟨p, hp, rp⟩ Z hZ => by
            obtain ⟨way, steps, rfl, _⟩ := hgood.pairs p (List.mem_of_getElem? hp)
            obtain ⟨t, tvs, rfl, ht, rts⟩ := rp.ofTup
            obtain ⟨v1, v2, rfl, q1, q2⟩ := rts.two
            exact ⟨t, [v1, v2], rfl, st_of ht, rfl, v1, [v2], rfl, v2, [], rfl, rfl, hZ _ H1 (Ex.refl _) rfl (fun H3 e3 Q q => q H3 (Ex.refl _)) fun _ => evp (ev_var rfl) fun H3 e3 => ⟨_, hp, q2.mono e3⟩⟩) H0 e0 Q fun p ys H2 np e2 hp pl => by
            refine q p ys H2 np e2 hp ?_
            rw [kept_all] at pl
            unfold inns
            rw [List.map_map]
            refine Rps.map_at (fun j b hb => ?_) ?_
            · obtain ⟨y, h1, p', h2, h3⟩ := Paired.at_ (i := j) (a := j) pl (by have := (List.getElem?_eq_some_iff.mp hb).1; simp [this])
              rw [hb] at h2
              cases h2
              exact ⟨y, h1, h3⟩
            · have := pl.length
              simpa using this.symm
      refine s_extLP htd9 (ev_var rfl) LC (fun H1 ys h => ?_) fun H10 ys H11 e10 ry w11 _ hH11 => ?_
      · have h1 := h.len
        rw [List.length_map] at h1
        rw [h1]
        omega
      · have htd11 : H11 td = some (.lst (ts2 ++ ys)) := by rw [hH11]; exact upd_same
        have hfd11 : H11 fd = some (.dK es') := by rw [hH11, upd_ne ne_ft]; exact e10 _ _ hfd9
        have hba11 : H11 ba = some (.tup bvs) := by rw [hH11, upd_ne ne_bt]; exact e10 _ _ hba9
        have ex11 : Ex H H11 := by rw [hH11]; exact Ex.mut (e9.trans e10) ntd0
        refine ⟨acc ++ inns word parts, ts2 ++ ys, es', _, _, _, _, rfl, ex11, hba11, (rb9.mono e10).ew w11, hfd11, htd11, ?_, ?_, ?_, ?_⟩
        · rw [← List.append_assoc, List.map_append]
          exact ((rl9.mono e10).ew w11).app (ry.ew w11)
        · intro b hb
          rw [← List.append_assoc] at hb
          rcases List.mem_append.mp hb with h | h
          · exact ok7 b h
          · obtain ⟨p, hp, rfl⟩ := List.mem_map.mp h
            have h2 : szQ p ≤ szQs (innerB word parts) := le_sum_mem (List.mem_map_of_mem hp)
            have h5 : szQ p = szL (stOf p) + 1 := rfl
            refine ⟨?_, fun s' hs' => ⟨n, hin p hp s' hs'⟩⟩
            show szL (stOf p) + 1 ≤ 39000
            omega
        · rw [← List.append_assoc, hmi]
          omega
        · rw [← List.append_assoc, hmi]
          omega
    have i0 : ∀ {H1 : Hp}, H1 sa = some (.tup svs) → Ev (tOp (rIxT K) (tVar 4) (tC (.int 0))) [some (.ref a), some (.ref fd), some (.ref td), some (.ref ba), some (.ref sa), x5, x6, x7] H1 (.str word) := fun h => ev_op (ev_var rfl) ev_c (rv_ixT (st_of h) (atI_nat (j := 0) g0))
    have hba8 := e8 _ _ hba7
    have hfd8 := e8 _ _ hfd7
    have htd8 := e8 _ _ htd7
    cases hca : callAt word with
    | none =>
      refine q_when (b := false) (et_test (ev_op (i0 hsa) ev_c (rv_inKd (noC word hca)))) (fun h => nomatch h) (fun _ H9 e9 => ?_)
      exact cont H9 es2 (Ew.of e9) ((e7.trans e8).trans e9) (e9 _ _ hba8) (e9 _ _ hsa) (e9 _ _ hfd8) (by omega) (e9 _ _ htd8)
    | some kk =>
      obtain ⟨u', hn, ru⟩ := yesC word kk hca
      obtain ⟨j, op, args, rfl, hpj⟩ := step_call hok hca
      obtain ⟨cv, gc, rc⟩ := rss.get (i := j + 1) (d := .tup (.str op :: args)) (by simpa using hpj)
      obtain ⟨ca, cvs, rfl, hcc, rcs⟩ := rc.ofTup
      obtain ⟨o0, go, ro⟩ := rcs.get (i := 0) (d := .str op) rfl
      cases ro
      refine q_when (b := true) (et_test (ev_op (i0 hsa) ev_c (rv_inKd hn))) (fun _ H9 e9 => ?_) (fun h => nomatch h)
      have hsa9 := e9 _ _ hsa
      refine s_dputS (es := es2) ev_c (ev_var rfl) (ev_op (ev_op (ev_var rfl) (ev_op ev_c (i0 hsa9) (rv_ixKd kC hn ru)) (rv_ixT (st_of hsa9) (atI_nat (j := j + 1) gc))) ev_c (rv_ixT (st_of (e9 _ _ hcc)) (atI_nat (j := 0) go))) (e9 _ _ hfd8) (by omega) fun H10 e10 => ?_
      have e810 := e9.trans e10
      have hfd10 := e810 _ _ hfd8
      have ne_bf : ba ≠ fd := fun z => by rw [z, hfd8] at hba8; cases hba8
      have ne_sf : sa ≠ fd := fun z => by rw [z, hfd8] at hsa; cases hsa
      refine cont _ _ ((Ew.of e810).trans (Ew.dK hfd10)) (Ex.mut ((e7.trans e8).trans e810) nfd) (by rw [upd_ne ne_bf]; exact e810 _ _ hba8) (by rw [upd_ne ne_sf]; exact e810 _ _ hsa) upd_same putK_len (by rw [upd_ne (Ne.symm ne_ft)]; exact e810 _ _ htd8)
  · rintro σ' H7 ⟨acc, ts2, es2, x4, x5, x6, x7, rfl, e7, hba7, rb7, hfd7, htd7, rl7, ok7, hm7, hb7⟩
    exact ⟨msr (l' ++ acc), by omega, l' ++ acc, ts2, es2, _, _, _, _, _, rfl, e7, hfd7, htd7, rl7, ok7, rfl, by omega⟩
end
end K2
/-! Dict comprehensions over walks; dicts of the same objects compared; an object made within a try. -/
namespace K2
open PySem L2 Evl PySem.Spec PyProof.Rows RZ StX
theorem putK_all : ∀ (es acc : List (Key × V)), ((acc ++ es).map (·.1)).Nodup → es.foldl (fun m p => putK m p.1 p.2) acc = acc ++ es
  | [], acc, _ => by simp
  | p :: es, acc, h => by
    have hn : valV acc p.1 = none := by
      unfold valV
      rw [Option.map_eq_none_iff, List.find?_eq_none]
      intro q hq z
      have z' : q.1 = p.1 := of_decide_eq_true z
      rw [List.map_append, List.nodup_append] at h
      exact h.2.2 q.1 (List.mem_map_of_mem hq) p.1 (by simp) z'
    rw [List.foldl_cons, putK_new p.2 hn, putK_all es (acc ++ [(p.1, p.2)]) (by rw [List.append_assoc]; exact h), List.append_assoc]
    rfl
section
variable {K : PySem.W.Frag} {H : Hp} {σ : L2.St} {wi : TI} {tk tv tl : TE}
/-- {x: tv for x in ..}: the walk gives the keys of es, tv their values -/
theorem ed_dcW {j : Nat} {vs : List Nat} {es : List (Key × V)} (W : Wk wi σ H es.length (fun i _ x => ∃ k v, es[i]? = some (k, v) ∧ x = kV k)) (nd : (es.map (·.1)).Nodup) (hl : es.length ≤ 39000) (hw : ∀ x, wipe ((wipe σ vs).set j (some x)) vs = wipe σ vs) (hj : ∀ x, ((wipe σ vs).set j (some x))[j]? = some (some x))
    (hv : ∀ k v H1, (k, v) ∈ es → Ex H H1 → Ev tv ((wipe σ vs).set j (some (kV k))) H1 v) :
    ∀ H1, Ex H H1 → ∀ Q : VK, (∀ p H2, H1 p = none → Ex H1 H2 → H2 p = some (.dK es) → Q (.ref p) H2) → tDc wi (gName j) tYes (tVar j) tv vs σ H1 Q := fun H1 e Q q =>
  W H1 e _ fun J G Y H2 e2 w hG hY Dn hD => by
    refine ⟨fun i m H' => m = es.length - i ∧ i ≤ es.length ∧ Ex H2 H' ∧ H' Dn = some (.dK ((es.take i).foldl (fun m p => putK m p.1 p.2) [])), ⟨es.length, by simp, Nat.zero_le _, Ex.new hD, upd_same⟩, ?_⟩
    rintro i m H3 ⟨rfl, hi, e3, h3⟩
    have q3 := hG H3 e3
    by_cases hlt : i < es.length
    · refine .inr ⟨w.goes i H3 hlt q3, fun H' => Ex H2 H' ∧ H' Dn = some (.dK ((es.take (i + 1)).foldl (fun m p => putK m p.1 p.2) [])), fun H' p' => ⟨es.length - (i + 1), by omega, rfl, hlt, p'⟩, fun x H' y => ?_⟩
      obtain ⟨e4, k, v, hk, hx⟩ := hY i H3 x H' hlt e3 (w.yields i H3 x H' hlt q3 y)
      subst hx
      refine ⟨hw _, iteT (B := Ex H2 H' ∧ H' Dn = some (.dK ((es.take (i + 1)).foldl (fun m p => putK m p.1 p.2) []))) ?_⟩
      refine ⟨kV k, hj _, hv k v H' (List.mem_of_getElem? hk) ((e.trans e2).trans (e3.trans e4)) H' (Ex.refl _) _ fun H5 e5 => ⟨_, k, rfl, e5 _ _ (e4 _ _ h3), sz_lt ?_, Ex.mut ((e3.trans e4).trans e5) hD, ?_⟩⟩
      · have hnd : ((([] : List (Key × V)) ++ es.take i).map (·.1)).Nodup := by
          rw [List.nil_append]
          exact nd.sublist ((List.take_sublist i es).map _)
        rw [putK_all _ _ hnd, List.nil_append, List.length_take]
        omega
      · rw [upd_same, List.take_succ, hk]
        simp [List.foldl_append]
    · have e' : i = es.length := by omega
      subst e'
      have hnd : ((([] : List (Key × V)) ++ es).map (·.1)).Nodup := by rw [List.nil_append]; exact nd
      rw [List.take_length, putK_all _ _ hnd, List.nil_append] at h3
      exact .inl ⟨w.stops H3 q3, q Dn H3 (fresh_back e2 hD) (e2.trans e3) h3⟩
theorem hits_same {A : Around} {s : Shared} {kvs : List (Key × V)} {vb : List (Key × Value)} (rb : KV kvs vb) {ks : List (Key × V)} {va : List (Key × Value)} (ra : KV ks va) :
    (∀ p ∈ ks, valV kvs p.1 = some p.2 ∧ (flatB p.2 = true ∨ ∃ c, p.2 = .ref c)) → PySem.W.KeqHits A s vb va true := by
  unfold KV at ra
  induction ra with
  | nil => intro _; exact .nil
  | @cons p q ps qs h t ih =>
    intro hp
    obtain ⟨h1, h2⟩ := h
    obtain ⟨e, f⟩ := hp p List.mem_cons_self
    have rr : RelO (some p.2) (valueAt vb p.1) := by rw [← e]; exact rb.val p.1
    obtain ⟨y, hy, ry⟩ := rr.some_of
    obtain ⟨k, v⟩ := q
    have h1' : p.1 = k := h1
    rw [h1'] at hy
    show PySem.W.KeqHits A s vb ((k, v) :: qs) (true && true)
    refine .hit hy ?_ (ih fun p' hm => hp p' (List.mem_cons_of_mem _ hm))
    rcases f with f | ⟨c, hc⟩
    · exact eqAt_same h2 ry f
    · obtain ⟨pk, pv⟩ := p
      have hc' : pv = .ref c := hc
      subst hc'
      have h2' : v = Value.ref c := h2
      have ry' : y = Value.ref c := ry
      rw [h2', ry']
      exact SeqAt.EqAt.same _
/-- a != b, dicts of the same objects -/
def rNeDS : R2 := fun x y H Q => ∃ a b ks ls, x = .ref a ∧ y = .ref b ∧ H a = some (.dK ks) ∧ H b = some (.dK ls) ∧ ks.length = ls.length ∧ (∀ p ∈ ks, valV ls p.1 = some p.2 ∧ (flatB p.2 = true ∨ ∃ c, p.2 = .ref c)) ∧ Q (.bl false) H
theorem op_neDS {X : Cx} (hu : X.A.units < cLine) : OpR X (compareOp .NotEq) rNeDS := by
  intro pins s σ H x y v u Q I rx ry h
  obtain ⟨a, b, ks, ls, rfl, rfl, ea, eb, hlen, hp, q⟩ := h
  obtain rfl : v = Value.ref a := rx
  obtain rfl : u = Value.ref b := ry
  obtain ⟨_, ya, va, ra, da⟩ := (show ObjOk X.prog X.w H s.heap a (.dK ks) from I.hok a _ ea)
  obtain ⟨_, yb, vb, rb, db⟩ := (show ObjOk X.prog X.w H s.heap b (.dK ls) from I.hok b _ eb)
  have hl : va.length = vb.length := by rw [← ra.length, ← rb.length]; exact hlen
  exact PySem.W.keq_ne (knd := mixKind X.prog X.w) (r := true) ya yb da db hu (fun _ => hits_same rb ra hp) (fin_bl I q (by simp [hl]))
end
/-- C(e, .., k = v, ..) within a try: what its __init__ raises is wished for at the slots as they stand -/
def tMakeKS (C : Addr) (n m : Nat) (sp : Sp) (gV : List V → List V → List V) (E : L2.St → XK) (t tk : TA) : TE := fun σ H Q => t σ H fun vs H1 => tk σ H1 fun zs H2 => vs.length = n ∧ zs.length = m ∧ ∀ x dx, H2 x = none → H2 dx = none → dx ≠ x →
  sp (gV (.ref x :: vs) zs) (upd (upd H2 dx (.own x)) x (.ins C dx [])) (fun v H3 => v = .non ∧ Q (.ref x) H3) (E σ)
section
variable {X : Cx} {CX : CXT} {k n : Nat} {f C : Addr} {fd : FuncData} {ps ks : List Str} {sp : Sp} {E : L2.St → XK} {x : Str} {p pos : Pos} {e : Expr} {es : List Expr} {kws : List Keyword} {t tk : TA} {g : List Value → List Value → List Value} {gV : List V → List V → List V}
theorem run_makeKS {pins : List (Addr × Obj)} {σ : L2.St} {H : Hp} {s : Shared} {Q : VK} {us ws : List Value} {vs zs : List V} (M : Mk X.K C f) (F : FnOk X.prog X.w X.K X.mg X.base CX k f fd ps sp) (hr : Room (k + 1) X.A) (hb : KBn X.K fd ps (n + 1) ks g gV) (hx : PassesAt CX X σ (E σ))
    (I : Inv X pins σ H s) (r : Vals vs us) (rz : Vals zs ws) (l1 : vs.length = n) (l2 : zs.length = ks.length)
    (h : ∀ x dx, H x = none → H dx = none → dx ≠ x → sp (gV (.ref x :: vs) zs) (upd (upd H dx (.own x)) x (.ins C dx [])) (fun v H2 => v = .non ∧ Q (.ref x) H2) (E σ)) :
    wpAny (model X.prog X.w) X.A (call (.ref C) us (ks.zip ws)) (EP X pins σ Q) X.xe s := by
  have hq := h (s.heap.objs.size + 1) s.heap.objs.size (I.hok.fresh (Nat.le_succ _)) (I.hok.fresh (Nat.le_refl _)) (Nat.ne_of_lt (Nat.lt_succ_self _))
  have I2 := Inv.made (C := C) I
  have r1 : Vals (V.ref (s.heap.objs.size + 1) :: vs) (Value.ref (s.heap.objs.size + 1) :: us) := .cons rfl r
  have r2 := hb.rel r1 rz
  have n1 : (Value.ref (s.heap.objs.size + 1) :: us).length = n + 1 := by
    rw [List.length_cons, ← r.length, l1]
  refine wpAny_call (make_map (f := f) I.kIn M.makes M.init (beq_iff_eq.mp M.fn) (codeAny_mono (F.run _ X.stack _ _ ⟨Value.ref (s.heap.objs.size + 1) :: us, ks.zip ws⟩ (g (Value.ref (s.heap.objs.size + 1) :: us) ws) _ _ (E σ) (hr.make C us (ks.zip ws))
    (I2.env0.make C us (ks.zip ws)) (hb.to _ (Value.ref (s.heap.objs.size + 1) :: us) ws I2.kIn n1 (rz.length.symm.trans l2)) r2 hq) fun r s' hq' => ?_))
  cases r with
  | error e => exact hx pins _ _ e s' I2 hq'
  | ok fl =>
    cases fl with
    | ret u =>
      obtain ⟨v, H', I3, rv, ev, q3⟩ := I2.after hq'
      subst ev
      exact ⟨rv, ⟨V.ref (s.heap.objs.size + 1), H', I3, rfl, q3⟩⟩
    | next => exact False.elim hq'
    | brk => exact False.elim hq'
    | cont => exact False.elim hq'
theorem pe_makeKS (M : Mk X.K C f) (F : FnOk X.prog X.w X.K X.mg X.base CX k f fd ps sp) (hr : Room (k + 1) X.A) (hg : Gl X x) (hm : X.mg x = some (.ref C)) (hb : KBn X.K fd ps (n + 1) ks g gV) (hx : ∀ σ, PassesAt CX X σ (E σ)) (ha : PA X (e :: es) t) (hkw : PK X kws tk)
    (hall : (backToKw pos (keywordEach kws X.env)).all (·.1.isSome) = true := by rfl) (hks : (backToKw pos (keywordEach kws X.env)).filterMap (·.1) = ks := by rfl) (hdb : (x == ("__debug__" : Str)) = false := by decide)
    (he : starEach (e :: es) X.env = (false, eval e X.env) :: starEach es X.env := by rfl) (hpl : ((backTo pos (starEach (e :: es) X.env)).any (·.1) || (backToKw pos (keywordEach kws X.env)).any (·.1.isNone)) = false := by rfl) :
    PE X (.Call (.Name x p) (e :: es) kws pos) (tMakeKS C n ks.length sp gV E t tk) := by
  refine ⟨fun pins s σ H Q I h => ?_⟩
  refine wpAny_Call_Name_kw (ld_glob I hg hm ?_ hdb)
  refine PySem.W.callWith_KW (h₀ := X.base) I.ok.mod.kin M.kp hall (thn (ha.run pos pins s σ H _ I h) fun us s1 ⟨vs, H1, I1, r, q⟩ => ?_) hpl he
  refine thn (hkw.run pos pins s1 σ H1 _ I1 q) fun ws s2 ⟨zs, H2, I2, rz, l1, l2, q2⟩ => ⟨I2.kIn, ?_⟩
  rw [hks]
  exact run_makeKS M F hr hb (hx σ) I2 r rz l1 l2 q2
end
end K2
/-! The class Program. -/
namespace K2
open PySem L2 Evl PySem.Spec PyProof.Rows RZ StX
def restR (rt : Rt) (dd : D) (ys : List Str) : Option (List D) := match firstR rt ys with | some p => some p | none => outsideR dd
/-- what the top says of the class -/
structure PrC (K : PySem.W.Frag) (mg : Str → Option Value) (Cp : Addr) : Prop where
  m_Program : mg "Program" = some (.ref Cp)
  cl : Cls K Cp
  n1 : NoAttr K Cp "_routines"
  n2 : NoAttr K Cp "_arrivals"
  n3 : NoAttr K Cp "ops"
  ini : ∃ f fd kw, Mk K Cp f ∧ FD K "__init__" "Program.__init__" (inClass (top 40) 0) [] [kw] f fd ∧ kw.1 = "outside"
  rou : ∃ p g fd, PropOf K Cp "routines" p g ∧ FD K "routines" "Program.routines" (inClass (top 40) 1) [] [] g fd
  out : ∃ p g fd, PropOf K Cp "outside" p g ∧ FD K "outside" "Program.outside" (inClass (top 40) 2) [] [] g fd
/-- a Program stands at a -/
structure PrAt (Cp : Addr) (H : Hp) (a rD : Addr) (o : V) (es : List (Key × V)) : Prop where
  ob : ∃ dx fs, H a = some (.ins Cp dx fs) ∧ fs.lookup ("_routines" : Str) = some (.ref rD) ∧ fs.lookup ("_arrivals" : Str) = some o
  dc : H rD = some (.dK es)
  nd : (es.map (·.1)).Nodup
  len : es.length ≤ 64
theorem PrAt.mono {Cp : Addr} {H H' : Hp} {a rD : Addr} {o : V} {es : List (Key × V)} (e : Ex H H') (h : PrAt Cp H a rD o es) : PrAt Cp H' a rD o es := by
  obtain ⟨dx, fs, h1, h2⟩ := h.ob
  exact ⟨⟨dx, fs, e _ _ h1, h2⟩, e _ _ h.dc, h.nd, h.len⟩
def spPr (K : PySem.W.Frag) (Cp Cb : Addr) : Sp := fun vs H Q E => ∃ a dx z dd o, vs = [.ref a, z, o] ∧ H a = some (.ins Cp dx []) ∧ Rp K H dd o ∧ Sm dd ∧
  ((∃ d, Rp K H d z ∧ isDct d = false ∧ Bad K Cb [] H E) ∨
   ∃ rt ra kvs r, z = .ref ra ∧ H ra = some (.dK kvs) ∧ KRt K H rt kvs ∧ RtG rt ∧ (rt.map (·.1)).Nodup ∧ (wordsOk rt = false → r = some []) ∧ (wordsOk rt = true → ∀ ys : List Str, ys.Perm (rt.map (·.1)) → sortedS ys = true → restR rt dd ys = r) ∧
    (∀ pl, r = some pl → Bad K Cb pl H E) ∧ (r = none → ∀ H2 rD es, H rD = none → (∀ b u, H b = some u → b ≠ a → H2 b = some u) → PrAt Cp H2 a rD o es → es.length = kvs.length → (∀ p ∈ es, valV kvs p.1 = some p.2) → Q .non H2))
def spRou (Cp : Addr) : Sp := fun vs H Q _ => ∃ a rD o es, vs = [.ref a] ∧ PrAt Cp H a rD o es ∧ ∀ p H2, H p = none → Ex H H2 → H2 p = some (.dK es) → Q (.ref p) H2
def spOut (Cp : Addr) : Sp := fun vs H Q _ => ∃ a rD o es, vs = [.ref a] ∧ PrAt Cp H a rD o es ∧ ∀ H2, Ex H H2 → Q o H2
section
variable {K : PySem.W.Frag} {H : Hp} {σ : L2.St} {ta te tl tk tv : TE} {tz : TS} {Dd : Ends} {g : TG} {tt : TT}
theorem q_callDrop {sp : Sp} {t : TA} {vs dvs : List V} {E : XK} (h : EvA t σ H vs) (k : ∀ H1, Ex H H1 → sp (vs ++ dvs) H1 (fun _ H2 => tz Dd σ H2) E) : tSeq (tDrop (tCall sp dvs E t)) tz Dd σ H := h H (Ex.refl H) _ fun H1 e => k H1 e
theorem q_fld {f : Str} (h : te σ H fun y H1 => ta σ H1 fun x H2 => ∃ a C dx fs, x = .ref a ∧ H2 a = some (.ins C dx fs) ∧ Cls K C ∧ NoAttr K C f ∧ fs.length < 1000 ∧ tz Dd σ (upd H2 a (.ins C dx (putF f y fs)))) : tSeq (sFld K ta te f) tz Dd σ H := h
theorem dcBind {Pl : Hp → List V → Prop} {vs : List Nat} {Q : VK} (h : EvLP tl σ H Pl) (k : ∀ p xs H1, H p = none → Ex H H1 → H1 p = some (.lst xs) → Pl H1 xs → tDc (iList K (tC (.ref p))) g tt tk tv vs σ H1 Q) : tDc (iList K tl) g tt tk tv vs σ H Q :=
  h H (Ex.refl H) _ fun p xs H1 hp e hl pl => k p xs H1 hp e hl pl
theorem ev_fld {a C dx : Addr} {fs : List (Str × V)} {f : Str} {v : V} (ha : Ev ta σ H (.ref a)) (h : H a = some (.ins C dx fs)) (c : Cls K C) (n : NoAttr K C f) (hf : fs.lookup f = some v) : Ev (tFld K ta f) σ H v := fun H1 e Q q =>
  ha H1 e _ fun H2 e2 => ⟨a, C, dx, fs, v, rfl, e2 _ _ (e _ _ h), c, n, hf, q H2 e2⟩
theorem valV_mem {kvs : List (Key × V)} (nd : (kvs.map (·.1)).Nodup) : ∀ {p : Key × V}, p ∈ kvs → valV kvs p.1 = some p.2 := by
  induction kvs with
  | nil => intro p h; cases h
  | cons q kvs ih =>
    intro p h
    rw [List.map_cons, List.nodup_cons] at nd
    by_cases e : q.1 = p.1
    · rcases List.mem_cons.mp h with h | h
      · subst h
        exact valV_pos rfl
      · exact absurd (List.mem_map_of_mem (f := (·.1)) h) (by rw [← e]; exact nd.1)
    · rcases List.mem_cons.mp h with h | h
      · subst h; exact absurd rfl e
      · rw [valV_neg e]
        exact ih nd.2 h
end
theorem lookup_of_mem {x : Str} {d : D} : ∀ {rt : Rt}, (rt.map (·.1)).Nodup → (x, d) ∈ rt → rt.lookup x = some d
  | [], _, h => nomatch h
  | (y, e) :: rt, nd, h => by
    rw [List.map_cons, List.nodup_cons] at nd
    rcases List.mem_cons.mp h with h | h
    · cases h
      simp [List.lookup]
    · have hne : x ≠ y := fun z => nd.1 (List.mem_map.mpr ⟨(x, d), h, z⟩)
      rw [List.lookup_cons, beq_eq_false_iff_ne.mpr hne]
      exact lookup_of_mem nd.2 h
theorem firstR_all {rt : Rt} : ∀ {ys : List Str}, firstR rt ys = none → ∀ x ∈ ys, wrongR rt x = none
  | [], _, x, h => nomatch h
  | y :: ys, h, x, hx => by
    unfold firstR at h
    cases e : wrongR rt y with
    | some p => rw [e] at h; exact nomatch h
    | none =>
      rw [e] at h
      rcases List.mem_cons.mp hx with z | z
      · rw [z]; exact e
      · exact firstR_all h x z
theorem vb_of {rt : Rt} {ys : List Str} (G : RtG rt) (nd : (rt.map (·.1)).Nodup) (hp : ys.Perm (rt.map (·.1))) (h : firstR rt ys = none) : VB rt := by
  rintro ⟨x, d⟩ hm
  have hx := firstR_all h x (hp.symm.subset (List.mem_map_of_mem hm))
  have hl : lookD rt x = d := by unfold lookD; rw [lookup_of_mem nd hm]; rfl
  unfold wrongR at hx
  rw [hl] at hx
  by_cases hr : isRoutine d = true
  · rw [if_pos hr] at hx
    obtain ⟨kd, ps, b, rfl⟩ := rt_form hr
    have smb : Sm (.tup b) := (G.vs _ hm).item (i := 2) rfl
    exact ⟨_, _, b, rfl, smb, fun s hs => ⟨_, vs_of_wrong hx s hs⟩⟩
  · rw [if_neg hr] at hx
    exact nomatch hx
section
variable {P : Program} {w : World} {K : PySem.W.Frag} {mg : Str → Option Value} {base : Heap} {Cp Cb : Addr}
theorem sc40_0 : FnScope ["self", "routines", "outside", "word"] ["self", "routines", "outside"] (defScope (inClass (top 40) 0)) := ⟨rfl, rfl, rfl, by decide +kernel, rfl, by decide +kernel, by decide +kernel⟩
theorem sc40_1 : FnScope ["self", "word"] ["self"] (defScope (inClass (top 40) 1)) := ⟨rfl, rfl, rfl, by decide +kernel, rfl, by decide +kernel, by decide +kernel⟩
theorem sc40_2 : FnScope ["self"] ["self"] (defScope (inClass (top 40) 2)) := ⟨rfl, rfl, rfl, by decide +kernel, rfl, by decide +kernel, by decide +kernel⟩
theorem ok_rou {g : Addr} {fd : FuncData} (R : PrC K mg Cp) (F : FD K "routines" "Program.routines" (inClass (top 40) 1) [] [] g fd) : FnOk P w K mg base CX0 1 g fd ["self"] (spRou Cp) := by
  refine F.ok sc40_1 (fun vs H Q E h => by obtain ⟨a, rD, o, es, rfl, _⟩ := h; rfl) (fun cdv A outer s H vs Q E hr h => ?_)
  obtain ⟨a, rD, o, es, rfl, pa, k⟩ := h
  have hu := hu_of hr
  refine ⟨_, (pss_one (ps_ret (pe_lock (pe_dc (own := [("word", 1)]) (g := gName 1) (tt := tYes) rfl sc40_1.nd (pi_keys (pe_fld (by exact pv 0) (by rfl))) (blkOk_by (N := ["self", "word"]) (sc := defScope (inClass (top 40) 1)) (by decide +kernel)) (fun _ _ _ _ _ => (pg_name (i := 1) sc40_1.nd rfl (Or.inl rfl))) (fun _ _ _ _ _ => pts_nil) (fun _ _ _ _ _ => (pv 1)) (fun _ _ _ _ _ => (pe_dget (td := tFld K (tVar 0) "_routines") hu (pe_fld (pv 0) rfl) (pv 1) (fun _ _ => rfl))))))), ?_⟩
  obtain ⟨dx, fs, h1, h2, h3⟩ := pa.ob
  refine ⟨rD, .dK es, pa.dc, trivial, fun od => ?_⟩
  have ne : a ≠ rD := fun z => by
    have := pa.dc
    rw [← z, h1] at this
    cases this
  have h1' : upd H rD (.frz od (.dK es)) a = some (.ins Cp dx fs) := by rw [upd_ne ne]; exact h1
  have W : Wk (iKeys (tFld K (tVar 0) "_routines")) (start ["self", "word"] [.ref a]) (upd H rD (.frz od (.dK es))) es.length (fun i _ x => ∃ k v, es[i]? = some (k, v) ∧ x = kV k) :=
    wk_keys (ev_fld (ev_var rfl) h1' R.cl R.n1 h2) upd_same
  refine ed_dcW W pa.nd (Nat.le_trans pa.len (by decide)) (fun _ => rfl) (fun _ => rfl) (fun ky v H1 hm e => ?_) _ (Ex.refl _) _ fun p H2 np e2 hp => ?_
  · refine fun H2 e2 Q q => ev_fld (ev_var rfl) (e _ _ h1') R.cl R.n1 h2 H2 e2 _ fun H3 e3 => ev_var rfl H3 (e2.trans e3) _ fun H4 e4 => ?_
    exact ⟨rD, v, rfl, .inl ⟨es, ky, .inr ⟨od, ((e.trans e2).trans (e3.trans e4)) _ _ upd_same⟩, rfl, (valV_mem pa.nd hm).symm⟩, q H4 (e3.trans e4)⟩
  · have hpd : p ≠ rD := fun z => by rw [z, upd_same] at np; cases np
    have np' : H p = none := by rw [upd_ne hpd] at np; exact np
    refine ⟨e2 _ _ upd_same, k p _ np' (fun b u hb => ?_) (by rw [upd_ne hpd]; exact hp)⟩
    by_cases hbd : b = rD
    · subst hbd
      rw [upd_same]
      rw [pa.dc] at hb
      exact hb
    · rw [upd_ne hbd]
      exact e2 _ _ (by rw [upd_ne hbd]; exact hb)
theorem ok_out {g : Addr} {fd : FuncData} (R : PrC K mg Cp) (F : FD K "outside" "Program.outside" (inClass (top 40) 2) [] [] g fd) : FnOk P w K mg base CX0 1 g fd ["self"] (spOut Cp) := by
  refine F.ok sc40_2 (fun vs H Q E h => by obtain ⟨a, rD, o, es, rfl, _⟩ := h; rfl) (fun cdv A outer s H vs Q E hr h => ?_)
  obtain ⟨a, rD, o, es, rfl, pa, k⟩ := h
  refine ⟨_, (pss_one (ps_ret (pe_fld (pv 0) rfl))), ?_⟩
  obtain ⟨dx, fs, h1, h2, h3⟩ := pa.ob
  exact s_ret (ev_fld (ev_var rfl) h1 R.cl R.n2 h3) fun H1 e => k H1 e
theorem ok_pr {f : Addr} {fd : FuncData} {kw : Str × V} (B : Bl mg) (R : PrC K mg Cp) (F : FD K "__init__" "Program.__init__" (inClass (top 40) 0) [] [kw] f fd) (O1 : Okd P w K mg base (L2.CX P w) 8 "check_routines" ["routines"] (spChkR K Cb)) (O2 : Okd P w K mg base (L2.CX P w) 5 "check_outside" ["outside"] (spChkO K Cb)) (O3 : Okd P w K mg base CX0 2 "used_ops" ["routines"] (spUsed K)) :
    FnOk P w K mg base (L2.CX P w) 9 f fd ["self", "routines", "outside"] (spPr K Cp Cb) := by
  refine F.ok sc40_0 (fun vs H Q E h => by obtain ⟨a, dx, z, dd, o, rfl, _⟩ := h; rfl) (fun cdv A outer s H vs Q E hr h => ?_)
  obtain ⟨a, dx, z, dd, o, rfl, ha, ro, smd, h⟩ := h
  obtain ⟨f_check_routines, d_check_routines, m_check_routines, k_check_routines, b_check_routines, G_check_routines⟩ := O1.ex
  obtain ⟨f_check_outside, d_check_outside, m_check_outside, k_check_outside, b_check_outside, G_check_outside⟩ := O2.ex
  obtain ⟨f_used_ops, d_used_ops, m_used_ops, k_used_ops, b_used_ops, G_used_ops⟩ := O3.ex
  have hu := hu_of hr
  refine ⟨_, (pss_cons (ps_expr (pe_call G_check_routines (hr.mono (by first | decide | omega)) (by rfl) m_check_routines k_check_routines b_check_routines .nil (passes_call (takes_of rfl rfl rfl rfl) fun _ _ _ _ h => h) (pa_cons (pv 1) pa_nil)))
      (pss_cons (ps_expr (pe_call G_check_outside (hr.mono (by first | decide | omega)) (by rfl) m_check_outside k_check_outside b_check_outside .nil (passes_call (takes_of rfl rfl rfl rfl) fun _ _ _ _ h => h) (pa_cons (pv 2) pa_nil)))
      (pss_cons (ps_fld (pv 0) (pe_dc (own := [("word", 3)]) (g := gName 3) (tt := tYes) rfl sc40_0.nd (pi_list (pe_callB (call_sortD rfl) (by rfl) B.sorted boot_sorted (pa_cons (pv 1) pa_nil))) (blkOk_by (N := ["self", "routines", "outside", "word"]) (sc := defScope (inClass (top 40) 0)) (by decide +kernel)) (fun _ _ _ _ _ => (pg_name (i := 3) sc40_0.nd rfl (Or.inl rfl))) (fun _ _ _ _ _ => pts_nil) (fun _ _ _ _ _ => (pv 3)) (fun _ _ _ _ _ => (pe_dget hu (pv 1) (pv 3) (fun _ _ => rfl)))) rfl)
      (pss_cons (ps_fld (pv 0) (pv 2) rfl)
      (pss_one (ps_fld (pv 0) (pe_call G_used_ops (hr.mono (by first | decide | omega)) (by rfl) m_used_ops k_used_ops b_used_ops .nil pass0 (pa_cons (pv 1) pa_nil)) rfl)))))), ?_⟩
  refine q_callDrop (ea_cons (ev_var rfl) ea_nil) fun H1 e1 => ?_
  rcases h with ⟨d, r, hd, bad⟩ | ⟨rt, ra, kvs, r, rfl, hra, kr, G, nd, hw0, hw1, bads, k⟩
  · exact ⟨z, rfl, .inl ⟨d, r.mono e1, hd, bad.mono e1⟩⟩
  · refine ⟨_, rfl, .inr ⟨rt, ra, rfl, ⟨kvs, e1 _ _ hra, kr.mono (Ew.of e1)⟩, G, fun hf => (bads _ (hw0 hf)).mono e1, fun ht ys hperm hs => ⟨fun hn H2 e2 => ?_, fun pl hpl => (bads pl ?_).mono e1⟩⟩⟩
    · have hr' : r = outsideR dd := by
        rw [← hw1 ht ys hperm hs]
        unfold restR
        rw [hn]
      refine q_callDrop (ea_cons (ev_var rfl) ea_nil) fun H3 e3 => ⟨dd, o, rfl, ro.mono ((e1.trans e2).trans e3), smd, fun hn2 H4 e4 => ?_, fun pl hpl => (bads pl (hr'.trans hpl)).mono ((e1.trans e2).trans e3)⟩
      have e04 : Ex H H4 := ((e1.trans e2).trans e3).trans e4
      have kr4 := kr.mono (Ew.of e04)
      refine q_fld (dcBind (el_sortD (ev_var rfl) (.inl (e04 _ _ hra)) kr.keys (by rw [List.length_map]; exact G.len)) fun p xs H5 np5 e5 hp5 ⟨ys2, hperm2, hs2, hx⟩ => ?_)
      subst hx
      have e05 := e04.trans e5
      obtain ⟨es, hes⟩ : ∃ es : List (Key × V), es = ys2.map fun y => ((Sum.inr y : Key), (valV kvs (Sum.inr y : Key)).getD .non) := ⟨_, rfl⟩
      have el : (ys2.map V.str).length = es.length := by rw [hes]; simp
      have eln : es.length = kvs.length := by
        rw [← el, List.length_map, kr.len, hperm2.length_eq, List.length_map]
      have hmem : ∀ y ∈ ys2, ∃ v, valV kvs (Sum.inr y : Key) = some v := fun y hy => by
        obtain ⟨d, hl, _⟩ := lookup_some (hperm2.subset hy)
        rcases kr.val y with ⟨q, _⟩ | ⟨_, v, _, q, _⟩
        · rw [hl] at q; cases q
        · exact ⟨v, q⟩
      have hval : ∀ p ∈ es, valV kvs p.1 = some p.2 := fun q hq => by
        rw [hes] at hq
        obtain ⟨y, hy, rfl⟩ := List.mem_map.mp hq
        obtain ⟨v, hv⟩ := hmem y hy
        show valV kvs (Sum.inr y) = some ((valV kvs (Sum.inr y)).getD .non)
        rw [hv]
        rfl
      have hnd : (es.map (·.1)).Nodup := by
        have e1 : es.map (·.1) = ys2.map (Sum.inr : Str → Key) := by rw [hes, List.map_map]; rfl
        rw [e1]
        have := hperm2.nodup_iff.mpr nd
        exact List.Pairwise.map _ (fun a b hab z => hab (Sum.inr.inj z)) this
      have hlen : es.length ≤ 64 := by rw [eln, kr.len]; exact Nat.le_of_lt G.len
      have W : Wk (iList K (tC (.ref p))) (start ["self", "routines", "outside", "word"] [.ref a, .ref ra, o]) H5 es.length (fun i _ x => ∃ k v, es[i]? = some (k, v) ∧ x = kV k) := by
        have w0 := wk_lst (K := K) (σ := start ["self", "routines", "outside", "word"] [.ref a, .ref ra, o]) (tl := tC (.ref p)) ev_c hp5
        rw [el] at w0
        refine fun H1 e R kk => w0 H1 e R fun J G Y H2 e2 w hG hY => kk J G Y H2 e2 w hG fun i H3 x H4 hi e3 yy => ?_
        obtain ⟨q1, q2⟩ := hY i H3 x H4 hi e3 yy
        refine ⟨q1, ?_⟩
        rw [List.getElem?_map] at q2
        cases hy : ys2[i]? with
        | none => rw [hy] at q2; cases q2
        | some y =>
          rw [hy] at q2
          cases q2
          exact ⟨Sum.inr y, _, by rw [hes, List.getElem?_map, hy]; rfl, rfl⟩
      refine ed_dcW W hnd (Nat.le_trans hlen (by decide)) (fun _ => rfl) (fun _ => rfl) (fun ky v H6 hm e6 => ?_) _ (Ex.refl _) _ fun rD H6 np6 e6 h6 => ?_
      · refine fun H7 e7 Q q => ev_var rfl H7 e7 _ fun H8 e8 => ev_var rfl H8 (e7.trans e8) _ fun H9 e9 => ?_
        exact ⟨ra, v, rfl, .inl ⟨kvs, ky, .inl (((e05.trans e6).trans (e7.trans (e8.trans e9))) _ _ hra), rfl, (hval (ky, v) hm).symm⟩, q H9 (e8.trans e9)⟩
      · have e06 := e05.trans e6
        have hne : rD ≠ a := fun z => by
          have := fresh_back e05 np6
          rw [z, ha] at this
          cases this
        refine ⟨_, rfl, a, Cp, dx, [], rfl, e06 _ _ ha, R.cl, R.n1, by decide, ?_⟩
        refine ⟨_, rfl, _, rfl, a, Cp, dx, _, rfl, upd_same, R.cl, R.n2, (by decide : (1 : Nat) < 1000), ?_⟩
        have kw0 : ∀ b u, H b = some u → b ≠ a → (upd (upd H6 a (.ins Cp dx (putF "_routines" (.ref rD) []))) a (.ins Cp dx (putF "_arrivals" o (putF "_routines" (.ref rD) [])))) b = some u := fun b u hb hba => by
          rw [upd_ne hba, upd_ne hba]
          exact e06 _ _ hb
        have hin : (upd (upd H6 a (.ins Cp dx (putF "_routines" (.ref rD) []))) a (.ins Cp dx (putF "_arrivals" o (putF "_routines" (.ref rD) [])))) a = some (.ins Cp dx (putF "_arrivals" o (putF "_routines" (.ref rD) []))) := upd_same
        have hrD : (upd (upd H6 a (.ins Cp dx (putF "_routines" (.ref rD) []))) a (.ins Cp dx (putF "_arrivals" o (putF "_routines" (.ref rD) [])))) rD = some (.dK es) := by
          rw [upd_ne hne, upd_ne hne]
          rw [hes] at h6 ⊢
          exact h6
        have wfl : Ew H6 (upd (upd H6 a (.ins Cp dx (putF "_routines" (.ref rD) []))) a (.ins Cp dx (putF "_arrivals" o (putF "_routines" (.ref rD) [])))) := fun b => by
          by_cases hb : b = a
          · have ha6 := e06 _ _ ha
            rw [hb]
            refine ⟨fun z q => ?_, fun z q => ?_, fun z q => ?_⟩ <;> (rw [ha6] at q; cases q)
          · refine ⟨fun z q => ?_, fun z q => ⟨z, ?_⟩, fun z q => ⟨z, ?_⟩⟩ <;> (rw [upd_ne hb, upd_ne hb]; exact q)
        generalize upd (upd H6 a (.ins Cp dx (putF "_routines" (.ref rD) []))) a (.ins Cp dx (putF "_arrivals" o (putF "_routines" (.ref rD) []))) = H7 at *
        have hra7 : H7 ra = some (.dK kvs) := kw0 _ _ hra fun z => by rw [z, ha] at hra; cases hra
        refine ⟨.ref ra, rfl, ra, kvs, rt, rfl, hra7, (kr.mono (Ew.of e06)).mono wfl, G, vb_of G nd hperm hn, fun od eo H8 nod e8 ho8 => ?_⟩
        refine ⟨_, rfl, a, Cp, dx, _, rfl, e8 _ _ hin, R.cl, R.n3, (by decide : (2 : Nat) < 1000), ?_⟩
        refine k (hr'.trans hn2) _ rD es (fresh_back e05 np6) (fun b u hb hba => ?_) ⟨⟨dx, _, upd_same, ?_, ?_⟩, ?_, hnd, hlen⟩ eln hval
        · rw [upd_ne hba]
          exact e8 _ _ (kw0 _ _ hb hba)
        · rw [lookup_putF, if_neg (by decide +kernel), lookup_putF, if_neg (by decide +kernel), lookup_putF, if_pos rfl]
        · rw [lookup_putF, if_neg (by decide +kernel), lookup_putF, if_pos rfl]
        · rw [upd_ne hne]
          exact e8 _ _ hrD
    · rw [← hw1 ht ys hperm hs]
      unfold restR
      rw [hpl]
end
end K2
/-! The law's draws: cell_at, well, draw, pick. -/
namespace K2
open PySem L2 Evl PySem.Spec PyProof.Rows RZ StX
/-- a well stands at a, z draws made -/
def Wl (a : Addr) (H : Hp) (z : Nat) : Prop := ∃ x y : Int, H a = some (.lst [.int x, .int y, .int (z : Int)])
/-- all but the well stands -/
def Kw (a : Addr) (H H2 : Hp) : Prop := ∀ b u, H b = some u → b ≠ a → H2 b = some u
theorem Kw.of {a : Addr} {H H2 : Hp} (e : Ex H H2) : Kw a H H2 := fun b u h _ => e b u h
theorem Kw.refl (a : Addr) (H : Hp) : Kw a H H := Kw.of (Ex.refl H)
theorem Kw.trans {a : Addr} {H H2 H3 : Hp} (x : Kw a H H2) (y : Kw a H2 H3) : Kw a H H3 := fun b u h n => y b u (x b u h n) n
theorem Kw.upd {a : Addr} {H H2 : Hp} {u : HO} (e : Ex H H2) : Kw a H (upd H2 a u) := fun b v h n => by rw [upd_ne n]; exact e b v h
theorem Wl.ex {a : Addr} {H H2 : Hp} {z : Nat} (e : Ex H H2) (h : Wl a H z) : Wl a H2 z := by
  obtain ⟨x, y, h⟩ := h
  exact ⟨x, y, e _ _ h⟩
theorem Kw.ew {a : Addr} {H H2 : Hp} {z z2 : Nat} (k : Kw a H H2) (w1 : Wl a H z) (w2 : Wl a H2 z2) : Ew H H2 := fun b => by
  obtain ⟨x, y, h1⟩ := w1
  obtain ⟨x2, y2, h2⟩ := w2
  by_cases e : b = a
  · subst e
    refine ⟨fun xs h => ?_, fun xs h => ⟨_, h2⟩, fun xs h => ?_⟩
    · rw [h1] at h; cases h
    · rw [h1] at h; cases h
  · exact ⟨fun xs h => k _ _ h e, fun xs h => ⟨xs, k _ _ h e⟩, fun xs h => ⟨xs, k _ _ h e⟩⟩
def spCellAt (K : PySem.W.Frag) : Sp := fun vs H Q _ => ∃ (a : Addr) (ns : List Int), vs = [.ref a, .int 0] ∧ SqL K H a (ns.map V.int) ∧ ∀ i : Int, RetV (.int i) H Q
def spWell : Sp := fun vs H Q _ => ∃ c : Int, vs = [.int c] ∧ ∀ p H2, H p = none → Ex H H2 → Wl p H2 0 → Q (.ref p) H2
def spDraw : Sp := fun vs H Q _ => ∃ (a : Addr) (n : Int) (z : Nat), vs = [.ref a, .int n] ∧ Wl a H z ∧ z ≤ 1000000 ∧ 0 < n ∧ n ≤ 1000000 ∧ ∀ (r : Int) (z2 : Nat) H2, 0 ≤ r → r < n → z2 ≤ z + 1 → Kw a H H2 → Wl a H2 z2 → Q (.int r) H2
section
variable {K : PySem.W.Frag} {σ : L2.St} {H : Hp} {ta te : TE}
def rInt1 : List V → Hp → VK → Prop := fun xs H Q => (∃ i, xs = [.int i] ∧ Q (.int i) H) ∨ ∃ k, xs = [.bl k] ∧ Q (.int (if k then 1 else 0)) H
theorem call_i1 {X : Cx} : CallR X (.type "int") rInt1 := call_int1
theorem ev_i1 {i : Int} (ha : Ev ta σ H (.int i)) : Ev (tCB rInt1 (tCons ta tNil)) σ H (.int i) := ev_cb (ea_cons ha ea_nil) fun H1 e Q q => .inl ⟨i, rfl, q H1 (Ex.refl _)⟩
theorem ev_ib {b : Bool} (ha : Ev ta σ H (.bl b)) : Ev (tCB rInt1 (tCons ta tNil)) σ H (.int (if b then 1 else 0)) := ev_cb (ea_cons ha ea_nil) fun H1 e Q q => .inr ⟨b, rfl, q H1 (Ex.refl _)⟩
end
section
variable {P : Program} {w : World} {K : PySem.W.Frag} {mg : Str → Option Value} {base : Heap}
theorem sc42 : FnScope ["_law_script", "_law_k"] ["_law_script", "_law_k"] (defScope (top 42)) := ⟨rfl, rfl, rfl, by decide +kernel, rfl, by decide +kernel, by decide +kernel⟩
theorem ok_cellAt (B : Bl mg) (F : Df K mg "_law_cell_at" (top 42) ["_law_script", "_law_k"]) : Okd P w K mg base CX0 1 "_law_cell_at" ["_law_script", "_law_k"] (spCellAt K) := by
  refine F.ok sc42 (fun vs H Q E h => by obtain ⟨a, ns, rfl, _⟩ := h; rfl) (fun f cdv A outer s H vs Q E hr h => ?_)
  obtain ⟨a, ns, rfl, hs, k⟩ := h
  refine ⟨_, (pss_cons (ps_if (pt_cmpR op_lt2 (pv 1) (pe_callB call_lenQ (by rfl) B.len PySem.boot_len (pa_cons (pv 0) pa_nil)) (nomark _)) (pss_one (ps_ret (pe_ix ix_list (pv 0) (pv 1) (fun _ _ => rfl)))) pss_nil)
      (pss_one (ps_ret pe_int))), ?_⟩
  cases ns with
  | nil =>
    refine q_when (b := decide ((0 : Int) < 0)) (et_test (ev_op (ev_var rfl) (ev_cb (ea_cons (ev_var rfl) ea_nil) fun H1 e Q q => ⟨a, [], rfl, .inl (ex_l e hs), q H1 (Ex.refl _)⟩) rv_lt)) (fun h => nomatch h) (fun _ H1 e => s_ret ev_c fun H2 e2 => k 0 H2 (e.trans e2))
  | cons i ns =>
    refine q_when (b := decide ((0 : Int) < ((ns.length + 1 : Nat) : Int))) (et_test (ev_op (ev_var rfl) (ev_cb (ea_cons (ev_var rfl) ea_nil) fun H1 e Q q => ⟨a, V.int i :: ns.map V.int, rfl, .inl (ex_l e hs), by rw [List.length_cons, List.length_map]; exact q H1 (Ex.refl _)⟩) rv_lt)) (fun _ H1 e => ?_) (fun h => ?_)
    · exact s_ret (ev_op (ev_var rfl) (ev_var rfl) (rv_ixL (v := .int i) (ex_l e hs) (atI_nat (j := 0) rfl))) fun H2 e2 => k i H2 (e.trans e2)
    · exact absurd (of_decide_eq_false h) (by omega)
theorem sc43 : FnScope ["_law_cell"] ["_law_cell"] (defScope (top 43)) := ⟨rfl, rfl, rfl, by decide +kernel, rfl, by decide +kernel, by decide +kernel⟩
theorem ok_well (B : Bl mg) (F : Df K mg "_law_well" (top 43) ["_law_cell"]) : Okd P w K mg base CX0 1 "_law_well" ["_law_cell"] spWell := by
  refine F.ok sc43 (fun vs H Q E h => by obtain ⟨c, rfl, _⟩ := h; rfl) (fun f cdv A outer s H vs Q E hr h => ?_)
  obtain ⟨c, rfl, k⟩ := h
  refine ⟨_, (pss_one (ps_ret (pe_lst (pa_cons (pe_op op_mul (pv 0) (pe_callTy call_i1 (by rfl) B.int boot_int (pa_cons (pe_cmpR op_ge1 (pv 0) (pe_op op_pow pe_int pe_int) (nomark _)) pa_nil))) (pa_cons (pv 0) (pa_cons pe_int pa_nil)))))), ?_⟩
  have hp : CPow 10 18 := ⟨by decide, by decide, by decide⟩
  refine s_retL (el_lst (ea_cons (ev_op (ev_var rfl) (ev_ib (ev_op (ev_var rfl) (ev_op ev_c ev_c (rv_I hp)) rv_I0)) (rv_I ?_)) (ea_cons (ev_var rfl) (ea_cons ev_c ea_nil))) (by simp)) fun p H1 hp e h1 => k p H1 hp e ⟨_, _, h1⟩
  right
  split <;> decide
theorem sc44 : FnScope ["_law_well_here", "_law_size", "_law_seed", "_law_mixed", "_law_found"] ["_law_well_here", "_law_size"] (defScope (top 44)) := ⟨rfl, rfl, rfl, by decide +kernel, rfl, by decide +kernel, by decide +kernel⟩
theorem ok_draw (B : Bl mg) (F : Df K mg "_law_draw" (top 44) ["_law_well_here", "_law_size"]) : Okd P w K mg base CX0 1 "_law_draw" ["_law_well_here", "_law_size"] spDraw := by
  refine F.ok sc44 (fun vs H Q E h => by obtain ⟨a, n, z, rfl, _⟩ := h; rfl) (fun f cdv A outer s H vs Q E hr h => ?_)
  obtain ⟨a, n, z, rfl, ⟨x, y, ha⟩, hz, n0, n1, k⟩ := h
  refine ⟨_, (pss_cons (ps_if (pt_cmpR op_gt1 (pe_ix ix_list (pv 0) pe_int (fun _ _ => rfl)) pe_int (nomark _)) (pss_cons (ps_set (i := 4) sc44.nd rfl (Or.inl rfl) (pe_op op_mod (pe_callTy call_i1 (by rfl) B.int boot_int (pa_cons (pe_ix ix_list (pv 0) pe_int (fun _ _ => rfl)) pa_nil)) (pv 1)))
      (pss_cons (ps_asg (pe_op op_fdiv (pe_ix ix_list (pv 0) pe_int (fun _ _ => rfl)) (pv 1)) (pg_sub (pv 0) pe_int set_list))
      (pss_one (ps_ret (pv 4))))) pss_nil)
      (pss_cons (ps_asg (pe_op op_add (pe_ix ix_list (pv 0) pe_int (fun _ _ => rfl)) pe_int) (pg_sub (pv 0) pe_int set_list))
      (pss_cons (ps_set (i := 2) sc44.nd rfl (Or.inl rfl) (pe_op op_add (pe_op op_mod (pe_callTy call_i1 (by rfl) B.int boot_int (pa_cons (pe_ix ix_list (pv 0) pe_int (fun _ _ => rfl)) pa_nil)) pe_int) (pe_op op_mul (pe_op op_mod (pe_callTy call_i1 (by rfl) B.int boot_int (pa_cons (pe_op op_fdivW (pe_ix ix_list (pv 0) pe_int (fun _ _ => rfl)) pe_int) pa_nil)) pe_int) pe_int)))
      (pss_cons (ps_set (i := 3) sc44.nd rfl (Or.inl rfl) (pe_op op_mod (pe_callTy call_i1 (by rfl) B.int boot_int (pa_cons (pe_op op_pow (pe_op op_add (pe_op op_add (pv 2) (pe_op op_mul pe_int (pe_ix ix_list (pv 0) pe_int (fun _ _ => rfl)))) pe_int) pe_int) pa_nil)) pe_int))
      (pss_cons (ps_set (i := 3) sc44.nd rfl (Or.inl rfl) (pe_op op_mod (pe_callTy call_i1 (by rfl) B.int boot_int (pa_cons (pe_op op_mul (pv 3) (pe_op op_add (pe_op op_add (pe_op op_fdiv (pv 3) pe_int) pe_int) (pe_ix ix_list (pv 0) pe_int (fun _ _ => rfl)))) pa_nil)) pe_int))
      (pss_one (ps_ret (pe_op op_mod (pe_callTy call_i1 (by rfl) B.int boot_int (pa_cons (pe_op op_mod (pe_callTy call_i1 (by rfl) B.int boot_int (pa_cons (pe_op op_mul (pv 3) (pe_op op_add (pe_op op_fdiv (pv 3) pe_int) pe_int)) pa_nil)) pe_int) pa_nil)) (pv 1))))))))), ?_⟩
  have g0 : ∀ {σ : L2.St} {H1 : Hp} {p q r : Int}, σ[0]? = some (some (.ref a)) → H1 a = some (.lst [.int p, .int q, .int r]) → Ev (tOp (rIxL K) (tVar 0) (tC (.int 0))) σ H1 (.int p) := fun s h => ev_op (ev_var s) ev_c (rv_ixL (sq_of h) (atI_nat (j := 0) rfl))
  have g1 : ∀ {σ : L2.St} {H1 : Hp} {p q r : Int}, σ[0]? = some (some (.ref a)) → H1 a = some (.lst [.int p, .int q, .int r]) → Ev (tOp (rIxL K) (tVar 0) (tC (.int 1))) σ H1 (.int q) := fun s h => ev_op (ev_var s) ev_c (rv_ixL (sq_of h) (atI_nat (j := 1) rfl))
  have g2 : ∀ {σ : L2.St} {H1 : Hp} {p q r : Int}, σ[0]? = some (some (.ref a)) → H1 a = some (.lst [.int p, .int q, .int r]) → Ev (tOp (rIxL K) (tVar 0) (tC (.int 2))) σ H1 (.int r) := fun s h => ev_op (ev_var s) ev_c (rv_ixL (sq_of h) (atI_nat (j := 2) rfl))
  refine q_when (et_test (ev_op (g0 rfl ha) ev_c rv_I0)) (fun hb H1 e1 => ?_) (fun hb H1 e1 => ?_)
  · have ha1 := e1 _ _ ha
    refine q_asg (ev_op (ev_i1 (g0 rfl ha1)) (ev_var rfl) (rv_I n0)) fun H2 e2 => ?_
    have ha2 := e2 _ _ ha1
    have hdv : CDiv x n := ⟨n0, by omega⟩
    refine q_setL (j := 0) ha2 (ev_op (g0 rfl ha2) (ev_var rfl) (rv_I hdv)) (ev_var rfl) ev_c (by simp) fun H3 e3 => ?_
    refine s_ret (ev_var rfl) fun H4 e4 => ?_
    exact k (x % n) z H4 (Int.emod_nonneg _ (by omega)) (Int.emod_lt_of_pos _ n0) (by omega) ((Kw.upd ((e1.trans e2).trans e3)).trans (Kw.of e4)) ⟨_, _, e4 _ _ upd_same⟩
  · have ha1 := e1 _ _ ha
    refine q_setL (j := 2) ha1 (ev_op (g2 rfl ha1) ev_c rv_I0) (ev_var rfl) ev_c (by simp) fun H2 e2 => ?_
    obtain ⟨H3, hH3⟩ : ∃ H3, H3 = upd H2 a (.lst [.int x, .int y, .int ((z : Int) + 1)]) := ⟨_, rfl⟩
    have ha3 : H3 a = some (.lst [.int x, .int y, .int ((z : Int) + 1)]) := by rw [hH3]; exact upd_same
    have k3 : Kw a H H3 := by rw [hH3]; exact Kw.upd (e1.trans e2)
    show tSeq _ _ _ _ (upd H2 a (.lst [.int x, .int y, .int ((z : Int) + 1)]))
    rw [← hH3]
    have hd1 : CDivW y 2147483549 := ⟨by decide, by decide +kernel⟩
    refine q_asg (ev_op (ev_op (ev_i1 (g1 rfl ha3)) ev_c (rv_I (by decide))) (ev_op (ev_op (ev_i1 (ev_op (g1 rfl ha3) ev_c (rv_I hd1))) ev_c (rv_I (by decide))) ev_c (rv_I (.inr (by decide)))) rv_I0) fun H4 e4 => ?_
    obtain ⟨sd, hsd⟩ : ∃ sd : Int, sd = y % 2147483549 + y / 2147483549 % 80021 * 37 := ⟨_, rfl⟩
    rw [← hsd]
    have b1 : 0 ≤ sd ∧ sd < 2150444326 := by omega
    have ha4 := e4 _ _ ha3
    have hpw : CPow (sd + 5843 * ((z : Int) + 1) + 17) 5 := ⟨by decide, by decide, by omega⟩
    refine q_asg (ev_op (ev_i1 (ev_op (ev_op (ev_op (ev_var rfl) (ev_op ev_c (g2 rfl ha4) (rv_I (.inl (by decide)))) rv_I0) ev_c rv_I0) ev_c (rv_I hpw))) ev_c (rv_I (by decide))) fun H5 e5 => ?_
    obtain ⟨m1, hm1⟩ : ∃ m1 : Int, m1 = (sd + 5843 * ((z : Int) + 1) + 17) ^ Int.toNat 5 % 2147483647 := ⟨_, rfl⟩
    rw [← hm1]
    have b2 : 0 ≤ m1 ∧ m1 < 2147483647 := by rw [hm1]; exact ⟨Int.emod_nonneg _ (by decide), Int.emod_lt_of_pos _ (by decide)⟩
    have ha5 := e5 _ _ ha4
    have hml : CMul m1 (m1 / 953 + 40993 + ((z : Int) + 1)) := .inl (by omega)
    refine q_asg (ev_op (ev_i1 (ev_op (ev_var rfl) (ev_op (ev_op (ev_op (ev_var rfl) ev_c (rv_I ⟨by decide, by decide⟩)) ev_c rv_I0) (g2 rfl ha5) rv_I0) (rv_I hml))) ev_c (rv_I (by decide))) fun H6 e6 => ?_
    obtain ⟨m2, hm2⟩ : ∃ m2 : Int, m2 = m1 * (m1 / 953 + 40993 + ((z : Int) + 1)) % 2147483629 := ⟨_, rfl⟩
    rw [← hm2]
    have b3 : 0 ≤ m2 ∧ m2 < 2147483629 := by rw [hm2]; exact ⟨Int.emod_nonneg _ (by decide), Int.emod_lt_of_pos _ (by decide)⟩
    have hml2 : CMul m2 (m2 / 2011 + 50021) := .inl (by omega)
    refine s_ret (ev_op (ev_i1 (ev_op (ev_i1 (ev_op (ev_var rfl) (ev_op (ev_op (ev_var rfl) ev_c (rv_I ⟨by decide, by decide⟩)) ev_c rv_I0) (rv_I hml2))) ev_c (rv_I (by decide)))) (ev_var rfl) (rv_I n0)) fun H7 e7 => ?_
    have e37 := (e4.trans e5).trans (e6.trans e7)
    exact k _ (z + 1) H7 (Int.emod_nonneg _ (by omega)) (Int.emod_lt_of_pos _ n0) (Nat.le_refl _) (k3.trans (Kw.of e37)) ⟨x, y, by rw [e37 _ _ ha3]; rfl⟩
/-- the drawn one of some -/
def spPick (K : PySem.W.Frag) : Sp := fun vs H Q _ => ∃ (a p : Addr) (xs : List V) (z : Nat), vs = [.ref a, .ref p] ∧ Wl a H z ∧ z ≤ 1000000 ∧ p ≠ a ∧ (H p = some (.lst xs) ∨ H p = some (.tup xs)) ∧ xs ≠ [] ∧ xs.length ≤ 1000000 ∧ ∀ (x : V) (z2 : Nat) H2, x ∈ xs → z2 ≤ z + 1 → Kw a H H2 → Wl a H2 z2 → Q x H2
theorem sc45 : FnScope ["_law_well_here", "_law_some"] ["_law_well_here", "_law_some"] (defScope (top 45)) := ⟨rfl, rfl, rfl, by decide +kernel, rfl, by decide +kernel, by decide +kernel⟩
theorem ok_pick (B : Bl mg) (F : Df K mg "_law_pick" (top 45) ["_law_well_here", "_law_some"]) (O : Okd P w K mg base CX0 1 "_law_draw" ["_law_well_here", "_law_size"] spDraw) : Okd P w K mg base CX0 2 "_law_pick" ["_law_well_here", "_law_some"] (spPick K) := by
  refine F.ok sc45 (fun vs H Q E h => by obtain ⟨a, p, xs, z, rfl, _⟩ := h; rfl) (fun f cdv A outer s H vs Q E hr h => ?_)
  obtain ⟨a, p, xs, z, rfl, wl, hz, hne, hp, hx, hl, k⟩ := h
  obtain ⟨f__law_draw, d__law_draw, m__law_draw, k__law_draw, b__law_draw, G__law_draw⟩ := O.ex
  refine ⟨_, (pss_one (ps_ret (pe_ix ix_seq (pv 1) (pe_call G__law_draw (hr.mono (by first | decide | omega)) (by rfl) m__law_draw k__law_draw b__law_draw .nil pass0 (pa_cons (pv 0) (pa_cons (pe_callB call_lenQ (by rfl) B.len PySem.boot_len (pa_cons (pv 1) pa_nil)) pa_nil))) (fun _ _ => rfl)))), ?_⟩
  have hlen : Ev (tCB (rLenQ K) (tCons (tVar 1) tNil)) (start ["_law_well_here", "_law_some"] [.ref a, .ref p]) H (.int (xs.length : Int)) := ev_cb (ea_cons (ev_var rfl) ea_nil) fun H1 e Q q => by
    refine ⟨p, xs, rfl, ?_, q H1 (Ex.refl _)⟩
    rcases hp with hp | hp
    · exact .inl (sq_of (e _ _ hp))
    · exact .inr (st_of (e _ _ hp))
  have hpos : 0 < xs.length := List.length_pos_iff.mpr hx
  refine ⟨.ref p, rfl, .ref a, rfl, hlen H (Ex.refl _) _ fun H2 e2 => ?_⟩
  have e1 : Ex H H := Ex.refl H
  refine ⟨a, xs.length, z, rfl, wl.ex (e1.trans e2), hz, by omega, by omega, fun r z2 H3 r0 r1 hz2 kw wl2 => ?_⟩
  obtain ⟨j, rfl⟩ := Int.eq_ofNat_of_zero_le r0
  have hj : j < xs.length := by omega
  have kw' := (Kw.of (a := a) (e1.trans e2)).trans kw
  have hat : atI xs (j : Int) = some xs[j] := atI_nat (j := j) (List.getElem?_eq_getElem hj)
  have fin := k xs[j] z2 H3 (List.getElem_mem hj) hz2 kw' wl2
  rcases hp with hp | hp
  · exact .inl ⟨p, xs, (j : Int), xs[j], rfl, rfl, sq_of (kw' _ _ hp hne), hat, fin⟩
  · exact .inr (.inl ⟨p, xs, (j : Int), xs[j], rfl, rfl, st_of (kw' _ _ hp hne), hat, fin⟩)
end
end K2
/-! The law's table of ops. -/
namespace K2
open PySem L2 Evl PySem.Spec PyProof.Rows RZ StX
def rowsT : List Str := ["it11 same22 less22 not11 add22 item22 size11 kind11 args11 time00 spend11 soon19 later29", "at29 reader29 unread11 read11 task12 ensure11 current00 tasks00 name11 close11 stop00", "handler11 future00 set_result22 set_exception22 result11 exception11 done11 on_done22", "off_done22 cancel12 cancelled11 cancelling11 uncancel11 shield11 sleep12 wait13 gather12", "as_completed12 wait_for22 timeout11 timeout_at11 reschedule22 expired11 when11 group_of22", "faults_of11 split22 subgroup22 group00 start23 lock00 event00 condition01 semaphore01", "bounded01 barrier11 locked11 acquire11 release11 is_set11 set11 clear11 wait_on11", "wait_until29 notify12 notify_all11 reset11 abort11 parties11 waiting11 broken11 queue01", "lifo_queue01 priority_queue01 put22 get11 put_nowait22 get_nowait11 qsize11 empty11 full11", "task_done11 join11 shutdown12"]
def wsT : List Str := (["it11", "same22", "less22", "not11", "add22", "item22", "size11", "kind11", "args11", "time00", "spend11", "soon19", "later29", "at29", "reader29", "unread11", "read11", "task12", "ensure11", "current00"] : List Str) ++ (["tasks00", "name11", "close11", "stop00", "handler11", "future00", "set_result22", "set_exception22", "result11", "exception11", "done11", "on_done22", "off_done22", "cancel12", "cancelled11", "cancelling11", "uncancel11", "shield11", "sleep12", "wait13"] : List Str) ++ (["gather12", "as_completed12", "wait_for22", "timeout11", "timeout_at11", "reschedule22", "expired11", "when11", "group_of22", "faults_of11", "split22", "subgroup22", "group00", "start23", "lock00", "event00", "condition01", "semaphore01", "bounded01", "barrier11"] : List Str) ++ (["locked11", "acquire11", "release11", "is_set11", "set11", "clear11", "wait_on11", "wait_until29", "notify12", "notify_all11", "reset11", "abort11", "parties11", "waiting11", "broken11", "queue01", "lifo_queue01", "priority_queue01", "put22", "get11"] : List Str) ++ (["put_nowait22", "get_nowait11", "qsize11", "empty11", "full11", "task_done11", "join11", "shutdown12"] : List Str)
def tbL : List (Str × Int × Int) := ([("it", 1, 1), ("same", 2, 2), ("less", 2, 2), ("not", 1, 1), ("add", 2, 2), ("item", 2, 2), ("size", 1, 1), ("kind", 1, 1), ("args", 1, 1), ("time", 0, 0), ("spend", 1, 1), ("soon", 1, 9), ("later", 2, 9), ("at", 2, 9), ("reader", 2, 9), ("unread", 1, 1), ("read", 1, 1), ("task", 1, 2), ("ensure", 1, 1), ("current", 0, 0)] : List (Str × Int × Int)) ++ ([("tasks", 0, 0), ("name", 1, 1), ("close", 1, 1), ("stop", 0, 0), ("handler", 1, 1), ("future", 0, 0), ("set_result", 2, 2), ("set_exception", 2, 2), ("result", 1, 1), ("exception", 1, 1), ("done", 1, 1), ("on_done", 2, 2), ("off_done", 2, 2), ("cancel", 1, 2), ("cancelled", 1, 1), ("cancelling", 1, 1), ("uncancel", 1, 1), ("shield", 1, 1), ("sleep", 1, 2), ("wait", 1, 3)] : List (Str × Int × Int)) ++ ([("gather", 1, 2), ("as_completed", 1, 2), ("wait_for", 2, 2), ("timeout", 1, 1), ("timeout_at", 1, 1), ("reschedule", 2, 2), ("expired", 1, 1), ("when", 1, 1), ("group_of", 2, 2), ("faults_of", 1, 1), ("split", 2, 2), ("subgroup", 2, 2), ("group", 0, 0), ("start", 2, 3), ("lock", 0, 0), ("event", 0, 0), ("condition", 0, 1), ("semaphore", 0, 1), ("bounded", 0, 1), ("barrier", 1, 1)] : List (Str × Int × Int)) ++ ([("locked", 1, 1), ("acquire", 1, 1), ("release", 1, 1), ("is_set", 1, 1), ("set", 1, 1), ("clear", 1, 1), ("wait_on", 1, 1), ("wait_until", 2, 9), ("notify", 1, 2), ("notify_all", 1, 1), ("reset", 1, 1), ("abort", 1, 1), ("parties", 1, 1), ("waiting", 1, 1), ("broken", 1, 1), ("queue", 0, 1), ("lifo_queue", 0, 1), ("priority_queue", 0, 1), ("put", 2, 2), ("get", 1, 1)] : List (Str × Int × Int)) ++ ([("put_nowait", 2, 2), ("get_nowait", 1, 1), ("qsize", 1, 1), ("empty", 1, 1), ("full", 1, 1), ("task_done", 1, 1), ("join", 1, 1), ("shutdown", 1, 2)] : List (Str × Int × Int))
theorem ext_cps {a b : Str} (h : a.cps.toList = b.cps.toList) : a = b := TL.map_tl_inj (l := [a]) (m := [b]) (by rw [List.map_cons, List.map_cons, show TL.tl a = TL.tl b from h]) |> fun e => (List.cons.inj e).1
theorem join_tl : TL.joinL [32] (rowsT.map TL.tl) = TL.joinL [32] (wsT.map TL.tl) := by decide +kernel
theorem sp_tl : TL.tl (" " : Str) = [32] := by decide +kernel
theorem join_gen {y : Str} {l m : List Str} (h : TL.joinL (TL.tl y) (l.map TL.tl) = TL.joinL (TL.tl y) (m.map TL.tl)) : Txt.join y l = Txt.join y m := by
  rw [TL.join_eq, TL.join_eq]
  refine ext_cps ?_
  show TL.tl _ = TL.tl _
  rw [TL.tl_join, TL.tl_join]
  exact h
theorem join_is : Txt.join " " rowsT = Txt.join " " wsT := join_gen (by rw [sp_tl]; exact join_tl)
theorem ws_blank : (wsT.all fun x => !(x.cps.toList.any fun c => c == 32)) = true := by decide +kernel
theorem split_is : Txt.split (Txt.join " " rowsT) " " = wsT := by
  have e1 := join_is
  generalize Txt.join " " rowsT = u at e1 ⊢
  subst e1
  refine TL.split_join (s := 32) (S := []) sp_tl (by decide +kernel) (by unfold wsT; simp) fun p hp hm => ?_
  have h1 := List.all_eq_true.mp ws_blank p hp
  rw [Bool.not_eq_true'] at h1
  have h2 : (p.cps.toList.any fun c => c == 32) = true := List.any_eq_true.mpr ⟨32, hm, rfl⟩
  rw [h1] at h2
  cases h2
end K2
/-! The law's table of ops. -/
namespace K2
open PySem L2 Evl PySem.Spec PyProof.Rows RZ StX
def rowOf (x : Str) : Option (Str × Int × Int) := match atI x.cps.toList (-2), atI x.cps.toList (-1) with
  | some c, some d => (match PySem.intText? ⟨#[c]⟩, PySem.intText? ⟨#[d]⟩ with | some lo, some hi => some (cutS x none (some (-2)), lo, hi) | _, _ => none)
  | _, _ => none
theorem u_len : (TL.joinL [32] (rowsT.map TL.tl)).length ≤ 2000 := by decide +kernel
theorem u_len2 : (Txt.join " " rowsT).length ≤ 2000 := by
  have e : (Txt.join " " rowsT).cps.toList = TL.joinL [32] (rowsT.map TL.tl) := by
    show TL.tl _ = _
    rw [TL.join_eq, TL.tl_join, sp_tl]
  rw [len_cps, e]
  exact u_len
theorem rows_sum : (rowsT.map (·.length)).sum + rowsT.length * (" " : Str).length ≤ 16777216 := by decide +kernel
theorem rows_are : wsT.map rowOf = tbL.map some := by decide +kernel
theorem ws_len : (wsT.all fun x => decide (x.length ≤ 1000)) = true := by decide +kernel
theorem tb_nd : (tbL.map (·.1)).Nodup := by decide +kernel
/-- a dict of the table's rows -/
def TbR (H : Hp) (rows : List (Str × Int × Int)) (kvs : List (Key × V)) : Prop := Paired (fun (p : Str × Int × Int) (q : Key × V) => q.1 = Sum.inr p.1 ∧ ∃ t, q.2 = .ref t ∧ H t = some (.tup [.int p.2.1, .int p.2.2])) rows kvs
theorem TbR.mono {H H2 : Hp} {rows : List (Str × Int × Int)} {kvs : List (Key × V)} (e : ∀ b xs, H b = some (.tup xs) → H2 b = some (.tup xs)) (h : TbR H rows kvs) : TbR H2 rows kvs := L2.Paired.mapP h fun _ _ ⟨h1, t, h2, h3⟩ => ⟨h1, t, h2, e _ _ h3⟩
theorem TbR.keys {H : Hp} : ∀ {rows : List (Str × Int × Int)} {kvs : List (Key × V)}, TbR H rows kvs → kvs.map (·.1) = (rows.map (·.1)).map Sum.inr
  | _, _, .nil => rfl
  | _, _, .cons h t => by rw [List.map_cons, List.map_cons, List.map_cons, TbR.keys t, h.1]
theorem TbR.val {H : Hp} (x : Str) : ∀ {rows : List (Str × Int × Int)} {kvs : List (Key × V)}, TbR H rows kvs →
    (rows.lookup x = none ∧ valV kvs (Sum.inr x : Key) = none) ∨ ∃ p t, rows.lookup x = some p ∧ valV kvs (Sum.inr x : Key) = some (.ref t) ∧ H t = some (.tup [.int p.1, .int p.2])
  | _, _, .nil => .inl ⟨rfl, rfl⟩
  | (y, p) :: rt, (k, v) :: kvs, .cons h t => by
    obtain ⟨h1, a, h2, h3⟩ := h
    have h1' : k = Sum.inr y := h1
    have h2' : v = .ref a := h2
    subst h1'
    subst h2'
    by_cases e : x = y
    · subst e
      exact .inr ⟨p, a, by simp [List.lookup], valV_pos (p := ((Sum.inr x : Key), V.ref a)) rfl, h3⟩
    · have ih := TbR.val x t
      have e1 : List.lookup x ((y, p) :: rt) = List.lookup x rt := by
        have : (x == y) = false := beq_eq_false_iff_ne.mpr e
        simp [List.lookup, this]
      have e2 : valV (((Sum.inr y : Key), V.ref a) :: kvs) (Sum.inr x : Key) = valV kvs (Sum.inr x : Key) := valV_neg (p := ((Sum.inr y : Key), V.ref a)) fun z => e (Sum.inr.inj z).symm
      rw [e1, e2]
      exact ih
def rowD (p : Str × Int × Int) : D := .tup [.str p.1, .tup [.int p.2.1, .int p.2.2]]
theorem rows_dict {K : PySem.W.Frag} {H : Hp} : ∀ {rows : List (Str × Int × Int)} {ys : List V}, Rps K H (rows.map rowD) ys →
    ∃ (ps : List Addr) (kvs : List (Key × V)), ys = ps.map V.ref ∧ Paired (fun p (kv : Key × V) => SqT K H p [kV kv.1, kv.2]) ps kvs ∧ TbR H rows kvs
  | [], _, .nil => ⟨[], [], rfl, .nil, .nil⟩
  | p :: rows, _, .cons r t => by
    obtain ⟨ps, kvs, h1, h2, h3⟩ := rows_dict t
    obtain ⟨a, vs, rfl, ha, rs⟩ := r.ofTup
    obtain ⟨v1, v2, rfl, r1, r2⟩ := rs.two
    cases r1
    obtain ⟨b, ws, rfl, hb, rw_⟩ := r2.ofTup
    obtain ⟨w1, w2, rfl, q1, q2⟩ := rw_.two
    cases q1
    cases q2
    exact ⟨a :: ps, (Sum.inr p.1, .ref b) :: kvs, by rw [h1]; rfl, .cons (st_of ha) h2, .cons ⟨rfl, b, rfl, hb⟩ h3⟩
def spTable : Sp := fun vs H Q _ => vs = [] ∧ ∀ p H2 kvs, H p = none → Ex H H2 → H2 p = some (.dK kvs) → TbR H2 tbL kvs → Q (.ref p) H2
section
variable {K : PySem.W.Frag} {σ : L2.St} {H : Hp} {ta te : TE}
def rSplitS : V → List V → Hp → VK → Prop := fun x xs H Q => ∃ a b, x = .str a ∧ xs = [.str b] ∧ (b.length == 0) = false ∧ a.length + 2 ≤ sizeLine ∧ rNewStrs (Txt.split a b) H Q
def rJoinS (K : PySem.W.Frag) : V → List V → Hp → VK → Prop := fun x xs H Q => ∃ a p, ∃ ys : List Str, x = .str a ∧ xs = [.ref p] ∧ (SqL K H p (ys.map V.str) ∨ SqT K H p (ys.map V.str)) ∧ (ys.map (·.length)).sum + ys.length * a.length ≤ 16777216 ∧ Q (.str (Txt.join a ys)) H
def rIntS : List V → Hp → VK → Prop := fun xs H Q => ∃ a n, xs = [.str a] ∧ PySem.intText? a = some n ∧ a.length ≤ 640 ∧ Q (.int n) H
theorem call_ints {X : Cx} : CallR X (.type "int") rIntS := call_int_str
def rDictP (K : PySem.W.Frag) : List V → Hp → VK → Prop := fun xs H Q => ∃ (a : Addr) (ps : List Addr) (kvs : List (Key × V)), xs = [.ref a] ∧ SqL K H a (ps.map V.ref) ∧ Paired (fun p kv => SqT K H p [kV kv.1, kv.2]) ps kvs ∧ ∀ p, H p = none → Q (.ref p) (upd H p (.dK (mergeK [] kvs)))
theorem call_dictPr {X : Cx} (hc : X.calm = true) : CallR X (.type "dict") (rDictP X.K) := call_dictP hc
theorem ev_join {a : Str} {ys : List Str} (ha : Ev ta σ H (.str a)) {p : Addr} (hp : H p = some (.lst (ys.map V.str))) (h : Ev te σ H (.ref p)) (hz : (ys.map (·.length)).sum + ys.length * a.length ≤ 16777216) : Ev (tM1 (rJoinS K) ta te) σ H (.str (Txt.join a ys)) := fun H1 e Q q =>
  ha H1 e _ fun H2 e2 => ⟨⟨a, rfl⟩, h H2 (e.trans e2) _ fun H3 e3 => ⟨a, p, ys, rfl, rfl, .inl (sq_of (((e.trans e2).trans e3) _ _ hp)), hz, q H3 (e2.trans e3)⟩⟩
theorem evl_split {a b : Str} (ha : Ev ta σ H (.str a)) (hb : Ev te σ H (.str b)) (h1 : (b.length == 0) = false) (h2 : a.length + 2 ≤ sizeLine) : EvLP (tM1 rSplitS ta te) σ H (fun _ xs => xs = (Txt.split a b).map V.str) := fun H1 e Q q =>
  ha H1 e _ fun H2 e2 => ⟨⟨a, rfl⟩, hb H2 (e.trans e2) _ fun H3 e3 => ⟨a, b, rfl, rfl, h1, h2, fun p hp => q p _ _ (fresh_back (e2.trans e3) hp) ((e2.trans e3).trans (Ex.new hp)) upd_same rfl⟩⟩
theorem s_retDict {Dd : Ends} {Pl : Hp → List V → Prop} (h : EvLP te σ H Pl) (k : ∀ p xs H1, H p = none → Ex H H1 → H1 p = some (.lst xs) → Pl H1 xs → rDictP K [.ref p] H1 Dd.rt) : tRet (tCB (rDictP K) (tCons te tNil)) Dd σ H :=
  h H (Ex.refl H) _ fun p xs H1 hp e hl pl => k p xs H1 hp e hl pl
theorem ev_ints {a : Str} {n : Int} (ha : Ev ta σ H (.str a)) (hn : PySem.intText? a = some n) (hl : a.length ≤ 640) : Ev (tCB rIntS (tCons ta tNil)) σ H (.int n) := ev_cb (ea_cons ha ea_nil) fun H1 e Q q => ⟨a, n, rfl, hn, hl, q H1 (Ex.refl _)⟩
end
section
variable {P : Program} {w : World} {K : PySem.W.Frag} {mg : Str → Option Value} {base : Heap}
theorem sc46 : FnScope ["_law_rows", "_law_some", "_law_word"] [] (defScope (top 46)) := ⟨rfl, rfl, rfl, by decide +kernel, rfl, by decide +kernel, by decide +kernel⟩
theorem ok_table (B : Bl mg) (F : Df K mg "_law_table" (top 46) []) : Okd P w K mg base CX0 1 "_law_table" [] spTable := by
  refine F.ok sc46 (fun vs H Q E h => by rw [h.1]; rfl) (fun f cdv A outer s H vs Q E hr h => ?_)
  obtain ⟨rfl, k⟩ := h
  refine ⟨_, (pss_cons (ps_set (i := 0) sc46.nd rfl (Or.inl rfl) (pe_lst (pa_cons pe_str (pa_cons pe_str (pa_cons pe_str (pa_cons pe_str (pa_cons pe_str (pa_cons pe_str (pa_cons pe_str (pa_cons pe_str (pa_cons pe_str (pa_cons pe_str pa_nil))))))))))))
      (pss_cons (ps_set (i := 1) sc46.nd rfl (Or.inl rfl) (pe_join pe_str (pv 0)))
      (pss_one (ps_ret (pe_callTy (call_dictPr rfl) (by rfl) B.dict boot_dict (pa_cons (pe_lc (own := [("_law_word", 2)]) (g := gName 2) (tt := tYes) rfl sc46.nd (pi_list (pe_split (pv 1) pe_str)) (blkOk_by (N := ["_law_rows", "_law_some", "_law_word"]) (sc := defScope (top 46)) (by decide +kernel)) (fun _ _ _ _ _ => (pg_name (i := 2) sc46.nd rfl (Or.inl rfl))) (fun _ _ _ _ _ => pts_nil) (fun _ _ _ _ _ => (pe_tup (pa_cons (pe_slice sl_str (pv 2) po_none (po_some (pe_un un_neg pe_int))) (pa_cons (pe_tup (pa_cons (pe_callTy call_ints (by rfl) B.int boot_int (pa_cons (pe_ix ix_str (pv 2) (pe_un un_neg pe_int) (fun _ _ => rfl)) pa_nil)) (pa_cons (pe_callTy call_ints (by rfl) B.int boot_int (pa_cons (pe_ix ix_str (pv 2) (pe_un un_neg pe_int) (fun _ _ => rfl)) pa_nil)) pa_nil))) pa_nil))))) pa_nil)))))), ?_⟩
  obtain ⟨u, hu⟩ : ∃ u, u = Txt.join " " rowsT := ⟨_, rfl⟩
  have hsp : Txt.split u " " = wsT := by rw [hu]; exact split_is
  have hul : u.length ≤ 2000 := by rw [hu]; exact u_len2
  refine q_asgL (xs := rowsT.map V.str) (el_lst (ea_cons ev_c (ea_cons ev_c (ea_cons ev_c (ea_cons ev_c (ea_cons ev_c (ea_cons ev_c (ea_cons ev_c (ea_cons ev_c (ea_cons ev_c (ea_cons ev_c ea_nil)))))))))) (by decide)) fun p H1 np e1 hp => ?_
  refine q_asg (v := .str u) (by rw [hu]; exact ev_join ev_c hp (ev_var rfl) rows_sum) fun H2 e2 => ?_
  have W : Wk _ _ H2 wsT.length (fun i _ x => ∃ z, wsT[i]? = some z ∧ x = .str z) := wk_new (K := K) (evl_split (σ := [some (.ref p), some (.str u), none]) (ta := tVar 1) (te := tC (.str " ")) (ev_var rfl) ev_c (by decide +kernel) (Nat.le_trans (by omega : u.length + 2 ≤ 100000) (by decide))) (fun H3 xs e3 hx => by
    rw [hsp] at hx
    subst hx
    refine ⟨by rw [List.length_map], fun i x H4 e4 q => ?_⟩
    rw [List.getElem?_map] at q
    cases hz : wsT[i]? with
    | none => rw [hz] at q; cases q
    | some z =>
      rw [hz] at q
      cases q
      exact ⟨z, rfl, rfl⟩)
  have LC := el_lc (σ := [some (.ref p), some (.str u), none]) (te := tTup (tCons (tSl rSlS (tVar 2) tNoPart (tPart (tUn (rU fun i => .int (-i)) (tC (.int 2))))) (tCons (tTup (tCons (tCB rIntS (tCons (tOp rIxS (tVar 2) (tUn (rU fun i => .int (-i)) (tC (.int 2)))) tNil)) (tCons (tCB rIntS (tCons (tOp rIxS (tVar 2) (tUn (rU fun i => .int (-i)) (tC (.int 1)))) tNil)) tNil))) tNil))) (g := gName 2) (tt := tYes) (vs := [2])
      (fun _ => true) (fun (i : Nat) H2 y => ∃ p, tbL[i]? = some p ∧ Rp K H2 (rowD p) y) W (by decide +kernel) (fun i H2 H3 y e ⟨p, h1, h2⟩ => ⟨p, h1, h2.ew e⟩) (fun i x H3 hi e3 ⟨z, hz, hx⟩ Z hZ => by
        subst hx
        refine hZ _ H3 (Ex.refl _) rfl (fun H4 e4 Q q => q H4 (Ex.refl _)) fun _ => ?_
        have hro : (wsT.map rowOf)[i]? = (tbL.map some)[i]? := by rw [rows_are]
        rw [List.getElem?_map, List.getElem?_map, hz] at hro
        cases ht : tbL[i]? with
        | none => rw [ht] at hro; cases hro
        | some pr =>
          rw [ht] at hro
          have hr2 : rowOf z = some pr := Option.some.inj hro
          have hzl : z.length ≤ 1000 := of_decide_eq_true (List.all_eq_true.mp ws_len z (List.mem_of_getElem? hz))
          unfold rowOf at hr2
          split at hr2
          · rename_i c d hc hd
            split at hr2
            · rename_i lo hi2 hlo hhi
              cases hr2
              refine (evp_tup (eap_cons (evp_d (ev_slS (ev_var rfl) eo_none (eo_some (ev_un ev_c ru_neg)) (by omega)) (Rp.str _)) (eap_cons (evp_tup (eap_cons (evp_d (ev_ints (ev_op (ev_var rfl) (ev_un ev_c ru_neg) (rv_ixS (by omega) hc)) hlo (show (1 : Nat) ≤ 640 by decide)) (Rp.int _)) (eap_cons (evp_d (ev_ints (ev_op (ev_var rfl) (ev_un ev_c ru_neg) (rv_ixS (by omega) hd)) hhi (show (1 : Nat) ≤ 640 by decide)) (Rp.int _)) eap_nil)) (by simp)) eap_nil)) (by simp)).imp fun H4 y e4 ry => ⟨_, rfl, ry⟩
            · cases hr2
          · cases hr2)
  refine s_retDict LC fun lp ys H3 nlp e3 hlp pl => ?_
  rw [kept_all] at pl
  have rx : Rps K H3 (tbL.map rowD) ys := by
    refine Rps.map_at (fun i a ha => ?_) ?_
    · have hi : i < wsT.length := by
        have := (List.getElem?_eq_some_iff.mp ha).1
        have e : wsT.length = tbL.length := by decide +kernel
        omega
      obtain ⟨y, h1, p, h2, h3⟩ := Paired.at_ (i := i) (a := i) pl (by simp [hi])
      rw [ha] at h2
      cases h2
      exact ⟨y, h1, h3⟩
    · have := pl.length
      rw [List.length_range] at this
      rw [← this]
      decide +kernel
  obtain ⟨ps, kvs, rfl, hpr, htb⟩ := rows_dict rx
  have hmk : mergeK [] kvs = kvs := by
    have h1 := htb.keys
    have h2 : ((([] : List (Key × V)) ++ kvs).map (·.1)).Nodup := by
      rw [List.nil_append, h1]
      exact List.Pairwise.map _ (fun a b hab z => hab (Sum.inr.inj z)) tb_nd
    exact putK_all kvs [] h2
  refine ⟨lp, ps, kvs, rfl, sq_of hlp, hpr, fun q hq => ?_⟩
  rw [hmk]
  have e03 := (e1.trans e2).trans e3
  exact k q _ kvs (fresh_back e03 hq) (e03.trans (Ex.new hq)) upd_same (htb.mono fun b xs hb => (Ex.new hq) _ _ hb)
end
end K2
/-! == and != with an empty list or tuple; the law's is_name. -/
namespace K2
open PySem L2 Evl PySem.Spec PyProof.Rows RZ StX
def rEqNil (K : PySem.W.Frag) : R2 := fun x y H Q => ∃ a b xs, x = .ref a ∧ y = .ref b ∧ ((SqL K H a xs ∧ SqL K H b []) ∨ (SqT K H a xs ∧ SqT K H b [])) ∧ Q (.bl xs.isEmpty) H
def rNeNil (K : PySem.W.Frag) : R2 := fun x y H Q => ∃ a b xs, x = .ref a ∧ y = .ref b ∧ ((SqL K H a xs ∧ SqL K H b []) ∨ (SqT K H a xs ∧ SqT K H b [])) ∧ Q (.bl (!xs.isEmpty)) H
theorem all_true (n : Nat) : ((List.range n).all fun _ => true) = true := List.all_eq_true.mpr fun _ _ => rfl
theorem op_eqNil {X : Cx} (hu : X.A.units < cLine) : OpR X (compareOp .Eq) (rEqNil X.K) := by
  intro pins s σ H x y v u Q I rx ry h
  obtain ⟨a, b, xs, rfl, rfl, h, q⟩ := h
  obtain rfl : v = Value.ref a := rx
  obtain rfl : u = Value.ref b := ry
  have fin := (⟨V.bl xs.isEmpty, H, I, rfl, q⟩ : EP X pins σ Q (.bool xs.isEmpty) s)
  rcases h with ⟨h1, h2⟩ | ⟨h1, h2⟩
  · obtain ⟨us, r1, p1, _⟩ := I.list h1
    obtain ⟨ws, r2, p2, _⟩ := I.list h2
    cases r2
    cases r1 with
    | nil => exact SeqAt.RcAt.lists (e := fun _ => true) p1.isList p2.isList rfl hu (fun j h1 h2 => absurd h1 (by simp)) X.prog X.w _ _ fin
    | cons r t => exact SeqAt.RcAt.lists_lengths p1.isList p2.isList (by simp) hu X.prog X.w _ _ fin
  · obtain ⟨us, r1, p1, _⟩ := I.tuple h1
    obtain ⟨ws, r2, p2, _⟩ := I.tuple h2
    cases r2
    have z := SeqAt.RcAt.tuples (A := X.A) (e := fun _ => true) p1 p2 hu (fun j h1 h2 => absurd h2 (by simp)) X.prog X.w X.xe (EP X pins σ Q)
    refine z ?_
    cases r1 with
    | nil => exact fin
    | cons r t =>
      refine cast (congrArg (fun b => EP X pins σ Q (.bool b) s) ?_) fin
      simp
theorem op_neNil {X : Cx} (hu : X.A.units < cLine) : OpR X (compareOp .NotEq) (rNeNil X.K) := by
  intro pins s σ H x y v u Q I rx ry h
  obtain ⟨a, b, xs, rfl, rfl, h, q⟩ := h
  obtain rfl : v = Value.ref a := rx
  obtain rfl : u = Value.ref b := ry
  have fin := (⟨V.bl (!xs.isEmpty), H, I, rfl, q⟩ : EP X pins σ Q (.bool (!xs.isEmpty)) s)
  rcases h with ⟨h1, h2⟩ | ⟨h1, h2⟩
  · obtain ⟨us, r1, p1, _⟩ := I.list h1
    obtain ⟨ws, r2, p2, _⟩ := I.list h2
    cases r2
    cases r1 with
    | nil => exact SeqAt.RcNeAt.lists (e := fun _ => true) p1.isList p2.isList rfl hu (fun j h1 h2 => absurd h1 (by simp)) X.prog X.w _ _ fin
    | cons r t => exact SeqAt.RcNeAt.lists_lengths p1.isList p2.isList (by simp) hu X.prog X.w _ _ fin
  · obtain ⟨us, r1, p1, _⟩ := I.tuple h1
    obtain ⟨ws, r2, p2, _⟩ := I.tuple h2
    cases r2
    have z := SeqAt.RcNeAt.tuples (A := X.A) (e := fun _ => true) p1 p2 hu (fun j h1 h2 => absurd h2 (by simp)) X.prog X.w X.xe (EP X pins σ Q)
    refine z ?_
    cases r1 with
    | nil => exact fin
    | cons r t =>
      refine cast (congrArg (fun b => EP X pins σ Q (.bool b) s) ?_) fin
      simp
/-- a != a, a list or a tuple -/
def rNeSelf (K : PySem.W.Frag) : R2 := fun x y H Q => ∃ a xs, x = .ref a ∧ y = .ref a ∧ (SqL K H a xs ∨ SqT K H a xs) ∧ Q (.bl false) H
theorem op_neSelf {X : Cx} (hu : X.A.units < cLine) : OpR X (compareOp .NotEq) (rNeSelf X.K) := by
  intro pins s σ H x y v u Q I rx ry h
  obtain ⟨a, xs, rfl, rfl, h, q⟩ := h
  obtain rfl : v = Value.ref a := rx
  obtain rfl : u = Value.ref a := ry
  have fin := (⟨V.bl false, H, I, rfl, q⟩ : EP X pins σ Q (.bool false) s)
  rcases h with h | h
  · obtain ⟨us, r1, p1, _⟩ := I.list h
    have z := SeqAt.RcNeAt.lists (A := X.A) (e := fun _ => true) p1.isList p1.isList rfl hu (fun j h1 h2 => SeqAt.EqAt.same _) X.prog X.w X.xe (EP X pins σ Q)
    refine z ?_
    rw [all_true]
    exact fin
  · obtain ⟨us, r1, p1, _⟩ := I.tuple h
    have z := SeqAt.RcNeAt.tuples (A := X.A) (e := fun _ => true) p1 p1 hu (fun j h1 h2 => SeqAt.EqAt.same _) X.prog X.w X.xe (EP X pins σ Q)
    refine z ?_
    rw [all_true, beq_self_eq_true]
    exact fin
section
variable {K : PySem.W.Frag} {σ : L2.St} {H : Hp} {ta tb te : TE} {tt : TT} {wi : TI}
theorem kept_nil {F : Nat → Bool} {n : Nat} : (kept F n).isEmpty = (List.range n).all fun i => !(F i) := by
  unfold kept
  rw [Bool.eq_iff_iff, List.isEmpty_iff, List.filter_eq_nil_iff, List.all_eq_true]
  constructor
  · intro h i hi
    have := h i hi
    simpa using this
  · intro h i hi
    have := h i hi
    simpa using this
/-- [x for x in .. if test] == [] -/
theorem ev_noneW {j : Nat} {vs : List Nat} {n : Nat} {P : Nat → Hp → V → Prop} (f : Nat → Bool) (W : Wk wi σ H n P) (hn : n ≤ 40000) (hw : ∀ x, wipe ((wipe σ vs).set j (some x)) vs = wipe σ vs) (hj : ∀ x, ((wipe σ vs).set j (some x))[j]? = some (some x))
    (ht : ∀ i x H1, i < n → Ex H H1 → P i H1 x → EvT tt ((wipe σ vs).set j (some x)) H1 (!(f i))) : Ev (tOp (rEqNil K) (tLc wi (gName j) tt (tVar j) vs) (tLst tNil)) σ H (.bl ((List.range n).all f)) := fun H1 e Q q =>
  el_lc (fun i => !(f i)) (fun _ _ _ => True) W hn (fun _ _ _ _ _ _ => trivial)
    (fun i x H2 hi e2 px Z kz => kz _ H2 (Ex.refl _) (hw x) (ht i x H2 hi e2 px) fun _ => evp (ev_var (hj x)) fun _ _ => trivial) H1 e _ fun p xs H2 hp e2 hl pl =>
    (el_lst ea_nil (by simp) : EvL (tLst tNil) σ H2 []) H2 (Ex.refl _) _ fun p2 H3 hp2 e3 hl2 => by
      refine ⟨p, p2, xs, rfl, rfl, .inl ⟨sq_of (e3 _ _ hl), sq_of hl2⟩, ?_⟩
      have hx : xs.isEmpty = (List.range n).all f := by
        have h1 : xs.isEmpty = (kept (fun i => !(f i)) n).isEmpty := by
          have := pl.length
          cases hk : kept (fun i => !(f i)) n <;> cases xs <;> first | rfl | (rw [hk] at this; simp at this)
        rw [h1, kept_nil]
        congr 1
        funext i
        rw [Bool.not_not]
      rw [hx]
      exact q H3 (e2.trans e3)
theorem ev_neNoneW {j : Nat} {vs : List Nat} {n : Nat} {P : Nat → Hp → V → Prop} (f : Nat → Bool) (W : Wk wi σ H n P) (hn : n ≤ 40000) (hw : ∀ x, wipe ((wipe σ vs).set j (some x)) vs = wipe σ vs) (hj : ∀ x, ((wipe σ vs).set j (some x))[j]? = some (some x))
    (ht : ∀ i x H1, i < n → Ex H H1 → P i H1 x → EvT tt ((wipe σ vs).set j (some x)) H1 (!(f i))) : Ev (tOp (rNeNil K) (tLc wi (gName j) tt (tVar j) vs) (tLst tNil)) σ H (.bl (!((List.range n).all f))) := fun H1 e Q q =>
  el_lc (fun i => !(f i)) (fun _ _ _ => True) W hn (fun _ _ _ _ _ _ => trivial)
    (fun i x H2 hi e2 px Z kz => kz _ H2 (Ex.refl _) (hw x) (ht i x H2 hi e2 px) fun _ => evp (ev_var (hj x)) fun _ _ => trivial) H1 e _ fun p xs H2 hp e2 hl pl =>
    (el_lst ea_nil (by simp) : EvL (tLst tNil) σ H2 []) H2 (Ex.refl _) _ fun p2 H3 hp2 e3 hl2 => by
      refine ⟨p, p2, xs, rfl, rfl, .inl ⟨sq_of (e3 _ _ hl), sq_of hl2⟩, ?_⟩
      have hx : xs.isEmpty = (List.range n).all f := by
        have h1 : xs.isEmpty = (kept (fun i => !(f i)) n).isEmpty := by
          have := pl.length
          cases hk : kept (fun i => !(f i)) n <;> cases xs <;> first | rfl | (rw [hk] at this; simp at this)
        rw [h1, kept_nil]
        congr 1
        funext i
        rw [Bool.not_not]
      rw [hx]
      exact q H3 (e2.trans e3)
theorem all_range {ds : List D} {f : D → Bool} {g : Nat → Bool} (h : ∀ i d, ds[i]? = some d → g i = f d) : (List.range ds.length).all g = ds.all f := by
  have := all_range_list (ds := ds) (f := f) (g := g) h
  rw [← this, List.all_map]
  rfl
/-- [x for x in data if not test(x)] == [] -/
theorem ev_noneD {j : Nat} {vs : List Nat} {ds : List D} {f : D → Bool} (W : Wk wi σ H ds.length (fun i H1 x => ∃ d, ds[i]? = some d ∧ Rp K H1 d x)) (hn : ds.length ≤ 40000) (hw : ∀ x, wipe ((wipe σ vs).set j (some x)) vs = wipe σ vs) (hj : ∀ x, ((wipe σ vs).set j (some x))[j]? = some (some x))
    (ht : ∀ d x H1, d ∈ ds → Ex H H1 → Rp K H1 d x → EvT tt ((wipe σ vs).set j (some x)) H1 (!(f d))) : Ev (tOp (rEqNil K) (tLc wi (gName j) tt (tVar j) vs) (tLst tNil)) σ H (.bl (ds.all f)) := by
  have e : ds.all f = (List.range ds.length).all fun i => match ds[i]? with | some d => f d | none => true := (all_range fun i d h => by rw [h]).symm
  rw [e]
  refine ev_noneW _ W hn hw hj fun i x H1 hi e px => ?_
  obtain ⟨d, h1, h2⟩ := px
  show EvT _ _ _ (!(match ds[i]? with | some d => f d | none => true))
  rw [h1]
  exact ht d x H1 (List.mem_of_getElem? h1) e h2
theorem ev_neNoneD {j : Nat} {vs : List Nat} {ds : List D} {f : D → Bool} (W : Wk wi σ H ds.length (fun i H1 x => ∃ d, ds[i]? = some d ∧ Rp K H1 d x)) (hn : ds.length ≤ 40000) (hw : ∀ x, wipe ((wipe σ vs).set j (some x)) vs = wipe σ vs) (hj : ∀ x, ((wipe σ vs).set j (some x))[j]? = some (some x))
    (ht : ∀ d x H1, d ∈ ds → Ex H H1 → Rp K H1 d x → EvT tt ((wipe σ vs).set j (some x)) H1 (!(f d))) : Ev (tOp (rNeNil K) (tLc wi (gName j) tt (tVar j) vs) (tLst tNil)) σ H (.bl (!(ds.all f))) := by
  have e : ds.all f = (List.range ds.length).all fun i => match ds[i]? with | some d => f d | none => true := (all_range fun i d h => by rw [h]).symm
  rw [e]
  refine ev_neNoneW _ W hn hw hj fun i x H1 hi e px => ?_
  obtain ⟨d, h1, h2⟩ := px
  show EvT _ _ _ (!(match ds[i]? with | some d => f d | none => true))
  rw [h1]
  exact ht d x H1 (List.mem_of_getElem? h1) e h2
/-- a tuple == () -/
theorem ev_tupNil {a : Addr} {vs : List V} (ha : Ev ta σ H (.ref a)) (h : H a = some (.tup vs)) : Ev (tOp (rEqNil K) ta (tTup tNil)) σ H (.bl vs.isEmpty) := fun H1 e Q q =>
  ha H1 e _ fun H2 e2 => (eu_tup ea_nil (by simp) : EvU (tTup tNil) σ H2 []) H2 (Ex.refl _) _ fun p2 H3 hp2 e3 hl2 =>
    ⟨a, p2, vs, rfl, rfl, .inr ⟨st_of (((e.trans e2).trans e3) _ _ h), st_of hl2⟩, q H3 (e2.trans e3)⟩
theorem ev_tupNe {a : Addr} {vs : List V} (ha : Ev ta σ H (.ref a)) (h : H a = some (.tup vs)) : Ev (tOp (rNeNil K) ta (tTup tNil)) σ H (.bl (!vs.isEmpty)) := fun H1 e Q q =>
  ha H1 e _ fun H2 e2 => (eu_tup ea_nil (by simp) : EvU (tTup tNil) σ H2 []) H2 (Ex.refl _) _ fun p2 H3 hp2 e3 hl2 =>
    ⟨a, p2, vs, rfl, rfl, .inr ⟨st_of (((e.trans e2).trans e3) _ _ h), st_of hl2⟩, q H3 (e2.trans e3)⟩
end
end K2
/-! The law's is_name, is_arg. -/
namespace K2
open PySem L2 Evl PySem.Spec PyProof.Rows RZ StX
def lW : List Nat := ((sSmall ++ Txt.upper sSmall : Str)).cps.toList
theorem lW_is : lW = lSmall ++ lCap := by decide +kernel
theorem us_is : ("0123456789_" : Str).cps.toList = lDig ++ [95] := by decide +kernel
theorem headC_W (c : Nat) : decide (c ∈ lW) = headC c := by
  rw [lW_is]
  unfold headC
  rw [Bool.eq_iff_iff]
  simp
theorem app_cps (a b : Str) : (a ++ b : Str).cps.toList = a.cps.toList ++ b.cps.toList := TL.tl_append a b
theorem okC_W (c : Nat) : decide (c ∈ ((sSmall ++ Txt.upper sSmall) ++ ("0123456789_" : Str) : Str).cps.toList) = okC c := by
  rw [app_cps, us_is]
  show decide (c ∈ lW ++ _) = _
  rw [lW_is]
  unfold okC
  rw [Bool.eq_iff_iff]
  simp [or_assoc]
section
variable {P : Program} {w : World} {K : PySem.W.Frag} {mg : Str → Option Value} {base : Heap}
def rUpper : V → List V → Hp → VK → Prop := fun x xs H Q => ∃ a, x = .str a ∧ xs = [] ∧ a.length ≤ 5592405 ∧ Q (.str (Txt.upper a)) H
theorem ev_upper {σ : L2.St} {H : Hp} {ta : TE} {a : Str} (ha : Ev ta σ H (.str a)) (hl : a.length ≤ 5592405) : Ev (tM0 rUpper ta) σ H (.str (Txt.upper a)) := fun H1 e Q q =>
  ha H1 e _ fun H2 e2 => ⟨⟨a, rfl⟩, a, rfl, rfl, hl, q H2 e2⟩
def rAddS : R2 := fun x y H Q => ∃ i j : Str, x = .str i ∧ y = .str j ∧ i.length + j.length ≤ sizeLine ∧ Q (.str (i ++ j)) H
theorem op_addS {X : Cx} : OpR X (binaryOp .Add) rAddS := op_add_str
theorem rv_addS {H : Hp} {i j : Str} (h : i.length + j.length ≤ sizeLine) : RV rAddS (.str i) (.str j) H (.str (i ++ j)) := fun H1 _ _ q => ⟨i, j, rfl, rfl, h, q H1 (Ex.refl _)⟩
theorem w_len1 : sSmall.length + (Txt.upper sSmall).length ≤ sizeLine := Nat.le_trans (by decide +kernel : _ ≤ 1000) (by decide)
theorem w_len2 : (sSmall ++ Txt.upper sSmall : Str).length + ("0123456789_" : Str).length ≤ sizeLine := Nat.le_trans (by decide +kernel : _ ≤ 1000) (by decide)
theorem sc47 : FnScope ["_law_thing", "_law_letters", "_law_sign"] ["_law_thing"] (defScope (top 47)) := ⟨rfl, rfl, rfl, by decide +kernel, rfl, by decide +kernel, by decide +kernel⟩
theorem ok_lname (B : Bl mg) (F : Df K mg "_law_is_name" (top 47) ["_law_thing"]) : Okd P w K mg base CX0 1 "_law_is_name" ["_law_thing"] (spB1 K Sm isName) := by
  refine F.ok sc47 (fun vs H Q E h => spB1_len h) (fun f cdv A outer s H vs Q E hr h => ?_)
  obtain ⟨d, v, rfl, r, sm, k⟩ := h
  have hu := hu_of hr
  refine ⟨_, (pss_cons (ps_if (PW.pt (pw_or (pt_not (pt_val (pe_callB call_isi (by rfl) B.isinstance boot_isinstance (pa_cons (pv 0) (pa_cons (pe_bltn (v := .ty "str") (by rfl) B.str boot_str rfl) pa_nil))))) (pw_or1 (pt_not (pt_chain op_le2 op_le2 pe_int (pe_callB call_len_str (by rfl) B.len PySem.boot_len (pa_cons (pv 0) pa_nil)) pe_int))))) (pss_one (ps_ret pe_bl)) pss_nil)
      (pss_cons (ps_set (i := 1) sc47.nd rfl (Or.inr rfl) pe_str)
      (pss_cons (ps_set (i := 1) sc47.nd rfl (Or.inr rfl) (pe_op op_addS (pv 1) (pe_upper (pv 1))))
      (pss_one (ps_ret (pe_and (pe_cmpR op_inS (pe_ix ix_str (pv 0) pe_int (fun _ _ => rfl)) (pv 1) rfl) (pe_one (pe_cmpR (op_eqNil (Nat.lt_of_succ_lt hu)) (pe_lc (own := [("_law_sign", 2)]) (g := gName 2) rfl sc47.nd (pi_str (pv 0)) (blkOk_by (N := ["_law_thing", "_law_letters", "_law_sign"]) (sc := defScope (top 47)) (by decide +kernel)) (fun _ _ _ _ _ => (pg_name (i := 2) sc47.nd rfl (Or.inl rfl))) (fun _ _ _ _ _ => (pts_one (pt_cmpR op_notInS (pv 2) (pe_op op_addS (pv 1) pe_str) rfl))) (fun _ _ _ _ _ => (pv 2))) (pe_lst pa_nil) (nomark _))))))))), ?_⟩
  cases hs : isStr d with
  | false =>
    refine q_when (b := !(isStr d) || true) (et_or (et_not (et_B (ev_isi r (ev_var rfl) (kit_str d)))) (fun ha => by rw [hs] at ha; cases ha)) (fun _ H1 e => s_ret ev_c fun H2 e2 => ?_) (fun hb => by rw [hs] at hb; cases hb)
    rw [← not_name hs]
    exact k H2 (e.trans e2)
  | true =>
    obtain ⟨x, rfl⟩ := str_of hs
    cases r
    have hl : x.length ≤ 39000 := sm.len
    refine q_when (b := false || !(decide ((1 : Int) ≤ x.length) && decide ((x.length : Int) ≤ 20))) (et_or (et_not (et_B (ev_isi (Rp.str x) (ev_var rfl) (kit_str _)))) fun _ => et_not (et_chain ev_c (ev_lenS (ev_var rfl) (by omega)) rv_le (fun _ => ev_c) (fun _ => rv_le))) (fun hb H1 e => ?_) (fun hb H1 e => ?_)
    · refine s_ret ev_c fun H2 e2 => ?_
      have q : isName (.str x) = false := by
        show (lenOk x && headS x && _) = false
        unfold lenOk
        rw [Bool.false_or, Bool.not_eq_true'] at hb
        rw [hb]
        rfl
      rw [← q]
      exact k H2 (e.trans e2)
    · have hb' : lenOk x = true := by
        unfold lenOk
        rw [Bool.false_or, Bool.not_eq_false'] at hb
        exact hb
      obtain ⟨c, hc⟩ := first_of hb'
      have hc' : atI x.cps.toList (0 : Int) = some c := atI_nat (j := 0) hc
      refine q_asg (v := .str sSmall) ev_c fun H2 e2 => ?_
      refine q_asg (ev_op (ev_var rfl) (ev_upper (ev_var rfl) (by decide +kernel)) (rv_addS w_len1)) fun H3 e3 => ?_
      have e03 := (e.trans e2).trans e3
      refine s_ret (v := .bl (isName (.str x))) ?_ fun H4 e4 => k H4 (e03.trans e4)
      have q : isName (.str x) = (headC c && (List.range x.cps.size).all fun i => match x.cps.toList[i]? with | some c => okC c | none => true) := by
        show (lenOk x && headS x && x.cps.toList.all okC) = _
        rw [hb', headS_at hc, Bool.true_and]
        congr 1
        have e1 : (List.range x.cps.size).map (fun i => match x.cps.toList[i]? with | some c => okC c | none => true) = x.cps.toList.map okC := by
          apply List.ext_getElem?
          intro i
          by_cases hi : i < x.cps.size
          · simp [hi]
          · simp [hi]
        have e2 := congrArg (fun l => l.all id) e1
        simp only [List.all_map] at e2
        exact e2.symm
      rw [q]
      refine ev_andV (ev_is (ev_op (ev_op (ev_var rfl) ev_c (rv_ixS (by omega) hc')) (ev_var rfl) rv_inS) (congrArg V.bl (headC_W c))) fun _ => ev_noneW _ (wk_str (ev_var rfl)) (size_le (by omega)) (fun _ => rfl) (fun _ => rfl) fun i y H5 hi e5 py => ?_
      obtain ⟨c', h1, h2⟩ := py
      subst h2
      have h1' : x.cps.toList[i]? = some c' := by simpa using h1
      show EvT _ _ _ (!(match x.cps.toList[i]? with | some c => okC c | none => true))
      rw [h1']
      exact et_is (et_test (ev_op (ev_var rfl) (ev_op (ev_var rfl) ev_c (rv_addS w_len2)) rv_niS)) (congrArg (!·) (okC_W c'))
end
end K2
/-! The law's is_arg, is_handler. -/
namespace K2
open PySem L2 Evl PySem.Spec PyProof.Rows RZ StX
mutual
def dpD : D → Nat
  | .tup l => dpL l + 1
  | _ => 0
def dpL : List D → Nat
  | [] => 0
  | d :: l => max (dpD d) (dpL l)
end
theorem dpL_mem : ∀ {l : List D} {d : D}, d ∈ l → dpD d ≤ dpL l
  | e :: l, d, h => by
    rcases List.mem_cons.mp h with h | h
    · subst h; simp only [dpL]; omega
    · have := dpL_mem h; simp only [dpL]; omega
theorem cut1_cps (s : Str) : (cutS s none (some 1)).cps.toList = s.cps.toList.take 1 := by
  unfold cutS
  have h1 : HT.sIx s.length s.length (some (1 : Int)) = min 1 s.length := HT.sIx_nat _ _ 1
  rw [h1, HT.sIx_none]
  show (((s.cps.toList.drop 0).take (min 1 s.length - 0)).toArray).toList = _
  rw [len_cps]
  cases s.cps.toList with
  | nil => rfl
  | cons c l =>
    have : min 1 (c :: l).length - 0 = 1 := by simp
    rw [this]
    rfl
theorem cut1_at (s : Str) : decide (V.str (cutS s none (some 1)) = V.str "@") = atS s := by
  have e2 : ("@" : Str).cps.toList = [64] := by decide +kernel
  have h : (V.str (cutS s none (some 1)) = V.str "@") ↔ s.cps.toList.take 1 = [64] := by
    rw [← cut1_cps, ← e2]
    exact ⟨fun z => by injection z with z; rw [z], fun z => by rw [ext_cps z]⟩
  rw [Bool.eq_iff_iff, decide_eq_true_iff, h]
  unfold atS
  obtain ⟨l, hl⟩ : ∃ l, l = s.cps.toList := ⟨_, rfl⟩
  rw [← hl]
  cases l with
  | nil => simp
  | cons c l => simp
def spArgN (K : PySem.W.Frag) (n : Nat) : Sp := spB1 K (fun d => Sm d ∧ dpD d < n) isArg
theorem leaf_arg {d : D} (h : isTup d = false) : isArg d = argLeaf d := allLv_leaf _ h
section
variable {P : Program} {w : World} {K : PySem.W.Frag} {mg : Str → Option Value} {base : Heap}
theorem ok_none {nm : Str} {st : Stmt} {ps : List Str} (F : Df K mg nm st ps) {sp : Sp} (hsp : ∀ vs H Q E, ¬ sp vs H Q E) {k : Nat} : Okd P w K mg base CX0 k nm ps sp := by
  obtain ⟨f, fd, h1, h2, h3⟩ := F.ex
  exact ⟨f, fd, h1, h3.kp, h2, ⟨fun vs H Q E h => absurd h (hsp vs H Q E), fun A outer s H args us vs Q E _ _ _ _ h => absurd h (hsp vs H Q E)⟩⟩
theorem sc48 : FnScope ["_law_thing", "_law_part"] ["_law_thing"] (defScope (top 48)) := ⟨rfl, rfl, rfl, by decide +kernel, rfl, by decide +kernel, by decide +kernel⟩
theorem larg_step (B : Bl mg) (F : Df K mg "_law_is_arg" (top 48) ["_law_thing"]) (O1 : Okd P w K mg base CX0 1 "_law_is_name" ["_law_thing"] (spB1 K Sm isName)) {n : Nat} (O : Okd P w K mg base CX0 (n + 1) "_law_is_arg" ["_law_thing"] (spArgN K n)) :
    Okd P w K mg base CX0 (n + 2) "_law_is_arg" ["_law_thing"] (spArgN K (n + 1)) := by
  refine F.ok sc48 (fun vs H Q E h => spB1_len h) (fun f cdv A outer s H vs Q E hr h => ?_)
  obtain ⟨d, v, rfl, r, ⟨sm, dp⟩, k⟩ := h
  obtain ⟨f__law_is_name, d__law_is_name, m__law_is_name, k__law_is_name, b__law_is_name, G__law_is_name⟩ := O1.ex
  obtain ⟨f__law_is_arg, d__law_is_arg, m__law_is_arg, k__law_is_arg, b__law_is_arg, G__law_is_arg⟩ := O.ex
  have hu := hu_of hr
  refine ⟨_, (pss_cons (ps_if (pt_val (pe_callB call_isi (by rfl) B.isinstance boot_isinstance (pa_cons (pv 0) (pa_cons (pe_bltn (v := .ty "tuple") (by rfl) B.tuple boot_tuple rfl) pa_nil)))) (pss_one (ps_ret (pe_cmpR (op_eqNil (Nat.lt_of_succ_lt hu)) (pe_lc (own := [("_law_part", 1)]) (g := gName 1) rfl sc48.nd (pi_tup (pv 0)) (blkOk_by (N := ["_law_thing", "_law_part"]) (sc := defScope (top 48)) (by decide +kernel)) (fun _ _ _ _ _ => (pg_name (i := 1) sc48.nd rfl (Or.inl rfl))) (fun _ _ _ _ _ => (pts_one (pt_not (pt_val (pe_call G__law_is_arg (hr.mono (by first | decide | omega)) (by rfl) m__law_is_arg k__law_is_arg b__law_is_arg .nil pass0 (pa_cons (pv 1) pa_nil)))))) (fun _ _ _ _ _ => (pv 1))) (pe_lst pa_nil) (nomark _)))) pss_nil)
      (pss_cons (ps_if (pt_val (pe_callB call_isi (by rfl) B.isinstance boot_isinstance (pa_cons (pv 0) (pa_cons (pe_bltn (v := .ty "str") (by rfl) B.str boot_str rfl) pa_nil)))) (pss_one (ps_ret (pe_or (pe_cmpR op_ne (pe_slice sl_str (pv 0) po_none (po_some pe_int)) pe_str (nomark _)) (pe_one (pe_call G__law_is_name (hr.mono (by first | decide | omega)) (by rfl) m__law_is_name k__law_is_name b__law_is_name .nil pass0 (pa_cons (pe_slice sl_str (pv 0) (po_some pe_int) po_none) pa_nil)))))) pss_nil)
      (pss_one (ps_ret (pe_or (pe_cmpR op_isN1 (pv 0) pe_non (nomark _)) (pe_one (pe_callB call_isi (by rfl) B.isinstance boot_isinstance (pa_cons (pv 0) (pa_cons (pe_bltn (v := .ty "int") (by rfl) B.int boot_int rfl) pa_nil))))))))), ?_⟩
  refine q_when (et_B (ev_isi r (ev_var rfl) (kit_tup d))) (fun ht H1 e => ?_) (fun ht H1 e => ?_)
  · cases r with
    | tup ha rs =>
      rename_i a vs ds
      have ha1 := e _ _ ha
      have dp' : dpL ds < n := by
        have : dpL ds + 1 < n + 1 := dp
        omega
      refine s_ret (v := .bl (isArg (.tup ds))) ?_ fun H2 e2 => k H2 (e.trans e2)
      have q : isArg (.tup ds) = ds.all isArg := by
        show allLs argLeaf ds = _
        rw [allLs_eq]
        rfl
      rw [q]
      refine ev_noneD (wk_tup (ev_var rfl) ha1 (rs.mono e)) (by have := sm.tlen; omega) (fun _ => rfl) (fun _ => rfl) fun d x H2 hd e2 rx => et_not (et_B (ev_call (ea_cons (ev_var rfl) ea_nil) (spB1_v rx ⟨?_, ?_⟩)))
      · obtain ⟨i, hi⟩ := List.getElem?_of_mem hd
        exact sm.item hi
      · exact Nat.lt_of_le_of_lt (dpL_mem hd) dp'
    | _ => cases ht
  · have hle := leaf_arg ht
    refine q_when (et_B (ev_isi (r.mono e) (ev_var rfl) (kit_str d))) (fun hs H2 e2 => ?_) (fun hs H2 e2 => ?_)
    · obtain ⟨x, rfl⟩ := str_of hs
      cases r
      have hl : x.length ≤ 39000 := sm.len
      have htl := tail_len x
      refine s_ret (v := .bl (isArg (.str x))) ?_ fun H3 e3 => k H3 ((e.trans e2).trans e3)
      rw [hle]
      refine ev_orV (ev_is (ev_op (ev_slS (ev_var rfl) eo_none (eo_some ev_c) (by omega)) ev_c (rv_ne rfl)) (congrArg (fun b => V.bl (!b)) (cut1_at x))) fun _ => ev_call (ea_cons (ev_slS (ev_var rfl) (eo_some ev_c) eo_none (by omega)) ea_nil) (spB1_v (Rp.str (tailS x)) ?_)
      show (tailS x).length + 1 ≤ 39000
      have h2 : x.length + 1 ≤ 39000 := sm
      omega
    · refine s_ret (v := .bl (isArg d)) ?_ fun H3 e3 => k H3 ((e.trans e2).trans e3)
      rw [hle]
      have q : argLeaf d = (isNoneD d || isIn d) := by
        cases d <;> first | rfl | cases hs | cases ht
      rw [q]
      exact ev_orV (ev_is (ev_op (ev_var rfl) ev_c rv_isN) (congrArg V.bl r.isN)) fun _ => ev_isi ((r.mono e).mono e2) (ev_var rfl) (kit_in d)
theorem ok_larg (B : Bl mg) (F : Df K mg "_law_is_arg" (top 48) ["_law_thing"]) (O1 : Okd P w K mg base CX0 1 "_law_is_name" ["_law_thing"] (spB1 K Sm isName)) : ∀ n, Okd P w K mg base CX0 (n + 1) "_law_is_arg" ["_law_thing"] (spArgN K n)
  | 0 => ok_none F (fun vs H Q E h => by obtain ⟨d, v, _, _, ⟨_, h⟩, _⟩ := h; exact absurd h (Nat.not_lt_zero _)) 
  | n + 1 => larg_step B F O1 (ok_larg B F O1 n)
end
end K2
/-! The law's is_call: the mathematics. -/
namespace K2
open PySem L2 Evl PySem.Spec PyProof.Rows RZ StX
def firstL : List Str := ["soon", "handler"]
def laterL : List Str := ["later", "at", "reader", "on_done", "off_done", "wait_until"]
theorem tb_ar1 : (tbL.all fun p => decide (arL.lookup p.1 = some p.2)) = true := by decide +kernel
theorem tb_ar2 : (arL.all fun p => p.1 == "fault" || p.1 == "call" || (tbL.lookup p.1).isSome) = true := by decide +kernel
theorem tb_ar {op : Str} (h1 : op ≠ "fault") (h2 : op ≠ "call") : tbL.lookup op = arity op := by
  cases h : tbL.lookup op with
  | some p =>
    have := List.all_eq_true.mp tb_ar1 _ (lookup_mem h)
    exact (of_decide_eq_true this).symm
  | none =>
    cases h3 : arity op with
    | none => rfl
    | some q =>
      have := List.all_eq_true.mp tb_ar2 _ (lookup_mem h3)
      simp only [Bool.or_eq_true, beq_iff_eq] at this
      rcases this with (h4 | h4) | h4
      · exact absurd h4 h1
      · exact absurd h4 h2
      · rw [h] at h4; cases h4
def routL (op : Str) : Option Int := if inStrs firstL op then some 1 else if inStrs laterL op then some 2 else none
theorem rout1 : (roL.all fun p => p.1 == "call" || decide (routL p.1 = some p.2)) = true := by decide +kernel
theorem rout2 : ((firstL ++ laterL).all fun x => (roL.lookup x).isSome) = true := by decide +kernel
theorem rout_is {op : Str} (h : op ≠ "call") : routAt op = routL op := by
  cases h1 : routAt op with
  | some k =>
    have := List.all_eq_true.mp rout1 _ (lookup_mem h1)
    simp only [Bool.or_eq_true, beq_iff_eq, decide_eq_true_eq] at this
    rcases this with h2 | h2
    · exact absurd h2 h
    · exact h2.symm
  | none =>
    have key : ∀ l : List Str, (∀ x ∈ l, x ∈ firstL ++ laterL) → inStrs l op = false := by
      intro l hl
      cases h3 : inStrs l op with
      | false => rfl
      | true =>
        unfold inStrs at h3
        obtain ⟨y, hy, he⟩ := List.any_eq_true.mp h3
        have he' : y = op := by simpa using he
        subst he'
        have := List.all_eq_true.mp rout2 y (hl y hy)
        have h1' : roL.lookup y = none := h1
        rw [h1'] at this
        cases this
    unfold routL
    rw [key firstL (fun x hx => List.mem_append_left _ hx), key laterL (fun x hx => List.mem_append_right _ hx)]
    rfl
theorem ar_fault : arity "fault" = some (1, 1000000000) := by decide +kernel
theorem ar_call : arity "call" = some (1, 1000000000) := by decide +kernel
theorem ro_call : routAt "call" = some 1 := by decide +kernel
def firstOk (f : D → Bool) : List D → Bool
  | a :: _ => f a
  | [] => false
theorem call_fault {rt : Rt} {args : List D} (ha : args.all isArg = true) (hl : args.length ≤ 39000) : callOk rt "fault" args = firstOk faultOk args := by
  unfold callOk
  rw [ar_fault]
  show ((decide ((1 : Int) ≤ (args.length : Nat)) && decide (((args.length : Nat) : Int) ≤ 1000000000) && args.all isArg) && tailOk rt "fault" args) = _
  rw [ha]
  cases args with
  | nil => rfl
  | cons a l =>
    have h1 : decide ((1 : Int) ≤ ((a :: l).length : Nat)) = true := decide_eq_true (by simp only [List.length_cons]; omega)
    have h2 : decide ((((a :: l).length : Nat) : Int) ≤ 1000000000) = true := decide_eq_true (by omega)
    rw [h1, h2]
    rfl
theorem call_call {rt : Rt} {args : List D} (ha : args.all isArg = true) (hl : args.length ≤ 39000) : callOk rt "call" args = firstOk (fun a => match a with | .str w => knw rt w | _ => false) args := by
  unfold callOk
  rw [ar_call]
  show ((decide ((1 : Int) ≤ (args.length : Nat)) && decide (((args.length : Nat) : Int) ≤ 1000000000) && args.all isArg) && tailOk rt "call" args) = _
  rw [ha]
  cases args with
  | nil => rfl
  | cons a l =>
    have h1 : decide ((1 : Int) ≤ ((a :: l).length : Nat)) = true := decide_eq_true (by simp only [List.length_cons]; omega)
    have h2 : decide ((((a :: l).length : Nat) : Int) ≤ 1000000000) = true := decide_eq_true (by omega)
    rw [h1, h2]
    show (true && tailOk rt "call" (a :: l)) = _
    unfold tailOk
    rw [if_neg (by decide +kernel), ro_call]
    rfl
def tailL (rt : Rt) (op : Str) (args : List D) : Bool :=
  if inStrs (firstL ++ laterL) op then (match args[if inStrs laterL op then 1 else 0]? with | some a => named rt op a | none => false) else true
theorem fl_dis : (laterL.all fun x => !(inStrs firstL x)) = true := by decide +kernel
theorem inStrs_app (a b : List Str) (s : Str) : inStrs (a ++ b) s = (inStrs a s || inStrs b s) := by unfold inStrs; rw [List.any_append]
theorem call_other {rt : Rt} {op : Str} {args : List D} (h1 : op ≠ "fault") (h2 : op ≠ "call") (ha : args.all isArg = true) :
    callOk rt op args = match tbL.lookup op with | none => false | some (lo, hi) => (decide (lo ≤ ((args.length : Nat) : Int)) && decide (((args.length : Nat) : Int) ≤ hi)) && tailL rt op args := by
  unfold callOk
  rw [tb_ar h1 h2]
  cases arity op with
  | none => rfl
  | some p =>
    obtain ⟨lo, hi⟩ := p
    show ((decide (lo ≤ ((args.length : Nat) : Int)) && decide (((args.length : Nat) : Int) ≤ hi) && args.all isArg) && tailOk rt op args) = _
    rw [ha, Bool.and_true]
    congr 1
    unfold tailOk tailL
    rw [if_neg h1, rout_is h2]
    unfold routL
    rw [inStrs_app]
    cases hf : inStrs firstL op with
    | true =>
      have hl : inStrs laterL op = false := by
        cases hl : inStrs laterL op with
        | false => rfl
        | true =>
          unfold inStrs at hl
          obtain ⟨y, hy, he⟩ := List.any_eq_true.mp hl
          have he' : y = op := by simpa using he
          subst he'
          have := List.all_eq_true.mp fl_dis y hy
          rw [hf] at this
          cases this
      rw [hl]
      rfl
    | false =>
      cases hl : inStrs laterL op with
      | true => rfl
      | false => rfl
theorem barred_is : barredL = (["Exception", "BaseException", "ExceptionGroup", "BaseExceptionGroup", "GeneratorExit"] : List Str) ++ (["StopIteration", "StopAsyncIteration"] : List Str) := by decide +kernel
/-- what kind the law gives a routine -/
def kindOf : D → Str
  | .tup [.str k, _, _] => k
  | _ => ""
def KKd (rt : Rt) (kvs : List (Key × V)) : Prop := Paired (fun (p : Str × D) (q : Key × V) => q.1 = Sum.inr p.1 ∧ q.2 = .str (kindOf p.2)) rt kvs
def IsKd (H : Hp) (rt : Rt) (v : V) : Prop := ∃ a kvs, v = .ref a ∧ Rd H a (.dK kvs) ∧ KKd rt kvs
theorem IsKd.mono {H H' : Hp} (e : Ex H H') {rt : Rt} {v : V} (h : IsKd H rt v) : IsKd H' rt v := by
  obtain ⟨a, kvs, h1, h2, h3⟩ := h
  exact ⟨a, kvs, h1, ex_rd e h2, h3⟩
theorem KKd.val (w : Str) : ∀ {rt : Rt} {kvs : List (Key × V)}, KKd rt kvs → valV kvs (Sum.inr w : Key) = (rt.lookup w).map fun d => V.str (kindOf d)
  | _, _, .nil => rfl
  | (w', d) :: rt, (k, v) :: kvs, .cons h t => by
    obtain ⟨h1, h2⟩ := h
    have h1' : k = Sum.inr w' := h1
    have h2' : v = .str (kindOf d) := h2
    subst h1'
    subst h2'
    by_cases e : w = w'
    · subst e
      rw [valV_pos (p := ((Sum.inr w : Key), V.str (kindOf d))) rfl]
      simp [List.lookup]
    · have ih := KKd.val w t
      have e1 : List.lookup w ((w', d) :: rt) = List.lookup w rt := by
        have : (w == w') = false := beq_eq_false_iff_ne.mpr e
        simp [List.lookup, this]
      rw [valV_neg (p := ((Sum.inr w' : Key), V.str (kindOf d))) fun z => e (Sum.inr.inj z).symm, e1]
      exact ih
theorem kind_plain (d : D) : decide (kindOf d = "plain") = kPlain d := by
  unfold kindOf kPlain
  split
  · rfl
  · rename_i hne
    have : ("" : Str) ≠ "plain" := by decide +kernel
    rw [decide_eq_false this]
    first
    | done
    | (split
       · exact absurd rfl (hne _ _ _)
       · rfl)
end K2
/-! The law's is_call. -/
namespace K2
open PySem L2 Evl PySem.Spec PyProof.Rows RZ StX
def spLCall (K : PySem.W.Frag) (n : Nat) : Sp := fun vs H Q _ => ∃ d v rt z, vs = [v, z] ∧ Rp K H d v ∧ Sm d ∧ dpD d ≤ n ∧ IsKd H rt z ∧ RetV (.bl (isCallD rt d)) H Q
section
variable {K : PySem.W.Frag} {σ : L2.St} {H : Hp} {ta tb td ty te : TE} {tz : TS} {Dd : Ends}
theorem el_cat {xs ys : List V} (ha : EvL ta σ H xs) (hb : EvL tb σ H ys) (hz : xs.length + ys.length ≤ 100000) : EvL (tOp rCat ta tb) σ H (xs ++ ys) := fun H1 e Q q =>
  ha H1 e _ fun p H2 np e2 hp => hb H2 (e.trans e2) _ fun p2 H3 np2 e3 hp2 => ⟨p, p2, xs, ys, rfl, rfl, e3 _ _ hp, hp2, sz_of hz, fun p3 hp3 => q p3 _ (fresh_back (e2.trans e3) hp3) ((e2.trans e3).trans (Ex.new hp3)) upd_same⟩
theorem el_catV {a : Addr} {xs ys : List V} (ha : Ev ta σ H (.ref a)) (h : H a = some (.lst xs)) (hb : EvL tb σ H ys) (hz : xs.length + ys.length ≤ 100000) : EvL (tOp rCat ta tb) σ H (xs ++ ys) := fun H1 e Q q =>
  ha H1 e _ fun H2 e2 => hb H2 (e.trans e2) _ fun p2 H3 np2 e3 hp2 => ⟨a, p2, xs, ys, rfl, rfl, ((e.trans e2).trans e3) _ _ h, hp2, sz_of hz, fun p3 hp3 => q p3 _ (fresh_back (e2.trans e3) hp3) ((e2.trans e3).trans (Ex.new hp3)) upd_same⟩
theorem el_catVV {a b : Addr} {xs ys : List V} (ha : Ev ta σ H (.ref a)) (h : H a = some (.lst xs)) (hb : Ev tb σ H (.ref b)) (h2 : H b = some (.lst ys)) (hz : xs.length + ys.length ≤ 100000) : EvL (tOp rCat ta tb) σ H (xs ++ ys) := fun H1 e Q q =>
  ha H1 e _ fun H2 e2 => hb H2 (e.trans e2) _ fun H3 e3 => ⟨a, b, xs, ys, rfl, rfl, ((e.trans e2).trans e3) _ _ h, ((e.trans e2).trans e3) _ _ h2, sz_of hz, fun p3 hp3 => q p3 _ (fresh_back (e2.trans e3) hp3) ((e2.trans e3).trans (Ex.new hp3)) upd_same⟩
theorem ev_get {z : V} {rt : Rt} {x : Str} (hd : Ev td σ H z) (hk : IsKd H rt z) (hy : Ev ty σ H (.str x)) : Ev (tDGet1 td ty) σ H (((rt.lookup x).map fun d => V.str (kindOf d)).getD .non) := fun H1 e Q q => by
  obtain ⟨a, kvs, rfl, hr, kk⟩ := hk
  refine hd H1 e _ fun H2 e2 => ⟨a, rfl, .inl ⟨kvs, ex_rd (e.trans e2) hr⟩, hy H2 (e.trans e2) _ fun H3 e3 => ⟨_, .inl ⟨kvs, Sum.inr x, ex_rd ((e.trans e2).trans e3) hr, rfl, rfl⟩, ?_⟩⟩
  rw [kk.val x]
  exact q H3 (e2.trans e3)
theorem ev_inKd {z : V} {rt : Rt} {x : Str} (hy : Ev ty σ H (.str x)) (hd : Ev td σ H z) (hk : IsKd H rt z) : Ev (tDIn ty td) σ H (.bl (knw rt x)) := by
  obtain ⟨a, kvs, rfl, hr, kk⟩ := hk
  refine ev_is (ev_din hy hd hr) ?_
  rw [kk.val x]
  unfold knw
  cases rt.lookup x <;> rfl
/-- the row of the table -/
theorem q_table {i : Nat} (k : ∀ p H1 kvs, H p = none → Ex H H1 → H1 p = some (.dK kvs) → TbR H1 tbL kvs → tz Dd (σ.set i (some (.ref p))) H1) : tSeq (tAsg (tCall spTable [] E0 tNil) (gName i)) tz Dd σ H :=
  ⟨rfl, fun p H1 kvs hp e h1 h2 => k p H1 kvs hp e h1 h2⟩
end
theorem plain_lookup {rt : Rt} {x : Str} : decide (((rt.lookup x).map fun d => V.str (kindOf d)).getD V.non = V.str "plain") = plr rt x := by
  unfold plr
  cases rt.lookup x with
  | none => rfl
  | some d =>
    show decide (V.str (kindOf d) = V.str "plain") = kPlain d
    rw [decV_str, kind_plain]
section
variable {P : Program} {w : World} {K : PySem.W.Frag} {mg : Str → Option Value} {base : Heap}
theorem sc49 : FnScope ["_law_thing", "_law_kinds", "_law_table_here", "_law_first", "_law_later", "_law_named", "_law_word", "_law_parts", "_law_barred", "_law_part"] ["_law_thing", "_law_kinds"] (defScope (top 49)) := ⟨rfl, rfl, rfl, by decide +kernel, rfl, by decide +kernel, by decide +kernel⟩
theorem ok_lcall (B : Bl mg) {n : Nat} (F : Df K mg "_law_is_call" (top 49) ["_law_thing", "_law_kinds"]) (O1 : Okd P w K mg base CX0 1 "_law_is_name" ["_law_thing"] (spB1 K Sm isName)) (O2 : Okd P w K mg base CX0 (n + 1) "_law_is_arg" ["_law_thing"] (spArgN K n)) (O3 : Okd P w K mg base CX0 1 "_law_table" [] spTable) :
    Okd P w K mg base CX0 (n + 2) "_law_is_call" ["_law_thing", "_law_kinds"] (spLCall K n) := by
  refine F.ok sc49 (fun vs H Q E h => by obtain ⟨d, v, rt, z, rfl, _⟩ := h; rfl) (fun f cdv A outer s H vs Q E hr h => ?_)
  obtain ⟨d, v, rt, z, rfl, r, sm, dp, hz, k⟩ := h
  obtain ⟨f__law_is_name, d__law_is_name, m__law_is_name, k__law_is_name, b__law_is_name, G__law_is_name⟩ := O1.ex
  obtain ⟨f__law_is_arg, d__law_is_arg, m__law_is_arg, k__law_is_arg, b__law_is_arg, G__law_is_arg⟩ := O2.ex
  obtain ⟨f__law_table, d__law_table, m__law_table, k__law_table, b__law_table, G__law_table⟩ := O3.ex
  have hu := hu_of hr
  refine ⟨_, (pss_cons (ps_if (PW.pt (pw_or (pt_not (pt_val (pe_callB call_isi (by rfl) B.isinstance boot_isinstance (pa_cons (pv 0) (pa_cons (pe_bltn (v := .ty "tuple") (by rfl) B.tuple boot_tuple rfl) pa_nil))))) (pw_or (pt_cmpR (op_eqNil (Nat.lt_of_succ_lt hu)) (pv 0) (pe_tup pa_nil) (nomark _)) (pw_or1 (pt_not (pt_val (pe_callB call_isi (by rfl) B.isinstance boot_isinstance (pa_cons (pe_ix ix_tup (pv 0) pe_int (fun _ _ => rfl)) (pa_cons (pe_bltn (v := .ty "str") (by rfl) B.str boot_str rfl) pa_nil))))))))) (pss_one (ps_ret pe_bl)) pss_nil)
      (pss_cons (ps_par (i := 6) (j := 7) (by rfl) sc49.nd rfl rfl (by decide) rfl rfl (pa_cons (pe_ix ix_tup (pv 0) pe_int (fun _ _ => rfl)) (pa_cons (pe_slice sl_tup (pv 0) (po_some pe_int) po_none) pa_nil)) (by rfl))
      (pss_cons (ps_if (pt_cmpR (op_neNil (Nat.lt_of_succ_lt hu)) (pe_lc (own := [("_law_part", 9)]) (g := gName 9) rfl sc49.nd (pi_tup (pv 7)) (blkOk_by (N := ["_law_thing", "_law_kinds", "_law_table_here", "_law_first", "_law_later", "_law_named", "_law_word", "_law_parts", "_law_barred", "_law_part"]) (sc := defScope (top 49)) (by decide +kernel)) (fun _ _ _ _ _ => (pg_name (i := 9) sc49.nd rfl (Or.inl rfl))) (fun _ _ _ _ _ => (pts_one (pt_not (pt_val (pe_call G__law_is_arg (hr.mono (by first | decide | omega)) (by rfl) m__law_is_arg k__law_is_arg b__law_is_arg .nil pass0 (pa_cons (pv 9) pa_nil)))))) (fun _ _ _ _ _ => (pv 9))) (pe_lst pa_nil) (nomark _)) (pss_one (ps_ret pe_bl)) pss_nil)
      (pss_cons (ps_if (pt_cmpR op_eq (pv 6) pe_str (nomark _)) (pss_cons (ps_set (i := 8) sc49.nd rfl (Or.inl rfl) (pe_lst (pa_cons pe_str (pa_cons pe_str (pa_cons pe_str (pa_cons pe_str (pa_cons pe_str pa_nil)))))))
      (pss_cons (ps_set (i := 8) sc49.nd rfl (Or.inl rfl) (pe_op op_cat (pv 8) (pe_lst (pa_cons pe_str (pa_cons pe_str pa_nil)))))
      (pss_one (ps_ret (pe_and (pe_cmpR (op_neNil (Nat.lt_of_succ_lt hu)) (pv 7) (pe_tup pa_nil) (nomark _)) (pe_and (pe_call G__law_is_name (hr.mono (by first | decide | omega)) (by rfl) m__law_is_name k__law_is_name b__law_is_name .nil pass0 (pa_cons (pe_ix ix_tup (pv 7) pe_int (fun _ _ => rfl)) pa_nil)) (pe_one (pe_cmpR op_notIn_seq (pe_ix ix_tup (pv 7) pe_int (fun _ _ => rfl)) (pv 8) rfl)))))))) pss_nil)
      (pss_cons (ps_if (pt_cmpR op_eq (pv 6) pe_str (nomark _)) (pss_one (ps_ret (pe_and (pe_cmpR (op_neNil (Nat.lt_of_succ_lt hu)) (pv 7) (pe_tup pa_nil) (nomark _)) (pe_and (pe_callB call_isi (by rfl) B.isinstance boot_isinstance (pa_cons (pe_ix ix_tup (pv 7) pe_int (fun _ _ => rfl)) (pa_cons (pe_bltn (v := .ty "str") (by rfl) B.str boot_str rfl) pa_nil))) (pe_one (pe_cmp (pc_din hu (pe_ix ix_tup (pv 7) pe_int (fun _ _ => rfl)) (pv 1)))))))) pss_nil)
      (pss_cons (ps_set (i := 2) sc49.nd rfl (Or.inl rfl) (pe_call0 G__law_table (hr.mono (by omega)) (by rfl) m__law_table k__law_table b__law_table .nil pass0))
      (pss_cons (ps_if (PW.pt (pw_or (pt_cmp (pc_dnotin hu (pv 6) (pv 2))) (pw_or1 (pt_not (pt_chain op_le2 op_le2 (pe_ix ix_tup (pe_dget hu (pv 2) (pv 6) (fun _ _ => rfl)) pe_int (fun _ _ => rfl)) (pe_callB call_lenQ (by rfl) B.len PySem.boot_len (pa_cons (pv 7) pa_nil)) (pe_ix ix_tup (pe_dget hu (pv 2) (pv 6) (fun _ _ => rfl)) pe_int (fun _ _ => rfl))))))) (pss_one (ps_ret pe_bl)) pss_nil)
      (pss_cons (ps_set (i := 3) sc49.nd rfl (Or.inl rfl) (pe_lst (pa_cons pe_str (pa_cons pe_str pa_nil))))
      (pss_cons (ps_set (i := 4) sc49.nd rfl (Or.inl rfl) (pe_lst (pa_cons pe_str (pa_cons pe_str (pa_cons pe_str (pa_cons pe_str (pa_cons pe_str (pa_cons pe_str pa_nil))))))))
      (pss_cons (ps_if (PW.pt (pw_or (pt_cmpR op_notIn_seq (pv 6) (pe_op op_cat (pv 3) (pv 4)) rfl) (pw_or1 (PW.pt (pw_and (pt_cmpR op_eq (pv 6) pe_str (nomark _)) (pw_and1 (pt_cmpR op_isN1 (pe_ix ix_tup (pv 7) pe_int (fun _ _ => rfl)) pe_non (nomark _)))))))) (pss_one (ps_ret pe_bl)) pss_nil)
      (pss_cons (ps_set (i := 5) sc49.nd rfl (Or.inl rfl) (pe_ix ix_tup (pv 7) (pe_callTy call_i1 (by rfl) B.int boot_int (pa_cons (pe_cmpR op_in_seq (pv 6) (pv 4) rfl) pa_nil)) (fun _ _ => rfl)))
      (pss_one (ps_ret (pe_and (pe_callB call_isi (by rfl) B.isinstance boot_isinstance (pa_cons (pv 5) (pa_cons (pe_bltn (v := .ty "str") (by rfl) B.str boot_str rfl) pa_nil))) (pe_one (pe_cmpR op_eq (pe_dget1 hu (pv 1) (pv 5) ⟨rfl, rfl, rfl, rfl⟩) pe_str (nomark _))))))))))))))))), ?_⟩
  cases hs : isTup d with
  | false =>
    have q : isCallD rt d = false := by cases d <;> first | rfl | cases hs
    refine q_when (b := !(isTup d) || true) (et_or (et_not (et_B (ev_isi r (ev_var rfl) (kit_tup d)))) (fun ha => by rw [hs] at ha; cases ha)) (fun _ H1 e => s_ret ev_c fun H2 e2 => ?_) (fun hb => by rw [hs] at hb; cases hb)
    rw [← q]
    exact k H2 (e.trans e2)
  | true =>
    cases r with
    | tup ha rs =>
      rename_i a vs ds
      have hlen : ds.length ≤ 39000 := sm.tlen
      cases ds with
      | nil =>
        cases rs
        refine q_when (b := true) (et_is (et_or (et_not (et_B (ev_isi (Rp.tup ha .nil) (ev_var rfl) (kit_tup _)))) (fun _ => et_or (b := false) (et_test (ev_tupNil (ev_var rfl) ha)) (fun z => nomatch z))) rfl) (fun _ H1 e => s_ret ev_c fun H2 e2 => k H2 (e.trans e2)) (fun hb => nomatch hb)
      | cons d0 parts =>
        obtain ⟨v0, g0, r0⟩ := rs.get (i := 0) (d := d0) rfl
        have hne : vs.isEmpty = false := by rw [rs.empty]; rfl
        have i0 : ∀ {σ : L2.St} {H1 : Hp}, σ[0]? = some (some (.ref a)) → Ex H H1 → Ev (tOp (rIxT K) (tVar 0) (tC (.int 0))) σ H1 v0 := fun hσ e => ev_op (ev_var hσ) ev_c (rv_ixT (st_of (e _ _ ha)) (atI_nat (j := 0) g0))
        refine q_when (b := !(isStr d0)) (et_is (et_or (et_not (et_B (ev_isi (Rp.tup ha rs) (ev_var rfl) (kit_tup _)))) (fun _ => et_or (et_test (ev_tupNil (ev_var rfl) ha)) (fun _ => et_not (et_B (ev_isi r0 (i0 rfl (Ex.refl _)) (kit_str d0)))))) (by rw [hne]; rfl)) (fun hb H1 e => s_ret ev_c fun H2 e2 => ?_) (fun hb H1 e1 => ?_)
        · have q : isCallD rt (.tup (d0 :: parts)) = false := by
            rw [Bool.not_eq_true'] at hb
            cases d0 <;> first | rfl | cases hb
          rw [← q]
          exact k H2 (e.trans e2)
        · rw [Bool.not_eq_false'] at hb
          obtain ⟨word, rfl⟩ := str_of hb
          cases r0
          have ha1 := e1 _ _ ha
          have rs1 := rs.mono e1
          have q0 : isCallD rt (.tup (.str word :: parts)) = callOk rt word parts := rfl
          rw [q0] at k
          refine i0 rfl e1 H1 (Ex.refl _) _ fun H2 e2 => evp_sl1 (ev_var rfl) ha1 rs1 (by simp) H2 e2 _ fun pv H3 e3 rp => ⟨_, _, rfl, ?_⟩
          have e03 := (e1.trans e2).trans e3
          have rp' : Rp K H3 (.tup parts) pv := rp
          cases rp' with
          | tup hp rps =>
            rename_i pa pvs
            have spm : ∀ e ∈ parts, Sm e := fun e he => by
              obtain ⟨i, hi⟩ := List.getElem?_of_mem he
              exact sm.item (i := i + 1) (by simpa using hi)
            have dpm : ∀ e ∈ parts, dpD e < n := fun e he => by
              have h1 : dpD e ≤ dpL (.str word :: parts) := dpL_mem (List.mem_cons_of_mem _ he)
              have h2 : dpL (.str word :: parts) + 1 ≤ n := dp
              omega
            have plen : parts.length ≤ 39000 := by
              simp only [List.length_cons] at hlen
              omega
            refine q_when (et_test (ev_neNoneD (wk_tup (ev_var rfl) hp rps) (by omega) (fun _ => rfl) (fun _ => rfl) fun d x H4 hd e4 rx => et_not (et_B (ev_call (ea_cons (ev_var rfl) ea_nil) (spB1_v rx ⟨spm d hd, dpm d hd⟩))))) (fun hb H4 e4 => s_ret ev_c fun H5 e5 => ?_) (fun hb H4 e4 => ?_)
            · have q : callOk rt word parts = false := by
                rw [Bool.not_eq_true'] at hb
                unfold callOk
                split
                · rfl
                · rw [hb, Bool.and_false]
                  rfl
              rw [← q]
              exact k H5 ((e03.trans e4).trans e5)
            · rw [Bool.not_eq_false'] at hb
              have hall : parts.all isArg = true := hb
              have e04 := e03.trans e4
              have hp4 := e4 _ _ hp
              have rp4 := rps.mono e4
              refine q_when (et_eqS (K := K) (ev_var rfl)) (fun hw H5 e5 => ?_) (fun hw H5 e5 => ?_)
              · have hw' : word = "fault" := of_decide_eq_true hw
                subst hw'
                rw [call_fault hall plen] at k
                have hp5 := e5 _ _ hp4
                have rp5 := rp4.mono e5
                refine q_asgL (xs := (["Exception", "BaseException", "ExceptionGroup", "BaseExceptionGroup", "GeneratorExit"] : List Str).map V.str) (el_lst (ea_cons ev_c (ea_cons ev_c (ea_cons ev_c (ea_cons ev_c (ea_cons ev_c ea_nil))))) (by simp)) fun l1 H6 nl1 e6 hl1 => ?_
                refine q_asgL (el_catV (ys := (["StopIteration", "StopAsyncIteration"] : List Str).map V.str) (ev_var rfl) hl1 (el_lst (ea_cons ev_c (ea_cons ev_c ea_nil)) (by simp)) (by simp)) fun l2 H7 nl2 e7 hl2 => ?_
                have e57 := e6.trans e7
                have hp7 := e57 _ _ hp5
                have rp7 := rp5.mono e57
                have hl2' : H7 l2 = some (.lst (barredL.map V.str)) := by rw [barred_is, List.map_append]; exact hl2
                refine s_ret (v := .bl (firstOk faultOk parts)) ?_ fun H8 e8 => k H8 (((e04.trans e5).trans e57).trans e8)
                cases parts with
                | nil =>
                  cases rp7
                  exact ev_is (ev_andV (a := false) (b := false) (ev_tupNe (ev_var rfl) hp7) (fun z => nomatch z)) rfl
                | cons a0 rest =>
                  obtain ⟨u0, gu, ru⟩ := rp7.get (i := 0) (d := a0) rfl
                  have hne7 : pvs.isEmpty = false := by rw [rp7.empty]; rfl
                  have ix : ∀ {σ : L2.St}, σ[7]? = some (some (.ref pa)) → Ev (tOp (rIxT K) (tVar 7) (tC (.int 0))) σ H7 u0 := fun h1 => ev_op (ev_var h1) ev_c (rv_ixT (st_of hp7) (atI_nat (j := 0) gu))
                  have q2 : firstOk faultOk (a0 :: rest) = (true && (isName a0 && !(match a0 with | .str s => inStrs barredL s | _ => false))) := by cases a0 <;> rfl
                  rw [q2]
                  refine ev_andV (ev_is (ev_tupNe (ev_var rfl) hp7) (by rw [hne7]; rfl)) fun _ => ev_andV (ev_call (ea_cons (ix rfl) ea_nil) (spB1_v ru (spm a0 (by simp)))) fun hn => ?_
                  obtain ⟨x, rfl⟩ : ∃ x, a0 = .str x := by
                    cases a0 <;> first | exact ⟨_, rfl⟩ | cases hn
                  cases ru
                  exact ev_is (ev_op (ix rfl) (ev_var rfl) (rv_niL (sq_of hl2') rfl (flat_strs _))) (congrArg (fun b => V.bl (!b)) (inV_strs _ _))
              · have hw1 : word ≠ "fault" := of_decide_eq_false hw
                refine q_when (et_eqS (K := K) (ev_var rfl)) (fun hw2 H6 e6 => ?_) (fun hw2 H6 e6 => ?_)
                · have hw' : word = "call" := of_decide_eq_true hw2
                  subst hw'
                  rw [call_call hall plen] at k
                  have hp6 := (e5.trans e6) _ _ hp4
                  have rp6 := rp4.mono (e5.trans e6)
                  have hz6 := hz.mono ((e04.trans e5).trans e6)
                  refine s_ret (v := .bl (firstOk (fun a => match a with | .str w => knw rt w | _ => false) parts)) ?_ fun H8 e8 => k H8 (((e04.trans e5).trans e6).trans e8)
                  cases parts with
                  | nil =>
                    cases rp6
                    exact ev_is (ev_andV (a := false) (b := false) (ev_tupNe (ev_var rfl) hp6) (fun z => nomatch z)) rfl
                  | cons a0 rest =>
                    obtain ⟨u0, gu, ru⟩ := rp6.get (i := 0) (d := a0) rfl
                    have hne7 : pvs.isEmpty = false := by rw [rp6.empty]; rfl
                    have ix : ∀ {σ : L2.St}, σ[7]? = some (some (.ref pa)) → Ev (tOp (rIxT K) (tVar 7) (tC (.int 0))) σ H6 u0 := fun h1 => ev_op (ev_var h1) ev_c (rv_ixT (st_of hp6) (atI_nat (j := 0) gu))
                    have q2 : firstOk (fun a => match a with | .str w => knw rt w | _ => false) (a0 :: rest) = (true && (isStr a0 && (match a0 with | .str w => knw rt w | _ => false))) := by cases a0 <;> rfl
                    rw [q2]
                    refine ev_andV (ev_is (ev_tupNe (ev_var rfl) hp6) (by rw [hne7]; rfl)) fun _ => ev_andV (ev_isi ru (ix rfl) (kit_str a0)) fun hn => ?_
                    obtain ⟨x, rfl⟩ := str_of hn
                    cases ru
                    exact ev_inKd (ix rfl) (ev_var rfl) hz6
                · have hw3 : word ≠ "call" := of_decide_eq_false hw2
                  rw [call_other hw1 hw3 hall] at k
                  refine q_table fun tp H7 tkv ntp e7 htp htb => ?_
                  have e07 := ((e04.trans e5).trans e6).trans e7
                  have hp7 := ((e5.trans e6).trans e7) _ _ hp4
                  have rp7 := rp4.mono ((e5.trans e6).trans e7)
                  have hz7 := hz.mono e07
                  have hlp := rp7.len
                  rcases htb.val word with ⟨hno, hvn⟩ | ⟨⟨lo, hi⟩, t, hyes, hvy, ht⟩
                  · rw [hno] at k
                    refine q_when (b := true) (et_is (et_or (b := false) (et_test (ev_dnotin (ev_var rfl) (ev_var rfl) (.inl htp))) (fun h => by rw [hvn] at h; cases h)) (by rw [hvn]; rfl)) (fun _ H8 e8 => s_ret ev_c fun H9 e9 => k H9 ((e07.trans e8).trans e9)) (fun h => nomatch h)
                  · rw [hyes] at k
                    have g : ∀ {σ : L2.St}, σ[2]? = some (some (.ref tp)) → σ[6]? = some (some (.str word)) → Ev (tDGet (tVar 2) (tVar 6)) σ H7 (.ref t) := fun h1 h2 => ev_dget (ev_var h1) (ev_var h2) (.inl htp) hvy
                    refine q_when (b := !(decide (lo ≤ ((parts.length : Nat) : Int)) && decide (((parts.length : Nat) : Int) ≤ hi))) (et_is (et_or (et_test (ev_dnotin (ev_var rfl) (ev_var rfl) (.inl htp))) (fun _ => et_not (et_chain (ev_op (g rfl rfl) ev_c (rv_ixT (st_of ht) (atI_nat (j := 0) rfl))) (ev_lenT (ev_var rfl) (st_of hp7)) rv_le (fun _ => ev_op (g rfl rfl) ev_c (rv_ixT (st_of ht) (atI_nat (j := 1) rfl))) (fun _ => rv_le)))) (by rw [hvy, hlp]; rfl)) (fun hb8 H8 e8 => s_ret ev_c fun H9 e9 => ?_) (fun hb8 H8 e8 => ?_)
                    · have q : ((decide (lo ≤ ((parts.length : Nat) : Int)) && decide (((parts.length : Nat) : Int) ≤ hi)) && tailL rt word parts) = false := by
                        rw [Bool.not_eq_true'] at hb8
                        rw [hb8]
                        rfl
                      rw [← q]
                      exact k H9 ((e07.trans e8).trans e9)
                    · rw [Bool.not_eq_false'] at hb8
                      have k' : RetV (.bl (tailL rt word parts)) H Q := by
                        have : RetV (.bl ((decide (lo ≤ ((parts.length : Nat) : Int)) && decide (((parts.length : Nat) : Int) ≤ hi)) && tailL rt word parts)) H Q := k
                        rw [hb8] at this
                        exact this
                      have hge : inStrs (firstL ++ laterL) word = true → (if inStrs laterL word then 1 else 0) < parts.length := fun hin => by
                        rw [inStrs_app] at hin
                        have har : arity word = some (lo, hi) := by rw [← tb_ar hw1 hw3]; exact hyes
                        have hlo : lo ≤ ((parts.length : Nat) : Int) := by
                          rw [Bool.and_eq_true, decide_eq_true_eq] at hb8
                          exact hb8.1
                        have hro := rout_is hw3
                        unfold routL at hro
                        cases hl : inStrs laterL word with
                        | false =>
                          rw [hl, Bool.or_false] at hin
                          rw [hin] at hro
                          have := (tie.ro word lo hi 1 har hro).2
                          simp
                          omega
                        | true =>
                          cases hf : inStrs firstL word with
                          | true =>
                            rw [hf] at hro
                            unfold inStrs at hl
                            obtain ⟨y, hy, he⟩ := List.any_eq_true.mp hl
                            have he' : y = word := by simpa using he
                            subst he'
                            have := List.all_eq_true.mp fl_dis y hy
                            rw [hf] at this
                            cases this
                          | false =>
                            rw [hf, hl] at hro
                            have := (tie.ro word lo hi 2 har hro).2
                            simp
                            omega
                      refine q_asgL (xs := firstL.map V.str) (el_lst (ea_cons ev_c (ea_cons ev_c ea_nil)) (by decide)) fun l1 H9 nl1 e9 hl1 => ?_
                      refine q_asgL (xs := laterL.map V.str) (el_lst (ea_cons ev_c (ea_cons ev_c (ea_cons ev_c (ea_cons ev_c (ea_cons ev_c (ea_cons ev_c ea_nil)))))) (by decide)) fun l2 H10 nl2 e10 hl2 => ?_
                      have e010 := ((e07.trans e8).trans e9).trans e10
                      have e710 := (e8.trans e9).trans e10
                      have hl1' := e10 _ _ hl1
                      have hp10 := e710 _ _ hp7
                      have rp10 := rp7.mono e710
                      have ix : ∀ {σ : L2.St} {H11 : Hp} {tI : TE} {j : Nat} {u : V}, σ[7]? = some (some (.ref pa)) → Ex H10 H11 → Ev tI σ H11 (.int (j : Int)) → pvs[j]? = some u → Ev (tOp (rIxT K) (tVar 7) tI) σ H11 u := fun hσ e hI hu => ev_op (ev_var hσ) hI (rv_ixT (st_of (e _ _ hp10)) (atI_nat hu))
                      refine q_when (b := !(inStrs (firstL ++ laterL) word) || (decide (word = "handler") && firstOk isNoneD parts)) (et_or (et_test (ev_opL (ev_var rfl) (el_catVV (ev_var rfl) hl1' (ev_var rfl) hl2 (by decide)) fun p H11 hp11 _ => by
                          have := rv_niL (K := K) (x := .str word) (sq_of hp11) rfl (by rw [← List.map_append]; exact flat_strs _)
                          rw [← List.map_append, inV_strs] at this
                          exact this)) (fun hin => et_and (et_eqS (K := K) (ev_var rfl)) fun _ => ?_)) (fun hb11 H11 e11 => s_ret ev_c fun H12 e12 => ?_) (fun hb11 H11 e11 => ?_)
                      · have hin' : inStrs (firstL ++ laterL) word = true := by simpa using hin
                        have hg := hge hin'
                        cases parts with
                        | nil => simp at hg
                        | cons a0 rest =>
                          obtain ⟨u0, gu, ru⟩ := rp10.get (i := 0) (d := a0) rfl
                          exact et_is (et_test (ev_op (ix rfl (Ex.refl _) ev_c (j := 0) gu) ev_c rv_isN)) ru.isN
                      · have q : tailL rt word parts = true := by
                          unfold tailL
                          cases hin : inStrs (firstL ++ laterL) word with
                          | false => rfl
                          | true =>
                            rw [hin, Bool.not_true, Bool.false_or, Bool.and_eq_true, decide_eq_true_eq] at hb11
                            obtain ⟨hh, hn⟩ := hb11
                            have hl : inStrs laterL word = false := by rw [hh]; decide +kernel
                            rw [if_pos rfl, hl]
                            cases parts with
                            | nil => cases hn
                            | cons a0 rest =>
                              show named rt word a0 = true
                              unfold named
                              rw [if_neg hw3, hh]
                              have hn' : isNoneD a0 = true := hn
                              rw [hn']
                              rfl
                        rw [← q]
                        exact k' H12 ((e010.trans e11).trans e12)
                      · rw [Bool.or_eq_false_iff, Bool.not_eq_false'] at hb11
                        obtain ⟨hin, hnn⟩ := hb11
                        have hg := hge hin
                        obtain ⟨j, hj⟩ : ∃ j : Nat, j = if inStrs laterL word then 1 else 0 := ⟨_, rfl⟩
                        rw [← hj] at hg
                        obtain ⟨u, gu, ru⟩ := rp10.get (i := j) (d := parts[j]) (List.getElem?_eq_getElem hg)
                        have q : tailL rt word parts = (isStr parts[j] && (match parts[j] with | .str w => plr rt w | _ => false)) := by
                          unfold tailL
                          rw [if_pos hin, ← hj, List.getElem?_eq_getElem hg]
                          show named rt word parts[j] = _
                          unfold named
                          rw [if_neg hw3]
                          have hno : (decide (word = "handler") && isNoneD parts[j]) = false := by
                            cases hh : decide (word = "handler") with
                            | false => rfl
                            | true =>
                              have hh' : word = "handler" := of_decide_eq_true hh
                              have hl : inStrs laterL word = false := by rw [hh']; decide +kernel
                              rw [hl] at hj
                              have hj0 : j = 0 := by simpa using hj
                              subst hj0
                              rw [hh, Bool.true_and] at hnn
                              cases parts with
                              | nil => simp at hg
                              | cons a0 rest => exact hnn
                          rw [hno]
                          rw [if_neg Bool.false_ne_true]
                          cases parts[j] <;> rfl
                        rw [q] at k'
                        have e011 := e010.trans e11
                        have hidx : (if inStrs laterL word then (1 : Int) else 0) = ((j : Nat) : Int) := by
                          rw [hj]
                          cases inStrs laterL word <;> rfl
                        refine q_asg (ix rfl e11 (ev_is (ev_ib (ev_is (ev_op (ev_var rfl) (ev_var rfl) (rv_isL (sq_of (e11 _ _ hl2)) rfl (flat_strs _))) (congrArg V.bl (inV_strs _ _)))) (congrArg V.int hidx)) gu) fun H12 e12 => ?_
                        have e012 := e011.trans e12
                        have ru12 := ru.mono (e11.trans e12)
                        refine s_ret (ev_andV (ev_isi ru12 (ev_var rfl) (kit_str _)) fun hst => ?_) fun H13 e13 => k' H13 (e012.trans e13)
                        obtain ⟨x, hx⟩ := str_of hst
                        rw [hx] at ru12 ⊢
                        cases ru12
                        have hz12 := hz.mono e012
                        refine ev_is (ev_op (ev_get (ev_var rfl) hz12 (ev_var rfl)) ev_c (rv_eq ?_)) (congrArg V.bl plain_lookup)
                        cases rt.lookup x <;> rfl
    | _ => cases hs
end
end K2
/-! The law's is_handler. -/
namespace K2
open PySem L2 Evl PySem.Spec PyProof.Rows RZ StX
section
variable {P : Program} {w : World} {K : PySem.W.Frag} {mg : Str → Option Value} {base : Heap}
theorem sc50 : FnScope ["_law_thing", "_law_is_named", "_law_x"] ["_law_thing"] (defScope (top 50)) := ⟨rfl, rfl, rfl, by decide +kernel, rfl, by decide +kernel, by decide +kernel⟩
theorem ok_lhandler (B : Bl mg) (F : Df K mg "_law_is_handler" (top 50) ["_law_thing"]) (O1 : Okd P w K mg base CX0 1 "_law_is_name" ["_law_thing"] (spB1 K Sm isName)) :
    Okd P w K mg base CX0 2 "_law_is_handler" ["_law_thing"] (spB1 K Sm isHandler) := by
  refine F.ok sc50 (fun vs H Q E h => spB1_len h) (fun f cdv A outer s H vs Q E hr h => ?_)
  obtain ⟨d, v, rfl, r, sm, k⟩ := h
  obtain ⟨f__law_is_name, d__law_is_name, m__law_is_name, k__law_is_name, b__law_is_name, G__law_is_name⟩ := O1.ex
  have hu := hu_of hr
  refine ⟨_, (pss_cons (ps_if (PW.pt (pw_or (pt_not (pt_val (pe_callB call_isi (by rfl) B.isinstance boot_isinstance (pa_cons (pv 0) (pa_cons (pe_bltn (v := .ty "tuple") (by rfl) B.tuple boot_tuple rfl) pa_nil))))) (pw_or (pt_cmpR op_ne (pe_callB call_lenQ (by rfl) B.len PySem.boot_len (pa_cons (pv 0) pa_nil)) pe_int (nomark _)) (pw_or (pt_not (pt_val (pe_callB call_isi (by rfl) B.isinstance boot_isinstance (pa_cons (pe_ix ix_tup (pv 0) pe_int (fun _ _ => rfl)) (pa_cons (pe_bltn (v := .ty "tuple") (by rfl) B.tuple boot_tuple rfl) pa_nil))))) (pw_or1 (pt_cmpR (op_eqNil (Nat.lt_of_succ_lt hu)) (pe_ix ix_tup (pv 0) pe_int (fun _ _ => rfl)) (pe_tup pa_nil) (nomark _))))))) (pss_one (ps_ret pe_bl)) pss_nil)
      (pss_cons (ps_set (i := 1) sc50.nd rfl (Or.inl rfl) (pe_or (pe_cmpR op_isN1 (pe_ix ix_tup (pv 0) pe_int (fun _ _ => rfl)) pe_non (nomark _)) (pe_one (pe_call G__law_is_name (hr.mono (by first | decide | omega)) (by rfl) m__law_is_name k__law_is_name b__law_is_name .nil pass0 (pa_cons (pe_ix ix_tup (pv 0) pe_int (fun _ _ => rfl)) pa_nil)))))
      (pss_one (ps_ret (pe_and (pv 1) (pe_and (pe_callB call_isi (by rfl) B.isinstance boot_isinstance (pa_cons (pe_ix ix_tup (pv 0) pe_int (fun _ _ => rfl)) (pa_cons (pe_bltn (v := .ty "tuple") (by rfl) B.tuple boot_tuple rfl) pa_nil))) (pe_one (pe_cmpR (op_eqNil (Nat.lt_of_succ_lt hu)) (pe_lc (own := [("_law_x", 2)]) (g := gName 2) rfl sc50.nd (pi_tup (pe_ix ix_tup (pv 0) pe_int (fun _ _ => rfl))) (blkOk_by (N := ["_law_thing", "_law_is_named", "_law_x"]) (sc := defScope (top 50)) (by decide +kernel)) (fun _ _ _ _ _ => (pg_name (i := 2) sc50.nd rfl (Or.inl rfl))) (fun _ _ _ _ _ => (pts_one (pt_not (pt_val (pe_call G__law_is_name (hr.mono (by first | decide | omega)) (by rfl) m__law_is_name k__law_is_name b__law_is_name .nil pass0 (pa_cons (pv 2) pa_nil)))))) (fun _ _ _ _ _ => (pv 2))) (pe_lst pa_nil) (nomark _))))))))), ?_⟩
  cases h3 : (isTup d && is3 d) with
  | false =>
    have q : isHandler d = false := by
      unfold isHandler
      split
      · cases h3
      · rfl
    refine q_when (b := !(isTup d) || (!(is3 d) || true)) (et_or (et_not (et_B (ev_isi r (ev_var rfl) (kit_tup d)))) (fun ht => et_or ?_ (fun hq => ?_))) (fun _ H1 e => s_ret ev_c fun H2 e2 => ?_) (fun hb => by
      have : (!(isTup d) || (!(is3 d) || true)) = true := by cases isTup d <;> cases is3 d <;> rfl
      rw [this] at hb; cases hb)
    · cases r with
      | tup ha rs =>
        refine et_is (et_test (ev_op (ev_lenT (ev_var rfl) (st_of ha)) ev_c (rv_ne rfl))) ?_
        show (!decide (V.int _ = V.int 3)) = !(decide _)
        rw [rs.len]
        exact congrArg (!·) (decide_eq_decide.mpr ⟨fun z => by injection z, fun z => by rw [z]⟩)
      | _ => cases ht
    · have h1 : isTup d = true := by simpa using ht
      have h2 : is3 d = true := by simpa using hq
      rw [h1, h2] at h3
      cases h3
    · rw [← q]
      exact k H2 (e.trans e2)
  | true =>
    rw [Bool.and_eq_true] at h3
    obtain ⟨ht, h3⟩ := h3
    cases r with
    | tup ha rs =>
      rename_i a vs ds
      obtain ⟨d0, d1, d2, rfl⟩ := is3_of h3
      obtain ⟨v0, v1, v2, rfl, r0, r1, r2⟩ := rs.three
      have s0 : Sm d0 := sm.item (i := 0) rfl
      have s1 : Sm d1 := sm.item (i := 1) rfl
      have ix0 : ∀ {σ : L2.St} {H1 : Hp}, σ[0]? = some (some (.ref a)) → Ex H H1 → Ev (tOp (rIxT K) (tVar 0) (tC (.int 0))) σ H1 v0 := fun hs e => ev_op (ev_var hs) ev_c (rv_ixT (st_of (e _ _ ha)) (atI_nat (j := 0) rfl))
      have ix1 : ∀ {σ : L2.St} {H1 : Hp}, σ[0]? = some (some (.ref a)) → Ex H H1 → Ev (tOp (rIxT K) (tVar 0) (tC (.int 1))) σ H1 v1 := fun hs e => ev_op (ev_var hs) ev_c (rv_ixT (st_of (e _ _ ha)) (atI_nat (j := 1) rfl))
      have ix2 : ∀ {σ : L2.St} {H1 : Hp}, σ[0]? = some (some (.ref a)) → Ex H H1 → Ev (tOp (rIxT K) (tVar 0) (tC (.int 2))) σ H1 v2 := fun hs e => ev_op (ev_var hs) ev_c (rv_ixT (st_of (e _ _ ha)) (atI_nat (j := 2) rfl))
      have T3 : ∀ {t : TT} {b : Bool}, EvT t (start ["_law_thing", "_law_is_named", "_law_x"] [.ref a]) H b → EvT (tOr (tNot (tB (tCB (rIsi K) (tCons (tVar 0) (tCons (tC (.ty "tuple")) tNil))))) (tOr (tTest (tOp rNe (tCB (rLenQ K) (tCons (tVar 0) tNil)) (tC (.int 3)))) t)) (start ["_law_thing", "_law_is_named", "_law_x"] [.ref a]) H b := fun h =>
        et_is (et_or (et_not (et_B (ev_isi (Rp.tup ha rs) (ev_var rfl) (kit_tup _)))) (fun _ => et_or (et_test (ev_op (ev_lenT (ev_var rfl) (st_of ha)) ev_c (rv_ne rfl))) (fun _ => h))) rfl
      cases ht0 : isTup d0 with
      | false =>
        have q : isHandler (.tup [d0, d1, d2]) = false := by cases d0 <;> first | rfl | cases ht0
        refine q_when (b := true) (T3 (et_is (et_or (b := true) (et_not (et_B (ev_isi r0 (ix0 rfl (Ex.refl _)) (kit_tup d0)))) (fun z => by rw [ht0] at z; cases z)) (by rw [ht0]; rfl))) (fun _ H1 e => s_ret ev_c fun H2 e2 => by rw [← q]; exact k H2 (e.trans e2)) (fun z => nomatch z)
      | true =>
        cases r0 with
        | tup hk rk =>
          rename_i ak vk dk
          refine q_when (T3 (et_or (et_not (et_B (ev_isi (Rp.tup hk rk) (ix0 rfl (Ex.refl _)) (kit_tup _)))) (fun _ => et_test (ev_tupNil (ix0 rfl (Ex.refl _)) hk)))) (fun hb H1 e => s_ret ev_c fun H2 e2 => ?_) (fun hb H1 e => ?_)
          · have hb' : vk.isEmpty = true := hb
            have q : isHandler (.tup [.tup dk, d1, d2]) = false := by
              rw [rk.empty] at hb'
              show ((!dk.isEmpty && dk.all isName) && _) = false
              rw [hb']
              rfl
            rw [← q]
            exact k H2 (e.trans e2)
          · have hb' : vk.isEmpty = false := hb
            have q : isHandler (.tup [.tup dk, d1, d2]) = (isTarget d1 && (isTup d2 && dk.all isName)) := by
              rw [rk.empty] at hb'
              show ((!dk.isEmpty && dk.all isName) && (isTarget d1 && isTup d2)) = _
              rw [hb']
              cases dk.all isName <;> cases isTarget d1 <;> cases isTup d2 <;> rfl
            rw [q] at k
            have q1 : isTarget d1 = (isNoneD d1 || isName d1) := by cases d1 <;> rfl
            refine q_asg (v := .bl (isTarget d1)) (by rw [q1]; exact ev_orV (ev_is (ev_op (ix1 rfl e) ev_c rv_isN) (congrArg V.bl r1.isN)) fun _ => ev_call (ea_cons (ix1 rfl e) ea_nil) (spB1_v (r1.mono e) s1)) fun H2 e2 => ?_
            have e02 := e.trans e2
            refine s_ret (ev_andV (ev_var rfl) fun _ => ev_andV (ev_isi (r2.mono e02) (ix2 rfl e02) (kit_tup d2)) fun _ => ev_noneD (wk_tup (ix0 rfl e02) (e02 _ _ hk) (rk.mono e02)) (by have := s0.tlen; omega) (fun _ => rfl) (fun _ => rfl) fun d x H3 hd e3 rx => et_not (et_B (ev_call (ea_cons (ev_var rfl) ea_nil) (spB1_v rx ?_)))) fun H3 e3 => k H3 (e02.trans e3)
            obtain ⟨i, hi⟩ := List.getElem?_of_mem hd
            exact s0.item hi
        | _ => cases ht0
    | _ => cases ht
end
end K2
/-! The law's is_step: the mathematics. -/
namespace K2
open PySem L2 Evl PySem.Spec PyProof.Rows RZ StX
def formL : List (Str × Str) := [("do", "c"), ("let", "nc"), ("await", "mc"), ("if", "cbb"), ("while", "cb"), ("each", "nab"), ("async_each", "nab"), ("try", "bhbb"), ("with", "mcb"), ("return", "a")]
def letter (c : Nat) : Str := if c = 99 then "call" else if c = 110 then "name" else if c = 109 then "target" else if c = 97 then "arg" else if c = 98 then "body" else "handlers"
def shapeOf (f : Str) : List Str := f.cps.toList.map letter
theorem fm1 : (formL.all fun p => decide (shape p.1 = some (shapeOf p.2))) = true := by decide +kernel
theorem fm2 : (shL.all fun p => p.1 == "break" || (formL.lookup p.1).isSome) = true := by decide +kernel
theorem form_is {x : Str} (h : x ≠ "break") : shape x = (formL.lookup x).map shapeOf := by
  cases h1 : formL.lookup x with
  | some f =>
    have := List.all_eq_true.mp fm1 _ (lookup_mem h1)
    exact of_decide_eq_true this
  | none =>
    cases h2 : shape x with
    | none => rfl
    | some sh =>
      have := List.all_eq_true.mp fm2 _ (lookup_mem h2)
      simp only [Bool.or_eq_true, beq_iff_eq] at this
      rcases this with h3 | h3
      · exact absurd h3 h
      · rw [h1] at h3; cases h3
theorem fm_codes : (formL.all fun p => p.2.cps.toList.all fun c => c == 99 || c == 110 || c == 109 || c == 97 || c == 98 || c == 104) = true := by decide +kernel
theorem zip_at (rt : Rt) : ∀ {sh : List Str} {ds : List D}, ds.length = sh.length → zipOk rt sh ds = (List.range ds.length).all fun i => match sh[i]?, ds[i]? with | some s, some d => partOk rt s d | _, _ => true
  | [], [], _ => rfl
  | s :: sh, d :: ds, h => by
    have h' : ds.length = sh.length := by simpa using h
    have ih := zip_at rt h'
    show (partOk rt s d && zipOk rt sh ds) = _
    rw [ih, List.length_cons, List.range_succ_eq_map, List.all_cons, List.all_map]
    rfl
  | [], _ :: _, h => by simp at h
  | _ :: _, [], h => by simp at h
/-- the test of a part by its letter -/
def okL (rt : Rt) (c : Nat) (d : D) : Bool := partOk rt (letter c) d
theorem okL_c (rt : Rt) (d : D) : okL rt 99 d = isCallD rt d := by unfold okL partOk letter; rw [if_pos rfl, if_pos rfl]
theorem ls (c : Nat) (s : Str) (h : letter c = s) (rt : Rt) (d : D) : okL rt c d = partOk rt s d := by unfold okL; rw [h]
theorem okL_n (rt : Rt) (d : D) : okL rt 110 d = isName d := by
  rw [ls 110 "name" (by decide +kernel)]
  unfold partOk
  rw [if_neg (by decide +kernel), if_pos rfl]
theorem okL_m (rt : Rt) (d : D) : okL rt 109 d = isTarget d := by
  rw [ls 109 "target" (by decide +kernel)]
  unfold partOk
  rw [if_neg (by decide +kernel), if_neg (by decide +kernel), if_pos rfl]
theorem okL_a (rt : Rt) (d : D) : okL rt 97 d = isArg d := by
  rw [ls 97 "arg" (by decide +kernel)]
  unfold partOk
  rw [if_neg (by decide +kernel), if_neg (by decide +kernel), if_neg (by decide +kernel), if_pos rfl]
theorem okL_b (rt : Rt) (d : D) : okL rt 98 d = isTup d := by
  rw [ls 98 "body" (by decide +kernel)]
  unfold partOk
  rw [if_neg (by decide +kernel), if_neg (by decide +kernel), if_neg (by decide +kernel), if_neg (by decide +kernel), if_pos rfl]
theorem okL_h (rt : Rt) (d : D) : okL rt 104 d = handlersOk d := by
  rw [ls 104 "handlers" (by decide +kernel)]
  unfold partOk
  rw [if_neg (by decide +kernel), if_neg (by decide +kernel), if_neg (by decide +kernel), if_neg (by decide +kernel), if_neg (by decide +kernel)]
/-- the law's own words for a step -/
def lawStep (rt : Rt) (plain inLoop : Bool) (word : Str) (parts : List D) : Bool :=
  if word = "say" then parts.all isArg
  else if word = "raise" then parts.isEmpty || (decide (((parts.length : Nat) : Int) = 1) && firstOk isArg parts)
  else if word = "break" then parts.isEmpty && inLoop
  else if (plain && inStrs asyncL word) = true then false
  else match formL.lookup word with
    | none => false
    | some f => if parts.length ≠ f.length then false else (List.range parts.length).all fun i => match f.cps.toList[i]?, parts[i]? with | some c, some d => okL rt c d | _, _ => true
theorem shape_break : shape "break" = some [] := by decide +kernel
theorem as_break : inStrs asyncL "break" = false := by decide +kernel
theorem law_step (rt : Rt) (async inLoop : Bool) (word : Str) (parts : List D) : lawStep rt (!async) inLoop word parts = stepOk rt async inLoop word parts := by
  unfold lawStep stepOk
  by_cases h1 : word = "say"
  · rw [if_pos h1, if_pos (.inl h1)]
  · rw [if_neg h1]
    by_cases h2 : word = "raise"
    · rw [if_pos h2]
      subst h2
      match parts with
      | [] => simp
      | [a] => simp [firstOk]
      | a :: b :: l =>
        rw [if_neg (show ¬(("raise" : Str) = "say" ∨ (("raise" : Str) = "raise" ∧ (a :: b :: l).length ≤ 1)) from fun h => h.elim h1 fun h => absurd h.2 (by simp)), shape_raise]
        have : decide ((((a :: b :: l).length : Nat) : Int) = 1) = false := decide_eq_false (by simp only [List.length_cons]; omega)
        rw [this]
        rfl
    · rw [if_neg h2, if_neg (show ¬(word = "say" ∨ (word = "raise" ∧ parts.length ≤ 1)) from fun h => h.elim h1 fun h => h2 h.1)]
      by_cases h3 : word = "break"
      · rw [if_pos h3]
        subst h3
        rw [shape_break]
        match parts with
        | [] =>
          show (true && inLoop) = if ([] : List D).length ≠ ([] : List Str).length then false else _
          rw [if_neg (by simp), as_break]
          cases inLoop <;> rfl
        | a :: l =>
          show (false && inLoop) = if (a :: l).length ≠ ([] : List Str).length then false else _
          rw [if_pos (by simp)]
          rfl
      · rw [if_neg h3, form_is h3]
        cases hf : formL.lookup word with
        | none =>
          simp
        | some f =>
          show _ = if parts.length ≠ (shapeOf f).length then false else _
          have hfl : (shapeOf f).length = f.length := by unfold shapeOf; rw [List.length_map, len_cps]
          have hbr : (decide (word = "break") && !inLoop) = false := by rw [decide_eq_false h3]; rfl
          rw [hfl, hbr, Bool.false_or]
          by_cases hl : parts.length ≠ f.length
          · rw [if_pos hl]
            split
            · rfl
            · exact if_pos hl
          · rw [if_neg hl]
            cases ha : inStrs asyncL word <;> cases async <;> simp only [Bool.not_true, Bool.not_false, Bool.and_true, Bool.and_false, Bool.true_and, Bool.false_and, if_true, if_false, Bool.false_eq_true, reduceIte]
            all_goals first
              | rfl
              | (rw [if_neg hl, zip_at rt (by rw [hfl]; omega)]
                 congr 1
                 funext i
                 unfold shapeOf
                 rw [List.getElem?_map]
                 cases f.cps.toList[i]? <;> cases parts[i]? <;> rfl)
end K2
/-! The law's is_step: the dicts. -/
namespace K2
open PySem L2 Evl PySem.Spec PyProof.Rows RZ StX
def kvS (l : List (Str × Str)) : List (Key × V) := l.map fun p => ((Sum.inr p.1 : Key), V.str p.2)
theorem kvS_val (x : Str) : ∀ l : List (Str × Str), valV (kvS l) (Sum.inr x : Key) = (l.lookup x).map V.str
  | [] => rfl
  | (y, z) :: l => by
    by_cases e : x = y
    · subst e
      show valV (((Sum.inr x : Key), V.str z) :: kvS l) _ = _
      rw [valV_pos (p := ((Sum.inr x : Key), V.str z)) rfl]
      simp [List.lookup]
    · show valV (((Sum.inr y : Key), V.str z) :: kvS l) _ = _
      rw [valV_neg (p := ((Sum.inr y : Key), V.str z)) fun h => e (Sum.inr.inj h).symm, kvS_val x l, List.lookup_cons]
      have : (x == y) = false := beq_eq_false_iff_ne.mpr e
      rw [this]
theorem kvS_nd {l : List (Str × Str)} (h : (l.map (·.1)).Nodup) : ((kvS l).map (·.1)).Nodup := by
  have e : (kvS l).map (·.1) = (l.map (·.1)).map (Sum.inr : Str → Key) := by unfold kvS; rw [List.map_map, List.map_map]; rfl
  rw [e]
  exact List.Pairwise.map _ (fun a b hab z => hab (Sum.inr.inj z)) h
theorem merge_nd {kvs : List (Key × V)} (h : (kvs.map (·.1)).Nodup) : mergeK [] kvs = kvs := putK_all kvs [] (by rw [List.nil_append]; exact h)
section
variable {K : PySem.W.Frag} {σ : L2.St} {H : Hp} {ta te td ty : TE} {tz : TS} {Dd : Ends}
/-- it makes a new dict -/
def EvD (te : TE) (σ : L2.St) (H : Hp) (kvs : List (Key × V)) : Prop := ∀ H1, Ex H H1 → ∀ Q : VK, (∀ p H2, H1 p = none → Ex H1 H2 → H2 p = some (.dK kvs) → Q (.ref p) H2) → te σ H1 Q
theorem q_asgD {i : Nat} {kvs : List (Key × V)} (h : EvD te σ H kvs) (k : ∀ p H1, H p = none → Ex H H1 → H1 p = some (.dK kvs) → tz Dd (σ.set i (some (.ref p))) H1) : tSeq (tAsg te (gName i)) tz Dd σ H := h H (Ex.refl H) _ fun p H1 hp e hl => k p H1 hp e hl
theorem pairs_c : ∀ {l : List (Str × Str)} {H : Hp} {Q : List (V × V) → Hp → Prop}, Q (l.map fun p => (V.str p.1, V.str p.2)) H → tPairs (l.map fun p => (tC (.str p.1), tC (.str p.2))) σ H Q
  | [], _, _, h => h
  | p :: l, H, Q, h => pairs_c (l := l) (Q := fun ps H3 => Q ((V.str p.1, V.str p.2) :: ps) H3) h
theorem ed_disp {l : List (Str × Str)} (hn : (l.map (·.1)).Nodup) (hl : l.length ≤ 15) : EvD (tDisp (l.map fun p => (tC (.str p.1), tC (.str p.2)))) σ H (kvS l) := fun H1 e Q q p hp =>
  pairs_c ⟨upd_same, kvS l, by unfold kvS; rw [List.map_map]; rfl, by unfold kvS; rw [List.length_map]; exact hl, by
    rw [merge_nd (kvS_nd hn)]
    exact q p _ hp (Ex.mut (Ex.new hp) hp) upd_same⟩
theorem pairs_of {H : Hp} : ∀ {l : List (Str × Str)} {ys : List V}, Rps K H (l.map fun p => .tup [.str p.1, .str p.2]) ys →
    ∃ ps : List Addr, ys = ps.map V.ref ∧ Paired (fun p (kv : Key × V) => SqT K H p [kV kv.1, kv.2]) ps (kvS l)
  | [], _, .nil => ⟨[], rfl, .nil⟩
  | p :: l, _, .cons r t => by
    obtain ⟨ps, h1, h2⟩ := pairs_of t
    obtain ⟨a, vs, rfl, ha, rs⟩ := r.ofTup
    obtain ⟨v1, v2, rfl, r1, r2⟩ := rs.two
    cases r1
    cases r2
    exact ⟨a :: ps, by rw [h1]; rfl, .cons (st_of ha) h2⟩
/-- dict(list(d.items()) + [pairs]).get(x) -/
theorem ev_form {l1 l2 : List (Str × Str)} {fd : Addr} {x : Str} {tl : TA} (hd : Ev td σ H (.ref fd)) (hf : H fd = some (.dK (kvS l1))) (hn : ((l1 ++ l2).map (·.1)).Nodup) (hx : Ev ty σ H (.str x)) (hz : l1.length ≤ 1000 ∧ l2.length ≤ 1000)
    (h2 : ∀ H1, Ex H H1 → EvAP tl σ H1 (fun H2 vs => Rps K H2 (l2.map fun p => .tup [.str p.1, .str p.2]) vs)) :
    Ev (tDGet1 (tCB (rDictP K) (tCons (tOp rCat (LiI.tListItems td) (tLst tl)) tNil)) ty) σ H ((((l1 ++ l2).lookup x).map V.str).getD .non) := fun H1 e Q q =>
  hd H1 e _ fun H2 e2 => ⟨fd, kvS l1, rfl, (e.trans e2) _ _ hf, fun H3 p ts e3 np nts npt hp hts => h2 H3 ((e.trans e2).trans e3) H3 (Ex.refl _) _ fun vs H4 e4 rv => by
    have e3 : Ex H2 H3 := e3
    have lv : vs.length = l2.length := by rw [rv.len, List.length_map]
    refine ⟨sz_of (by omega), fun p2 hp2 => ?_⟩
    have lts : ts.length = l1.length := by
      have := Paired.length hts
      unfold kvS at this
      rw [List.length_map] at this
      exact this
    refine ⟨p, p2, ts.map V.ref, vs, rfl, rfl, by rw [upd_ne (ne_of_none (e4 _ _ hp) hp2)]; exact e4 _ _ hp, upd_same, sz_of (by rw [List.length_map]; omega), fun p3 hp3 => ?_⟩
    have e5 : Ex H4 (upd (upd H4 p2 (.lst vs)) p3 (.lst (ts.map V.ref ++ vs))) := (Ex.new hp2).trans (Ex.new hp3)
    obtain ⟨ps, hps, hpr⟩ := pairs_of (K := K) (rv.mono e5)
    have hpr1 : Paired (fun p (kv : Key × V) => SqT K (upd (upd H4 p2 (.lst vs)) p3 (.lst (ts.map V.ref ++ vs))) p [kV kv.1, kv.2]) ts (kvS l1) := L2.Paired.mapP hts fun a b h => st_of ((e4.trans e5) _ _ h)
    have happ : ∀ {α β : Type} {R : α → β → Prop} {a a2 : List α} {b b2 : List β}, Paired R a b → Paired R a2 b2 → Paired R (a ++ a2) (b ++ b2) := by
      intro α β R a a2 b b2 h h2
      induction h with
      | nil => exact h2
      | cons r _ ih => exact .cons r ih
    have hkv : kvS l1 ++ kvS l2 = kvS (l1 ++ l2) := by unfold kvS; rw [List.map_append]
    refine ⟨p3, ts ++ ps, kvS (l1 ++ l2), rfl, sq_of (by rw [upd_same, List.map_append, hps]), by rw [← hkv]; exact happ hpr1 hpr, fun dD hdD => ?_⟩
    rw [merge_nd (kvS_nd hn)]
    have e6 := (e3.trans e4).trans (e5.trans (Ex.new (o := .dK (kvS (l1 ++ l2))) hdD))
    refine ⟨dD, rfl, .inl ⟨_, .inl upd_same⟩, hx _ ((e.trans e2).trans e6) _ fun H7 e7 => ⟨_, .inl ⟨kvS (l1 ++ l2), Sum.inr x, .inl (e7 _ _ upd_same), rfl, rfl⟩, ?_⟩⟩
    rw [kvS_val]
    exact q H7 ((e2.trans e6).trans e7)⟩
end
end K2
/-! The law's is_step: the six lists. -/
namespace K2
open PySem L2 Evl PySem.Spec PyProof.Rows RZ StX
theorem nd_inj : ∀ {l : List Addr} {i j : Nat} {a : Addr}, l.Nodup → l[i]? = some a → l[j]? = some a → i = j
  | [], i, j, a, _, h, _ => by simp at h
  | b :: l, 0, 0, a, _, _, _ => rfl
  | b :: l, 0, j + 1, a, nd, h, h2 => by
    simp at h h2
    subst h
    exact absurd (List.mem_of_getElem? h2) (List.nodup_cons.mp nd).1
  | b :: l, i + 1, 0, a, nd, h, h2 => by
    simp at h h2
    subst h2
    exact absurd (List.mem_of_getElem? h) (List.nodup_cons.mp nd).1
  | b :: l, i + 1, j + 1, a, nd, h, h2 => congrArg (· + 1) (nd_inj (List.nodup_cons.mp nd).2 (by simpa using h) (by simpa using h2))
def codes6 : List Nat := [99, 110, 109, 97, 98, 104]
def let6 : List Str := ["c", "n", "m", "a", "b", "h"]
def chr1 (c : Nat) : Str := ⟨#[c]⟩
theorem let6_is : let6 = codes6.map chr1 := by decide +kernel
theorem chr1_inj {c d : Nat} (h : chr1 c = chr1 d) : c = d := by
  unfold chr1 at h
  injection h with h
  injection h with h
  injection h
def lkv (l : List Str) (al : List Addr) : List (Key × V) := l.zipWith (fun s a => ((Sum.inr s : Key), V.ref a)) al
theorem lkv_keys : ∀ (l : List Str) (al : List Addr), al.length = l.length → (lkv l al).map (·.1) = l.map Sum.inr
  | [], [], _ => rfl
  | s :: l, a :: al, h => by
    show Sum.inr s :: (lkv l al).map (·.1) = _
    rw [lkv_keys l al (by simpa using h)]
    rfl
  | [], _ :: _, h => by simp at h
  | _ :: _, [], h => by simp at h
theorem lkv_val : ∀ {l : List Str} {al : List Addr} {j : Nat} {s : Str} {a : Addr}, l.Nodup → l[j]? = some s → al[j]? = some a → valV (lkv l al) (Sum.inr s : Key) = some (.ref a)
  | [], _, j, s, a, _, h, _ => by simp at h
  | _ :: _, [], j, s, a, _, _, h => by simp at h
  | t :: l, b :: al, 0, s, a, _, h, h2 => by
    simp at h h2
    subst h
    subst h2
    exact valV_pos (p := ((Sum.inr t : Key), V.ref b)) rfl
  | t :: l, b :: al, j + 1, s, a, nd, h, h2 => by
    have h' : l[j]? = some s := by simpa using h
    have h2' : al[j]? = some a := by simpa using h2
    rw [List.nodup_cons] at nd
    have hne : t ≠ s := fun z => nd.1 (z ▸ List.mem_of_getElem? h')
    show valV (((Sum.inr t : Key), V.ref b) :: lkv l al) _ = _
    rw [valV_neg (p := ((Sum.inr t : Key), V.ref b)) fun z => hne (Sum.inr.inj z)]
    exact lkv_val nd.2 h' h2'
section
variable {K : PySem.W.Frag} {σ : L2.St} {H : Hp} {ta te td ty : TE} {tz : TS} {Dd : Ends}
/-- new lists, one beside another -/
structure News (H H2 : Hp) (al : List Addr) : Prop where
  fresh : ∀ a ∈ al, H a = none
  nil : ∀ a ∈ al, H2 a = some (.lst [])
  nd : al.Nodup
  ex : Ex H H2
theorem pairs_l : ∀ {l : List Str} {H : Hp} {Q : List (V × V) → Hp → Prop}, (∀ al H2, al.length = l.length → News H H2 al → Q (l.zipWith (fun s a => (V.str s, V.ref a)) al) H2) → tPairs (l.map fun s => (tC (.str s), tLst tNil)) σ H Q
  | [], H, Q, h => h [] H rfl ⟨by simp, by simp, List.nodup_nil, Ex.refl H⟩
  | s :: l, H, Q, h => ⟨by decide, fun a ha => pairs_l (l := l) (Q := fun ps H3 => Q ((V.str s, V.ref a) :: ps) H3) fun al H2 hl n => by
    have ha2 : H2 a = some (.lst []) := n.ex _ _ upd_same
    have hna : a ∉ al := fun hm => by
      have := n.fresh a hm
      rw [upd_same] at this
      cases this
    refine h (a :: al) H2 (by simp [hl]) ⟨fun b hb => ?_, fun b hb => ?_, List.nodup_cons.mpr ⟨hna, n.nd⟩, (Ex.new ha).trans n.ex⟩
    · rcases List.mem_cons.mp hb with hb | hb
      · rw [hb]; exact ha
      · have := n.fresh b hb
        by_cases e : b = a
        · rw [e]; exact ha
        · rw [upd_ne e] at this; exact this
    · rcases List.mem_cons.mp hb with hb | hb
      · rw [hb]; exact ha2
      · exact n.nil b hb⟩
theorem q_good {i : Nat} {l : List Str} (hn : l.Nodup) (hl : l.length ≤ 15) (k : ∀ p al H1, H p = none → p ∉ al → al.length = l.length → News H H1 al → H1 p = some (.dK (lkv l al)) → tz Dd (σ.set i (some (.ref p))) H1) :
    tSeq (tAsg (tDisp (l.map fun s => (tC (.str s), tLst tNil))) (gName i)) tz Dd σ H := fun p hp => pairs_l fun al H2 hla n => by
  have hp2 : H2 p = some (.dK []) := n.ex _ _ upd_same
  have hpa : p ∉ al := fun hm => by
    have := n.fresh p hm
    rw [upd_same] at this
    cases this
  refine ⟨hp2, lkv l al, ?_, ?_, ?_⟩
  · unfold lkv
    rw [List.map_zipWith]
    rfl
  · unfold lkv
    rw [List.length_zipWith, hla]
    omega
  · have hk : ((lkv l al).map (·.1)).Nodup := by
      rw [lkv_keys l al hla]
      exact List.Pairwise.map _ (fun a b hab z => hab (Sum.inr.inj z)) hn
    rw [merge_nd hk]
    refine k p al _ hp hpa hla ⟨fun a ha => ?_, fun a ha => ?_, n.nd, ?_⟩ upd_same
    · have := n.fresh a ha
      have hne : a ≠ p := fun z => hpa (z ▸ ha)
      rw [upd_ne hne] at this
      exact this
    · have hne : a ≠ p := fun z => hpa (z ▸ ha)
      rw [upd_ne hne]
      exact n.nil a ha
    · exact Ex.mut ((Ex.new hp).trans n.ex) hp
/-- how far the lists are filled -/
def Fill (rt : Rt) (parts : List D) (al : List Addr) (f : Nat → Nat) (H : Hp) : Prop := ∀ j a c, al[j]? = some a → codes6[j]? = some c → H a = some (.lst ((parts.take (f j)).map fun d => V.bl (okL rt c d)))
theorem Fill.ex {rt : Rt} {parts : List D} {al : List Addr} {f : Nat → Nat} {H H2 : Hp} (e : Ex H H2) (h : Fill rt parts al f H) : Fill rt parts al f H2 := fun j a c h1 h2 => e _ _ (h j a c h1 h2)
/-- one more in the list of a letter -/
theorem s_fill {Hb : Hp} {rt : Rt} {parts : List D} {al : List Addr} {f : Nat → Nat} {m i : Nat} {a : Addr} {c : Nat} {d : D} (F : Fill rt parts al f H) (nd : al.Nodup) (fr : ∀ a ∈ al, Hb a = none) (eb : Ex Hb H) (hm : al[m]? = some a) (hc : codes6[m]? = some c) (hf : f m = i) (hd : parts[i]? = some d) (hlen : parts.length ≤ 39000)
    (ho : Ev ta σ H (.ref a)) (h : Ev te σ H (.bl (okL rt c d))) (k : ∀ H1, (∀ b o, H b = some o → b ≠ a → H1 b = some o) → Ex Hb H1 → Fill rt parts al (fun j => if j = m then i + 1 else f j) H1 → Dd.nx σ H1) :
    tDrop (tBM K "list" rAppend ta (tCons te tNil)) Dd σ H := by
  have hl := F m a c hm hc
  have hfr := fr a (List.mem_of_getElem? hm)
  refine s_app hl ho h (by rw [List.length_map, List.length_take]; omega) fun H1 e1 => ?_
  refine k _ (fun b o hb hba => by rw [upd_ne hba]; exact e1 _ _ hb) (Ex.mut (eb.trans e1) hfr) fun j b c' hj hc' => ?_
  by_cases hjm : j = m
  · subst hjm
    rw [hm] at hj
    cases hj
    rw [hc] at hc'
    cases hc'
    rw [upd_same]
    show some (HO.lst (_ ++ [_])) = some (HO.lst ((parts.take (if j = j then i + 1 else f j)).map fun d => V.bl (okL rt c d)))
    rw [if_pos rfl, hf, List.take_succ, hd]
    simp
  · have hba : b ≠ a := fun z => hjm (by
      subst z
      exact nd_inj nd hj hm)
    rw [upd_ne hba]
    show _ = some (HO.lst ((parts.take (if j = m then i + 1 else f j)).map _))
    rw [if_neg hjm]
    exact e1 _ _ (F j b c' hj hc')
theorem q_fill {Hb : Hp} {rt : Rt} {parts : List D} {al : List Addr} {f : Nat → Nat} {m i : Nat} {a : Addr} {c : Nat} {d : D} (F : Fill rt parts al f H) (nd : al.Nodup) (fr : ∀ a ∈ al, Hb a = none) (eb : Ex Hb H) (hm : al[m]? = some a) (hc : codes6[m]? = some c) (hf : f m = i) (hd : parts[i]? = some d) (hlen : parts.length ≤ 39000)
    (ho : Ev ta σ H (.ref a)) (h : Ev te σ H (.bl (okL rt c d))) (k : ∀ H1, (∀ b o, H b = some o → b ≠ a → H1 b = some o) → Ex Hb H1 → Fill rt parts al (fun j => if j = m then i + 1 else f j) H1 → tz Dd σ H1) :
    tSeq (tDrop (tBM K "list" rAppend ta (tCons te tNil))) tz Dd σ H := s_fill (Dd := { Dd with nx := tz Dd }) F nd fr eb hm hc hf hd hlen ho h k
theorem wk_rng1 {t : TA} {n : Nat} (h : EvA t σ H [.int (n : Int)]) (hn : n ≤ 100000) : Wk (iRng1 t) σ H n (fun i _ x => x = .int (i : Int)) := fun H1 e R k =>
  h H1 e _ fun H2 e2 => ⟨(n : Int), rfl, by omega, by omega, by
    have w : Walk (Itr 0 ((n : Int)).toNat) n (fun _ => True) (YFn fun i => .int (0 + i)) := walk_range
    refine k _ _ _ H2 e2 w (fun _ _ => trivial) fun i H3 x H4 hi e3 y => ?_
    obtain ⟨e4, hx⟩ := y
    subst e4
    refine ⟨Ex.refl _, ?_⟩
    show x = V.int (i : Int)
    rw [hx]
    show V.int (0 + (i : Int)) = _
    rw [Int.zero_add]⟩
end
end K2
/-! The law's is_step. -/
namespace K2
open PySem L2 Evl PySem.Spec PyProof.Rows RZ StX
def forms7 : List (Str × Str) := [("do", "c"), ("let", "nc"), ("await", "mc"), ("if", "cbb"), ("while", "cb"), ("each", "nab"), ("async_each", "nab")]
def forms3 : List (Str × Str) := [("try", "bhbb"), ("with", "mcb"), ("return", "a")]
theorem forms_are : forms7 ++ forms3 = formL := rfl
theorem forms_nd : ((forms7 ++ forms3).map (·.1)).Nodup := by decide +kernel
theorem forms7_nd : (forms7.map (·.1)).Nodup := by decide +kernel
theorem async_are : asyncL = (["await", "with", "async_each"] : List Str) := by decide +kernel
theorem let6_nd : let6.Nodup := by decide +kernel
theorem fm_short : (formL.all fun p => decide (p.2.length ≤ 1000)) = true := by decide +kernel
def spLStep (K : PySem.W.Frag) (n : Nat) : Sp := fun vs H Q _ => ∃ d v pl il rt z, vs = [v, .bl pl, .bl il, z] ∧ Rp K H d v ∧ Sm d ∧ dpD d ≤ n ∧ IsKd H rt z ∧ RetV (.bl (isStepD rt (!pl) il d)) H Q
section
variable {P : Program} {w : World} {K : PySem.W.Frag} {mg : Str → Option Value} {base : Heap}
theorem sc51 : FnScope ["_law_thing", "_law_is_plain", "_law_is_in", "_law_kinds", "_law_forms", "_law_form", "_law_good", "_law_k", "_law_word", "_law_parts", "_law_part", "_law_rows", "_law_x"] ["_law_thing", "_law_is_plain", "_law_is_in", "_law_kinds"] (defScope (top 51)) := ⟨rfl, rfl, rfl, by decide +kernel, rfl, by decide +kernel, by decide +kernel⟩
theorem ok_lstep (B : Bl mg) {n : Nat} (F : Df K mg "_law_is_step" (top 51) ["_law_thing", "_law_is_plain", "_law_is_in", "_law_kinds"]) (O1 : Okd P w K mg base CX0 1 "_law_is_name" ["_law_thing"] (spB1 K Sm isName)) (O2 : Okd P w K mg base CX0 (n + 1) "_law_is_arg" ["_law_thing"] (spArgN K n))
    (O3 : Okd P w K mg base CX0 (n + 2) "_law_is_call" ["_law_thing", "_law_kinds"] (spLCall K n)) (O4 : Okd P w K mg base CX0 2 "_law_is_handler" ["_law_thing"] (spB1 K Sm isHandler)) :
    Okd P w K mg base CX0 (n + 3) "_law_is_step" ["_law_thing", "_law_is_plain", "_law_is_in", "_law_kinds"] (spLStep K n) := by
  refine F.ok sc51 (fun vs H Q E h => by obtain ⟨d, v, pl, il, rt, z, rfl, _⟩ := h; rfl) (fun f cdv A outer s H vs Q E hr h => ?_)
  obtain ⟨d, v, pl, il, rt, z, rfl, r, sm, dp, hz, k⟩ := h
  obtain ⟨f__law_is_name, d__law_is_name, m__law_is_name, k__law_is_name, b__law_is_name, G__law_is_name⟩ := O1.ex
  obtain ⟨f__law_is_arg, d__law_is_arg, m__law_is_arg, k__law_is_arg, b__law_is_arg, G__law_is_arg⟩ := O2.ex
  obtain ⟨f__law_is_call, d__law_is_call, m__law_is_call, k__law_is_call, b__law_is_call, G__law_is_call⟩ := O3.ex
  obtain ⟨f__law_is_handler, d__law_is_handler, m__law_is_handler, k__law_is_handler, b__law_is_handler, G__law_is_handler⟩ := O4.ex
  have hu := hu_of hr
  refine ⟨_, (pss_cons (ps_if (PW.pt (pw_or (pt_not (pt_val (pe_callB call_isi (by rfl) B.isinstance boot_isinstance (pa_cons (pv 0) (pa_cons (pe_bltn (v := .ty "tuple") (by rfl) B.tuple boot_tuple rfl) pa_nil))))) (pw_or (pt_cmpR (op_eqNil (Nat.lt_of_succ_lt hu)) (pv 0) (pe_tup pa_nil) (nomark _)) (pw_or1 (pt_not (pt_val (pe_callB call_isi (by rfl) B.isinstance boot_isinstance (pa_cons (pe_ix ix_tup (pv 0) pe_int (fun _ _ => rfl)) (pa_cons (pe_bltn (v := .ty "str") (by rfl) B.str boot_str rfl) pa_nil))))))))) (pss_one (ps_ret pe_bl)) pss_nil)
      (pss_cons (ps_par (i := 8) (j := 9) (by rfl) sc51.nd rfl rfl (by decide) rfl rfl (pa_cons (pe_ix ix_tup (pv 0) pe_int (fun _ _ => rfl)) (pa_cons (pe_slice sl_tup (pv 0) (po_some pe_int) po_none) pa_nil)) (by rfl))
      (pss_cons (ps_if (pt_cmpR op_eq (pv 8) pe_str (nomark _)) (pss_one (ps_ret (pe_cmpR (op_eqNil (Nat.lt_of_succ_lt hu)) (pe_lc (own := [("_law_part", 10)]) (g := gName 10) rfl sc51.nd (pi_tup (pv 9)) (blkOk_by (N := ["_law_thing", "_law_is_plain", "_law_is_in", "_law_kinds", "_law_forms", "_law_form", "_law_good", "_law_k", "_law_word", "_law_parts", "_law_part", "_law_rows", "_law_x"]) (sc := defScope (top 51)) (by decide +kernel)) (fun _ _ _ _ _ => (pg_name (i := 10) sc51.nd rfl (Or.inl rfl))) (fun _ _ _ _ _ => (pts_one (pt_not (pt_val (pe_call G__law_is_arg (hr.mono (by first | decide | omega)) (by rfl) m__law_is_arg k__law_is_arg b__law_is_arg .nil pass0 (pa_cons (pv 10) pa_nil)))))) (fun _ _ _ _ _ => (pv 10))) (pe_lst pa_nil) (nomark _)))) pss_nil)
      (pss_cons (ps_if (pt_cmpR op_eq (pv 8) pe_str (nomark _)) (pss_one (ps_ret (pe_or (pe_cmpR (op_eqNil (Nat.lt_of_succ_lt hu)) (pv 9) (pe_tup pa_nil) (nomark _)) (pe_one (pe_and (pe_cmpR op_eq (pe_callB call_lenQ (by rfl) B.len PySem.boot_len (pa_cons (pv 9) pa_nil)) pe_int (nomark _)) (pe_one (pe_call G__law_is_arg (hr.mono (by first | decide | omega)) (by rfl) m__law_is_arg k__law_is_arg b__law_is_arg .nil pass0 (pa_cons (pe_ix ix_tup (pv 9) pe_int (fun _ _ => rfl)) pa_nil)))))))) pss_nil)
      (pss_cons (ps_if (pt_cmpR op_eq (pv 8) pe_str (nomark _)) (pss_one (ps_ret (pe_and (pe_cmpR (op_eqNil (Nat.lt_of_succ_lt hu)) (pv 9) (pe_tup pa_nil) (nomark _)) (pe_one (pv 2))))) pss_nil)
      (pss_cons (ps_if (PW.pt (pw_and (pt_val (pv 1)) (pw_and1 (pt_cmpR op_in_seq (pv 8) (pe_tup (pa_cons pe_str (pa_cons pe_str (pa_cons pe_str pa_nil)))) rfl)))) (pss_one (ps_ret pe_bl)) pss_nil)
      (pss_cons (ps_set (i := 4) sc51.nd rfl (Or.inl rfl) (pe_disp (pps_cons pe_str pe_str (pps_cons pe_str pe_str (pps_cons pe_str pe_str (pps_cons pe_str pe_str (pps_cons pe_str pe_str (pps_cons pe_str pe_str (pps_cons pe_str pe_str pps_nil))))))) rfl rfl (fun h => nomatch h) (by decide)))
      (pss_cons (ps_set (i := 5) sc51.nd rfl (Or.inr rfl) (pe_dget1 hu (pe_callTy (call_dictPr rfl) (by rfl) B.dict boot_dict (pa_cons (pe_op op_cat (LiI.pe_listItems rfl (pv 4) (by rfl) B.list rfl) (pe_lst (pa_cons (pe_tup (pa_cons pe_str (pa_cons pe_str pa_nil))) (pa_cons (pe_tup (pa_cons pe_str (pa_cons pe_str pa_nil))) (pa_cons (pe_tup (pa_cons pe_str (pa_cons pe_str pa_nil))) pa_nil))))) pa_nil)) (pv 8) ⟨rfl, rfl, rfl, rfl⟩))
      (pss_cons (ps_if (PW.pt (pw_or (pt_cmpR op_isN1 (pv 5) pe_non (nomark _)) (pw_or1 (pt_cmpR op_ne (pe_callB call_len_str (by rfl) B.len PySem.boot_len (pa_cons (pv 5) pa_nil)) (pe_callB call_lenQ (by rfl) B.len PySem.boot_len (pa_cons (pv 9) pa_nil)) (nomark _))))) (pss_one (ps_ret pe_bl)) pss_nil)
      (pss_cons (ps_set (i := 6) sc51.nd rfl (Or.inr rfl) (pe_disp (pps_cons pe_str (pe_lst pa_nil) (pps_cons pe_str (pe_lst pa_nil) (pps_cons pe_str (pe_lst pa_nil) (pps_cons pe_str (pe_lst pa_nil) (pps_cons pe_str (pe_lst pa_nil) (pps_cons pe_str (pe_lst pa_nil) pps_nil)))))) rfl rfl (fun h => nomatch h) (by decide)))
      (pss_cons (ps_for PassesOwn.never rfl (pi_range1 (by rfl) B.range (pa_cons (pe_callB call_lenQ (by rfl) B.len PySem.boot_len (pa_cons (pv 9) pa_nil)) pa_nil)) (pg_name (i := 7) sc51.nd rfl (Or.inl rfl)) (pss_cons (ps_set (i := 10) sc51.nd rfl (Or.inl rfl) (pe_ix ix_tup (pv 9) (pv 7) (fun _ _ => rfl)))
      (pss_cons (ps_set (i := 11) sc51.nd rfl (Or.inl rfl) (pe_callB call_isi (by rfl) B.isinstance boot_isinstance (pa_cons (pv 10) (pa_cons (pe_bltn (v := .ty "tuple") (by rfl) B.tuple boot_tuple rfl) pa_nil))))
      (pss_cons (ps_expr (pe_bm PySem.F.plainAttrs_list PySem.F.slot_list_append PySem.F.type_list_append mt_append (pe_dget hu (pv 6) pe_str (fun _ _ => rfl)) (pa_cons (pe_call G__law_is_call (hr.mono (by first | decide | omega)) (by rfl) m__law_is_call k__law_is_call b__law_is_call .nil pass0 (pa_cons (pv 10) (pa_cons (pv 3) pa_nil))) pa_nil)))
      (pss_cons (ps_expr (pe_bm PySem.F.plainAttrs_list PySem.F.slot_list_append PySem.F.type_list_append mt_append (pe_dget hu (pv 6) pe_str (fun _ _ => rfl)) (pa_cons (pe_call G__law_is_name (hr.mono (by first | decide | omega)) (by rfl) m__law_is_name k__law_is_name b__law_is_name .nil pass0 (pa_cons (pv 10) pa_nil)) pa_nil)))
      (pss_cons (ps_expr (pe_bm PySem.F.plainAttrs_list PySem.F.slot_list_append PySem.F.type_list_append mt_append (pe_dget hu (pv 6) pe_str (fun _ _ => rfl)) (pa_cons (pe_or (pe_cmpR op_isN1 (pv 10) pe_non (nomark _)) (pe_one (pe_call G__law_is_name (hr.mono (by first | decide | omega)) (by rfl) m__law_is_name k__law_is_name b__law_is_name .nil pass0 (pa_cons (pv 10) pa_nil)))) pa_nil)))
      (pss_cons (ps_expr (pe_bm PySem.F.plainAttrs_list PySem.F.slot_list_append PySem.F.type_list_append mt_append (pe_dget hu (pv 6) pe_str (fun _ _ => rfl)) (pa_cons (pe_call G__law_is_arg (hr.mono (by first | decide | omega)) (by rfl) m__law_is_arg k__law_is_arg b__law_is_arg .nil pass0 (pa_cons (pv 10) pa_nil)) pa_nil)))
      (pss_cons (ps_expr (pe_bm PySem.F.plainAttrs_list PySem.F.slot_list_append PySem.F.type_list_append mt_append (pe_dget hu (pv 6) pe_str (fun _ _ => rfl)) (pa_cons (pv 11) pa_nil)))
      (pss_one (ps_expr (pe_bm PySem.F.plainAttrs_list PySem.F.slot_list_append PySem.F.type_list_append mt_append (pe_dget hu (pv 6) pe_str (fun _ _ => rfl)) (pa_cons (pe_and (pv 11) (pe_one (pe_cmpR (op_eqNil (Nat.lt_of_succ_lt hu)) (pe_lc (own := [("_law_x", 12)]) (g := gName 12) rfl sc51.nd (pi_tup (pe_ix ix_list (pe_lst (pa_cons (pv 10) (pa_cons (pe_tup pa_nil) pa_nil))) (pe_callTy call_i1 (by rfl) B.int boot_int (pa_cons (pe_not (pv 11)) pa_nil)) (fun _ _ => rfl))) (blkOk_by (N := ["_law_thing", "_law_is_plain", "_law_is_in", "_law_kinds", "_law_forms", "_law_form", "_law_good", "_law_k", "_law_word", "_law_parts", "_law_part", "_law_rows", "_law_x"]) (sc := defScope (top 51)) (by decide +kernel)) (fun _ _ _ _ _ => (pg_name (i := 12) sc51.nd rfl (Or.inl rfl))) (fun _ _ _ _ _ => (pts_one (pt_not (pt_val (pe_call G__law_is_handler (hr.mono (by first | decide | omega)) (by rfl) m__law_is_handler k__law_is_handler b__law_is_handler .nil pass0 (pa_cons (pv 12) pa_nil)))))) (fun _ _ _ _ _ => (pv 12))) (pe_lst pa_nil) (nomark _)))) pa_nil))))))))))))
      (pss_one (ps_ret (pe_cmpR (op_eqNil (Nat.lt_of_succ_lt hu)) (pe_lc (own := [("_law_k", 7)]) (g := gName 7) rfl sc51.nd (pi_range1 (by rfl) B.range (pa_cons (pe_callB call_lenQ (by rfl) B.len PySem.boot_len (pa_cons (pv 9) pa_nil)) pa_nil)) (blkOk_by (N := ["_law_thing", "_law_is_plain", "_law_is_in", "_law_kinds", "_law_forms", "_law_form", "_law_good", "_law_k", "_law_word", "_law_parts", "_law_part", "_law_rows", "_law_x"]) (sc := defScope (top 51)) (by decide +kernel)) (fun _ _ _ _ _ => (pg_name (i := 7) sc51.nd rfl (Or.inl rfl))) (fun _ _ _ _ _ => (pts_one (pt_not (pt_val (pe_ix (r := rIxL K) ix_list (pe_dget hu (pv 6) (pe_ix ix_str (pv 5) (pv 7) (fun _ _ => rfl)) (fun _ _ => rfl)) (pv 7) (fun _ _ => rfl)))))) (fun _ _ _ _ _ => (pv 7))) (pe_lst pa_nil) (nomark _))))))))))))))), ?_⟩
  cases hs : isTup d with
  | false =>
    have q : isStepD rt (!pl) il d = false := by cases d <;> first | rfl | cases hs
    refine q_when (b := !(isTup d) || true) (et_or (et_not (et_B (ev_isi r (ev_var rfl) (kit_tup d)))) (fun ha => by rw [hs] at ha; cases ha)) (fun _ H1 e => s_ret ev_c fun H2 e2 => ?_) (fun hb => by rw [hs] at hb; cases hb)
    rw [← q]
    exact k H2 (e.trans e2)
  | true =>
    cases r with
    | tup ha rs =>
      rename_i a vs ds
      have hlen : ds.length ≤ 39000 := sm.tlen
      cases ds with
      | nil =>
        cases rs
        refine q_when (b := true) (et_is (et_or (et_not (et_B (ev_isi (Rp.tup ha .nil) (ev_var rfl) (kit_tup _)))) (fun _ => et_or (b := false) (et_test (ev_tupNil (ev_var rfl) ha)) (fun z => nomatch z))) rfl) (fun _ H1 e => s_ret ev_c fun H2 e2 => k H2 (e.trans e2)) (fun hb => nomatch hb)
      | cons d0 parts =>
        obtain ⟨v0, g0, r0⟩ := rs.get (i := 0) (d := d0) rfl
        have hne : vs.isEmpty = false := by rw [rs.empty]; rfl
        have i0 : ∀ {σ : L2.St} {H1 : Hp}, σ[0]? = some (some (.ref a)) → Ex H H1 → Ev (tOp (rIxT K) (tVar 0) (tC (.int 0))) σ H1 v0 := fun hσ e => ev_op (ev_var hσ) ev_c (rv_ixT (st_of (e _ _ ha)) (atI_nat (j := 0) g0))
        refine q_when (b := !(isStr d0)) (et_is (et_or (et_not (et_B (ev_isi (Rp.tup ha rs) (ev_var rfl) (kit_tup _)))) (fun _ => et_or (et_test (ev_tupNil (ev_var rfl) ha)) (fun _ => et_not (et_B (ev_isi r0 (i0 rfl (Ex.refl _)) (kit_str d0)))))) (by rw [hne]; rfl)) (fun hb H1 e => s_ret ev_c fun H2 e2 => ?_) (fun hb H1 e1 => ?_)
        · have q : isStepD rt (!pl) il (.tup (d0 :: parts)) = false := by
            rw [Bool.not_eq_true'] at hb
            cases d0 <;> first | rfl | cases hb
          rw [← q]
          exact k H2 (e.trans e2)
        · rw [Bool.not_eq_false'] at hb
          obtain ⟨word, rfl⟩ := str_of hb
          cases r0
          have ha1 := e1 _ _ ha
          have rs1 := rs.mono e1
          have q0 : isStepD rt (!pl) il (.tup (.str word :: parts)) = lawStep rt pl il word parts := by
            have := law_step rt (!pl) il word parts
            rw [Bool.not_not] at this
            rw [this]
            rfl
          rw [q0] at k
          refine i0 rfl e1 H1 (Ex.refl _) _ fun H2 e2 => evp_sl1 (ev_var rfl) ha1 rs1 (by simp) H2 e2 _ fun pv H3 e3 rp => ⟨_, _, rfl, ?_⟩
          have e03 := (e1.trans e2).trans e3
          have rp' : Rp K H3 (.tup parts) pv := rp
          cases rp' with
          | tup hp rps =>
            rename_i pa pvs
            have spm : ∀ e ∈ parts, Sm e := fun e he => by
              obtain ⟨i, hi⟩ := List.getElem?_of_mem he
              exact sm.item (i := i + 1) (by simpa using hi)
            have dpm : ∀ e ∈ parts, dpD e < n := fun e he => by
              have h1 : dpD e ≤ dpL (.str word :: parts) := dpL_mem (List.mem_cons_of_mem _ he)
              have h2 : dpL (.str word :: parts) + 1 ≤ n := dp
              omega
            have plen : parts.length ≤ 39000 := by
              simp only [List.length_cons] at hlen
              omega
            have lpv := rps.len
            unfold lawStep at k
            refine q_when (et_eqS (K := K) (ev_var rfl)) (fun hw H4 e4 => ?_) (fun hw H4 e4 => ?_)
            · have hw' : word = "say" := of_decide_eq_true hw
              rw [if_pos hw'] at k
              exact s_ret (ev_noneD (wk_tup (ev_var rfl) (e4 _ _ hp) (rps.mono e4)) (by omega) (fun _ => rfl) (fun _ => rfl) fun d x H5 hd e5 rx => et_not (et_B (ev_call (ea_cons (ev_var rfl) ea_nil) (spB1_v rx ⟨spm d hd, dpm d hd⟩)))) fun H5 e5 => k H5 ((e03.trans e4).trans e5)
            · have hw1 : ¬ word = "say" := of_decide_eq_false hw
              rw [if_neg hw1] at k
              have e04 := e03.trans e4
              have hp4 := e4 _ _ hp
              have rp4 := rps.mono e4
              refine q_when (et_eqS (K := K) (ev_var rfl)) (fun hw H5 e5 => ?_) (fun hw H5 e5 => ?_)
              · have hw' : word = "raise" := of_decide_eq_true hw
                rw [if_pos hw'] at k
                have hp5 := e5 _ _ hp4
                have rp5 := rp4.mono e5
                refine s_ret (ev_orV (ev_is (ev_tupNil (ev_var rfl) hp5) (congrArg V.bl rp5.empty)) fun _ => ev_andV (ev_is (ev_op (ev_lenT (ev_var rfl) (st_of hp5)) ev_c (rv_eq rfl)) (congrArg V.bl ?_)) fun h1 => ?_) fun H6 e6 => k H6 ((e04.trans e5).trans e6)
                · rw [lpv]
                  exact decide_eq_decide.mpr ⟨fun z => by injection z, fun z => by rw [z]⟩
                · cases parts with
                  | nil => exact absurd (of_decide_eq_true h1) (by simp)
                  | cons a0 rest =>
                    obtain ⟨u0, gu, ru⟩ := rp5.get (i := 0) (d := a0) rfl
                    exact ev_call (ea_cons (ev_op (ev_var rfl) ev_c (rv_ixT (st_of hp5) (atI_nat (j := 0) gu))) ea_nil) (spB1_v ru ⟨spm a0 (by simp), dpm a0 (by simp)⟩)
              · have hw2 : ¬ word = "raise" := of_decide_eq_false hw
                rw [if_neg hw2] at k
                have e05 := e04.trans e5
                have hp5 := e5 _ _ hp4
                have rp5 := rp4.mono e5
                refine q_when (et_eqS (K := K) (ev_var rfl)) (fun hw H6 e6 => ?_) (fun hw H6 e6 => ?_)
                · have hw' : word = "break" := of_decide_eq_true hw
                  rw [if_pos hw'] at k
                  exact s_ret (ev_andV (ev_is (ev_tupNil (ev_var rfl) (e6 _ _ hp5)) (congrArg V.bl rp5.empty)) fun _ => ev_var rfl) fun H7 e7 => k H7 ((e05.trans e6).trans e7)
                · have hw3 : ¬ word = "break" := of_decide_eq_false hw
                  rw [if_neg hw3] at k
                  have e06 := e05.trans e6
                  have hp6 := e6 _ _ hp5
                  have rp6 := rp5.mono e6
                  refine q_when (b := pl && inStrs asyncL word) (et_and (et_B (ev_var rfl)) fun _ => et_is (et_test (ev_inU (xs := (["await", "with", "async_each"] : List Str).map V.str) (ev_var rfl) (eu_tup (ea_cons ev_c (ea_cons ev_c (ea_cons ev_c ea_nil))) (by simp)) rfl rfl)) (by rw [inV_strs, async_are])) (fun hb H7 e7 => s_ret ev_c fun H8 e8 => ?_) (fun hb H7 e7 => ?_)
                  · rw [if_pos hb] at k
                    exact k H8 ((e06.trans e7).trans e8)
                  · rw [if_neg (by rw [hb]; exact Bool.false_ne_true)] at k
                    have e07 := e06.trans e7
                    refine q_asgD (ed_disp (l := forms7) forms7_nd (by decide)) fun fd H8 nfd e8 hfd => ?_
                    refine q_asg (ev_form (K := K) (l1 := forms7) (l2 := forms3) (ev_var rfl) hfd forms_nd (ev_var rfl) ⟨by decide, by decide⟩ fun H9 e9 => eap_cons (evp_tup (eap_cons (evp_d ev_c (Rp.str _)) (eap_cons (evp_d ev_c (Rp.str _)) eap_nil)) (by simp)) (eap_cons (evp_tup (eap_cons (evp_d ev_c (Rp.str _)) (eap_cons (evp_d ev_c (Rp.str _)) eap_nil)) (by simp)) (eap_cons (evp_tup (eap_cons (evp_d ev_c (Rp.str _)) (eap_cons (evp_d ev_c (Rp.str _)) eap_nil)) (by simp)) eap_nil))) fun H9 e9 => ?_
                    rw [forms_are]
                    have e79 := e8.trans e9
                    have e09 := e07.trans e79
                    have hp9 := (e7.trans e79) _ _ hp6
                    have rp9 := rp6.mono (e7.trans e79)
                    cases hf : formL.lookup word with
                    | none =>
                      rw [hf] at k
                      exact q_when (b := true) (et_is (et_or (b := false) (et_test (ev_op (ev_var rfl) ev_c rv_isN)) (fun h => nomatch h)) rfl) (fun _ H10 e10 => s_ret ev_c fun H11 e11 => k H11 ((e09.trans e10).trans e11)) (fun h => nomatch h)
                    | some fm =>
                      rw [hf] at k
                      have hfs : fm.length ≤ 1000 := of_decide_eq_true (List.all_eq_true.mp fm_short _ (lookup_mem hf))
                      refine q_when (b := decide (parts.length ≠ fm.length)) (et_is (et_or (et_test (ev_op (ev_var rfl) ev_c rv_isN)) (fun _ => et_test (ev_op (ev_lenS (ev_var rfl) (by omega)) (ev_lenT (ev_var rfl) (st_of hp9)) (rv_ne rfl)))) ?_) (fun hb10 H10 e10 => s_ret ev_c fun H11 e11 => ?_) (fun hb10 H10 e10 => ?_)
                      · rw [lpv]
                        show (false || !decide (V.int _ = V.int _)) = _
                        rw [Bool.false_or, ← decide_not]
                        exact decide_eq_decide.mpr ⟨fun h z => h (by rw [z]), fun h z => h (by injection z with z; omega)⟩
                      · have k' : RetV (.bl (if parts.length ≠ fm.length then false else (List.range parts.length).all fun i => match fm.cps.toList[i]?, parts[i]? with | some c, some d => okL rt c d | _, _ => true)) H Q := k
                        rw [if_pos (of_decide_eq_true hb10)] at k'
                        exact k' H11 ((e09.trans e10).trans e11)
                      · have hlf : parts.length = fm.length := by
                          have := of_decide_eq_false hb10
                          simpa using this
                        have k' : RetV (.bl ((List.range parts.length).all fun i => match fm.cps.toList[i]?, parts[i]? with | some c, some d => okL rt c d | _, _ => true)) H Q := by
                          have k' : RetV (.bl (if parts.length ≠ fm.length then false else (List.range parts.length).all fun i => match fm.cps.toList[i]?, parts[i]? with | some c, some d => okL rt c d | _, _ => true)) H Q := k
                          rw [if_neg (by simpa using hlf)] at k'
                          exact k'
                        have e010 := e09.trans e10
                        have hp10 := e10 _ _ hp9
                        have rp10 := rp9.mono e10
                        have hz10 := hz.mono e010
                        refine q_good (l := let6) let6_nd (by decide) fun gD al H11 ngD hgal hal N hgD => ?_
                        obtain ⟨ac, an, am, aa, ab, ah, rfl⟩ : ∃ ac an am aa ab ah, al = [ac, an, am, aa, ab, ah] := by
                          match al, hal with
                          | [a0, a1, a2, a3, a4, a5], _ => exact ⟨a0, a1, a2, a3, a4, a5, rfl⟩
                        have hgm : ∀ {b : Addr}, b ∈ [ac, an, am, aa, ab, ah] → gD ≠ b := fun hb z => hgal (z ▸ hb)
                        refine q_forR1 (n := (parts.length : Int)) (ea_cons (ev_is (ev_lenT (ev_var rfl) (st_of (N.ex _ _ hp10))) (by rw [lpv])) ea_nil) ⟨by omega, by omega⟩
                          (fun i σ' H' => ∃ x7 x10 x11, σ' = [some (.ref a), some (.bl pl), some (.bl il), some z, some (.ref fd), some (.str fm), some (.ref gD), x7, some (.str word), some (.ref pa), x10, x11, none] ∧ Ex H10 H' ∧ H' gD = some (.dK (lkv let6 [ac, an, am, aa, ab, ah])) ∧ Fill rt parts [ac, an, am, aa, ab, ah] (fun _ => i) H')
                          (fun H12 e12 => ⟨_, _, _, rfl, N.ex.trans e12, e12 _ _ hgD, fun j b c hj hc => by
                            rw [List.take_zero]
                            exact e12 _ _ (N.nil b (List.mem_of_getElem? hj))⟩) ?_ ?_
                        · rintro i σ' H12 hi ⟨x7, x10, x11, rfl, e12, hg12, F12⟩
                          have hi' : i < parts.length := by omega
                          obtain ⟨pd, hpd⟩ : ∃ pd, parts[i]? = some pd := ⟨parts[i], List.getElem?_eq_getElem hi'⟩
                          obtain ⟨pv, gpv, rpv⟩ := (rp10.mono e12).get hpd
                          have hpm : pd ∈ parts := List.mem_of_getElem? hpd
                          have smp := spm pd hpm
                          have dpp := dpm pd hpm
                          refine q_asg (ev_op (ev_var rfl) (ev_var rfl) (rv_ixT (st_of (e12 _ _ hp10)) (atI_nat gpv))) fun H13 e13 => ?_
                          refine q_asg (ev_isi (rpv.mono e13) (ev_var rfl) (kit_tup pd)) fun H14 e14 => ?_
                          have e1214 := e13.trans e14
                          have e14b := e12.trans e1214
                          have hg14 := e1214 _ _ hg12
                          have R : ∀ {Hx : Hp}, Ex H10 Hx → Rp K Hx pd pv := fun hx => by
                            obtain ⟨pv', gpv', rpv'⟩ := (rp10.mono hx).get hpd
                            rw [gpv] at gpv'
                            cases gpv'
                            exact rpv'
                          refine q_fill (m := 0) (F12.ex e1214) N.nd N.fresh e14b rfl rfl rfl hpd plen (ev_dget (ev_var rfl) ev_c (.inl hg14) (lkv_val (j := 0) let6_nd rfl rfl)) ?_ fun H15 kp15 e15 F15 => ?_
                          · rw [okL_c]
                            exact ev_call (sp := spLCall K n) (ea_cons (ev_var rfl) (ea_cons (ev_var rfl) ea_nil)) fun H1 e Q q _ => ⟨pd, pv, rt, z, rfl, (R e14b).mono e, smp, Nat.le_of_lt dpp, (hz10.mono e14b).mono e, fun H2 e2 => q H2 e2⟩
                          have hg15 := kp15 _ _ hg14 (hgm (by simp))
                          refine q_fill (m := 1) F15 N.nd N.fresh e15 rfl rfl rfl hpd plen (ev_dget (ev_var rfl) ev_c (.inl hg15) (lkv_val (j := 1) let6_nd rfl rfl)) ?_ fun H16 kp16 e16 F16 => ?_
                          · rw [okL_n]
                            exact ev_call (ea_cons (ev_var rfl) ea_nil) (spB1_v (R e15) smp)
                          have hg16 := kp16 _ _ hg15 (hgm (by simp))
                          refine q_fill (m := 2) F16 N.nd N.fresh e16 rfl rfl rfl hpd plen (ev_dget (ev_var rfl) ev_c (.inl hg16) (lkv_val (j := 2) let6_nd rfl rfl)) ?_ fun H17 kp17 e17 F17 => ?_
                          · rw [okL_m]
                            exact ev_orV (ev_is (ev_op (ev_var rfl) ev_c rv_isN) (congrArg V.bl (R e16).isN)) fun _ => ev_call (ea_cons (ev_var rfl) ea_nil) (spB1_v (R e16) smp)
                          have hg17 := kp17 _ _ hg16 (hgm (by simp))
                          refine q_fill (m := 3) F17 N.nd N.fresh e17 rfl rfl rfl hpd plen (ev_dget (ev_var rfl) ev_c (.inl hg17) (lkv_val (j := 3) let6_nd rfl rfl)) ?_ fun H18 kp18 e18 F18 => ?_
                          · rw [okL_a]
                            exact ev_call (ea_cons (ev_var rfl) ea_nil) (spB1_v (R e17) ⟨smp, dpp⟩)
                          have hg18 := kp18 _ _ hg17 (hgm (by simp))
                          refine q_fill (m := 4) F18 N.nd N.fresh e18 rfl rfl rfl hpd plen (ev_dget (ev_var rfl) ev_c (.inl hg18) (lkv_val (j := 4) let6_nd rfl rfl)) ?_ fun H19 kp19 e19 F19 => ?_
                          · rw [okL_b]
                            exact ev_var rfl
                          have hg19 := kp19 _ _ hg18 (hgm (by simp))
                          refine s_fill (m := 5) F19 N.nd N.fresh e19 rfl rfl rfl hpd plen (ev_dget (ev_var rfl) ev_c (.inl hg19) (lkv_val (j := 5) let6_nd rfl rfl)) ?_ fun H20 kp20 e20 F20 => ?_
                          · rw [okL_h]
                            have q : handlersOk pd = (isTup pd && (match pd with | .tup l => l.all isHandler | _ => false)) := by cases pd <;> rfl
                            rw [q]
                            refine ev_andV (ev_var rfl) fun ht => ?_
                            have rr := R e19
                            cases rr with
                            | tup hq rq =>
                              rename_i qa qvs qds
                              refine ev_noneD (wk_tup (a := qa) ?_ hq rq) (by have := smp.tlen; omega) (fun _ => rfl) (fun _ => rfl) fun d x H1 hd e rx => et_not (et_B (ev_call (ea_cons (ev_var rfl) ea_nil) (spB1_v rx ?_)))
                              · intro H1 e Q q
                                exact ⟨_, rfl, (eu_tup ea_nil (by simp) : EvU (tTup tNil) _ H1 []) H1 (Ex.refl _) _ fun p2 H2 np2 e2 hp2 => ⟨(show (2 : Nat) ≤ sizeLine by decide), fun p3 hp3 => (ev_is (ev_ib (ev_notV (a := isTup (.tup qds)) (ev_var rfl))) rfl : Ev _ _ _ (.int 0)) _ (Ex.refl _) _ fun H3 e3 => ⟨p3, [.ref qa, .ref p2], 0, .ref qa, rfl, rfl, sq_of (e3 _ _ upd_same), atI_nat (j := 0) rfl, q H3 ((e2.trans (Ex.new hp3)).trans e3)⟩⟩⟩
                              · obtain ⟨j, hj⟩ := List.getElem?_of_mem hd
                                exact smp.item hj
                            | _ => cases ht
                          refine ⟨_, _, _, rfl, e20, kp20 _ _ hg19 (hgm (by simp)), fun j b c hj hc => ?_⟩
                          have := F20 j b c hj hc
                          have hj6 : j < 6 := by
                            have := (List.getElem?_eq_some_iff.mp hj).1
                            simpa using this
                          match j, hj6 with
                          | 0, _ => exact this
                          | 1, _ => exact this
                          | 2, _ => exact this
                          | 3, _ => exact this
                          | 4, _ => exact this
                          | 5, _ => exact this
                        · rintro σ' H12 ⟨x7, x10, x11, rfl, e12, hg12, F12⟩
                          refine s_ret (ev_noneW (n := parts.length) _ (wk_rng1 (ea_cons (ev_is (ev_lenT (ev_var rfl) (st_of (e12 _ _ hp10))) (by rw [lpv])) ea_nil) (by omega)) (by omega) (fun _ => rfl) (fun _ => rfl) fun i x H13 hi e13 hx => ?_) fun H13 e13 => k' H13 ((e010.trans e12).trans e13)
                          subst hx
                          obtain ⟨pd, hpd⟩ : ∃ pd, parts[i]? = some pd := ⟨parts[i], List.getElem?_eq_getElem hi⟩
                          have hil : i < fm.cps.toList.length := by rw [← len_cps, ← hlf]; exact hi
                          obtain ⟨c, hc⟩ : ∃ c, fm.cps.toList[i]? = some c := ⟨fm.cps.toList[i], List.getElem?_eq_getElem hil⟩
                          have hcm : c ∈ codes6 := by
                            have h1 := List.all_eq_true.mp fm_codes _ (lookup_mem hf)
                            have h2 := List.all_eq_true.mp h1 c (List.mem_of_getElem? hc)
                            unfold codes6
                            simp only [Bool.or_eq_true, beq_iff_eq] at h2
                            simp only [List.mem_cons, List.mem_nil_iff, or_false]
                            omega
                          obtain ⟨j, hj⟩ := List.getElem?_of_mem hcm
                          have hj6 : j < 6 := (List.getElem?_eq_some_iff.mp hj).1
                          obtain ⟨b, hb⟩ : ∃ b, ([ac, an, am, aa, ab, ah] : List Addr)[j]? = some b := ⟨_, List.getElem?_eq_getElem (by simpa using hj6)⟩
                          have hl6 : let6[j]? = some (chr1 c) := by rw [let6_is, List.getElem?_map, hj]; rfl
                          have hF := F12 j b c hb hj
                          have hF' : H12 b = some (.lst (parts.map fun d => V.bl (okL rt c d))) := by
                            have e1 : ((parts.length : Int)).toNat = parts.length := by omega
                            rw [e1, List.take_length] at hF
                            exact hF
                          show EvT _ _ _ (!(match fm.cps.toList[i]?, parts[i]? with | some c, some d => okL rt c d | _, _ => true))
                          rw [hc, hpd]
                          refine et_not (et_B (ev_op (ev_dget (ev_var rfl) (ev_op (ev_var rfl) (ev_var rfl) (rv_ixS (by omega) (atI_nat hc))) (.inl (e13 _ _ hg12)) (lkv_val let6_nd hl6 hb)) (ev_var rfl) (rv_ixL (sq_of (e13 _ _ hF')) (atI_nat ?_))))
                          rw [List.getElem?_map, hpd]
                          rfl
    | _ => cases hs
end
end K2
/-! The law's bad: the mathematics. -/
namespace K2
open PySem L2 Evl PySem.Spec PyProof.Rows RZ StX
theorem firstBad_app (rt : Rt) (async : Bool) : ∀ (n : Nat) (l1 l2 : List It3), szI l1 < n → firstBad rt async (l1 ++ l2) = (firstBad rt async l1).or (firstBad rt async l2)
  | 0, _, _, h => absurd h (Nat.not_lt_zero _)
  | n + 1, [], l2, _ => by rw [firstBad_nil]; rfl
  | n + 1, i :: rest, l2, h => by
    have h3 := childs_sz i.place i.il i.step
    have h4 : szI (i :: rest) = szD i.step + szI rest := rfl
    rw [List.cons_append, firstBad_cons, firstBad_cons]
    by_cases hb : isStepD rt async i.il i.step = true
    · rw [if_pos hb, if_pos hb, ← List.append_assoc]
      exact firstBad_app rt async n (childs i.place i.il i.step ++ rest) l2 (by rw [szI_app]; omega)
    · rw [if_neg hb, if_neg hb]
      rfl
theorem fb_app {rt : Rt} {async : Bool} {l1 l2 : List It3} : firstBad rt async (l1 ++ l2) = (firstBad rt async l1).or (firstBad rt async l2) := firstBad_app rt async (szI l1 + 1) l1 l2 (Nat.lt_succ_self _)
theorem fb_one {rt : Rt} {async : Bool} {i : It3} : firstBad rt async [i] = if isStepD rt async i.il i.step = true then firstBad rt async (childs i.place i.il i.step) else some i.place := by
  rw [firstBad_cons, List.append_nil]
/-- the first wrong one of a body's steps -/
def badS (rt : Rt) (async il : Bool) (place : List D) (steps : List D) (n : Nat) : Option (List D) := firstBad rt async (kidsN place [] il steps n)
theorem badS_zero {rt : Rt} {async il : Bool} {place steps : List D} : badS rt async il place steps 0 = none := rfl
theorem badS_succ {rt : Rt} {async il : Bool} {place steps : List D} {n : Nat} {s : D} (h : steps[n]? = some s) :
    badS rt async il place steps (n + 1) = (badS rt async il place steps n).or (if isStepD rt async il s = true then firstBad rt async (childs (place ++ [.int (n : Int)]) il s) else some (place ++ [.int (n : Int)])) := by
  unfold badS
  rw [kidsN_succ, fb_app]
  have e : kid place [] il steps n = [⟨s, place ++ [.int (n : Int)], il⟩] := by unfold kid; rw [h]; rfl
  rw [e, fb_one]
theorem kids_is (place way : List D) (il : Bool) (steps : List D) : kids place il (.tup [.tup way, .tup steps]) = kidsN (place ++ way) [] il steps steps.length := by
  show kidsN place way il steps steps.length = _
  unfold kidsN
  congr 1
  funext i
  unfold kid
  cases steps[i]? with
  | none => rfl
  | some s => simp [List.append_assoc]
/-- .. of the steps in a step's bodies -/
theorem chil_fb {rt : Rt} {async il : Bool} {place : List D} {prs : List D} {n : Nat} {way steps : List D} (h : prs[n]? = some (.tup [.tup way, .tup steps])) :
    firstBad rt async (chil place il prs (n + 1)) = (firstBad rt async (chil place il prs n)).or (badS rt async il (place ++ way) steps steps.length) := by
  rw [chil_succ _ _ _ _ _ h, fb_app, kids_is]
  rfl
theorem childs_is (place : List D) (il : Bool) (word : Str) (parts : List D) : childs place il (.tup (.str word :: parts)) = chil place (il || inStrs loopsL word) (innerB word parts) (innerB word parts).length := rfl
theorem loops_are : loopsL = (["while", "each", "async_each"] : List Str) := by decide +kernel
/-- which parts are bodies -/
def bodyAt : List (Str × Int) := [("if", 2), ("if", 3), ("while", 2), ("each", 3), ("async_each", 3), ("with", 3)]
def lawKind (x : Str) (j : Int) : Nat := if x = "try" ∧ j = 2 then 2 else if (bodyAt.any fun p => decide (p = (x, j))) = true then 1 else if x = "try" then 1 else 0
def shKind (s : Str) : Nat := if s = "body" then 1 else if s = "handlers" then 2 else 0
theorem kind1 : (shL.all fun p => (List.range p.2.length).all fun i => match p.2[i]? with | some s => decide (lawKind p.1 (1 + (i : Int)) = shKind s) | none => true) = true := by decide +kernel
theorem kind2 : ((("try" : Str) :: bodyAt.map (·.1)).all fun x => (shL.lookup x).isSome) = true := by decide +kernel
theorem kind_none {x : Str} (h : shape x = none) (j : Int) : lawKind x j = 0 := by
  have hk : ∀ y ∈ ("try" :: bodyAt.map (·.1) : List Str), y ≠ x := fun y hy e => by
    have := List.all_eq_true.mp kind2 y hy
    rw [e] at this
    have h' : shL.lookup x = none := h
    rw [h'] at this
    cases this
  have ht : x ≠ "try" := fun e => hk "try" (by simp) e.symm
  unfold lawKind
  rw [if_neg (fun h => ht h.1), if_neg ht]
  have : (bodyAt.any fun p => decide (p = (x, j))) = false := by
    rw [Bool.eq_false_iff]
    intro hh
    obtain ⟨p, hp, he⟩ := List.any_eq_true.mp hh
    have he' : p = (x, j) := of_decide_eq_true he
    exact hk p.1 (List.mem_cons_of_mem _ (List.mem_map_of_mem hp)) (by rw [he'])
  rw [if_neg (by rw [this]; exact Bool.false_ne_true)]
theorem kind_some {x : Str} {sh : List Str} {i : Nat} {s : Str} (h : shape x = some sh) (hi : sh[i]? = some s) : lawKind x (1 + (i : Int)) = shKind s := by
  have h1 := List.all_eq_true.mp kind1 _ (lookup_mem h)
  have hil : i < sh.length := (List.getElem?_eq_some_iff.mp hi).1
  have h2 := List.all_eq_true.mp h1 i (List.mem_range.mpr hil)
  simp only [hi] at h2
  exact of_decide_eq_true h2
def swapD : D → D
  | .tup [a, b] => .tup [b, a]
  | d => d
/-- what the law lays for the part at i -/
def lawAt (word : Str) (parts : List D) (i : Nat) : List D := match parts[i]? with
  | none => []
  | some d => if lawKind word (1 + (i : Int)) = 1 then [.tup [d, .tup [.int (1 + (i : Int))]]]
      else if lawKind word (1 + (i : Int)) = 2 then (match d with | .tup hs => (hItems (1 + (i : Int)) hs hs.length).map swapD | _ => []) else []
theorem lawAt_is {word : Str} {parts : List D} {i : Nat} (hs : ∀ sh, shape word = some sh → parts.length = sh.length) : lawAt word parts i = (innAt (shapeOr word) parts i).map swapD := by
  unfold lawAt innAt
  cases hp : parts[i]? with
  | none => cases (shapeOr word)[i]? <;> rfl
  | some d =>
    cases h : shape word with
    | none =>
      have h1 : shapeOr word = [] := by unfold shapeOr; rw [h]
      rw [h1, kind_none h]
      rfl
    | some sh =>
      have h1 : shapeOr word = sh := by unfold shapeOr; rw [h]
      have hil : i < sh.length := by
        rw [← hs sh h]
        exact (List.getElem?_eq_some_iff.mp hp).1
      have h2 : sh[i]? = some sh[i] := List.getElem?_eq_getElem hil
      rw [h1, h2, kind_some h h2]
      show _ = (innOf (1 + (i : Int)) sh[i] d).map swapD
      unfold shKind innOf
      by_cases hb : sh[i] = "body"
      · rw [if_pos hb, if_pos hb]
        rfl
      · rw [if_neg hb, if_neg hb]
        by_cases hh : sh[i] = "handlers"
        · rw [if_pos hh, if_pos hh]
          cases d <;> rfl
        · rw [if_neg hh, if_neg hh]
          rfl
theorem inn_more {sh : List Str} {parts : List D} : ∀ {n : Nat}, sh.length ≤ n → inn sh parts n = inn sh parts sh.length
  | 0, h => by
    have : sh.length = 0 := by omega
    rw [this]
  | n + 1, h => by
    by_cases e : sh.length = n + 1
    · rw [e]
    · have ih := inn_more (sh := sh) (parts := parts) (n := n) (by omega)
      rw [inn_succ, ih]
      have : innAt sh parts n = [] := by
        unfold innAt
        rw [List.getElem?_eq_none (by omega)]
      rw [this, List.append_nil]
theorem shape_len {rt : Rt} {async il : Bool} {word : Str} {parts : List D} (h : stepOk rt async il word parts = true) : ∀ sh, shape word = some sh → parts.length = sh.length := by
  intro sh hS
  unfold stepOk at h
  by_cases hc : word = "say" ∨ (word = "raise" ∧ parts.length ≤ 1)
  · rcases hc with e | ⟨e, _⟩
    · rw [e, shape_say] at hS; cases hS
    · rw [e, shape_raise] at hS; cases hS
  · rw [if_neg hc, hS] at h
    have h : (if parts.length ≠ sh.length then false else if (decide (word = "break") && !il || inStrs asyncL word && !async) = true then false else zipOk rt sh parts) = true := h
    by_cases hl : parts.length ≠ sh.length
    · rw [if_pos hl] at h; cases h
    · simpa using hl
end K2
/-! The law's bad. -/
namespace K2
open PySem L2 Evl PySem.Spec PyProof.Rows RZ StX
section
variable {K : PySem.W.Frag} {σ : L2.St} {H : Hp} {ta tb te t1 t2 : TE} {tz : TS} {Dd : Ends}
theorem evp_catT {ds es : List D} (ha : EvP ta σ H (fun H1 v => Rp K H1 (.tup ds) v)) (hb : ∀ H1, Ex H H1 → EvP tb σ H1 (fun H1 v => Rp K H1 (.tup es) v)) (h1 : ds ≠ []) (h2 : es ≠ []) (hz : ds.length + es.length ≤ 1000000) :
    EvP (tOp (rCatT K) ta tb) σ H (fun H1 v => Rp K H1 (.tup (ds ++ es)) v) := fun H1 e Q q =>
  ha H1 e _ fun v H2 e2 r => hb H2 (e.trans e2) H2 (Ex.refl _) _ fun u H3 e3 r2 => by
    obtain ⟨a, xs, rfl, hx, rx⟩ := (r.mono e3).ofTup
    obtain ⟨b, ys, rfl, hy, ry⟩ := r2.ofTup
    have lx := rx.len
    have ly := ry.len
    refine ⟨a, b, xs, ys, rfl, rfl, st_of hx, st_of hy, fun z => ?_, Nat.le_trans (by omega : xs.length + ys.length ≤ 1000000) (by decide), fun z => ?_, fun _ p hp => ?_⟩
    · rw [z] at lx
      exact h1 (List.length_eq_zero_iff.mp lx.symm)
    · rw [z] at ly
      exact absurd (List.length_eq_zero_iff.mp ly.symm) h2
    · exact q _ _ ((e2.trans e3).trans (Ex.new hp)) (.tup upd_same ((rx.app ry).mono (Ex.new hp)))
theorem elp_cat {Pl : Hp → List V → Prop} {a : Addr} {xs : List V} (ha : Ev ta σ H (.ref a)) (h : H a = some (.lst xs)) (hb : EvLP tb σ H Pl) (hz : ∀ H1 ys, Pl H1 ys → xs.length + ys.length ≤ 100000) (hm : ∀ H1 H2 ys, Ex H1 H2 → Pl H1 ys → Pl H2 ys) :
    EvLP (tOp rCat ta tb) σ H (fun H1 zs => ∃ ys, zs = xs ++ ys ∧ Pl H1 ys) := fun H1 e Q q =>
  ha H1 e _ fun H2 e2 => hb H2 (e.trans e2) _ fun p2 ys H3 np2 e3 hp2 pl => ⟨a, p2, xs, ys, rfl, rfl, ((e.trans e2).trans e3) _ _ h, hp2, sz_of (hz H3 ys pl), fun p3 hp3 => q p3 _ _ (fresh_back (e2.trans e3) hp3) ((e2.trans e3).trans (Ex.new hp3)) upd_same ⟨ys, rfl, hm _ _ ys (Ex.new hp3) pl⟩⟩
theorem s_asgLP {Pl : Hp → List V → Prop} {i : Nat} (h : EvLP te σ H Pl) (k : ∀ p xs H1, H p = none → Ex H H1 → H1 p = some (.lst xs) → Pl H1 xs → Dd.nx (σ.set i (some (.ref p))) H1) : tAsg te (gName i) Dd σ H := h H (Ex.refl H) _ fun p xs H1 hp e hl pl => k p xs H1 hp e hl pl
theorem dp_pair {x : Str} {j : Int} {v : V} (r : Rp K H (.tup [.str x, .int j]) v) : Dp K H v (.tuple [.str x, .int j]) := by
  obtain ⟨a, xs, rfl, hx, rx⟩ := r.ofTup
  obtain ⟨v1, v2, rfl, r1, r2⟩ := rx.two
  cases r1
  cases r2
  exact .tup (st_of hx) (.cons (.str x) (.cons (.int j) .nil))
theorem dp_pairs : ∀ {l : List (Str × Int)} {vs : List V}, Rps K H (l.map fun p => D.tup [.str p.1, .int p.2]) vs → DpAll K H vs (l.map fun p => PyData.tuple [.str p.1, .int p.2])
  | [], _, .nil => .nil
  | p :: l, _, .cons r t => .cons (dp_pair r) (dp_pairs t)
theorem eqv_pair (p : Str × Int) (x : Str) (j : Int) : PyData.eqv (.tuple [.str p.1, .int p.2]) (.tuple [.str x, .int j]) = decide (p = (x, j)) := by
  obtain ⟨a, b⟩ := p
  show (a == x && (b == j && true)) = _
  rw [Bool.eq_iff_iff]
  simp [Prod.ext_iff]
theorem shaped_pair {x : Str} (j : Int) (hx : PyData.strOk x = true) : SeqAt.shaped (.tuple [.str x, .int j]) = true := by
  simp [hx, SeqAt.shaped, PyData.canLay0, PyData.depth, PyData.canLayAll0, PyData.depthAll]
/-- (x, j) in a written list of such pairs -/
theorem ev_inPairs {l : List (Str × Int)} {x : Str} {j : Int} {tl : TA} (h1 : Ev t1 σ H (.str x)) (h2 : Ev t2 σ H (.int j)) (h3 : ∀ H1, Ex H H1 → EvAP tl σ H1 (fun H2 vs => Rps K H2 (l.map fun p => D.tup [.str p.1, .int p.2]) vs)) (hx : PyData.strOk x = true) (hl : l.length ≤ 1000) (hs : SeqAt.shaped (.list (l.map fun p => PyData.tuple [.str p.1, .int p.2])) = true) :
    Ev (tOp (rInD K) (tTup (tCons t1 (tCons t2 tNil))) (tLst tl)) σ H (.bl (l.any fun p => decide (p = (x, j)))) := fun H1 e Q q =>
  (evp_tup (eap_cons (evp_d h1 (Rp.str x)) (eap_cons (evp_d h2 (Rp.int j)) eap_nil)) (by simp) : EvP _ σ H (fun H1 v => Rp K H1 (.tup [.str x, .int j]) v)) H1 e _ fun v H2 e2 rv => h3 H2 (e.trans e2) H2 (Ex.refl _) _ fun vs H3 e3 rs => by
    have lv := rs.len
    rw [List.length_map] at lv
    refine ⟨sz_of (by omega), fun p hp => ?_⟩
    have e4 : Ex H3 (upd H3 p (.lst vs)) := Ex.new hp
    refine ⟨_, _, dp_pair (rv.mono (e3.trans e4)), .lst (sq_of upd_same) (dp_pairs (rs.mono e4)), shaped_pair j hx, hs, ?_⟩
    have : ((l.map fun p => PyData.tuple [.str p.1, .int p.2]).any fun z => PyData.eqv z (.tuple [.str x, .int j])) = l.any fun p => decide (p = (x, j)) := by
      rw [List.any_map]
      congr 1
      funext p
      exact eqv_pair p x j
    rw [this]
    exact q _ ((e2.trans e3).trans e4)
end
theorem badS_mono {rt : Rt} {async il : Bool} {place steps p : List D} {i : Nat} (h : badS rt async il place steps i = some p) : ∀ {m : Nat}, i ≤ m → badS rt async il place steps m = some p
  | 0, hm => by
    have : i = 0 := by omega
    rw [this] at h
    exact h
  | m + 1, hm => by
    by_cases e : i = m + 1
    · rw [← e]; exact h
    · have ih := badS_mono h (m := m) (by omega)
      unfold badS at ih ⊢
      rw [kidsN_succ, fb_app, ih]
      rfl
theorem words_ok : (("say" :: "raise" :: shL.map (·.1) : List Str).all fun x => PyData.strOk x) = true := by decide +kernel
theorem word_ok {rt : Rt} {async il : Bool} {word : Str} {parts : List D} (h : stepOk rt async il word parts = true) : PyData.strOk word = true := by
  have key : ∀ y ∈ ("say" :: "raise" :: shL.map (·.1) : List Str), PyData.strOk y = true := fun y hy => List.all_eq_true.mp words_ok y hy
  unfold stepOk at h
  by_cases hc : word = "say" ∨ (word = "raise" ∧ parts.length ≤ 1)
  · rcases hc with e | ⟨e, _⟩
    · rw [e]; exact key _ (by simp)
    · rw [e]; exact key _ (by simp)
  · rw [if_neg hc] at h
    cases hS : shape word with
    | none => rw [hS] at h; cases h
    | some sh => exact key _ (List.mem_cons_of_mem _ (List.mem_cons_of_mem _ (List.mem_map_of_mem (f := (·.1)) (lookup_mem hS))))
theorem chil_mono {rt : Rt} {async il : Bool} {place prs p : List D} {i : Nat} (h : firstBad rt async (chil place il prs i) = some p) : ∀ {m : Nat}, i ≤ m → firstBad rt async (chil place il prs m) = some p
  | 0, hm => by
    have : i = 0 := by omega
    rw [this] at h
    exact h
  | m + 1, hm => by
    by_cases e : i = m + 1
    · rw [← e]; exact h
    · have ih := chil_mono h (m := m) (by omega)
      have e1 : chil place il prs (m + 1) = chil place il prs m ++ (match prs[m]? with | some p => kids place il p | none => []) := by
        simp [chil, List.range_succ]
        try rfl
      rw [e1, fb_app, ih]
      rfl
/-- the depth and the size of what stands in a step's bodies -/
theorem third_dp {h : D} : dpD (third h) ≤ dpD h := by
  unfold third
  split
  · rename_i a b c
    show dpD c ≤ dpL [a, b, c] + 1
    have := dpL_mem (l := [a, b, c]) (d := c) (by simp)
    omega
  · exact Nat.zero_le _
theorem inner_dp {word : Str} {parts way st : List D} (h : D.tup [.tup way, .tup st] ∈ innerB word parts) : dpL st + 1 ≤ dpL parts := by
  unfold innerB inn at h
  rw [List.mem_flatMap] at h
  obtain ⟨i, _, hi⟩ := h
  unfold innAt at hi
  split at hi
  · rename_i s d h1 h2
    have hd := dpL_mem (List.mem_of_getElem? h2)
    unfold innOf at hi
    split at hi
    · have e : D.tup [.tup way, .tup st] = D.tup [D.tup [D.int (1 + (i : Int))], d] := by simpa using hi
      injection e with e
      injection e with _ e
      injection e with e _
      rw [← e] at hd
      exact hd
    · split at hi
      · split at hi
        · rename_i hs
          unfold hItems at hi
          rw [List.mem_flatMap] at hi
          obtain ⟨r, _, hr⟩ := hi
          unfold hItem at hr
          split at hr
          · rename_i hh hhr
            have e : D.tup [.tup way, .tup st] = D.tup [D.tup [D.int (1 + (i : Int)), D.int (r : Int), D.int 2], third hh] := by simpa using hr
            injection e with e
            injection e with _ e
            injection e with e _
            have h3 := third_dp (h := hh)
            rw [← e] at h3
            have h4 := dpL_mem (List.mem_of_getElem? hhr)
            have h5 : dpD (.tup hs) = dpL hs + 1 := rfl
            have h6 : dpD (.tup st) = dpL st + 1 := rfl
            omega
          · simp at hr
        · simp at hi
      · simp at hi
  · simp at hi
theorem inner_way {word : Str} {parts way st : List D} (h : D.tup [.tup way, .tup st] ∈ innerB word parts) : way ≠ [] := by
  unfold innerB inn at h
  rw [List.mem_flatMap] at h
  obtain ⟨i, _, hi⟩ := h
  unfold innAt at hi
  split at hi
  · unfold innOf at hi
    split at hi
    · rename_i d _ _ _
      have e : D.tup [.tup way, .tup st] = D.tup [D.tup [D.int (1 + (i : Int))], d] := by simpa using hi
      injection e with e
      injection e with e _
      injection e with e
      rw [e]
      simp
    · split at hi
      · split at hi
        · unfold hItems at hi
          rw [List.mem_flatMap] at hi
          obtain ⟨r, _, hr⟩ := hi
          unfold hItem at hr
          split at hr
          · rename_i hh hhr
            have e : D.tup [.tup way, .tup st] = D.tup [D.tup [D.int (1 + (i : Int)), D.int (r : Int), D.int 2], third hh] := by simpa using hr
            injection e with e
            injection e with e _
            injection e with e
            rw [e]
            simp
          · simp at hr
        · simp at hi
      · simp at hi
  · simp at hi
theorem inner_sz {word : Str} {parts way st : List D} (h : D.tup [.tup way, .tup st] ∈ innerB word parts) : szL st ≤ szL parts := by
  have q1 := inn_sz (shapeOr word) parts (shapeOr word).length
  have q2 := szL_take parts (shapeOr word).length
  have q3 : innerB word parts = inn (shapeOr word) parts (shapeOr word).length := rfl
  rw [← q3] at q1
  have q4 : szL st ≤ szPs (innerB word parts) := by
    have : szP (.tup [.tup way, .tup st]) ∈ (innerB word parts).map szP := List.mem_map_of_mem h
    exact le_sum_mem this
  omega
/-- the promise, for steps of depth below m (n: the depth that is_step can take) -/
def spLBad (K : PySem.W.Frag) (n m : Nat) : Sp := fun vs H Q _ => ∃ steps place v pv pl il rt z, vs = [v, pv, .bl pl, .bl il, z] ∧ Rp K H (.tup steps) v ∧ Rp K H (.tup place) pv ∧ Sm (.tup steps) ∧ dpL steps < m ∧ dpL steps ≤ n ∧ place ≠ [] ∧ place.length + 4 * szL steps ≤ 500000 ∧ IsKd H rt z ∧
  ∀ v H2, Ex H H2 → PlR K (badS rt (!pl) il place steps steps.length) H2 v → Q v H2
section
variable {P : Program} {w : World} {K : PySem.W.Frag} {mg : Str → Option Value} {base : Heap}
theorem sc52 : FnScope ["_law_steps_here", "_law_place", "_law_is_plain", "_law_is_in", "_law_kinds", "_law_k", "_law_step", "_law_is_loop", "_law_bodies", "_law_j", "_law_body", "_law_more", "_law_found", "_law_n"] ["_law_steps_here", "_law_place", "_law_is_plain", "_law_is_in", "_law_kinds"] (defScope (top 52)) := ⟨rfl, rfl, rfl, by decide +kernel, rfl, by decide +kernel, by decide +kernel⟩
theorem lbad_step (B : Bl mg) {n m : Nat} (F : Df K mg "_law_bad" (top 52) ["_law_steps_here", "_law_place", "_law_is_plain", "_law_is_in", "_law_kinds"]) (O1 : Okd P w K mg base CX0 (n + 3) "_law_is_step" ["_law_thing", "_law_is_plain", "_law_is_in", "_law_kinds"] (spLStep K n))
    (O2 : Okd P w K mg base CX0 (n + 4 + m) "_law_bad" ["_law_steps_here", "_law_place", "_law_is_plain", "_law_is_in", "_law_kinds"] (spLBad K n m)) : Okd P w K mg base CX0 (n + 4 + m + 1) "_law_bad" ["_law_steps_here", "_law_place", "_law_is_plain", "_law_is_in", "_law_kinds"] (spLBad K n (m + 1)) := by
  refine F.ok sc52 (fun vs H Q E h => by obtain ⟨steps, place, v, pv, pl, il, rt, z, rfl, _⟩ := h; rfl) (fun f cdv A outer s H vs Q E hr h => ?_)
  obtain ⟨steps, place, v, pw, pl, il, rt, z, rfl, rs, rp, sm, dp, dpn, hne, hpl, hz, k⟩ := h
  obtain ⟨f__law_is_step, d__law_is_step, m__law_is_step, k__law_is_step, b__law_is_step, G__law_is_step⟩ := O1.ex
  obtain ⟨f__law_bad, d__law_bad, m__law_bad, k__law_bad, b__law_bad, G__law_bad⟩ := O2.ex
  have hu := hu_of hr
  have hu65 : (A.deeper (envOfC "_law_bad" (defScope (top 52)) s.heap.objs.size f cdv)).units + 65 < cLine := by
    have := hr.un
    omega
  refine ⟨_, (pss_cons (ps_for PassesOwn.never rfl (pi_range1 (by rfl) B.range (pa_cons (pe_callB call_lenQ (by rfl) B.len PySem.boot_len (pa_cons (pv 0) pa_nil)) pa_nil)) (pg_name (i := 5) sc52.nd rfl (Or.inl rfl)) (pss_cons (ps_set (i := 6) sc52.nd rfl (Or.inr rfl) (pe_ix ix_tup (pv 0) (pv 5) (fun _ _ => rfl)))
      (pss_cons (ps_if (pt_not (pt_val (pe_call G__law_is_step (hr.mono (by first | decide | omega)) (by rfl) m__law_is_step k__law_is_step b__law_is_step .nil pass0 (pa_cons (pv 6) (pa_cons (pv 2) (pa_cons (pv 3) (pa_cons (pv 4) pa_nil))))))) (pss_one (ps_ret (pe_op op_catT (pv 1) (pe_tup (pa_cons (pv 5) pa_nil))))) pss_nil)
      (pss_cons (ps_set (i := 7) sc52.nd rfl (Or.inl rfl) (pe_or (pv 3) (pe_one (pe_cmpR op_in_seq (pe_ix ix_tup (pv 6) pe_int (fun _ _ => rfl)) (pe_tup (pa_cons pe_str (pa_cons pe_str (pa_cons pe_str pa_nil)))) rfl))))
      (pss_cons (ps_set (i := 8) sc52.nd rfl (Or.inl rfl) (pe_lst pa_nil))
      (pss_cons (ps_for PassesOwn.never rfl (pi_range2 (by rfl) B.range (pa_cons pe_int (pa_cons (pe_callB call_lenQ (by rfl) B.len PySem.boot_len (pa_cons (pv 6) pa_nil)) pa_nil))) (pg_name (i := 9) sc52.nd rfl (Or.inl rfl)) (pss_one (ps_if (PW.pt (pw_and (pt_cmpR op_eq (pe_ix ix_tup (pv 6) pe_int (fun _ _ => rfl)) pe_str (nomark _)) (pw_and1 (pt_cmpR op_eq (pv 9) pe_int (nomark _))))) (pss_one (ps_set (i := 8) sc52.nd rfl (Or.inl rfl) (pe_op op_cat (pv 8) (pe_lc (own := [("_law_n", 13)]) (g := gName 13) (tt := tYes) rfl sc52.nd (pi_range1 (by rfl) B.range (pa_cons (pe_callB call_lenQ (by rfl) B.len PySem.boot_len (pa_cons (pe_ix ix_tup (pv 6) pe_int (fun _ _ => rfl)) pa_nil)) pa_nil)) (blkOk_by (N := ["_law_steps_here", "_law_place", "_law_is_plain", "_law_is_in", "_law_kinds", "_law_k", "_law_step", "_law_is_loop", "_law_bodies", "_law_j", "_law_body", "_law_more", "_law_found", "_law_n"]) (sc := defScope (top 52)) (by decide +kernel)) (fun _ _ _ _ _ => (pg_name (i := 13) sc52.nd rfl (Or.inl rfl))) (fun _ _ _ _ _ => pts_nil) (fun _ _ _ _ _ => (pe_tup (pa_cons (pe_ix (r := rIxT K) ix_tup (pe_ix (r := rIxT K) ix_tup (pe_ix (r := rIxT K) ix_tup (pv 6) pe_int (fun _ _ => rfl)) (pv 13) (fun _ _ => rfl)) pe_int (fun _ _ => rfl)) (pa_cons (pe_tup (pa_cons pe_int (pa_cons (pv 13) (pa_cons pe_int pa_nil)))) pa_nil)))))))) (pss_one (ps_if (pt_cmpR (op_inD hu65) (pe_tup (pa_cons (pe_ix ix_tup (pv 6) pe_int (fun _ _ => rfl)) (pa_cons (pv 9) pa_nil))) (pe_lst (pa_cons (pe_tup (pa_cons pe_str (pa_cons pe_int pa_nil))) (pa_cons (pe_tup (pa_cons pe_str (pa_cons pe_int pa_nil))) (pa_cons (pe_tup (pa_cons pe_str (pa_cons pe_int pa_nil))) (pa_cons (pe_tup (pa_cons pe_str (pa_cons pe_int pa_nil))) (pa_cons (pe_tup (pa_cons pe_str (pa_cons pe_int pa_nil))) (pa_cons (pe_tup (pa_cons pe_str (pa_cons pe_int pa_nil))) pa_nil))))))) rfl) (pss_one (ps_expr (pe_bm PySem.F.plainAttrs_list PySem.F.slot_list_append PySem.F.type_list_append mt_append (pv 8) (pa_cons (pe_tup (pa_cons (pe_ix ix_tup (pv 6) (pv 9) (fun _ _ => rfl)) (pa_cons (pe_tup (pa_cons (pv 9) pa_nil)) pa_nil))) pa_nil)))) (pss_one (ps_if (pt_cmpR op_eq (pe_ix ix_tup (pv 6) pe_int (fun _ _ => rfl)) pe_str (nomark _)) (pss_one (ps_expr (pe_bm PySem.F.plainAttrs_list PySem.F.slot_list_append PySem.F.type_list_append mt_append (pv 8) (pa_cons (pe_tup (pa_cons (pe_ix ix_tup (pv 6) (pv 9) (fun _ _ => rfl)) (pa_cons (pe_tup (pa_cons (pv 9) pa_nil)) pa_nil))) pa_nil)))) pss_nil)))))))
      (pss_one (ps_for PassesOwn.never rfl (pi_list (pv 8)) (pg_tup (by rfl) (pgs_cons (pg_name (i := 10) sc52.nd rfl (Or.inl rfl)) (pgs_cons (pg_name (i := 11) sc52.nd rfl (Or.inl rfl)) pgs_nil))) (pss_cons (ps_set (i := 12) sc52.nd rfl (Or.inl rfl) (pe_call G__law_bad (hr.mono (by first | decide | omega)) (by rfl) m__law_bad k__law_bad b__law_bad .nil pass0 (pa_cons (pv 10) (pa_cons (pe_op op_catT (pe_op op_catT (pv 1) (pe_tup (pa_cons (pv 5) pa_nil))) (pv 11)) (pa_cons (pv 2) (pa_cons (pv 7) (pa_cons (pv 4) pa_nil)))))))
      (pss_one (ps_if (pt_cmpR op_notN1 (pv 12) pe_non (nomark _)) (pss_one (ps_ret (pv 12))) pss_nil)))))))))))
      (pss_one (ps_ret pe_non))), ?_⟩
  obtain ⟨sa, svs, rfl, hsa, rss⟩ := rs.ofTup
  have lsv := rss.len
  have slen : steps.length ≤ 39000 := sm.tlen
  refine q_forR1 (n := (steps.length : Int)) (ea_cons (ev_is (ev_lenT (ev_var rfl) (st_of hsa)) (by rw [lsv])) ea_nil) ⟨by omega, by omega⟩
    (fun i σ' H' => ∃ x5 x6 x7 x8 x9 x10 x11 x12, σ' = [some (.ref sa), some pw, some (.bl pl), some (.bl il), some z, x5, x6, x7, x8, x9, x10, x11, x12, none] ∧ Ex H H' ∧ badS rt (!pl) il place steps i = none)
    (fun H1 e1 => ⟨_, _, _, _, _, _, _, _, rfl, e1, badS_zero⟩) ?_ ?_
  · rintro i σ' H1 hi ⟨x5, x6, x7, x8, x9, x10, x11, x12, rfl, e1, hb0⟩
    have hi' : i < steps.length := by omega
    obtain ⟨sd, hsd⟩ : ∃ sd, steps[i]? = some sd := ⟨steps[i], List.getElem?_eq_getElem hi'⟩
    obtain ⟨sv, gsv, rsv⟩ := (rss.mono e1).get hsd
    have sms : Sm sd := sm.item hsd
    have dps : dpD sd ≤ dpL steps := dpL_mem (List.mem_of_getElem? hsd)
    have hbs := badS_succ (rt := rt) (async := !pl) (il := il) (place := place) hsd
    rw [hb0, Option.none_or] at hbs
    refine q_asg (ev_op (ev_var rfl) (ev_var rfl) (rv_ixT (st_of (e1 _ _ hsa)) (atI_nat gsv))) fun H2 e2 => ?_
    have e02 := e1.trans e2
    refine q_when (et_not (et_B (ev_call (sp := spLStep K n) (z := .bl (isStepD rt (!pl) il sd)) (ea_cons (ev_var rfl) (ea_cons (ev_var rfl) (ea_cons (ev_var rfl) (ea_cons (ev_var rfl) ea_nil)))) fun H3 e3 Q q _ => ⟨sd, sv, pl, il, rt, z, rfl, (rsv.mono e2).mono e3, sms, by omega, (hz.mono e02).mono e3, fun H4 e4 => q H4 e4⟩))) (fun hb H3 e3 => ?_) (fun hb H3 e3 => ?_)
    · rw [Bool.not_eq_true'] at hb
      rw [if_neg (by rw [hb]; exact Bool.false_ne_true)] at hbs
      have htot := badS_mono hbs (m := steps.length) (by omega)
      refine s_retP (evp_catT (evp_d (ev_var rfl) (rp.mono (e02.trans e3))) (fun H4 e4 => evp_tup (eap_cons (evp_d (ev_var rfl) (Rp.int (i : Int))) eap_nil) (by simp)) hne (by simp) (by simp; omega)) fun v H4 e4 rv => ?_
      exact k v H4 ((e02.trans e3).trans e4) ⟨fun h => (by rw [htot] at h; cases h), fun p hp => (by rw [htot] at hp; cases hp; exact rv)⟩
    · rw [Bool.not_eq_false'] at hb
      rw [if_pos hb] at hbs
      obtain ⟨word, parts, rfl⟩ : ∃ word parts, sd = .tup (.str word :: parts) := by
        unfold isStepD at hb
        split at hb
        · exact ⟨_, _, rfl⟩
        · cases hb
      have hso : stepOk rt (!pl) il word parts = true := hb
      have hgood := good_of hso
      have hsl := shape_len hso
      have e03 := e02.trans e3
      have rsv3 := (rsv.mono e2).mono e3
      obtain ⟨ta, tvs, rfl, hta, rts⟩ := rsv3.ofTup
      obtain ⟨u0, gu0, ru0⟩ := rts.get (i := 0) (d := .str word) rfl
      cases ru0
      have ltv := rts.len
      have ix : ∀ {σ : L2.St} {H4 : Hp} {tI : TE} {j : Nat} {u : V}, σ[6]? = some (some (.ref ta)) → Ex H3 H4 → Ev tI σ H4 (.int (j : Int)) → tvs[j]? = some u → Ev (tOp (rIxT K) (tVar 6) tI) σ H4 u := fun hσ e hI hu => ev_op (ev_var hσ) hI (rv_ixT (st_of (e _ _ hta)) (atI_nat hu))
      obtain ⟨il2, hil2⟩ : ∃ il2, il2 = (il || inStrs loopsL word) := ⟨_, rfl⟩
      rw [childs_is, ← hil2] at hbs
      refine q_asg (v := .bl il2) (by rw [hil2]; exact ev_orV (ev_var rfl) fun _ => ev_is (ev_inU (xs := (["while", "each", "async_each"] : List Str).map V.str) (ix rfl (Ex.refl _) ev_c (j := 0) gu0) (eu_tup (ea_cons ev_c (ea_cons ev_c (ea_cons ev_c ea_nil))) (by simp)) rfl rfl) (by rw [inV_strs, loops_are])) fun H4 e4 => ?_
      refine q_asgL (el_lst ea_nil (by simp)) fun b0 H5 nb0 e5 hb5 => ?_
      have e35 := e4.trans e5
      have e05 := e03.trans e35
      have szs : szD (.tup (.str word :: parts)) ≤ szL steps := szL_mem hsd
      have hsz0 : szD (.tup (.str word :: parts)) = ((word.length + 1) + szL parts) + 1 := rfl
      have sms2 : szL steps + 1 ≤ 39000 := sm
      have plen : parts.length ≤ 39000 := by have := szL_len parts; omega
      refine q_forR2 (lo := 1) (n := ((parts.length + 1 : Nat) : Int)) (ea_cons ev_c (ea_cons (ev_is (ev_lenT (ev_var rfl) (st_of (e35 _ _ hta))) (by rw [ltv]; rfl)) ea_nil)) ⟨by omega, by omega, by omega, by omega⟩
        (fun j σ' H' => ∃ x9 x10 x11 x12 bp bxs, σ' = [some (.ref sa), some pw, some (.bl pl), some (.bl il), some z, some (.int (i : Int)), some (.ref ta), some (.bl il2), some (.ref bp), x9, x10, x11, x12, none] ∧ Ex H4 H' ∧ H4 bp = none ∧ H' bp = some (.lst bxs) ∧ Rps K H' ((inn (shapeOr word) parts j).map swapD) bxs)
        (fun H6 e6 => ⟨_, _, _, _, b0, [], rfl, e5.trans e6, nb0, e6 _ _ hb5, .nil⟩) ?_ ?_
      · rintro j σ' H6 hj ⟨x9, x10, x11, x12, bp, bxs, rfl, e6, nbp, hbp, rb⟩
        have hj' : j < parts.length := by omega
        obtain ⟨pd, hpd⟩ : ∃ pd, parts[j]? = some pd := ⟨parts[j], List.getElem?_eq_getElem hj'⟩
        obtain ⟨u, gu, ru⟩ := rts.get (i := j + 1) (d := pd) (by simpa using hpd)
        have e36 : Ex H3 H6 := e4.trans e6
        have hinn : (inn (shapeOr word) parts (j + 1)).map swapD = (inn (shapeOr word) parts j).map swapD ++ lawAt word parts j := by rw [inn_succ, List.map_append, lawAt_is hsl]
        have hlw : lawAt word parts j = if lawKind word (1 + (j : Int)) = 1 then [.tup [pd, .tup [.int (1 + (j : Int))]]]
            else if lawKind word (1 + (j : Int)) = 2 then (match pd with | .tup hs => (hItems (1 + (j : Int)) hs hs.length).map swapD | _ => []) else [] := by
          unfold lawAt
          rw [hpd]
          try (cases pd <;> rfl)
        have hk1 : lawKind word (1 + (j : Int)) = if word = "try" ∧ 1 + (j : Int) = 2 then 2 else if (bodyAt.any fun p => decide (p = (word, 1 + (j : Int)))) = true then 1 else if word = "try" then 1 else 0 := rfl
        have hbl : bxs.length < 100000 := by
          have h1 := rb.len
          rw [List.length_map] at h1
          have h2 := inn_len (shapeOr word) parts j
          have h3 := szL_take parts j
          omega
        have idx : (1 + (j : Int)) = ((j + 1 : Nat) : Int) := by omega
        have ij : ∀ {σ : L2.St} {H7 : Hp}, σ[6]? = some (some (.ref ta)) → σ[9]? = some (some (.int (1 + (j : Int)))) → Ex H3 H7 → Ev (tOp (rIxT K) (tVar 6) (tVar 9)) σ H7 u := fun h1 h2 e => ix h1 e (ev_is (ev_var h2) (by rw [idx])) gu
        have app : lawKind word (1 + (j : Int)) = 1 → ∀ H7, Ex H6 H7 → ∀ Dd : Ends, (∀ H8 bxs', Ex H4 H8 → H8 bp = some (.lst bxs') → Rps K H8 ((inn (shapeOr word) parts (j + 1)).map swapD) bxs' → Dd.nx [some (.ref sa), some pw, some (.bl pl), some (.bl il), some z, some (.int (i : Int)), some (.ref ta), some (.bl il2), some (.ref bp), some (.int (1 + (j : Int))), x10, x11, x12, none] H8) →
            tDrop (tBM K "list" rAppend (tVar 8) (tCons (tTup (tCons (tOp (rIxT K) (tVar 6) (tVar 9)) (tCons (tTup (tCons (tVar 9) tNil)) tNil))) tNil)) Dd [some (.ref sa), some pw, some (.bl pl), some (.bl il), some z, some (.int (i : Int)), some (.ref ta), some (.bl il2), some (.ref bp), some (.int (1 + (j : Int))), x10, x11, x12, none] H7 := fun hkd H7 e7 Dd kd => by
          refine s_appP (e7 _ _ hbp) (ev_var rfl) (Pp := fun H1 v => Rp K H1 (.tup [pd, .tup [.int (1 + (j : Int))]]) v) (evp_tup (eap_cons (evp_d (ij rfl rfl (e36.trans e7)) (ru.mono (e36.trans e7))) (eap_cons (evp_tup (eap_cons (evp_d (ev_var rfl) (Rp.int _)) eap_nil) (by simp)) eap_nil)) (by simp)) hbl fun v H8 e8 rv => ?_
          have w8 : Ew H8 (upd H8 bp (.lst (bxs ++ [v]))) := Ew.lst ((e7.trans e8) _ _ hbp)
          refine kd _ _ (Ex.mut (e6.trans (e7.trans e8)) nbp) upd_same ?_
          rw [hinn, hlw, if_pos hkd]
          exact ((rb.mono (e7.trans e8)).ew w8).app (.cons (rv.ew w8) .nil)
        have eqj : decide (V.int (1 + (j : Int)) = V.int 2) = decide (1 + (j : Int) = 2) := decide_eq_decide.mpr ⟨fun z => by injection z, fun z => by rw [z]⟩
        refine s_if (et_and (et_eqS (K := K) (ix rfl e36 ev_c (j := 0) gu0)) fun _ => et_is (et_test (ev_op (ev_var rfl) ev_c (rv_eq rfl))) eqj) (fun hb1 H7 e7 => ?_) (fun hb1 H7 e7 => ?_)
        · rw [Bool.and_eq_true, decide_eq_true_eq, decide_eq_true_eq] at hb1
          have hkd : lawKind word (1 + (j : Int)) = 2 := by rw [hk1, if_pos hb1]
          have hj1 : j = 1 := by omega
          subst hj1
          obtain ⟨hs, rfl, hhs⟩ : ∃ hs : List D, pd = .tup hs ∧ ∀ h ∈ hs, ∃ a b st, h = D.tup [a, b, .tup st] := by
            cases hS : shape word with
            | none => rw [kind_none hS] at hkd; cases hkd
            | some sh =>
              have hl2 : 1 < sh.length := by rw [← hsl sh hS]; exact hj'
              have h2 : sh[1]? = some sh[1] := List.getElem?_eq_getElem hl2
              have h3 := kind_some hS h2
              rw [hkd] at h3
              have h4 : sh[1] = ("handlers" : Str) := by
                unfold shKind at h3
                by_cases ha : sh[1] = ("body" : Str)
                · rw [if_pos ha] at h3; cases h3
                · rw [if_neg ha] at h3
                  by_cases hb : sh[1] = ("handlers" : Str)
                  · exact hb
                  · rw [if_neg hb] at h3; cases h3
              have h5 : (shapeOr word)[1]? = some ("handlers" : Str) := by unfold shapeOr; rw [hS]; rw [← h4]; exact h2
              exact hgood.hand 1 pd h5 hpd
          obtain ⟨ha, hvs, rfl, hha, rh⟩ := (ru.mono (e36.trans e7)).ofTup
          have lh := rh.len
          have hsl2 : hs.length ≤ 39000 := by
            have h1 := szL_mem hpd
            have h2 : szD (.tup hs) = szL hs + 1 := rfl
            have h3 := szL_len hs
            omega
          have ix2 : ∀ {σ : L2.St} {H8 : Hp}, σ[6]? = some (some (.ref ta)) → Ex H7 H8 → Ev (tOp (rIxT K) (tVar 6) (tC (.int 2))) σ H8 (.ref ha) := fun h1 e => ix h1 ((e36.trans e7).trans e) (ev_c (v := .int 2)) (j := 2) gu
          have LC : EvLP (tLc (iRng1 (tCons (tCB (rLenQ K) (tCons (tOp (rIxT K) (tVar 6) (tC (.int 2))) tNil)) tNil)) (gName 13) tYes (tTup (tCons (tOp (rIxT K) (tOp (rIxT K) (tOp (rIxT K) (tVar 6) (tC (.int 2))) (tVar 13)) (tC (.int 2))) (tCons (tTup (tCons (tC (.int 2)) (tCons (tVar 13) (tCons (tC (.int 2)) tNil)))) tNil))) [13])
              [some (.ref sa), some pw, some (.bl pl), some (.bl il), some z, some (.int (i : Int)), some (.ref ta), some (.bl il2), some (.ref bp), some (.int (1 + ((1 : Nat) : Int))), x10, x11, x12, none] H7 (fun H2 ys => Paired (fun (r : Nat) y => ∃ h, hs[r]? = some h ∧ Rp K H2 (.tup [third h, .tup [.int 2, .int (r : Int), .int 2]]) y) (kept (fun _ => true) hs.length) ys) := by
            refine el_lc (fun _ => true) (fun (r : Nat) H2 y => ∃ h, hs[r]? = some h ∧ Rp K H2 (.tup [third h, .tup [.int 2, .int (r : Int), .int 2]]) y) (wk_rng1 (ea_cons (ev_is (ev_lenT (ix2 rfl (Ex.refl _)) (st_of hha)) (by rw [lh])) ea_nil) (by omega)) (by omega) (fun r H2 H3 y e ⟨h, h1, h2⟩ => ⟨h, h1, h2.ew e⟩) fun r x H8 hr e8 hx Z kz => ?_
            subst hx
            obtain ⟨h, hh⟩ : ∃ h, hs[r]? = some h := ⟨hs[r], List.getElem?_eq_getElem hr⟩
            obtain ⟨a, b, st, rfl⟩ := hhs h (List.mem_of_getElem? hh)
            refine kz _ H8 (Ex.refl _) rfl (fun H9 e9 Q q => q H9 (Ex.refl _)) fun _ => ?_
            obtain ⟨hv, ghv, rhv⟩ := (rh.mono e8).get hh
            obtain ⟨hva, hvv, rfl, hhv, rhh⟩ := rhv.ofTup
            obtain ⟨w0, w1, w2, rfl, q0, q1, q2⟩ := rhh.three
            have i3 : Ev (tOp (rIxT K) (tOp (rIxT K) (tOp (rIxT K) (tVar 6) (tC (.int 2))) (tVar 13)) (tC (.int 2))) [some (.ref sa), some pw, some (.bl pl), some (.bl il), some z, some (.int (i : Int)), some (.ref ta), some (.bl il2), some (.ref bp), some (.int (1 + ((1 : Nat) : Int))), x10, x11, x12, some (.int (r : Int))] H8 w2 :=
              ev_op (ev_op (ix2 rfl e8) (ev_var rfl) (rv_ixT (st_of (e8 _ _ hha)) (atI_nat ghv))) ev_c (rv_ixT (st_of hhv) (atI_nat (j := 2) rfl))
            exact (evp_tup (eap_cons (evp_d i3 q2) (eap_cons (evp_tup (eap_cons (evp_d ev_c (Rp.int 2)) (eap_cons (evp_d (ev_var rfl) (Rp.int (r : Int))) (eap_cons (evp_d ev_c (Rp.int 2)) eap_nil))) (by simp)) eap_nil)) (by simp)).imp fun H9 y e9 ry => ⟨_, hh, ry⟩
          refine s_asgLP (elp_cat (ev_var rfl) (e7 _ _ hbp) LC (fun H1 ys pl2 => ?_) (fun H1 H2 ys e pl2 => L2.Paired.mapP pl2 fun _ _ ⟨h, h1, h2⟩ => ⟨h, h1, h2.mono e⟩)) fun np zs H8 nnp e8 hnp hzs => ?_
          · have h1 := pl2.length
            rw [kept_all, List.length_range] at h1
            have h2 := rb.len
            rw [List.length_map] at h2
            have h3 := inn_len (shapeOr word) parts 1
            have h4 := szL_take parts 1
            omega
          · obtain ⟨ys, rfl, pl2⟩ := hzs
            rw [kept_all] at pl2
            refine ⟨_, _, _, _, np, _, rfl, (e6.trans e7).trans e8, fresh_back (e6.trans e7) nnp, hnp, ?_⟩
            rw [hinn, hlw, if_neg (by rw [hkd]; decide), if_pos hkd]
            refine (rb.mono (e7.trans e8)).app ?_
            have hsw : (hItems (1 + ((1 : Nat) : Int)) hs hs.length).map swapD = (List.range hs.length).map fun r => D.tup [third (hs.getD r .non), .tup [.int 2, .int (r : Int), .int 2]] := by
              unfold hItems
              rw [List.map_flatMap]
              have : ∀ l : List Nat, (∀ r ∈ l, r < hs.length) → (l.flatMap fun r => (hItem (1 + ((1 : Nat) : Int)) hs r).map swapD) = l.map fun r => D.tup [third (hs.getD r .non), .tup [.int 2, .int (r : Int), .int 2]] := by
                intro l
                induction l with
                | nil => intro _; rfl
                | cons r l ih =>
                  intro hr
                  rw [List.flatMap_cons, List.map_cons, ih fun q hq => hr q (List.mem_cons_of_mem _ hq)]
                  obtain ⟨h0, h1⟩ : ∃ h0, hs[r]? = some h0 := ⟨hs[r]'(hr r (by simp)), List.getElem?_eq_getElem (hr r (by simp))⟩
                  have h2 : hItem (1 + ((1 : Nat) : Int)) hs r = [D.tup [D.tup [D.int (1 + ((1 : Nat) : Int)), D.int (r : Int), D.int 2], third h0]] := by unfold hItem; rw [h1]
                  rw [h2, List.getD_eq_getElem?_getD, h1]
                  rfl
              exact this _ fun r hr => List.mem_range.mp hr
            show Rps K H8 ((hItems (1 + ((1 : Nat) : Int)) hs hs.length).map swapD) ys
            rw [hsw]
            refine Rps.map_at (fun r a ha => ?_) (by have := pl2.length; simpa using this.symm)
            have hr : r < hs.length := by
              have := (List.getElem?_eq_some_iff.mp ha).1
              simpa using this
            have ha' : a = r := by
              rw [List.getElem?_range hr] at ha
              exact (Option.some.inj ha).symm
            subst ha'
            obtain ⟨y, h1, h, h2, h3⟩ := Paired.at_ (i := a) (a := a) pl2 (by simp [hr])
            refine ⟨y, h1, ?_⟩
            rw [List.getD_eq_getElem?_getD, h2]
            exact h3
        · have hk2 : ¬ (word = "try" ∧ 1 + (j : Int) = 2) := fun h => by
            rw [Bool.and_eq_false_iff, decide_eq_false_iff_not, decide_eq_false_iff_not] at hb1
            rcases hb1 with h1 | h1
            · exact h1 h.1
            · exact h1 h.2
          rw [if_neg hk2] at hk1
          refine s_if (et_test (ev_inPairs (l := bodyAt) (ix rfl (e36.trans e7) ev_c (j := 0) gu0) (ev_var rfl) (fun H1 e1 => ?_) (word_ok hso) (by decide) (by decide +kernel))) (fun hb2 H8 e8 => ?_) (fun hb2 H8 e8 => ?_)
          · exact eap_cons (evp_tup (eap_cons (evp_d ev_c (Rp.str _)) (eap_cons (evp_d ev_c (Rp.int _)) eap_nil)) (by simp)) (eap_cons (evp_tup (eap_cons (evp_d ev_c (Rp.str _)) (eap_cons (evp_d ev_c (Rp.int _)) eap_nil)) (by simp)) (eap_cons (evp_tup (eap_cons (evp_d ev_c (Rp.str _)) (eap_cons (evp_d ev_c (Rp.int _)) eap_nil)) (by simp)) (eap_cons (evp_tup (eap_cons (evp_d ev_c (Rp.str _)) (eap_cons (evp_d ev_c (Rp.int _)) eap_nil)) (by simp)) (eap_cons (evp_tup (eap_cons (evp_d ev_c (Rp.str _)) (eap_cons (evp_d ev_c (Rp.int _)) eap_nil)) (by simp)) (eap_cons (evp_tup (eap_cons (evp_d ev_c (Rp.str _)) (eap_cons (evp_d ev_c (Rp.int _)) eap_nil)) (by simp)) eap_nil)))))
          · rw [if_pos hb2] at hk1
            exact app hk1 H8 (e7.trans e8) _ fun H9 bxs' h1 h2 h3 => ⟨_, _, _, _, bp, bxs', rfl, h1, nbp, h2, h3⟩
          · rw [if_neg (by rw [hb2]; exact Bool.false_ne_true)] at hk1
            refine s_when (et_eqS (K := K) (ix rfl (e36.trans (e7.trans e8)) ev_c (j := 0) gu0)) (fun hb3 H9 e9 => ?_) (fun hb3 H9 e9 => ?_)
            · rw [if_pos (of_decide_eq_true hb3)] at hk1
              exact app hk1 H9 ((e7.trans e8).trans e9) _ fun H10 bxs' h1 h2 h3 => ⟨_, _, _, _, bp, bxs', rfl, h1, nbp, h2, h3⟩
            · rw [if_neg (of_decide_eq_false hb3)] at hk1
              refine ⟨_, _, _, _, bp, bxs, rfl, e6.trans ((e7.trans e8).trans e9), nbp, ((e7.trans e8).trans e9) _ _ hbp, ?_⟩
              rw [hinn, hlw, hk1, if_neg (by decide), if_neg (by decide), List.append_nil]
              exact rb.mono ((e7.trans e8).trans e9)
      · rintro σ' H6 ⟨x9, x10, x11, x12, bp, bxs, rfl, e6, nbp, hbp, rb⟩
        have en : (((parts.length + 1 : Nat) : Int) - 1).toNat = parts.length := by omega
        rw [en, inn_more hgood.len] at rb
        have rb' : Rps K H6 ((innerB word parts).map swapD) bxs := rb
        have lb := rb'.len
        rw [List.length_map] at lb
        have e46 := e4.trans e6
        have e06 := e03.trans e46
        refine s_forG (wkg_lst (K := K) (ev_var rfl) hbp) (fun q σ' H' => ∃ x10 x11 x12, σ' = [some (.ref sa), some pw, some (.bl pl), some (.bl il), some z, some (.int (i : Int)), some (.ref ta), some (.bl il2), some (.ref bp), x9, x10, x11, x12, none] ∧ Ex H6 H' ∧ firstBad rt (!pl) (chil (place ++ [.int (i : Int)]) il2 (innerB word parts) q) = none)
          (fun H7 e7 _ => ⟨_, _, _, rfl, e7, firstBad_nil rt _⟩) (fun q σ' H' _ ⟨_, _, _, _, e, _⟩ => sq_of (e _ _ hbp)) ?_ ?_
        · rintro q x σ' H7 H8 hq ⟨x10, x11, x12, rfl, e7, hfb⟩ e8 hx
          obtain ⟨dd, hdd, rd⟩ := (rb'.mono (e7.trans e8)).at_ hx
          rw [List.getElem?_map] at hdd
          cases hpr : (innerB word parts)[q]? with
          | none => rw [hpr] at hdd; cases hdd
          | some pr =>
            rw [hpr] at hdd
            obtain ⟨way, st, rfl, hway⟩ := hgood.pairs pr (List.mem_of_getElem? hpr)
            cases hdd
            have rd' : Rp K H8 (.tup [.tup st, .tup way]) x := rd
            obtain ⟨T, tv2, rfl, hT, rT⟩ := rd'.ofTup
            obtain ⟨v1, v2, rfl, r1, r2⟩ := rT.two
            have hin := List.mem_of_getElem? hpr
            have d1 := inner_dp hin
            have s1 := inner_sz hin
            have d2 : dpD (.tup (.str word :: parts)) = dpL (.str word :: parts) + 1 := rfl
            have d3 : dpL (.str word :: parts) = max (dpD (.str word)) (dpL parts) := rfl
            have e08 := e06.trans (e7.trans e8)
            have hcf := chil_fb (rt := rt) (async := !pl) (il := il2) (place := place ++ [.int (i : Int)]) hpr
            rw [hfb, Option.none_or] at hcf
            have hqs : q + 1 ≤ (innerB word parts).length := (List.getElem?_eq_some_iff.mp hpr).1
            refine ⟨T, _, rfl, st_of hT, rfl, v1, [v2], rfl, v2, [], rfl, rfl, ?_⟩
            have hw0 := inner_way hin
            · refine q_asgP (P := fun H9 v => PlR K (badS rt (!pl) il2 ((place ++ [.int (i : Int)]) ++ way) st st.length) H9 v) ?_ fun fv H9 e9 pfv => ?_
              · intro H9 e9 Q q9
                have key : EvP (tOp (rCatT K) (tOp (rCatT K) (tVar 1) (tTup (tCons (tVar 5) tNil))) (tVar 11)) [some (.ref sa), some pw, some (.bl pl), some (.bl il), some z, some (.int (i : Int)), some (.ref ta), some (.bl il2), some (.ref bp), x9, some v1, some v2, x12, none] H8 (fun H1 v => Rp K H1 (.tup ((place ++ [.int (i : Int)]) ++ way)) v) :=
                  evp_catT (evp_catT (evp_d (ev_var rfl) (rp.mono e08)) (fun H4 e4 => evp_tup (eap_cons (evp_d (ev_var rfl) (Rp.int (i : Int))) eap_nil) (by simp)) hne (by simp) (by simp; omega)) (fun H4 e4 => evp_d (ev_var rfl) (r2.mono e4)) (by simp) hw0 (by simp only [List.length_append, List.length_cons, List.length_nil]; omega)
                refine ⟨v1, rfl, key H9 e9 _ fun pv2 H11 e11 rpv2 => ⟨_, rfl, _, rfl, _, rfl, ?_⟩⟩
                have e10 : Ex H9 H9 := Ex.refl _
                refine ⟨st, (place ++ [.int (i : Int)]) ++ way, v1, pv2, pl, il2, rt, z, rfl, r1.mono ((e9.trans e10).trans e11), rpv2, ?_, by omega, by omega, by simp, ?_, hz.mono (e08.trans ((e9.trans e10).trans e11)), fun v H12 e12 pr12 => q9 v H12 ((e10.trans e11).trans e12) pr12⟩
                · show szL st + 1 ≤ 39000
                  omega
                · simp only [List.length_append, List.length_cons, List.length_nil]
                  omega
              · refine s_when (et_test (ev_op (ev_var rfl) ev_c rv_notN)) (fun hn H10 e10 => ?_) (fun hn H10 e10 => ?_)
                · rw [Bool.not_eq_true', decide_eq_false_iff_not] at hn
                  cases hw2 : badS rt (!pl) il2 ((place ++ [.int (i : Int)]) ++ way) st st.length with
                  | none => exact absurd (pfv.1 hw2) hn
                  | some p =>
                    rw [hw2] at hcf
                    have h1 := chil_mono hcf (m := (innerB word parts).length) hqs
                    rw [h1] at hbs
                    have htot := badS_mono hbs (m := steps.length) (by omega)
                    exact s_ret (ev_var rfl) fun H11 e11 => k fv H11 ((e08.trans e9).trans (e10.trans e11)) ⟨fun h => (by rw [htot] at h; cases h), fun p' hp => (by rw [htot] at hp; cases hp; exact (pfv.2 _ hw2).mono (e10.trans e11))⟩
                · rw [Bool.not_eq_false', decide_eq_true_eq] at hn
                  cases hw2 : badS rt (!pl) il2 ((place ++ [.int (i : Int)]) ++ way) st st.length with
                  | some p =>
                    have := pfv.2 p hw2
                    rw [hn] at this
                    cases this
                  | none =>
                    rw [hw2] at hcf
                    exact ⟨_, _, _, rfl, ((e7.trans e8).trans e9).trans e10, hcf⟩
        · rintro σ' H7 ⟨x10, x11, x12, rfl, e7, hfb⟩
          rw [lb] at hfb
          rw [hfb] at hbs
          exact ⟨_, _, _, _, _, _, _, _, rfl, e06.trans e7, hbs⟩
  · rintro σ' H1 ⟨x5, x6, x7, x8, x9, x10, x11, x12, rfl, e1, hb0⟩
    have e : ((steps.length : Int)).toNat = steps.length := by omega
    rw [e] at hb0
    exact s_ret ev_c fun H2 e2 => k .non H2 (e1.trans e2) ⟨fun _ => rfl, fun p hp => by rw [hb0] at hp; cases hp⟩
end
end K2
/-! The law's bad, for any depth. -/
namespace K2
open PySem L2 Evl PySem.Spec PyProof.Rows RZ StX
section
variable {P : Program} {w : World} {K : PySem.W.Frag} {mg : Str → Option Value} {base : Heap}
theorem ok_lbad (B : Bl mg) {n : Nat} (F : Df K mg "_law_bad" (top 52) ["_law_steps_here", "_law_place", "_law_is_plain", "_law_is_in", "_law_kinds"]) (O1 : Okd P w K mg base CX0 (n + 3) "_law_is_step" ["_law_thing", "_law_is_plain", "_law_is_in", "_law_kinds"] (spLStep K n)) :
    ∀ m, Okd P w K mg base CX0 (n + 4 + m) "_law_bad" ["_law_steps_here", "_law_place", "_law_is_plain", "_law_is_in", "_law_kinds"] (spLBad K n m)
  | 0 => ok_none F fun vs H Q E h => by
    obtain ⟨steps, place, v, pv, pl, il, rt, z, _, _, _, _, h, _⟩ := h
    exact absurd h (Nat.not_lt_zero _)
  | m + 1 => lbad_step B F O1 (ok_lbad B F O1 m)
/-- a body, from the top: the place that the program's first_wrong_step tells -/
theorem bad_top (rt : Rt) (async : Bool) (wd : Str) (body : List D) : badS rt async false [.str wd] body body.length = wrongAt rt async wd body := rfl
end
end K2
/-! lower and isupper of names. -/
namespace K2
open PySem L2 Evl PySem.Spec PyProof.Rows RZ StX
def lw (c : Nat) : List Nat := if c ∈ lCap then [c + 32] else [c]
theorem okC_small {c : Nat} (h : okC c = true) : c < 123 := by
  have h1 : (lSmall.all fun c => decide (c < 123)) = true := by decide +kernel
  have h2 : (lCap.all fun c => decide (c < 123)) = true := by decide +kernel
  have h3 : (lDig.all fun c => decide (c < 123)) = true := by decide +kernel
  unfold okC at h
  simp only [Bool.or_eq_true, decide_eq_true_eq] at h
  rcases h with h | h | h | h
  · exact of_decide_eq_true (List.all_eq_true.mp h1 c h)
  · exact of_decide_eq_true (List.all_eq_true.mp h2 c h)
  · exact of_decide_eq_true (List.all_eq_true.mp h3 c h)
  · omega
theorem lower_small : ((List.range 123).all fun c => !(okC c) || decide (Unicode.lowerOf c = lw c)) = true := by decide +kernel
theorem lowerAt_ok {s : Array Nat} {i c : Nat} (hi : s[i]? = some c) (h : okC c = true) : Unicode.lowerAt s i = lw c := by
  have hs := okC_small h
  have h1 := List.all_eq_true.mp lower_small c (List.mem_range.mpr hs)
  rw [h, Bool.not_true, Bool.false_or, decide_eq_true_eq] at h1
  unfold Unicode.lowerAt
  rw [hi]
  have hne : (c == 0x3A3) = false := by
    rw [beq_eq_false_iff_ne]
    omega
  show (if (c == 0x3A3 && Unicode.endsWord s i) = true then [0x3C2] else Unicode.lowerOf c) = lw c
  rw [hne, Bool.false_and, if_neg Bool.false_ne_true]
  exact h1
theorem lower_list {x : Str} (h : x.cps.toList.all okC = true) : (Txt.lower x).cps.toList = x.cps.toList.flatMap lw := by
  show ((x.cps.mapIdx fun i c => (Unicode.lowerAt x.cps i).toArray).flatten).toList = _
  have e : (x.cps.mapIdx fun i c => (Unicode.lowerAt x.cps i).toArray) = x.cps.map fun c => (lw c).toArray := by
    apply Array.ext
    · simp
    · intro i h1 h2
      have hi : i < x.cps.size := by simpa using h1
      have hc : x.cps[i]? = some x.cps[i] := by simp [hi]
      have hok : okC x.cps[i] = true := List.all_eq_true.mp h _ (by simp)
      simp [lowerAt_ok hc hok]
  rw [e]
  simp [List.flatMap, Array.toList_flatten, Function.comp_def]
theorem flat_same : ∀ l : List Nat, (l.flatMap lw = l) ↔ l.all (fun c => !(decide (c ∈ lCap))) = true
  | [] => by simp
  | c :: l => by
    have ih := flat_same l
    rw [List.flatMap_cons, List.all_cons, Bool.and_eq_true, ← ih]
    unfold lw
    by_cases h : c ∈ lCap
    · rw [if_pos h]
      constructor
      · intro z
        injection z with z
        omega
      · intro z
        rw [decide_eq_true h] at z
        cases z.1
    · rw [if_neg h]
      constructor
      · intro z
        injection z with _ z
        exact ⟨by rw [decide_eq_false h]; rfl, z⟩
      · intro z
        rw [z.2]
        rfl
/-- a name is its own lower text just where it has no capital -/
theorem lower_same {x : Str} (h : x.cps.toList.all okC = true) : decide (x = Txt.lower x) = !(hasCap x) := by
  rw [Bool.eq_iff_iff, decide_eq_true_iff]
  have e : (x = Txt.lower x) ↔ x.cps.toList.flatMap lw = x.cps.toList := by
    rw [← lower_list h]
    exact ⟨fun z => by rw [← z], fun z => ext_cps z.symm⟩
  rw [e, flat_same]
  unfold hasCap
  rw [← List.not_any_eq_all_not]
theorem upper_one : ((List.range 123).all fun c => !(okC c) || decide (Txt.isupper ⟨#[c]⟩ = decide (c ∈ lCap))) = true := by decide +kernel
theorem isupper_ok {c : Nat} (h : okC c = true) : Txt.isupper ⟨#[c]⟩ = decide (c ∈ lCap) := by
  have h1 := List.all_eq_true.mp upper_one c (List.mem_range.mpr (okC_small h))
  rw [h, Bool.not_true, Bool.false_or, decide_eq_true_eq] at h1
  exact h1
end K2
/-! A text times a number. -/
namespace K2
open PySem L2 Evl PySem.Spec PyProof.Rows RZ StX
def repS (z : Str) (n : Nat) : Str := ⟨(List.replicate n z.cps).foldl (· ++ ·) #[]⟩
theorem rep_size (a : Array Nat) : ∀ (n : Nat) (b : Array Nat), ((List.replicate n a).foldl (· ++ ·) b).size = b.size + n * a.size
  | 0, b => by simp
  | n + 1, b => by
    rw [List.replicate_succ, List.foldl_cons, rep_size a n, Array.size_append, Nat.succ_mul]
    omega
theorem repS_len (z : Str) (n : Nat) : (repS z n).length = n * z.length := by
  show ((List.replicate n z.cps).foldl (· ++ ·) #[]).size = _
  rw [rep_size]
  simp [Str.length]
def rMulS : R2 := fun x y H Q => ∃ (z : Str) (n : Int), x = .str z ∧ y = .int n ∧ 2 ≤ n ∧ n ≤ 1000 ∧ 1 ≤ z.length ∧ z.length ≤ 1000 ∧ Q (.str (repS z n.toNat)) H
theorem op_mulS {X : Cx} : OpR X (binaryOp .Mult) rMulS := by
  intro pins s σ H x y v u Q I rx ry h
  obtain ⟨z, n, rfl, rfl, h1, h2, h3, h4, q⟩ := h
  obtain ⟨t, rfl⟩ := rx
  obtain ⟨t2, rfl⟩ := ry
  have hne : (n == 1 || z.length == 0) = false := by
    rw [Bool.or_eq_false_iff, beq_eq_false_iff_ne, beq_eq_false_iff_ne]
    exact ⟨by omega, by omega⟩
  refine PySem.P.mul_str ?_ (fun _ _ => ?_) (fun _ _ => ?_) ?_
  · rw [decide_eq_false (by omega), decide_eq_false (by omega)]
    rfl
  · have : (1000 : Int) ≤ (2 ^ 63 - 1) / n := by
      refine (Int.le_ediv_iff_mul_le (by omega)).mpr ?_
      omega
    omega
  · have : z.length * n.toNat ≤ 1000 * 1000 := Nat.mul_le_mul h4 (by omega)
    unfold Builtin.Str.tooLong
    rw [sizeLine_eq]
    exact decide_eq_false (by omega)
  · rw [if_neg (by omega), hne, if_neg Bool.false_ne_true]
    have fin := (⟨.str (repS z n.toNat), H, I.tok _, ⟨_, rfl⟩, q⟩ : EP X pins σ Q (.str (repS z n.toNat) s.toks) { s with toks := s.toks + 1 })
    have hlen : (repS z n.toNat).length ≤ sizeLine := by
      rw [repS_len, sizeLine_eq]
      have : n.toNat * z.length ≤ 1000 * 1000 := Nat.mul_le_mul (by omega) h4
      omega
    exact ⟨hlen, fin⟩
end K2
/-! A tuple once, and not at all. -/
namespace K2
open PySem PySem.Spec PyProof.Rows
open AutoSeq1 (wpAny_loadPart')
theorem tuple_once (l : Addr) (items : Array Value) (n : Nat) (dd : Option Addr) (sl : Array (Option Value)) (u : Tok) (hi : items.isEmpty = false) :
    Meets (Builtin.«tuple.__mul__» ⟨[.ref l, .int 1 u], []⟩) (fun _ R s => s.heap.get? l = some { cls := .type "tuple", dict := dd, data := .seq items n, slots := sl } ∧ R (.ok (.ret (.ref l))) s) :=
  .of_wp fun prog w A R s h => by
    obtain ⟨hp, g, d, tk, os⟩ := s
    obtain ⟨hl, h⟩ := h
    have one := AutoSeq1.idx_int
    wp_walk using wpAny_loadPart' hl
    exact ⟨_, rfl, h⟩
theorem tuple_never (l : Addr) (items : Array Value) (n : Nat) (dd : Option Addr) (sl : Array (Option Value)) (u : Tok) (hi : items.isEmpty = false) :
    Meets (Builtin.«tuple.__mul__» ⟨[.ref l, .int 0 u], []⟩) (fun _ R s => s.heap.get? l = some { cls := .type "tuple", dict := dd, data := .seq items n, slots := sl } ∧
      R (.ok (.ret (.ref s.heap.objs.size))) { s with heap := s.heap.push { cls := Value.type "tuple", data := Data.seq #[] } }) :=
  .of_wp fun prog w A R s h => by
    obtain ⟨hp, g, d, tk, os⟩ := s
    obtain ⟨hl, h⟩ := h
    have one := AutoSeq1.idx_int
    wp_walk using wpAny_loadPart' hl
    exact ⟨_, rfl, h⟩
end K2
namespace K2
open PySem L2 Evl PySem.Spec PyProof.Rows RZ StX
/-- a tuple times a number from 0 on -/
def rMulT (K : PySem.W.Frag) : R2 := fun x y H Q => ∃ l k xs, x = .ref l ∧ y = .int k ∧ SqT K H l xs ∧ xs ≠ [] ∧ 0 ≤ k ∧ k ≤ 1000 ∧ xs.length ≤ 1000 ∧
  (k = 1 → Q (.ref l) H) ∧ (k ≠ 1 → ∀ p, H p = none → Q (.ref p) (upd H p (.tup (List.replicate k.toNat xs).flatten)))
theorem op_mulT {X : Cx} : OpR X (binaryOp .Mult) (rMulT X.K) := by
  intro pins s σ H x y v u Q I rx ry h
  obtain ⟨l, k, xs, rfl, rfl, hT, hne, h0, h2, hz, q1, q2⟩ := h
  by_cases h3 : 2 ≤ k
  · exact op_repT pins s σ H _ _ v u Q I rx ry ⟨l, k, xs, rfl, rfl, hT, hne, h3, h2, hz, q2 (by omega)⟩
  · cases rx
    obtain ⟨t, rfl⟩ := ry
    obtain ⟨its, r, ⟨⟨cls, dd, data, sl⟩, ho, hc, n, hd⟩, hs⟩ := I.tuple hT
    simp only at hc hd
    subst hc hd
    have hi : its.toArray.isEmpty = false := by
      cases its with
      | nil =>
        cases r
        exact absurd rfl hne
      | cons a b => rfl
    have hk : k = 0 ∨ k = 1 := by omega
    rcases hk with rfl | rfl
    · refine wpAny_binaryOp_repeat_ref (T := "tuple") (U := "int") (by decide) ⟨_, ho, rfl⟩ (fun s' => typeIs_int s' 0 t) noFill_tuple_mul F.fills_int_mul F.slot_int_rmul repeat_tuple F.slot_int_index.lookup
        (call_meets F.slot_int_rmul (typeIs_int s 0 t) F.entry_int_rmul (F.args_int_rmul_2 _ _) (int_rmul_tuple 0 t l its.toArray n dd sl)
          ⟨ho, rfl, ⟨_, ho, rfl⟩, call_meets F.slot_tuple_mul ⟨_, ho, rfl⟩ F.entry_tuple_mul (F.args_tuple_mul_2 _ _) (tuple_never l its.toArray n dd sl t hi) ⟨ho, ?_⟩⟩)
      refine ⟨.ref s.heap.objs.size, _, I.laid (t' := s.toks) (o := .tup []) (fun b ob q => Heap.get?_push_of_some _ q) (Nat.le_refl _) ?_, rfl, q2 (by decide) _ (I.hok.fresh (Nat.le_refl _))⟩
      exact ⟨Nat.zero_le _, [], .nil, IsTup.new _ _⟩
    · refine wpAny_binaryOp_repeat_ref (T := "tuple") (U := "int") (by decide) ⟨_, ho, rfl⟩ (fun s' => typeIs_int s' 1 t) noFill_tuple_mul F.fills_int_mul F.slot_int_rmul repeat_tuple F.slot_int_index.lookup
        (call_meets F.slot_int_rmul (typeIs_int s 1 t) F.entry_int_rmul (F.args_int_rmul_2 _ _) (int_rmul_tuple 1 t l its.toArray n dd sl)
          ⟨ho, rfl, ⟨_, ho, rfl⟩, call_meets F.slot_tuple_mul ⟨_, ho, rfl⟩ F.entry_tuple_mul (F.args_tuple_mul_2 _ _) (tuple_once l its.toArray n dd sl t hi) ⟨ho, ?_⟩⟩)
      exact ⟨.ref l, H, I, rfl, q1 rfl⟩
end K2
/-! The law's odd. -/
namespace K2
open PySem L2 Evl PySem.Spec PyProof.Rows RZ StX
/-- a small datum -/
def smallD (d : D) : Bool := decide (szD d ≤ 46) && decide (dpD d ≤ 5)
def G3 (K : PySem.W.Frag) (H : Hp) (v : V) : Prop := ∃ d, Rp K H d v ∧ smallD d = true
def GL (K : PySem.W.Frag) (H : Hp) (xs : List V) : Prop := ∀ x ∈ xs, G3 K H x
theorem G3.ew {K : PySem.W.Frag} {H H' : Hp} {v : V} (e : Ew H H') (h : G3 K H v) : G3 K H' v := let ⟨d, h1, h2⟩ := h; ⟨d, h1.ew e, h2⟩
theorem GL.ew {K : PySem.W.Frag} {H H' : Hp} {xs : List V} (e : Ew H H') (h : GL K H xs) : GL K H' xs := fun x hx => (h x hx).ew e
section
variable {K : PySem.W.Frag} {σ : L2.St} {H : Hp} {ta tb te : TE} {tz : TS} {Dd : Ends}
theorem gl_of : ∀ {ds : List D} {vs : List V}, Rps K H ds vs → ds.all smallD = true → GL K H vs
  | _, _, .nil, _ => fun x hx => absurd hx (by simp)
  | d :: ds, v :: vs, .cons r t, h => fun x hx => by
    rw [List.all_cons, Bool.and_eq_true] at h
    rcases List.mem_cons.mp hx with hx | hx
    · rw [hx]
      exact ⟨d, r, h.1⟩
    · exact gl_of t h.2 x hx
/-- [data, ..] + so far -/
theorem q_menu0 {tl : TA} {i : Nat} {ds : List D} (h : EvAP tl σ H (fun H1 vs => Rps K H1 ds vs)) (hs : ds.all smallD = true) (hl : ds.length ≤ 100) (k : ∀ p xs H1, H p = none → Ex H H1 → H1 p = some (.lst xs) → xs ≠ [] ∨ ds = [] → xs.length = ds.length → GL K H1 xs → tz Dd (σ.set i (some (.ref p))) H1) :
    tSeq (tAsg (tLst tl) (gName i)) tz Dd σ H := h H (Ex.refl H) _ fun vs H1 e r => ⟨sz_of (by rw [r.len]; omega), fun p hp => by
      refine k p vs _ (fresh_back e hp) (e.trans (Ex.new hp)) upd_same ?_ r.len ((gl_of r hs).ew (Ew.of (Ex.new hp)))
      cases ds with
      | nil => exact .inr rfl
      | cons d ds => exact .inl (by cases r; simp)⟩
theorem q_menu {tl : TA} {i : Nat} {ds : List D} {b : Addr} {bs : List V} (hb : H b = some (.lst bs)) (ho : Ev ta σ H (.ref b)) (gb : GL K H bs) (hbl : bs.length ≤ 1000) (h : ∀ H1, Ex H H1 → EvAP tl σ H1 (fun H1 vs => Rps K H1 ds vs)) (hs : ds.all smallD = true) (hl : ds.length ≤ 100)
    (k : ∀ p xs H1, Ex H H1 → H1 p = some (.lst xs) → H p = none → xs.length = bs.length + ds.length → GL K H1 xs → tz Dd (σ.set i (some (.ref p))) H1) :
    tSeq (tAsg (tOp rCat ta (tLst tl)) (gName i)) tz Dd σ H := ho H (Ex.refl H) _ fun H1 e1 => h H1 e1 H1 (Ex.refl _) _ fun vs H2 e2 r => ⟨sz_of (by rw [r.len]; omega), fun p hp => by
      have e3 : Ex H2 (upd H2 p (.lst vs)) := Ex.new hp
      refine ⟨b, p, bs, vs, rfl, rfl, ((e1.trans e2).trans e3) _ _ hb, upd_same, sz_of (by rw [r.len]; omega), fun p2 hp2 => ?_⟩
      have e4 : Ex (upd H2 p (.lst vs)) (upd (upd H2 p (.lst vs)) p2 (.lst (bs ++ vs))) := Ex.new hp2
      have eall := ((e1.trans e2).trans e3).trans e4
      refine k p2 _ _ eall upd_same (fresh_back ((e1.trans e2).trans e3) hp2) (by rw [List.length_append, r.len]) fun x hx => ?_
      rcases List.mem_append.mp hx with hx | hx
      · exact (gb x hx).ew (Ew.of eall)
      · exact ((gl_of r hs) x hx).ew (Ew.of (e3.trans e4))⟩
theorem evp_dct0 : EvP tDNewK σ H (fun H1 v => Rp K H1 .dct v) := fun H1 e Q q p hp => q _ _ (Ex.new hp) (.dct upd_same)
theorem evp_lstA {tl : TA} {ds : List D} (h : EvAP tl σ H (fun H1 vs => Rps K H1 ds vs)) (hl : ds.length ≤ 100) : EvP (tLst tl) σ H (fun H1 v => Rp K H1 .lst v) := fun H1 e Q q =>
  h H1 e _ fun vs H2 e2 r => ⟨sz_of (by rw [r.len]; omega), fun p hp => q _ _ (e2.trans (Ex.new hp)) (.lst upd_same)⟩
theorem evp_mulS {z : Str} {n : Int} (h1 : 2 ≤ n) (h2 : n ≤ 1000) (h3 : 1 ≤ z.length) (h4 : z.length ≤ 1000) : EvP (tOp rMulS (tC (.str z)) (tC (.int n))) σ H (fun H1 v => Rp K H1 (.str (repS z n.toNat)) v) := fun H1 e Q q =>
  ⟨z, n, rfl, rfl, h1, h2, h3, h4, q _ H1 (Ex.refl _) (.str _)⟩
theorem Rps.repl {ds : List D} {vs : List V} (r : Rps K H ds vs) : ∀ n : Nat, Rps K H (List.replicate n ds).flatten (List.replicate n vs).flatten
  | 0 => .nil
  | n + 1 => by
    rw [List.replicate_succ, List.replicate_succ, List.flatten_cons, List.flatten_cons]
    exact r.app (Rps.repl r n)
theorem evp_mulT {ds : List D} {n : Int} (h : EvP te σ H (fun H1 v => Rp K H1 (.tup ds) v)) (hb : ∀ H1, Ex H H1 → Ev tb σ H1 (.int n)) (h1 : ds ≠ []) (h2 : 0 ≤ n) (h3 : n ≤ 1000) (h4 : ds.length ≤ 1000) :
    EvP (tOp (rMulT K) te tb) σ H (fun H1 v => Rp K H1 (.tup (List.replicate n.toNat ds).flatten) v) := fun H1 e Q q =>
  h H1 e _ fun v H2 e2 r => hb H2 (e.trans e2) H2 (Ex.refl _) _ fun H3 e3 => by
    obtain ⟨a, xs, rfl, hx, rx⟩ := (r.mono e3).ofTup
    have lx := rx.len
    refine ⟨a, n, xs, rfl, rfl, st_of hx, fun z => ?_, h2, h3, by omega, fun hn => ?_, fun hn p hp => ?_⟩
    · rw [z] at lx
      exact h1 (List.length_eq_zero_iff.mp lx.symm)
    · subst hn
      refine q _ H3 (e2.trans e3) ?_
      have : (List.replicate (1 : Int).toNat ds).flatten = ds := by simp
      rw [this]
      exact .tup hx rx
    · exact q _ _ ((e2.trans e3).trans (Ex.new hp)) (.tup upd_same ((rx.repl n.toNat).mono (Ex.new hp)))
end
end K2
/-! The text of a tuple, whatever is being shown meanwhile. -/
namespace K2
open PySem PySem.Spec PyProof.Rows
theorem own_reprT {prog : Program} {w : World} {A : Around} {E : Value → Shared → Prop} {s : Shared} {a : Addr} {o : Obj} {items : Array Value} {n : Nat} {ts : List Str} {Q : Fin → Shared → Prop} {c : Code}
    (ha : s.heap.get? a = some o) (hd : o.data = .seq items n) (hT : ReprAll prog w items.toList ts) (h1 : ∀ u tk, Q (.done (.ret (.str (tupleText ts) u))) { s with toks := tk }) (h2 : ∀ u tk, Q (.done (.ret (.str "(...)" u))) { s with toks := tk })
    (hsz : (tupleText ts).length ≤ sizeLine) : wpOwn (model prog w) A c (Builtin.tupleReprAt 0 ⟨[.ref a], []⟩) Q E s := by
  rw [tuple_repr_tree, tupleReprUnderWay_eq]
  refine wpOwn_bind (wpOwn_bind (wpOwn_stack fun p below _ _ _ => wpOwn_of_wpAny (wpAny_pure ?_)))
  generalize (List.tail ((c, p) :: below)).any (tupGuardF (.ref a)) = b
  cases b with
  | false =>
    rw [if_neg Bool.false_ne_true]
    exact wpOwn_of_wpAny (wpAny_tupleReprRest ha hd hT h1 (by omega))
  | true =>
    rw [if_pos rfl]
    refine wpOwn_of_wpAny (wpAny_bind (wpAny_rule ?_))
    exact wpAny_bind (wpAny_mkStr (wpAny_pure (h2 _ _)) (by decide))
theorem call_reprT {prog : Program} {w : World} {A : Around} {E : Value → Shared → Prop} {s : Shared} {a : Addr} {o : Obj} {items : Array Value} {n : Nat} {ts : List Str} {Q : Value → Shared → Prop} (hu : A.units + 1 < cLine)
    (hTy : s.TypeIs (.ref a) "tuple") (ha : s.heap.get? a = some o) (hd : o.data = .seq items n) (hT : ReprAll prog w items.toList ts) (h1 : ∀ u tk, Q (.str (tupleText ts) u) { s with toks := tk }) (h2 : ∀ u tk, Q (.str "(...)" u) { s with toks := tk })
    (hsz : (tupleText ts).length ≤ sizeLine) : wpAny (model prog w) A (call (.builtin "repr") [.ref a]) Q E s := by
  refine call_repr_slot hu hTy F.slot_tuple_repr ?_
  exact wpAny_call (codeAny_call_builtin_own (Code.quiet_builtin _ (by decide +kernel)) F.entry_tuple_repr (F.slot_tuple_repr.check _ _ _ _ _ _ _ _ hTy (F.args_tuple_repr_1 _)
    (own_reprT ha hd hT (fun u tk => ⟨_, _, rfl, h1 u tk⟩) (fun u tk => ⟨_, _, rfl, h2 u tk⟩) hsz)))
end K2
namespace K2
open PySem L2 Evl PySem.Spec PyProof.Rows RZ StX
def noAt (z : Str) : Prop := 64 ∉ z.cps.toList
instance (z : Str) : Decidable (noAt z) := by unfold noAt; infer_instance
/-- repr of 1, True, '@x', (None, 'x'): does it hold an @? -/
def rRepr (K : PySem.W.Frag) : List V → Hp → VK → Prop := fun xs H Q => (xs = [.int 1] ∧ ∀ z : Str, noAt z → Q (.str z) H) ∨ (xs = [.bl true] ∧ ∀ z : Str, noAt z → Q (.str z) H) ∨
  (xs = [.str "@x"] ∧ ∀ z : Str, ¬ noAt z → Q (.str z) H) ∨ (∃ t, xs = [.ref t] ∧ SqT K H t [.non, .str "x"] ∧ ∀ z : Str, noAt z → Q (.str z) H)
theorem call_reprA {X : Cx} (hu : X.A.units + 1 < cLine) : CallR X (.builtin "repr") (rRepr X.K) := by
  intro pins s σ H xs us Q I r h
  rcases h with ⟨rfl, q⟩ | ⟨rfl, q⟩ | ⟨rfl, q⟩ | ⟨t, rfl, hT, q⟩
  · obtain ⟨u, rfl, tk, rfl⟩ := vals1 r
    exact PySem.P.repr_of_int (by decide) ⟨.str _, H, I.tok _, ⟨_, rfl⟩, q _ (by decide +kernel)⟩
  · obtain ⟨u, rfl, ru⟩ := vals1 r
    obtain rfl : u = Value.bool true := ru
    exact PySem.P.repr_of_bool ⟨.str _, H, I.tok _, ⟨_, rfl⟩, q _ (by decide +kernel)⟩
  · obtain ⟨u, rfl, tk, rfl⟩ := vals1 r
    exact PySem.P.repr_of_str ⟨.str _, H, I.tok _, ⟨_, rfl⟩, q _ (by decide +kernel)⟩ (by decide +kernel)
  · obtain ⟨u, rfl, ru⟩ := vals1 r
    obtain rfl : u = Value.ref t := ru
    obtain ⟨its, rv, ⟨o, ho, hc, n, hd⟩, hs⟩ := I.tuple hT
    cases rv with
    | cons r1 rest =>
      cases rest with
      | cons r2 rest =>
        cases rest
        obtain rfl := (show _ = Value.none from r1)
        obtain ⟨tk, rfl⟩ := r2
        refine call_reprT hu ⟨o, ho, hc⟩ ho hd (.cons ReprIs.none (.cons (ReprIs.str "x" tk (by decide +kernel)) .nil)) (fun u tk => ?_) (fun u tk => ?_) (by decide +kernel)
        · exact ⟨.str _, H, I.kept (t' := tk) fun b o e => e, ⟨_, rfl⟩, q _ (by decide +kernel)⟩
        · exact ⟨.str _, H, I.kept (t' := tk) fun b o e => e, ⟨_, rfl⟩, q _ (by decide +kernel)⟩
end K2
/-! The law's odd: what it needs. -/
namespace K2
open PySem L2 Evl PySem.Spec PyProof.Rows RZ StX
theorem draw_mono {vs : List V} {H : Hp} {Q Q' : VK} {E : XK} (h : ∀ v H2, Q v H2 → Q' v H2) (s : spDraw vs H Q E) : spDraw vs H Q' E := by
  obtain ⟨a, n, z, h1, h2, h3, h4, h5, k⟩ := s
  exact ⟨a, n, z, h1, h2, h3, h4, h5, fun r z2 H2 a1 a2 a3 a4 a5 => h _ _ (k r z2 H2 a1 a2 a3 a4 a5)⟩
section
variable {K : PySem.W.Frag} {σ : L2.St} {H : Hp} {ta tb te t1 t2 : TE} {tu tz : TS} {Dd : Ends}
theorem evp_catTE {ds es : List D} (h1 : EvP ta σ H (fun H1 v => Rp K H1 (.tup ds) v)) (h2 : ∀ {H1 : Hp}, EvP tb σ H1 (fun H2 v => Rp K H2 (.tup es) v)) (hne : ds ≠ []) (hl : ds.length + es.length ≤ 1000) : EvP (tOp (rCatT K) ta tb) σ H (fun H1 v => Rp K H1 (.tup (ds ++ es)) v) := fun H1 e Q q =>
  h1 H1 e _ fun x H2 e2 r1 => h2 H2 (Ex.refl _) _ fun y H3 e3 r2 => by
    obtain ⟨a, vs, rfl, ha, ra⟩ := (r1.mono e3).ofTup
    obtain ⟨b, us, rfl, hb, rb⟩ := r2.ofTup
    have la := ra.len
    have lb := rb.len
    refine ⟨a, b, vs, us, rfl, rfl, st_of ha, st_of hb, fun z => ?_, sz_of (by omega), fun z => ?_, fun z p np => ?_⟩
    · rw [z] at la
      exact hne (List.length_eq_zero_iff.mp la.symm)
    · rw [z] at lb
      have : es = [] := List.length_eq_zero_iff.mp lb.symm
      rw [this, List.append_nil] at q
      exact q _ H3 (e2.trans e3) (.tup ha ra)
    · exact q _ _ ((e2.trans e3).trans (Ex.new np)) (.tup upd_same ((ra.app rb).mono (Ex.new np)))
theorem q_ifDraw {t : TA} {vs : List V} {c : Int} {E : XK} (h : EvA t σ H vs) (k : ∀ H1, Ex H H1 → spDraw (vs ++ []) H1 (fun v H2 => ∃ r : Int, v = .int r ∧ (r = c → tu { Dd with nx := tz Dd } σ H2) ∧ (r ≠ c → tz Dd σ H2)) E) :
    tSeq (tIfS (tTest (tOp rEq (tCall spDraw [] E t) (tC (.int c)))) tu tNext) tz Dd σ H :=
  h H (Ex.refl H) _ fun H1 e => draw_mono (fun v H2 ⟨r, rv, h1, h2⟩ => by
    subst rv
    by_cases hc : r = c
    · refine ⟨rfl, true, by rw [hc, decide_eq_true rfl], ?_⟩
      exact iteT (h1 hc)
    · refine ⟨rfl, false, by rw [decide_eq_false fun z => hc (by injection z)], ?_⟩
      exact iteF (h2 hc)) (k H1 e)
theorem s_retC {sp : Sp} {E : XK} {t : TA} {vs : List V} (h : EvA t σ H vs) (k : ∀ H1, Ex H H1 → sp (vs ++ []) H1 Dd.rt E) : tRet (tCall sp [] E t) Dd σ H := h H (Ex.refl H) _ fun H1 e => k H1 e
theorem q_asgC {sp : Sp} {E : XK} {t : TA} {vs : List V} {i : Nat} (h : EvA t σ H vs) (k : ∀ H1, Ex H H1 → sp (vs ++ []) H1 (fun v H2 => tz Dd (σ.set i (some v)) H2) E) : tSeq (tAsg (tCall sp [] E t) (gName i)) tz Dd σ H := h H (Ex.refl H) _ fun H1 e => k H1 e
theorem q_asgPick {sp : Sp} {E : XK} {x : V} {xs : List V} {i : Nat} (h1 : Ev t1 σ H x) (h2 : EvL t2 σ H xs) (k : ∀ p H1, H p = none → Ex H H1 → H1 p = some (.lst xs) → sp ([x, .ref p] ++ []) H1 (fun v H2 => tz Dd (σ.set i (some v)) H2) E) :
    tSeq (tAsg (tCall sp [] E (tCons t1 (tCons t2 tNil))) (gName i)) tz Dd σ H := h1 H (Ex.refl H) _ fun H1 e1 => h2 H1 e1 _ fun p H2 np e2 hp => k p H2 (fresh_back e1 np) (e1.trans e2) hp
theorem raw_call {sp : Sp} {E : XK} {t : TA} {vs : List V} {Q : VK} (h : EvA t σ H vs) (k : ∀ H1, Ex H H1 → sp (vs ++ []) H1 Q E) : tCall sp [] E t σ H Q := h H (Ex.refl H) _ fun H1 e => k H1 e
theorem q_asgAddC {t : TA} {vs : List V} {i : Int} {n : Nat} {E : XK} (h1 : Ev t1 σ H (.int i)) (h2 : ∀ H1, Ex H H1 → EvA t σ H1 vs) (k : ∀ H1, Ex H H1 → spDraw (vs ++ []) H1 (fun v H2 => ∃ r : Int, v = .int r ∧ tz Dd (σ.set n (some (.int (i + r)))) H2) E) :
    tSeq (tAsg (tOp (rI0 fun i j => .int (i + j)) t1 (tCall spDraw [] E t)) (gName n)) tz Dd σ H := h1 H (Ex.refl H) _ fun H1 e1 => h2 H1 e1 H1 (Ex.refl _) _ fun H2 e2 => draw_mono (fun v H3 ⟨r, rv, q⟩ => ⟨i, r, rfl, rv, q⟩) (k H2 (e1.trans e2))
theorem el_keys {p : Addr} {kvs : List (Key × V)} (h : Ev te σ H (.ref p)) (hp : H p = some (.dK kvs)) : EvL (tCB rListD (tCons te tNil)) σ H (kvs.map fun kv => kV kv.1) := fun H1 e Q q =>
  h H1 e _ fun H2 e2 => ⟨p, kvs, rfl, e2 _ _ (e _ _ hp), fun u nu => q u _ (fresh_back e2 nu) (e2.trans (Ex.new nu)) upd_same⟩
theorem ev_max0 {n : Int} (h : Ev te σ H (.int n)) : Ev (tCB rMax2 (tCons (tC (.int 0)) (tCons te tNil))) σ H (.int (if n > 0 then n else 0)) := ev_max2 ev_c h
end
theorem kw_ew {a : Addr} {H H2 : Hp} {z : Nat} (k : Kw a H H2) (w1 : Wl a H z) {z2 : Nat} (w2 : Wl a H2 z2) : Ew H H2 := k.ew w1 w2
theorem tb_bounds : (tbL.all fun p => decide (0 ≤ p.2.1) && decide (p.2.1 ≤ p.2.2) && decide (p.2.2 ≤ 9)) = true := by decide +kernel
theorem odd_small : (tbL.all fun p => (List.range (p.2.2.toNat + 2)).all fun n => smallD (.tup [.str "do", .tup ([.str p.1] ++ (List.replicate n [.str "pl"]).flatten)])) = true := by decide +kernel
def spOdd (K : PySem.W.Frag) : Sp := fun vs H Q _ => ∃ (a : Addr) (z : Nat), vs = [.ref a] ∧ Wl a H z ∧ z ≤ 900000 ∧ ∀ v z2 H2, Kw a H H2 → Wl a H2 z2 → z2 ≤ z + 5 → G3 K H2 v → Q v H2
section
variable {K : PySem.W.Frag} {σ : L2.St} {H : Hp} {Dd : Ends}
/-- number = .. ; return ("do", (word,) + ("pl",) * max(0, number)) -/
theorem odd_tail {a tp t : Addr} {wd : Str} {pr : Int × Int} {kvs : List (Key × V)} {x1 x4 : Option V} {z : Nat} (hw : Wl a H z) (hz : z ≤ 900100) (htp : H tp = some (.dK kvs)) (h2 : valV kvs (Sum.inr wd : Key) = some (.ref t)) (h3 : H t = some (.tup [.int pr.1, .int pr.2])) (hmem : (wd, pr) ∈ tbL)
    (k : ∀ v z2 H2, Kw a H H2 → Wl a H2 z2 → z2 ≤ z + 1 → G3 K H2 v → Dd.rt v H2) :
    tSeq (tAsg (tOp (rI0 fun i j => V.int (i + j)) (tOp (rI0 fun i j => V.int (i - j)) (tOp (rIxT K) (tDGet (tVar 2) (tVar 3)) (tC (.int 0))) (tC (.int 1))) (tCall spDraw [] E0 (tCons (tVar 0) (tCons (tOp (rI0 fun i j => V.int (i + j)) (tOp (rI0 fun i j => V.int (i - j)) (tOp (rIxT K) (tDGet (tVar 2) (tVar 3)) (tC (.int 1))) (tOp (rIxT K) (tDGet (tVar 2) (tVar 3)) (tC (.int 0)))) (tC (.int 3))) tNil)))) (gName 4))
      (tRet (tTup (tCons (tC (.str "do")) (tCons (tOp (rCatT K) (tTup (tCons (tVar 3) tNil)) (tOp (rMulT K) (tTup (tCons (tC (.str "pl")) tNil)) (tCB rMax2 (tCons (tC (.int 0)) (tCons (tVar 4) tNil))))) tNil)))) Dd [some (.ref a), x1, some (.ref tp), some (.str wd), x4] H := by
  have hb := List.all_eq_true.mp tb_bounds _ hmem
  simp only [Bool.and_eq_true, decide_eq_true_eq] at hb
  obtain ⟨⟨b1, b2⟩, b3⟩ := hb
  have hget : ∀ {H1 : Hp} {i : Nat} {v : V}, Ex H H1 → [V.int pr.1, V.int pr.2][i]? = some v → Ev (tOp (rIxT K) (tDGet (tVar 2) (tVar 3)) (tC (.int (i : Int)))) [some (.ref a), x1, some (.ref tp), some (.str wd), x4] H1 v := fun {H1 i v} e hi =>
    ev_op (ev_dget (ev_var rfl) (ev_var rfl) (.inl (e _ _ htp)) h2) ev_c (rv_ixT (st_of (e _ _ h3)) (atI_nat hi))
  refine q_asgAddC (i := pr.1 - 1) (vs := [.ref a, .int (pr.2 - pr.1 + 3)]) (ev_op (hget (i := 0) (Ex.refl _) rfl) ev_c rv_I0) (fun H21 e21 => ea_cons (ev_var rfl) (ea_cons (ev_op (ev_op (hget (i := 1) e21 rfl) (hget (i := 0) e21 rfl) rv_I0) ev_c rv_I0) ea_nil)) fun H21 e21 => ?_
  refine ⟨a, _, z, rfl, hw.ex e21, by omega, by omega, by omega, fun r2 z3 H22 r20 r21 hz3 k3 wl3 => ⟨r2, rfl, ?_⟩⟩
  obtain ⟨num, hnum⟩ : ∃ num : Int, num = pr.1 - 1 + r2 := ⟨_, rfl⟩
  rw [← hnum]
  obtain ⟨m, hm⟩ : ∃ m : Int, m = if num > 0 then num else 0 := ⟨_, rfl⟩
  have hm0 : 0 ≤ m ∧ m < 14 := by rw [hm]; split <;> omega
  have hlen : (List.replicate m.toNat [D.str "pl"]).flatten.length = m.toNat := by simp
  have hmul : ∀ {H1 : Hp}, EvP (tOp (rMulT K) (tTup (tCons (tC (.str "pl")) tNil)) (tCB rMax2 (tCons (tC (.int 0)) (tCons (tVar 4) tNil)))) [some (.ref a), x1, some (.ref tp), some (.str wd), some (.int num)] H1 (fun H2 v => Rp K H2 (.tup (List.replicate m.toNat [D.str "pl"]).flatten) v) := fun {H1} =>
    evp_mulT (K := K) (n := m) (ds := [D.str "pl"]) (evp_tup (eap_cons (evp_d ev_c (Rp.str "pl")) eap_nil) (by simp)) (fun H2 _ => by rw [hm]; exact ev_max0 (ev_var rfl)) (by simp) hm0.1 (by omega) (by simp)
  have hcat : EvP (tOp (rCatT K) (tTup (tCons (tVar 3) tNil)) (tOp (rMulT K) (tTup (tCons (tC (.str "pl")) tNil)) (tCB rMax2 (tCons (tC (.int 0)) (tCons (tVar 4) tNil))))) [some (.ref a), x1, some (.ref tp), some (.str wd), some (.int num)] H22 (fun H2 v => Rp K H2 (.tup ([D.str wd] ++ (List.replicate m.toNat [D.str "pl"]).flatten)) v) :=
    evp_catTE (ds := [D.str wd]) (es := (List.replicate m.toNat [D.str "pl"]).flatten) (evp_tup (eap_cons (evp_d (ev_var rfl) (Rp.str wd)) eap_nil) (by simp)) hmul (by simp) (by rw [hlen]; simp; omega)
  refine s_retP (P := fun H2 v => Rp K H2 (.tup [D.str "do", .tup ([D.str wd] ++ (List.replicate m.toNat [D.str "pl"]).flatten)]) v) (evp_tup (eap_cons (evp_d ev_c (Rp.str "do")) (eap_cons hcat eap_nil)) (by simp)) fun v H23 e23 rv => ?_
  refine k v z3 H23 ((Kw.of e21).trans (k3.trans (Kw.of e23))) (wl3.ex e23) hz3 ⟨_, rv, ?_⟩
  exact List.all_eq_true.mp (List.all_eq_true.mp odd_small _ hmem) m.toNat (List.mem_range.mpr (by rw [hm] at hm0 ⊢; show _ < pr.2.toNat + 2; split <;> omega))
end
section
variable {K : PySem.W.Frag} {σ : L2.St} {H : Hp} {Dd : Ends}
theorem odd_tab {a : Addr} {x1 x2 x3 x4 : Option V} {z : Nat} (hw : Wl a H z) (hz : z ≤ 900010) (k : ∀ v z2 H2, Kw a H H2 → Wl a H2 z2 → z2 ≤ z + 2 → G3 K H2 v → Dd.rt v H2) :
    tSeq (tAsg (tCall spTable [] E0 tNil) (gName 2)) (tSeq (tAsg (tCall (spPick K) [] E0 (tCons (tVar 0) (tCons (tCB rListD (tCons (tVar 2) tNil)) tNil))) (gName 3))
      (tSeq (tAsg (tOp (rI0 fun i j => V.int (i + j)) (tOp (rI0 fun i j => V.int (i - j)) (tOp (rIxT K) (tDGet (tVar 2) (tVar 3)) (tC (.int 0))) (tC (.int 1))) (tCall spDraw [] E0 (tCons (tVar 0) (tCons (tOp (rI0 fun i j => V.int (i + j)) (tOp (rI0 fun i j => V.int (i - j)) (tOp (rIxT K) (tDGet (tVar 2) (tVar 3)) (tC (.int 1))) (tOp (rIxT K) (tDGet (tVar 2) (tVar 3)) (tC (.int 0)))) (tC (.int 3))) tNil)))) (gName 4))
      (tRet (tTup (tCons (tC (.str "do")) (tCons (tOp (rCatT K) (tTup (tCons (tVar 3) tNil)) (tOp (rMulT K) (tTup (tCons (tC (.str "pl")) tNil)) (tCB rMax2 (tCons (tC (.int 0)) (tCons (tVar 4) tNil))))) tNil)))))) Dd [some (.ref a), x1, x2, x3, x4] H := by
  have fresh_ne : ∀ {H1 : Hp} {z1 : Nat} {p : Addr}, Wl a H1 z1 → H1 p = none → p ≠ a := fun {H1 z1 p} w hp z => by
    obtain ⟨_, _, w⟩ := w
    rw [z, w] at hp
    cases hp
  refine q_asgC ea_nil fun H17 e17 => ⟨rfl, fun tp H18 kvs ntp e18 htp htb => ?_⟩
  have hta : tp ≠ a := fresh_ne (hw.ex e17) ntp
  have wl18 := (hw.ex e17).ex e18
  have hks := htb.keys
  have hkl : kvs.length = tbL.length := by
    have := congrArg List.length hks
    simpa using this
  have htl : 0 < tbL.length ∧ tbL.length ≤ 1000 := by decide +kernel
  refine q_asgPick (ev_var rfl) (el_keys (ev_var rfl) htp) fun q H19 nq e19 hq => ?_
  refine ⟨a, q, _, z, rfl, wl18.ex e19, by omega, fresh_ne wl18 nq, .inl hq, fun h => ?_, by rw [List.length_map]; omega, fun x z2 H20 hx hz2 k2 wl2 => ?_⟩
  · have h0 : kvs = [] := List.map_eq_nil_iff.mp h
    rw [h0] at hkl
    simp at hkl
    omega
  obtain ⟨wd, rfl, hwd⟩ : ∃ wd : Str, x = .str wd ∧ wd ∈ tbL.map (·.1) := by
    obtain ⟨kv, hkv, rfl⟩ := List.mem_map.mp hx
    have : kv.1 ∈ (tbL.map (·.1)).map (Sum.inr : Str → Key) := by
      rw [← hks]
      exact List.mem_map_of_mem hkv
    obtain ⟨wd, hw, he⟩ := List.mem_map.mp this
    exact ⟨wd, by rw [← he]; rfl, hw⟩
  have kw20 : Kw a H18 H20 := (Kw.of e19).trans k2
  obtain ⟨wx, wy, wa⟩ := wl18
  have htb20 : TbR H20 tbL kvs := htb.mono fun b xs hb => kw20 _ _ hb fun z => by rw [z, wa] at hb; cases hb
  have htp20 := kw20 _ _ htp hta
  rcases htb20.val wd with ⟨h1, _⟩ | ⟨pr, t, h1, h2, h3⟩
  · obtain ⟨pr, hm, he⟩ := List.mem_map.mp hwd
    have := List.lookup_eq_none_iff.mp h1 pr hm
    rw [he] at this
    simp at this
  have hmem : (wd, pr) ∈ tbL := lookup_mem h1
  exact odd_tail wl2 (by omega) htp20 h2 h3 hmem fun v z3 H23 kw3 wl3 hz3 g => k v z3 H23 ((Kw.of (e17.trans e18)).trans (kw20.trans kw3)) wl3 (by omega) g
end
end K2
/-! The law's odd: the def. -/
namespace K2
open PySem L2 Evl PySem.Spec PyProof.Rows RZ StX
section
variable {P : Program} {w : World} {K : PySem.W.Frag} {mg : Str → Option Value} {base : Heap}
theorem sc55 : FnScope ["_law_well_here", "_law_some", "_law_table_here", "_law_word", "_law_number"] ["_law_well_here"] (defScope (top 55)) := ⟨rfl, rfl, rfl, by decide +kernel, rfl, by decide +kernel, by decide +kernel⟩
theorem ok_odd (B : Bl mg) (F : Df K mg "_law_odd" (top 55) ["_law_well_here"]) (O1 : Okd P w K mg base CX0 1 "_law_draw" ["_law_well_here", "_law_size"] spDraw) (O2 : Okd P w K mg base CX0 2 "_law_pick" ["_law_well_here", "_law_some"] (spPick K)) (O3 : Okd P w K mg base CX0 1 "_law_table" [] spTable) :
    Okd P w K mg base CX0 3 "_law_odd" ["_law_well_here"] (spOdd K) := by
  refine F.ok sc55 (fun vs H Q E h => by obtain ⟨a, z, rfl, _⟩ := h; rfl) (fun f cdv A outer s H vs Q E hr h => ?_)
  obtain ⟨a, z, rfl, wl, hz, k⟩ := h
  obtain ⟨f__law_draw, d__law_draw, m__law_draw, k__law_draw, b__law_draw, G__law_draw⟩ := O1.ex
  obtain ⟨f__law_pick, d__law_pick, m__law_pick, k__law_pick, b__law_pick, G__law_pick⟩ := O2.ex
  obtain ⟨f__law_table, d__law_table, m__law_table, k__law_table, b__law_table, G__law_table⟩ := O3.ex
  have hu := hu_of hr
  refine ⟨_, (pss_cons (ps_set (i := 1) sc55.nd rfl (Or.inl rfl) (pe_lst (pa_cons pe_int (pa_cons pe_str (pa_cons (pe_tup pa_nil) (pa_cons (pe_tup (pa_cons pe_str pa_nil)) (pa_cons (pe_tup (pa_cons pe_str (pa_cons (pe_lst (pa_cons pe_int pa_nil)) pa_nil))) (pa_cons (pe_tup (pa_cons pe_str (pa_cons pe_int (pa_cons pe_dnewK pa_nil)))) (pa_cons (pe_tup (pa_cons pe_str (pa_cons pe_str pa_nil))) (pa_cons (pe_tup (pa_cons pe_str (pa_cons pe_str pa_nil))) pa_nil))))))))))
      (pss_cons (ps_set (i := 1) sc55.nd rfl (Or.inl rfl) (pe_op op_cat (pv 1) (pe_lst (pa_cons (pe_tup (pa_cons pe_str (pa_cons pe_str (pa_cons (pe_tup (pa_cons pe_str pa_nil)) pa_nil)))) (pa_cons (pe_tup (pa_cons pe_str pa_nil)) (pa_cons (pe_tup (pa_cons pe_str (pa_cons (pe_tup (pa_cons pe_str pa_nil)) pa_nil))) (pa_cons (pe_tup (pa_cons pe_str (pa_cons (pe_tup (pa_cons pe_str (pa_cons pe_int (pa_cons pe_int pa_nil)))) pa_nil))) (pa_cons (pe_tup (pa_cons pe_str (pa_cons (pe_tup (pa_cons pe_str (pa_cons pe_int pa_nil))) pa_nil))) pa_nil))))))))
      (pss_cons (ps_set (i := 1) sc55.nd rfl (Or.inl rfl) (pe_op op_cat (pv 1) (pe_lst (pa_cons (pe_tup (pa_cons pe_str (pa_cons pe_str pa_nil))) (pa_cons (pe_tup (pa_cons pe_str (pa_cons pe_str pa_nil))) (pa_cons (pe_tup (pa_cons pe_str (pa_cons (pe_tup (pa_cons pe_str (pa_cons pe_int pa_nil))) pa_nil))) (pa_cons (pe_tup (pa_cons pe_str (pa_cons pe_str (pa_cons (pe_tup (pa_cons pe_str pa_nil)) pa_nil)))) pa_nil)))))))
      (pss_cons (ps_set (i := 1) sc55.nd rfl (Or.inl rfl) (pe_op op_cat (pv 1) (pe_lst (pa_cons (pe_tup (pa_cons pe_str (pa_cons pe_non (pa_cons (pe_tup (pa_cons pe_str pa_nil)) pa_nil)))) (pa_cons (pe_tup (pa_cons pe_str (pa_cons pe_str (pa_cons (pe_tup (pa_cons pe_str pa_nil)) pa_nil)))) (pa_cons (pe_tup (pa_cons pe_str (pa_cons (pe_tup (pa_cons pe_str pa_nil)) (pa_cons (pe_tup pa_nil) pa_nil)))) pa_nil))))))
      (pss_cons (ps_set (i := 1) sc55.nd rfl (Or.inl rfl) (pe_op op_cat (pv 1) (pe_lst (pa_cons (pe_tup (pa_cons pe_str (pa_cons (pe_tup (pa_cons pe_str pa_nil)) (pa_cons (pe_lst pa_nil) (pa_cons (pe_tup pa_nil) pa_nil))))) (pa_cons (pe_tup (pa_cons pe_str (pa_cons (pe_tup (pa_cons pe_str pa_nil)) (pa_cons pe_int pa_nil)))) (pa_cons (pe_tup (pa_cons pe_str pa_nil)) (pa_cons (pe_tup (pa_cons pe_str (pa_cons pe_int pa_nil))) pa_nil)))))))
      (pss_cons (ps_set (i := 1) sc55.nd rfl (Or.inl rfl) (pe_op op_cat (pv 1) (pe_lst (pa_cons (pe_tup (pa_cons pe_str (pa_cons pe_non (pa_cons (pe_tup (pa_cons pe_int pa_nil)) (pa_cons (pe_tup pa_nil) pa_nil))))) (pa_cons (pe_tup (pa_cons pe_str (pa_cons (pe_tup pa_nil) (pa_cons (pe_tup pa_nil) (pa_cons (pe_tup pa_nil) pa_nil))))) (pa_cons (pe_tup (pa_cons pe_str (pa_cons (pe_tup pa_nil) (pa_cons (pe_tup (pa_cons (pe_tup (pa_cons (pe_tup pa_nil) (pa_cons pe_non (pa_cons (pe_tup pa_nil) pa_nil)))) pa_nil)) (pa_cons (pe_tup pa_nil) (pa_cons (pe_tup pa_nil) pa_nil)))))) pa_nil))))))
      (pss_cons (ps_set (i := 1) sc55.nd rfl (Or.inl rfl) (pe_op op_cat (pv 1) (pe_lst (pa_cons (pe_tup (pa_cons pe_str pa_nil)) (pa_cons (pe_tup (pa_cons pe_str (pa_cons (pe_tup pa_nil) (pa_cons (pe_tup (pa_cons (pe_tup (pa_cons (pe_tup (pa_cons pe_str pa_nil)) (pa_cons pe_str (pa_cons pe_int pa_nil)))) pa_nil)) (pa_cons (pe_tup pa_nil) (pa_cons (pe_tup pa_nil) pa_nil)))))) (pa_cons (pe_tup (pa_cons pe_str (pa_cons pe_str (pa_cons (pe_tup (pa_cons pe_str pa_nil)) pa_nil)))) pa_nil))))))
      (pss_cons (ps_set (i := 1) sc55.nd rfl (Or.inl rfl) (pe_op op_cat (pv 1) (pe_lst (pa_cons (pe_tup (pa_cons pe_str (pa_cons (pe_lst (pa_cons pe_int pa_nil)) pa_nil))) (pa_cons (pe_tup (pa_cons pe_str (pa_cons pe_int (pa_cons pe_int pa_nil)))) (pa_cons (pe_tup (pa_cons pe_str (pa_cons (pe_tup (pa_cons pe_str (pa_cons pe_str pa_nil))) pa_nil))) (pa_cons (pe_tup (pa_cons pe_str (pa_cons (pe_tup (pa_cons pe_str (pa_cons pe_str pa_nil))) pa_nil))) pa_nil)))))))
      (pss_cons (ps_set (i := 1) sc55.nd rfl (Or.inl rfl) (pe_op op_cat (pv 1) (pe_lst (pa_cons (pe_tup (pa_cons pe_str (pa_cons (pe_tup (pa_cons pe_str (pa_cons pe_str (pa_cons pe_int pa_nil)))) pa_nil))) (pa_cons (pe_tup (pa_cons pe_str (pa_cons (pe_tup (pa_cons pe_str (pa_cons pe_str pa_nil))) pa_nil))) (pa_cons (pe_tup (pa_cons pe_str (pa_cons (pe_tup (pa_cons pe_str (pa_cons pe_str pa_nil))) pa_nil))) pa_nil))))))
      (pss_cons (ps_set (i := 1) sc55.nd rfl (Or.inl rfl) (pe_op op_cat (pv 1) (pe_lst (pa_cons (pe_tup (pa_cons pe_str (pa_cons (pe_tup (pa_cons pe_str (pa_cons pe_str pa_nil))) pa_nil))) (pa_cons (pe_tup (pa_cons pe_str (pa_cons (pe_tup (pa_cons pe_str pa_nil)) pa_nil))) (pa_cons (pe_tup (pa_cons pe_str (pa_cons (pe_tup (pa_cons pe_str (pa_cons pe_non pa_nil))) pa_nil))) (pa_cons (pe_tup (pa_cons pe_str pa_nil)) pa_nil)))))))
      (pss_cons (ps_set (i := 1) sc55.nd rfl (Or.inl rfl) (pe_op op_cat (pv 1) (pe_lst (pa_cons (pe_tup (pa_cons pe_str (pa_cons (pe_tup (pa_cons pe_str (pa_cons pe_str pa_nil))) pa_nil))) (pa_cons (pe_tup (pa_cons pe_str (pa_cons pe_non (pa_cons (pe_tup (pa_cons pe_str (pa_cons pe_int pa_nil))) pa_nil)))) (pa_cons (pe_tup (pa_cons pe_str (pa_cons pe_non (pa_cons (pe_tup (pa_cons pe_str pa_nil)) (pa_cons (pe_tup pa_nil) pa_nil))))) pa_nil))))))
      (pss_cons (ps_set (i := 1) sc55.nd rfl (Or.inl rfl) (pe_op op_cat (pv 1) (pe_lst (pa_cons (pe_tup (pa_cons pe_str (pa_cons pe_str (pa_cons pe_str (pa_cons (pe_tup (pa_cons (pe_tup (pa_cons pe_str pa_nil)) pa_nil)) pa_nil))))) (pa_cons (pe_tup (pa_cons pe_str (pa_cons (pe_tup (pa_cons pe_str (pa_cons pe_str (pa_cons pe_str pa_nil)))) pa_nil))) pa_nil)))))
      (pss_cons (ps_set (i := 1) sc55.nd rfl (Or.inl rfl) (pe_op op_cat (pv 1) (pe_lst (pa_cons (pe_tup (pa_cons pe_str (pa_cons pe_bl (pa_cons pe_non pa_nil)))) (pa_cons (pe_tup (pa_cons pe_str (pa_cons (pe_tup (pa_cons pe_str (pa_cons pe_int pa_nil))) (pa_cons (pe_tup (pa_cons (pe_tup (pa_cons pe_str pa_nil)) pa_nil)) pa_nil)))) (pa_cons (pe_tup (pa_cons pe_str (pa_cons (pe_tup (pa_cons pe_str (pa_cons pe_str (pa_cons pe_int pa_nil)))) pa_nil))) pa_nil))))))
      (pss_cons (ps_set (i := 1) sc55.nd rfl (Or.inl rfl) (pe_op op_cat (pv 1) (pe_lst (pa_cons (pe_tup (pa_cons pe_str (pa_cons (pe_tup (pa_cons pe_str (pa_cons pe_str (pa_cons pe_str (pa_cons pe_int (pa_cons pe_int pa_nil)))))) pa_nil))) (pa_cons (pe_tup (pa_cons pe_str (pa_cons (pe_tup (pa_cons pe_str (pa_cons pe_str pa_nil))) pa_nil))) (pa_cons (pe_tup (pa_cons pe_str (pa_cons (pe_tup (pa_cons pe_str (pa_cons pe_int pa_nil))) pa_nil))) pa_nil))))))
      (pss_cons (ps_set (i := 1) sc55.nd rfl (Or.inl rfl) (pe_op op_cat (pv 1) (pe_lst (pa_cons (pe_tup (pa_cons pe_str (pa_cons (pe_op op_mulS pe_str pe_int) (pa_cons (pe_tup (pa_cons pe_str pa_nil)) pa_nil)))) (pa_cons (pe_tup (pa_cons pe_str (pa_cons (pe_op op_catT (pe_tup (pa_cons pe_str pa_nil)) (pe_op op_mulT (pe_tup (pa_cons pe_str pa_nil)) pe_int)) pa_nil))) pa_nil)))))
      (pss_cons (ps_if (pt_cmpR op_eq (pe_call G__law_draw (hr.mono (by first | decide | omega)) (by rfl) m__law_draw k__law_draw b__law_draw .nil pass0 (pa_cons (pv 0) (pa_cons pe_int pa_nil))) pe_int (nomark _)) (pss_one (ps_ret (pe_call G__law_pick (hr.mono (by first | decide | omega)) (by rfl) m__law_pick k__law_pick b__law_pick .nil pass0 (pa_cons (pv 0) (pa_cons (pv 1) pa_nil))))) pss_nil)
      (pss_cons (ps_set (i := 2) sc55.nd rfl (Or.inl rfl) (pe_call0 G__law_table (hr.mono (by decide)) (by rfl) m__law_table k__law_table b__law_table .nil pass0))
      (pss_cons (ps_set (i := 3) sc55.nd rfl (Or.inl rfl) (pe_call G__law_pick (hr.mono (by first | decide | omega)) (by rfl) m__law_pick k__law_pick b__law_pick .nil pass0 (pa_cons (pv 0) (pa_cons (pe_callTy (call_list_dK rfl) (by rfl) B.list boot_list (pa_cons (pv 2) pa_nil)) pa_nil))))
      (pss_cons (ps_set (i := 4) sc55.nd rfl (Or.inl rfl) (pe_op op_add (pe_op op_sub (pe_ix ix_tup (pe_dget hu (pv 2) (pv 3) (fun _ _ => rfl)) pe_int (fun _ _ => rfl)) pe_int) (pe_call G__law_draw (hr.mono (by first | decide | omega)) (by rfl) m__law_draw k__law_draw b__law_draw .nil pass0 (pa_cons (pv 0) (pa_cons (pe_op op_add (pe_op op_sub (pe_ix ix_tup (pe_dget hu (pv 2) (pv 3) (fun _ _ => rfl)) pe_int (fun _ _ => rfl)) (pe_ix ix_tup (pe_dget hu (pv 2) (pv 3) (fun _ _ => rfl)) pe_int (fun _ _ => rfl))) pe_int) pa_nil)))))
      (pss_one (ps_ret (pe_tup (pa_cons pe_str (pa_cons (pe_op op_catT (pe_tup (pa_cons (pv 3) pa_nil)) (pe_op op_mulT (pe_tup (pa_cons pe_str pa_nil)) (pe_callB (call_max2 rfl) (by rfl) B.max boot_max (pa_cons pe_int (pa_cons (pv 4) pa_nil))))) pa_nil)))))))))))))))))))))))), ?_⟩
  refine q_menu0 (K := K) (ds := [(D.int 5), (D.str "say"), (D.tup []), (D.tup [(D.str "nope")]), (D.tup [(D.str "say"), D.lst]), (D.tup [(D.str "say"), (D.int 1), D.dct]), (D.tup [(D.str "say"), (D.str "@")]), (D.tup [(D.str "say"), (D.str "@1x")])]) ((eap_cons (evp_d ev_c (Rp.int 5)) (eap_cons (evp_d ev_c (Rp.str "say")) (eap_cons (evp_tup eap_nil (by simp)) (eap_cons (evp_tup (eap_cons (evp_d ev_c (Rp.str "nope")) eap_nil) (by simp)) (eap_cons (evp_tup (eap_cons (evp_d ev_c (Rp.str "say")) (eap_cons (evp_lstA (eap_cons (evp_d ev_c (Rp.int 1)) eap_nil) (by simp)) eap_nil)) (by simp)) (eap_cons (evp_tup (eap_cons (evp_d ev_c (Rp.str "say")) (eap_cons (evp_d ev_c (Rp.int 1)) (eap_cons evp_dct0 eap_nil))) (by simp)) (eap_cons (evp_tup (eap_cons (evp_d ev_c (Rp.str "say")) (eap_cons (evp_d ev_c (Rp.str "@")) eap_nil)) (by simp)) (eap_cons (evp_tup (eap_cons (evp_d ev_c (Rp.str "say")) (eap_cons (evp_d ev_c (Rp.str "@1x")) eap_nil)) (by simp)) eap_nil))))))))) (by decide +kernel) (by simp) fun p0 xs0 H0 np0 e0 hp0 _ hl0 gb0 => ?_
  replace hl0 : xs0.length ≤ 12 := by simp at hl0; omega
  refine q_menu (K := K) (ds := [(D.tup [(D.str "say"), (D.str "@x"), (D.tup [(D.str "@")])]), (D.tup [(D.str "do")]), (D.tup [(D.str "do"), (D.tup [(D.str "it")])]), (D.tup [(D.str "do"), (D.tup [(D.str "it"), (D.int 1), (D.int 2)])]), (D.tup [(D.str "do"), (D.tup [(D.str "nope"), (D.int 1)])])]) hp0 (ev_var rfl) gb0 (by omega) (fun _ _ => (eap_cons (evp_tup (eap_cons (evp_d ev_c (Rp.str "say")) (eap_cons (evp_d ev_c (Rp.str "@x")) (eap_cons (evp_tup (eap_cons (evp_d ev_c (Rp.str "@")) eap_nil) (by simp)) eap_nil))) (by simp)) (eap_cons (evp_tup (eap_cons (evp_d ev_c (Rp.str "do")) eap_nil) (by simp)) (eap_cons (evp_tup (eap_cons (evp_d ev_c (Rp.str "do")) (eap_cons (evp_tup (eap_cons (evp_d ev_c (Rp.str "it")) eap_nil) (by simp)) eap_nil)) (by simp)) (eap_cons (evp_tup (eap_cons (evp_d ev_c (Rp.str "do")) (eap_cons (evp_tup (eap_cons (evp_d ev_c (Rp.str "it")) (eap_cons (evp_d ev_c (Rp.int 1)) (eap_cons (evp_d ev_c (Rp.int 2)) eap_nil))) (by simp)) eap_nil)) (by simp)) (eap_cons (evp_tup (eap_cons (evp_d ev_c (Rp.str "do")) (eap_cons (evp_tup (eap_cons (evp_d ev_c (Rp.str "nope")) (eap_cons (evp_d ev_c (Rp.int 1)) eap_nil)) (by simp)) eap_nil)) (by simp)) eap_nil)))))) (by decide +kernel) (by simp) fun p1 xs1 H1 e1 hp1 np1 hl1 gb1 => ?_
  replace hl1 : xs1.length ≤ 24 := by simp at hl1; omega
  refine q_menu (K := K) (ds := [(D.tup [(D.str "do"), (D.str "time")]), (D.tup [(D.str "let"), (D.str "x")]), (D.tup [(D.str "do"), (D.tup [(D.str "time"), (D.int 1)])]), (D.tup [(D.str "let"), (D.str "1x"), (D.tup [(D.str "time")])])]) hp1 (ev_var rfl) gb1 (by omega) (fun _ _ => (eap_cons (evp_tup (eap_cons (evp_d ev_c (Rp.str "do")) (eap_cons (evp_d ev_c (Rp.str "time")) eap_nil)) (by simp)) (eap_cons (evp_tup (eap_cons (evp_d ev_c (Rp.str "let")) (eap_cons (evp_d ev_c (Rp.str "x")) eap_nil)) (by simp)) (eap_cons (evp_tup (eap_cons (evp_d ev_c (Rp.str "do")) (eap_cons (evp_tup (eap_cons (evp_d ev_c (Rp.str "time")) (eap_cons (evp_d ev_c (Rp.int 1)) eap_nil)) (by simp)) eap_nil)) (by simp)) (eap_cons (evp_tup (eap_cons (evp_d ev_c (Rp.str "let")) (eap_cons (evp_d ev_c (Rp.str "1x")) (eap_cons (evp_tup (eap_cons (evp_d ev_c (Rp.str "time")) eap_nil) (by simp)) eap_nil))) (by simp)) eap_nil))))) (by decide +kernel) (by simp) fun p2 xs2 H2 e2 hp2 np2 hl2 gb2 => ?_
  replace hl2 : xs2.length ≤ 36 := by simp at hl2; omega
  refine q_menu (K := K) (ds := [(D.tup [(D.str "let"), D.non, (D.tup [(D.str "time")])]), (D.tup [(D.str "await"), (D.str "x"), (D.tup [(D.str "sleep")])]), (D.tup [(D.str "if"), (D.tup [(D.str "time")]), (D.tup [])])]) hp2 (ev_var rfl) gb2 (by omega) (fun _ _ => (eap_cons (evp_tup (eap_cons (evp_d ev_c (Rp.str "let")) (eap_cons (evp_d ev_c Rp.non) (eap_cons (evp_tup (eap_cons (evp_d ev_c (Rp.str "time")) eap_nil) (by simp)) eap_nil))) (by simp)) (eap_cons (evp_tup (eap_cons (evp_d ev_c (Rp.str "await")) (eap_cons (evp_d ev_c (Rp.str "x")) (eap_cons (evp_tup (eap_cons (evp_d ev_c (Rp.str "sleep")) eap_nil) (by simp)) eap_nil))) (by simp)) (eap_cons (evp_tup (eap_cons (evp_d ev_c (Rp.str "if")) (eap_cons (evp_tup (eap_cons (evp_d ev_c (Rp.str "time")) eap_nil) (by simp)) (eap_cons (evp_tup eap_nil (by simp)) eap_nil))) (by simp)) eap_nil)))) (by decide +kernel) (by simp) fun p3 xs3 H3 e3 hp3 np3 hl3 gb3 => ?_
  replace hl3 : xs3.length ≤ 48 := by simp at hl3; omega
  refine q_menu (K := K) (ds := [(D.tup [(D.str "if"), (D.tup [(D.str "time")]), D.lst, (D.tup [])]), (D.tup [(D.str "while"), (D.tup [(D.str "time")]), (D.int 5)]), (D.tup [(D.str "break")]), (D.tup [(D.str "break"), (D.int 1)])]) hp3 (ev_var rfl) gb3 (by omega) (fun _ _ => (eap_cons (evp_tup (eap_cons (evp_d ev_c (Rp.str "if")) (eap_cons (evp_tup (eap_cons (evp_d ev_c (Rp.str "time")) eap_nil) (by simp)) (eap_cons (evp_lstA eap_nil (by simp)) (eap_cons (evp_tup eap_nil (by simp)) eap_nil)))) (by simp)) (eap_cons (evp_tup (eap_cons (evp_d ev_c (Rp.str "while")) (eap_cons (evp_tup (eap_cons (evp_d ev_c (Rp.str "time")) eap_nil) (by simp)) (eap_cons (evp_d ev_c (Rp.int 5)) eap_nil))) (by simp)) (eap_cons (evp_tup (eap_cons (evp_d ev_c (Rp.str "break")) eap_nil) (by simp)) (eap_cons (evp_tup (eap_cons (evp_d ev_c (Rp.str "break")) (eap_cons (evp_d ev_c (Rp.int 1)) eap_nil)) (by simp)) eap_nil))))) (by decide +kernel) (by simp) fun p4 xs4 H4 e4 hp4 np4 hl4 gb4 => ?_
  replace hl4 : xs4.length ≤ 60 := by simp at hl4; omega
  refine q_menu (K := K) (ds := [(D.tup [(D.str "each"), D.non, (D.tup [(D.int 1)]), (D.tup [])]), (D.tup [(D.str "try"), (D.tup []), (D.tup []), (D.tup [])]), (D.tup [(D.str "try"), (D.tup []), (D.tup [(D.tup [(D.tup []), D.non, (D.tup [])])]), (D.tup []), (D.tup [])])]) hp4 (ev_var rfl) gb4 (by omega) (fun _ _ => (eap_cons (evp_tup (eap_cons (evp_d ev_c (Rp.str "each")) (eap_cons (evp_d ev_c Rp.non) (eap_cons (evp_tup (eap_cons (evp_d ev_c (Rp.int 1)) eap_nil) (by simp)) (eap_cons (evp_tup eap_nil (by simp)) eap_nil)))) (by simp)) (eap_cons (evp_tup (eap_cons (evp_d ev_c (Rp.str "try")) (eap_cons (evp_tup eap_nil (by simp)) (eap_cons (evp_tup eap_nil (by simp)) (eap_cons (evp_tup eap_nil (by simp)) eap_nil)))) (by simp)) (eap_cons (evp_tup (eap_cons (evp_d ev_c (Rp.str "try")) (eap_cons (evp_tup eap_nil (by simp)) (eap_cons (evp_tup (eap_cons (evp_tup (eap_cons (evp_tup eap_nil (by simp)) (eap_cons (evp_d ev_c Rp.non) (eap_cons (evp_tup eap_nil (by simp)) eap_nil))) (by simp)) eap_nil) (by simp)) (eap_cons (evp_tup eap_nil (by simp)) (eap_cons (evp_tup eap_nil (by simp)) eap_nil))))) (by simp)) eap_nil)))) (by decide +kernel) (by simp) fun p5 xs5 H5 e5 hp5 np5 hl5 gb5 => ?_
  replace hl5 : xs5.length ≤ 72 := by simp at hl5; omega
  refine q_menu (K := K) (ds := [(D.tup [(D.str "return")]), (D.tup [(D.str "try"), (D.tup []), (D.tup [(D.tup [(D.tup [(D.str "Oops")]), (D.str "x"), (D.int 5)])]), (D.tup []), (D.tup [])]), (D.tup [(D.str "with"), (D.str "x"), (D.tup [(D.str "lock")])])]) hp5 (ev_var rfl) gb5 (by omega) (fun _ _ => (eap_cons (evp_tup (eap_cons (evp_d ev_c (Rp.str "return")) eap_nil) (by simp)) (eap_cons (evp_tup (eap_cons (evp_d ev_c (Rp.str "try")) (eap_cons (evp_tup eap_nil (by simp)) (eap_cons (evp_tup (eap_cons (evp_tup (eap_cons (evp_tup (eap_cons (evp_d ev_c (Rp.str "Oops")) eap_nil) (by simp)) (eap_cons (evp_d ev_c (Rp.str "x")) (eap_cons (evp_d ev_c (Rp.int 5)) eap_nil))) (by simp)) eap_nil) (by simp)) (eap_cons (evp_tup eap_nil (by simp)) (eap_cons (evp_tup eap_nil (by simp)) eap_nil))))) (by simp)) (eap_cons (evp_tup (eap_cons (evp_d ev_c (Rp.str "with")) (eap_cons (evp_d ev_c (Rp.str "x")) (eap_cons (evp_tup (eap_cons (evp_d ev_c (Rp.str "lock")) eap_nil) (by simp)) eap_nil))) (by simp)) eap_nil)))) (by decide +kernel) (by simp) fun p6 xs6 H6 e6 hp6 np6 hl6 gb6 => ?_
  replace hl6 : xs6.length ≤ 84 := by simp at hl6; omega
  refine q_menu (K := K) (ds := [(D.tup [(D.str "return"), D.lst]), (D.tup [(D.str "raise"), (D.int 1), (D.int 2)]), (D.tup [(D.str "do"), (D.tup [(D.str "soon"), (D.str "zz")])]), (D.tup [(D.str "do"), (D.tup [(D.str "soon"), (D.str "main")])])]) hp6 (ev_var rfl) gb6 (by omega) (fun _ _ => (eap_cons (evp_tup (eap_cons (evp_d ev_c (Rp.str "return")) (eap_cons (evp_lstA (eap_cons (evp_d ev_c (Rp.int 1)) eap_nil) (by simp)) eap_nil)) (by simp)) (eap_cons (evp_tup (eap_cons (evp_d ev_c (Rp.str "raise")) (eap_cons (evp_d ev_c (Rp.int 1)) (eap_cons (evp_d ev_c (Rp.int 2)) eap_nil))) (by simp)) (eap_cons (evp_tup (eap_cons (evp_d ev_c (Rp.str "do")) (eap_cons (evp_tup (eap_cons (evp_d ev_c (Rp.str "soon")) (eap_cons (evp_d ev_c (Rp.str "zz")) eap_nil)) (by simp)) eap_nil)) (by simp)) (eap_cons (evp_tup (eap_cons (evp_d ev_c (Rp.str "do")) (eap_cons (evp_tup (eap_cons (evp_d ev_c (Rp.str "soon")) (eap_cons (evp_d ev_c (Rp.str "main")) eap_nil)) (by simp)) eap_nil)) (by simp)) eap_nil))))) (by decide +kernel) (by simp) fun p7 xs7 H7 e7 hp7 np7 hl7 gb7 => ?_
  replace hl7 : xs7.length ≤ 96 := by simp at hl7; omega
  refine q_menu (K := K) (ds := [(D.tup [(D.str "do"), (D.tup [(D.str "soon"), (D.str "pl"), (D.int 1)])]), (D.tup [(D.str "do"), (D.tup [(D.str "call"), (D.str "zz")])]), (D.tup [(D.str "do"), (D.tup [(D.str "fault"), (D.str "Exception")])])]) hp7 (ev_var rfl) gb7 (by omega) (fun _ _ => (eap_cons (evp_tup (eap_cons (evp_d ev_c (Rp.str "do")) (eap_cons (evp_tup (eap_cons (evp_d ev_c (Rp.str "soon")) (eap_cons (evp_d ev_c (Rp.str "pl")) (eap_cons (evp_d ev_c (Rp.int 1)) eap_nil))) (by simp)) eap_nil)) (by simp)) (eap_cons (evp_tup (eap_cons (evp_d ev_c (Rp.str "do")) (eap_cons (evp_tup (eap_cons (evp_d ev_c (Rp.str "call")) (eap_cons (evp_d ev_c (Rp.str "zz")) eap_nil)) (by simp)) eap_nil)) (by simp)) (eap_cons (evp_tup (eap_cons (evp_d ev_c (Rp.str "do")) (eap_cons (evp_tup (eap_cons (evp_d ev_c (Rp.str "fault")) (eap_cons (evp_d ev_c (Rp.str "Exception")) eap_nil)) (by simp)) eap_nil)) (by simp)) eap_nil)))) (by decide +kernel) (by simp) fun p8 xs8 H8 e8 hp8 np8 hl8 gb8 => ?_
  replace hl8 : xs8.length ≤ 108 := by simp at hl8; omega
  refine q_menu (K := K) (ds := [(D.tup [(D.str "do"), (D.tup [(D.str "fault"), (D.str "a b")])]), (D.tup [(D.str "do"), (D.tup [(D.str "fault")])]), (D.tup [(D.str "do"), (D.tup [(D.str "handler"), D.non])]), (D.tup [(D.str "raise")])]) hp8 (ev_var rfl) gb8 (by omega) (fun _ _ => (eap_cons (evp_tup (eap_cons (evp_d ev_c (Rp.str "do")) (eap_cons (evp_tup (eap_cons (evp_d ev_c (Rp.str "fault")) (eap_cons (evp_d ev_c (Rp.str "a b")) eap_nil)) (by simp)) eap_nil)) (by simp)) (eap_cons (evp_tup (eap_cons (evp_d ev_c (Rp.str "do")) (eap_cons (evp_tup (eap_cons (evp_d ev_c (Rp.str "fault")) eap_nil) (by simp)) eap_nil)) (by simp)) (eap_cons (evp_tup (eap_cons (evp_d ev_c (Rp.str "do")) (eap_cons (evp_tup (eap_cons (evp_d ev_c (Rp.str "handler")) (eap_cons (evp_d ev_c Rp.non) eap_nil)) (by simp)) eap_nil)) (by simp)) (eap_cons (evp_tup (eap_cons (evp_d ev_c (Rp.str "raise")) eap_nil) (by simp)) eap_nil))))) (by decide +kernel) (by simp) fun p9 xs9 H9 e9 hp9 np9 hl9 gb9 => ?_
  replace hl9 : xs9.length ≤ 120 := by simp at hl9; omega
  refine q_menu (K := K) (ds := [(D.tup [(D.str "do"), (D.tup [(D.str "handler"), (D.str "main")])]), (D.tup [(D.str "await"), D.non, (D.tup [(D.str "sleep"), (D.int 1)])]), (D.tup [(D.str "with"), D.non, (D.tup [(D.str "lock")]), (D.tup [])])]) hp9 (ev_var rfl) gb9 (by omega) (fun _ _ => (eap_cons (evp_tup (eap_cons (evp_d ev_c (Rp.str "do")) (eap_cons (evp_tup (eap_cons (evp_d ev_c (Rp.str "handler")) (eap_cons (evp_d ev_c (Rp.str "main")) eap_nil)) (by simp)) eap_nil)) (by simp)) (eap_cons (evp_tup (eap_cons (evp_d ev_c (Rp.str "await")) (eap_cons (evp_d ev_c Rp.non) (eap_cons (evp_tup (eap_cons (evp_d ev_c (Rp.str "sleep")) (eap_cons (evp_d ev_c (Rp.int 1)) eap_nil)) (by simp)) eap_nil))) (by simp)) (eap_cons (evp_tup (eap_cons (evp_d ev_c (Rp.str "with")) (eap_cons (evp_d ev_c Rp.non) (eap_cons (evp_tup (eap_cons (evp_d ev_c (Rp.str "lock")) eap_nil) (by simp)) (eap_cons (evp_tup eap_nil (by simp)) eap_nil)))) (by simp)) eap_nil)))) (by decide +kernel) (by simp) fun p10 xs10 H10 e10 hp10 np10 hl10 gb10 => ?_
  replace hl10 : xs10.length ≤ 132 := by simp at hl10; omega
  refine q_menu (K := K) (ds := [(D.tup [(D.str "async_each"), (D.str "x"), (D.str "@e"), (D.tup [(D.tup [(D.str "break")])])]), (D.tup [(D.str "do"), (D.tup [(D.str "wait_until"), (D.str "@c"), (D.str "main")])])]) hp10 (ev_var rfl) gb10 (by omega) (fun _ _ => (eap_cons (evp_tup (eap_cons (evp_d ev_c (Rp.str "async_each")) (eap_cons (evp_d ev_c (Rp.str "x")) (eap_cons (evp_d ev_c (Rp.str "@e")) (eap_cons (evp_tup (eap_cons (evp_tup (eap_cons (evp_d ev_c (Rp.str "break")) eap_nil) (by simp)) eap_nil) (by simp)) eap_nil)))) (by simp)) (eap_cons (evp_tup (eap_cons (evp_d ev_c (Rp.str "do")) (eap_cons (evp_tup (eap_cons (evp_d ev_c (Rp.str "wait_until")) (eap_cons (evp_d ev_c (Rp.str "@c")) (eap_cons (evp_d ev_c (Rp.str "main")) eap_nil))) (by simp)) eap_nil)) (by simp)) eap_nil))) (by decide +kernel) (by simp) fun p11 xs11 H11 e11 hp11 np11 hl11 gb11 => ?_
  replace hl11 : xs11.length ≤ 144 := by simp at hl11; omega
  refine q_menu (K := K) (ds := [(D.tup [(D.str "say"), (D.bl true), D.non]), (D.tup [(D.str "while"), (D.tup [(D.str "not"), (D.int 0)]), (D.tup [(D.tup [(D.str "break")])])]), (D.tup [(D.str "do"), (D.tup [(D.str "at"), (D.str "pl"), (D.int 1)])])]) hp11 (ev_var rfl) gb11 (by omega) (fun _ _ => (eap_cons (evp_tup (eap_cons (evp_d ev_c (Rp.str "say")) (eap_cons (evp_d ev_c (Rp.bl true)) (eap_cons (evp_d ev_c Rp.non) eap_nil))) (by simp)) (eap_cons (evp_tup (eap_cons (evp_d ev_c (Rp.str "while")) (eap_cons (evp_tup (eap_cons (evp_d ev_c (Rp.str "not")) (eap_cons (evp_d ev_c (Rp.int 0)) eap_nil)) (by simp)) (eap_cons (evp_tup (eap_cons (evp_tup (eap_cons (evp_d ev_c (Rp.str "break")) eap_nil) (by simp)) eap_nil) (by simp)) eap_nil))) (by simp)) (eap_cons (evp_tup (eap_cons (evp_d ev_c (Rp.str "do")) (eap_cons (evp_tup (eap_cons (evp_d ev_c (Rp.str "at")) (eap_cons (evp_d ev_c (Rp.str "pl")) (eap_cons (evp_d ev_c (Rp.int 1)) eap_nil))) (by simp)) eap_nil)) (by simp)) eap_nil)))) (by decide +kernel) (by simp) fun p12 xs12 H12 e12 hp12 np12 hl12 gb12 => ?_
  replace hl12 : xs12.length ≤ 156 := by simp at hl12; omega
  refine q_menu (K := K) (ds := [(D.tup [(D.str "do"), (D.tup [(D.str "later"), (D.str "@d"), (D.str "pl"), (D.int 1), (D.int 2)])]), (D.tup [(D.str "do"), (D.tup [(D.str "call"), (D.str "main")])]), (D.tup [(D.str "do"), (D.tup [(D.str "join"), (D.int 1)])])]) hp12 (ev_var rfl) gb12 (by omega) (fun _ _ => (eap_cons (evp_tup (eap_cons (evp_d ev_c (Rp.str "do")) (eap_cons (evp_tup (eap_cons (evp_d ev_c (Rp.str "later")) (eap_cons (evp_d ev_c (Rp.str "@d")) (eap_cons (evp_d ev_c (Rp.str "pl")) (eap_cons (evp_d ev_c (Rp.int 1)) (eap_cons (evp_d ev_c (Rp.int 2)) eap_nil))))) (by simp)) eap_nil)) (by simp)) (eap_cons (evp_tup (eap_cons (evp_d ev_c (Rp.str "do")) (eap_cons (evp_tup (eap_cons (evp_d ev_c (Rp.str "call")) (eap_cons (evp_d ev_c (Rp.str "main")) eap_nil)) (by simp)) eap_nil)) (by simp)) (eap_cons (evp_tup (eap_cons (evp_d ev_c (Rp.str "do")) (eap_cons (evp_tup (eap_cons (evp_d ev_c (Rp.str "join")) (eap_cons (evp_d ev_c (Rp.int 1)) eap_nil)) (by simp)) eap_nil)) (by simp)) eap_nil)))) (by decide +kernel) (by simp) fun p13 xs13 H13 e13 hp13 np13 hl13 gb13 => ?_
  replace hl13 : xs13.length ≤ 168 := by simp at hl13; omega
  refine q_menu (K := K) (ds := [(D.tup [(D.str "let"), (D.str (repS "x" (21 : Int).toNat)), (D.tup [(D.str "time")])]), (D.tup [(D.str "do"), (D.tup ([(D.str "soon")] ++ (List.replicate (10 : Int).toNat [(D.str "pl")]).flatten))])]) hp13 (ev_var rfl) gb13 (by omega) (fun _ _ => (eap_cons (evp_tup (eap_cons (evp_d ev_c (Rp.str "let")) (eap_cons (evp_mulS (by decide) (by decide) (by decide) (by decide)) (eap_cons (evp_tup (eap_cons (evp_d ev_c (Rp.str "time")) eap_nil) (by simp)) eap_nil))) (by simp)) (eap_cons (evp_tup (eap_cons (evp_d ev_c (Rp.str "do")) (eap_cons (evp_catT (ds := [(D.str "soon")]) (es := (List.replicate (10 : Int).toNat [(D.str "pl")]).flatten) (evp_tup (eap_cons (evp_d ev_c (Rp.str "soon")) eap_nil) (by simp)) (fun _ _ => (evp_mulT (n := 10) (ds := [(D.str "pl")]) (evp_tup (eap_cons (evp_d ev_c (Rp.str "pl")) eap_nil) (by simp)) (fun _ _ => ev_c) (by simp) (by decide) (by decide) (by simp))) (by simp) (by simp) (by simp)) eap_nil)) (by simp)) eap_nil))) (by decide +kernel) (by simp) fun p14 xs14 H14 e14 hp14 np14 hl14 gb14 => ?_
  have hn14 : xs14 ≠ [] := fun h => by rw [h] at hl14; simp at hl14
  replace hl14 : xs14.length ≤ 180 := by simp at hl14; omega
  have eM : Ex H H14 := (((((((((((((e0.trans e1).trans e2).trans e3).trans e4).trans e5).trans e6).trans e7).trans e8).trans e9).trans e10).trans e11).trans e12).trans e13).trans e14
  have wlM := wl.ex eM
  have fresh_ne : ∀ {H1 : Hp} {z1 : Nat} {p : Addr}, Wl a H1 z1 → H1 p = none → p ≠ a := fun {H1 z1 p} w hp z => by
    obtain ⟨_, _, w⟩ := w
    rw [z, w] at hp
    cases hp
  have hpa : p14 ≠ a := fresh_ne (wl.ex (((((((((((((e0.trans e1).trans e2).trans e3).trans e4).trans e5).trans e6).trans e7).trans e8).trans e9).trans e10).trans e11).trans e12).trans e13)) np14
  clear hp0 hp1 hp2 hp3 hp4 hp5 hp6 hp7 hp8 hp9 hp10 hp11 hp12 hp13 gb0 gb1 gb2 gb3 gb4 gb5 gb6 gb7 gb8 gb9 gb10 gb11 gb12 gb13
  refine q_ifDraw (ea_cons (ev_var rfl) (ea_cons ev_c ea_nil)) fun H15 e15 => ?_
  refine ⟨a, 2, z, rfl, wlM.ex e15, by omega, by decide, by decide, fun r z1 H16 r0 r1 hz1 k1 wl1 => ⟨r, rfl, fun _ => ?_, fun _ => ?_⟩⟩
  · have kw16 : Kw a H14 H16 := (Kw.of e15).trans k1
    refine s_retC (ea_cons (ev_var rfl) (ea_cons (ev_var rfl) ea_nil)) fun H17 e17 => ?_
    refine ⟨a, p14, xs14, z1, rfl, wl1.ex e17, by omega, hpa, .inl (e17 _ _ (kw16 _ _ hp14 hpa)), hn14, by omega, fun x z2 H18 hx hz2 k2 wl2 => ?_⟩
    have kw18 : Kw a H14 H18 := kw16.trans ((Kw.of e17).trans k2)
    exact k x z2 H18 ((Kw.of eM).trans kw18) wl2 (by omega) ((gb14 x hx).ew (kw18.ew wlM wl2))
  · have kw16 : Kw a H H16 := (Kw.of eM).trans ((Kw.of e15).trans k1)
    exact odd_tab (wl1) (by omega) fun v z3 H23 kw3 wl3 hz3 g => k v z3 H23 (kw16.trans kw3) wl3 (by omega) g
end
end K2
/-! The law's steps: what it needs. -/
namespace K2
open PySem L2 Evl PySem.Spec PyProof.Rows RZ StX
/-- the weight and depth of a drawn step, and how often is drawn -/
def bW : Nat → Nat
  | 0 => 46
  | n + 1 => 5 * (3 * bW n + 1) + 36
def bD : Nat → Nat
  | 0 => 5
  | n + 1 => bD n + 4
def zS : Nat → Nat
  | 0 => 7
  | n + 1 => 7 + 4 * (1 + 3 * zS n)
theorem bW_ge : ∀ n, 46 ≤ bW n
  | 0 => Nat.le_refl _
  | n + 1 => by
    have := bW_ge n
    show 46 ≤ 5 * (3 * bW n + 1) + 36
    omega
theorem bD_ge : ∀ n, 5 ≤ bD n
  | 0 => Nat.le_refl _
  | n + 1 => by
    have := bD_ge n
    show 5 ≤ bD n + 4
    omega
theorem zS_ge : ∀ n, 7 ≤ zS n
  | 0 => Nat.le_refl _
  | n + 1 => by
    show 7 ≤ 7 + 4 * (1 + 3 * zS n)
    omega
theorem dpL_app : ∀ l m : List D, dpL (l ++ m) = max (dpL l) (dpL m)
  | [], m => (Nat.max_eq_right (Nat.zero_le _)).symm
  | d :: l, m => by
    show max (dpD d) (dpL (l ++ m)) = max (max (dpD d) (dpL l)) (dpL m)
    rw [dpL_app l m]
    omega
def GT (K : PySem.W.Frag) (d : Nat) (H : Hp) (v : V) : Prop := ∃ ds, Rp K H (.tup ds) v ∧ szL ds ≤ 3 * bW d ∧ dpL ds ≤ bD d
def GI (K : PySem.W.Frag) (d : Nat) (H : Hp) (v : V) : Prop := ∃ x, Rp K H x v ∧ szD x ≤ bW d ∧ dpD x ≤ bD d
theorem GT.ew {K : PySem.W.Frag} {d : Nat} {H H' : Hp} {v : V} (e : Ew H H') (h : GT K d H v) : GT K d H' v := let ⟨x, h1, h2⟩ := h; ⟨x, h1.ew e, h2⟩
theorem GI.ew {K : PySem.W.Frag} {d : Nat} {H H' : Hp} {v : V} (e : Ew H H') (h : GI K d H v) : GI K d H' v := let ⟨x, h1, h2⟩ := h; ⟨x, h1.ew e, h2⟩
theorem GI.of3 {K : PySem.W.Frag} {d : Nat} {H : Hp} {v : V} (h : G3 K H v) : GI K d H v := by
  obtain ⟨x, r, s⟩ := h
  unfold smallD at s
  rw [Bool.and_eq_true, decide_eq_true_eq, decide_eq_true_eq] at s
  exact ⟨x, r, Nat.le_trans s.1 (bW_ge d), Nat.le_trans s.2 (bD_ge d)⟩
/-- i drawn steps stand in a list -/
def LI (K : PySem.W.Frag) (d : Nat) (H : Hp) (xs : List V) (i : Nat) : Prop := ∃ ds, Rps K H ds xs ∧ szL ds ≤ i * bW d ∧ dpL ds ≤ bD d ∧ xs.length = i
theorem LI.ew {K : PySem.W.Frag} {d i : Nat} {H H' : Hp} {xs : List V} (e : Ew H H') (h : LI K d H xs i) : LI K d H' xs i := let ⟨x, h1, h2⟩ := h; ⟨x, h1.ew e, h2⟩
theorem LI.add {K : PySem.W.Frag} {d i : Nat} {H : Hp} {xs : List V} {v : V} (h : LI K d H xs i) (g : GI K d H v) : LI K d H (xs ++ [v]) (i + 1) := by
  obtain ⟨ds, r, h1, h2, h3⟩ := h
  obtain ⟨x, rx, g1, g2⟩ := g
  refine ⟨ds ++ [x], r.app (.cons rx .nil), ?_, ?_, by rw [List.length_append, h3]; rfl⟩
  · rw [szL_app, Nat.succ_mul]
    show szL ds + (szD x + 0) ≤ _
    omega
  · rw [dpL_app]
    show max (dpL ds) (max (dpD x) 0) ≤ _
    omega
def spStp (K : PySem.W.Frag) (n : Nat) : Sp := fun vs H Q _ => ∃ (a : Addr) (d : Nat) (m : Int) (z : Nat), vs = [.ref a, .int (d : Int), .int m] ∧ Wl a H z ∧ z + 1 + 3 * zS d ≤ 800000 ∧ d < n ∧ ∀ v z2 H2, Kw a H H2 → Wl a H2 z2 → z2 ≤ z + 1 + 3 * zS d → GT K d H2 v → Q v H2
theorem wl_ne {a p : Addr} {H : Hp} {z : Nat} (w : Wl a H z) (hp : H p = none) : p ≠ a := fun e => by
  obtain ⟨_, _, w⟩ := w
  rw [e, w] at hp
  cases hp
theorem Wl.updN {a p : Addr} {H : Hp} {z : Nat} {u : HO} (w : Wl a H z) (h : p ≠ a) : Wl a (L2.upd H p u) z := by
  obtain ⟨x, y, w⟩ := w
  exact ⟨x, y, by rw [upd_ne fun e => h e.symm]; exact w⟩
/-- all but the well and what is new stands -/
theorem Kw.mut {a p : Addr} {H H2 : Hp} {u : HO} (k : Kw a H H2) (h : H p = none) : Kw a H (L2.upd H2 p u) := fun b v hb n => by
  have : b ≠ p := fun e => by rw [e, h] at hb; cases hb
  rw [upd_ne this]
  exact k b v hb n
section
variable {K : PySem.W.Frag} {σ : L2.St} {H : Hp} {ta tb te t1 t2 : TE} {tu tw tz tbd : TS} {Dd : Ends}
theorem q_forDraw {t : TA} {vs : List V} {E : XK} {j : Nat} (h : EvA t σ H vs) (k : ∀ H1, Ex H H1 → spDraw (vs ++ []) H1 (fun v H2 => tSeq (tFor (iRng1 (tCons (tC v) tNil)) (gName j) tbd) tz Dd σ H2) E) :
    tSeq (tFor (iRng1 (tCons (tCall spDraw [] E t) tNil)) (gName j) tbd) tz Dd σ H := h H (Ex.refl H) _ fun H1 e => k H1 e
theorem s_ifDrawLt {t : TA} {vs : List V} {m : Int} {E : XK} (h : EvA t σ H vs) (hm : ∀ H1, Ev tb σ H1 (.int m)) (k : ∀ H1, Ex H H1 → spDraw (vs ++ []) H1 (fun v H2 => ∃ r : Int, v = .int r ∧ ∀ H3, Ex H2 H3 → tu Dd σ H3 ∧ tw Dd σ H3) E) :
    tIfS (tTest (tOp rLt (tCall spDraw [] E t) tb)) tu tw Dd σ H :=
  h H (Ex.refl H) _ fun H1 e => draw_mono (fun v H2 ⟨r, rv, h1⟩ => by
    subst rv
    refine hm H2 H2 (Ex.refl _) _ fun H3 e3 => ⟨r, m, rfl, rfl, _, rfl, ?_⟩
    by_cases hc : r < m
    · rw [decide_eq_true hc]
      exact iteT (h1 H3 e3).1
    · rw [decide_eq_false hc]
      exact iteF (h1 H3 e3).2) (k H1 e)
/-- l.append of what a call gives -/
theorem s_appC {sp : Sp} {E : XK} {t : TA} {l : Addr} {vs : List V} (hl : ∃ xs, H l = some (.lst xs)) (ha : Ev ta σ H (.ref l)) (h : EvA t σ H vs) (k : ∀ H1, Ex H H1 → sp (vs ++ []) H1 (fun v H2 => ∃ xs, H2 l = some (.lst xs) ∧ xs.length < 100000 ∧ Dd.nx σ (upd H2 l (.lst (xs ++ [v])))) E) (hq : ∀ (vs : List V) (H : Hp) (Q Q' : VK), (∀ v H2, Q v H2 → Q' v H2) → sp vs H Q E → sp vs H Q' E) :
    tDrop (tBM K "list" rAppend ta (tCons (tCall sp [] E t) tNil)) Dd σ H := by
  obtain ⟨xs, hl⟩ := hl
  refine ha H (Ex.refl H) _ fun H1 e1 => ⟨Or.inl ⟨rfl, xs, sq_of (e1 l _ hl)⟩, ?_⟩
  refine h H1 e1 _ fun H2 e2 => hq _ _ _ _ (fun v H3 ⟨ys, h1, h2, h3⟩ => ⟨l, ys, v, rfl, rfl, h1, sz_lt h2, h3⟩) (k H2 (e1.trans e2))
/-- [steps(well, deep - 1, many_odd) for k in range(4)] -/
theorem inner_lc {a : Addr} {d n z : Nat} {m : Int} {x3 x4 x5 x6 x7 x8 x9 x10 x11 x12 : Option V} {i : Nat} (wl : Wl a H z) (hz : z + 4 * (1 + 3 * zS d) ≤ 800000) (hd : d < n) (k : ∀ q ys z2 H2, Kw a H H2 → Wl a H2 z2 → z2 ≤ z + 4 * (1 + 3 * zS d) → H q = none → H2 q = some (.lst ys) → ys.length = 4 → (∀ y ∈ ys, GT K d H2 y) → Dd.nx (([some (.ref a), some (.int ((d + 1 : Nat) : Int)), some (.int m), x3, x4, x5, x6, x7, x8, x9, x10, x11, x12] : L2.St).set i (some (.ref q))) H2) :
    tAsg (tLc (iRng1 (tCons (tC (.int 4)) tNil)) (gName 12) tYes (tCall (spStp K n) [] E0 (tCons (tVar 0) (tCons (tOp (rI0 fun i j => .int (i - j)) (tVar 1) (tC (.int 1))) (tCons (tVar 2) tNil)))) [12]) (gName i) Dd [some (.ref a), some (.int ((d + 1 : Nat) : Int)), some (.int m), x3, x4, x5, x6, x7, x8, x9, x10, x11, x12] H := by
  have hev : EvA (tCons (tC (.int 4)) tNil) [some (.ref a), some (.int ((d + 1 : Nat) : Int)), some (.int m), x3, x4, x5, x6, x7, x8, x9, x10, x11, x12] H [.int 4] := ea_cons ev_c ea_nil
  unfold tAsg tLc iRng1
  refine hev H (Ex.refl H) _ fun H1 e1 => ⟨4, rfl, by omega, by omega, fun Dl hD => ?_⟩
  have hDn : H Dl = none := fresh_back e1 hD
  have hDa : Dl ≠ a := wl_ne wl hDn
  refine lc_range (lo := 0) (n := 4) (fun i H' => ∃ acc zi, H' Dl = some (.lst acc) ∧ acc.length = i ∧ (∀ y ∈ acc, GT K d H' y) ∧ Kw a H H' ∧ Wl a H' zi ∧ zi ≤ z + i * (1 + 3 * zS d)) ⟨[], z, upd_same, rfl, by simp, (Kw.of e1).mut hDn, (wl.ex e1).updN hDa, by omega⟩ (fun j H' hj p => ?_) (fun H' p => ?_)
  · obtain ⟨acc, zi, h1, h2, h3, h4, h5, h6⟩ := p
    refine ⟨rfl, ?_⟩
    unfold tYes
    refine (if_pos rfl).mpr ?_
    have h7 : (j + 1) * (1 + 3 * zS d) ≤ 4 * (1 + 3 * zS d) := Nat.mul_le_mul_right _ hj
    rw [Nat.succ_mul] at h7
    have hdd : (((d + 1 : Nat) : Int) - 1) = (d : Int) := by omega
    refine raw_call (vs := [.ref a, .int (d : Int), .int m]) (ea_cons (ev_var rfl) (ea_cons (ev_is (ev_op (ev_var rfl) ev_c rv_I0) (by rw [hdd])) (ea_cons (ev_var rfl) ea_nil))) fun H3 e3 => ⟨a, d, m, zi, rfl, h5.ex e3, by omega, hd, fun v z2 H4 kw wl2 hz2 g => ?_⟩
    have k34 : Kw a H' H4 := (Kw.of e3).trans kw
    have hl4 := k34 _ _ h1 hDa
    have w4 : Ew H4 (upd H4 Dl (.lst (acc ++ [v]))) := Ew.lst hl4
    refine ⟨acc, hl4, sz_lt (by omega), acc ++ [v], z2, upd_same, by rw [List.length_append, h2]; rfl, fun y hy => ?_, (h4.trans k34).mut hDn, wl2.updN hDa, by rw [Nat.succ_mul]; omega⟩
    rcases List.mem_append.mp hy with hy | hy
    · exact ((h3 y hy).ew (k34.ew h5 wl2)).ew w4
    · rw [List.mem_singleton.mp hy]
      exact g.ew w4
  · obtain ⟨acc, zi, h1, h2, h3, h4, h5, h6⟩ := p
    exact k Dl acc zi H' h4 h5 h6 hDn h1 h2 h3
end
end K2
/-! The law's steps: rows of steps with bodies. -/
namespace K2
open PySem L2 Evl PySem.Spec PyProof.Rows RZ StX
section
variable {K : PySem.W.Frag} {σ : L2.St} {H : Hp} {ta tb te t1 t2 : TE} {tu tw tz tbd : TS} {Dd : Ends}
theorem q_lstR {tl : TA} {i : Nat} {ds : List D} (h : EvAP tl σ H (fun H1 vs => Rps K H1 ds vs)) (hl : ds.length ≤ 100) (k : ∀ p xs H1, H p = none → Ex H H1 → H1 p = some (.lst xs) → Rps K H1 ds xs → tz Dd (σ.set i (some (.ref p))) H1) :
    tSeq (tAsg (tLst tl) (gName i)) tz Dd σ H := h H (Ex.refl H) _ fun vs H1 e r => ⟨sz_of (by rw [r.len]; omega), fun p hp => k p vs _ (fresh_back e hp) (e.trans (Ex.new hp)) upd_same (r.mono (Ex.new hp))⟩
theorem q_lstC {tl : TA} {i : Nat} {ds es : List D} {b : Addr} {bs : List V} (hb : H b = some (.lst bs)) (ho : Ev ta σ H (.ref b)) (rb : Rps K H es bs) (hbl : es.length ≤ 1000) (h : ∀ H1, Ex H H1 → EvAP tl σ H1 (fun H1 vs => Rps K H1 ds vs)) (hl : ds.length ≤ 100)
    (k : ∀ p xs H1, Ex H H1 → H p = none → H1 p = some (.lst xs) → Rps K H1 (es ++ ds) xs → tz Dd (σ.set i (some (.ref p))) H1) :
    tSeq (tAsg (tOp rCat ta (tLst tl)) (gName i)) tz Dd σ H := ho H (Ex.refl H) _ fun H1 e1 => h H1 e1 H1 (Ex.refl _) _ fun vs H2 e2 r => ⟨sz_of (by rw [r.len]; omega), fun p hp => by
      have e3 : Ex H2 (upd H2 p (.lst vs)) := Ex.new hp
      have lb := rb.len
      refine ⟨b, p, bs, vs, rfl, rfl, ((e1.trans e2).trans e3) _ _ hb, upd_same, sz_of (by rw [r.len]; omega), fun p2 hp2 => ?_⟩
      have e4 : Ex (upd H2 p (.lst vs)) (upd (upd H2 p (.lst vs)) p2 (.lst (bs ++ vs))) := Ex.new hp2
      have eall := ((e1.trans e2).trans e3).trans e4
      exact k p2 _ _ eall (fresh_back ((e1.trans e2).trans e3) hp2) upd_same ((rb.mono eall).app (r.mono (e3.trans e4)))⟩
/-- handlers[:n] of two, n from 0 to 2 -/
theorem evp_cut2 {h0 h1 : D} {n : Int} (h : EvP te σ H (fun H1 v => Rp K H1 (.tup [h0, h1]) v)) (hn : ∀ H1, Ex H H1 → Ev tb σ H1 (.int n)) (hr : n = 0 ∨ n = 1 ∨ n = 2) : EvP (tSl (rSlA K) te tNoPart (tPart tb)) σ H (fun H1 v => Rp K H1 (.tup ([h0, h1].take n.toNat)) v) := fun H1 e Q q =>
  h H1 e _ fun v H2 e2 r => hn H2 (e.trans e2) H2 (Ex.refl _) _ fun H3 e3 => ⟨n, rfl, by
    obtain ⟨a, vs, rfl, ha, rs⟩ := (r.mono e3).ofTup
    obtain ⟨v0, v1, rfl, r0, r1⟩ := rs.two
    refine ⟨a, [v0, v1], rfl, st_of ha, fun hw => ?_, fun hw p np => ?_⟩
    · rcases hr with rfl | rfl | rfl
      · exact absurd hw.2 (show ¬ HT.sIx 2 2 (some _) = 2 by decide)
      · exact absurd hw.2 (show ¬ HT.sIx 2 2 (some _) = 2 by decide)
      · exact q _ H3 (e2.trans e3) (.tup ha rs)
    · have e4 := Ex.new (o := HO.tup (cutV [v0, v1] none (some n))) np
      rcases hr with rfl | rfl | rfl
      · exact q _ _ ((e2.trans e3).trans e4) (.tup upd_same .nil)
      · exact q _ _ ((e2.trans e3).trans e4) (.tup upd_same (.cons (r0.mono e4) .nil))
      · exact absurd ⟨rfl, rfl⟩ hw⟩
/-- l.append(rows[draw]) -/
theorem s_appIx {t : TA} {l : Addr} {vs : List V} {r : Addr} {E : XK} (hl : ∃ xs, H l = some (.lst xs)) (ha : Ev ta σ H (.ref l)) (hr : Ev tb σ H (.ref r)) (h : ∀ H1, Ex H H1 → EvA t σ H1 vs) (k : ∀ H1, Ex H H1 → spDraw (vs ++ []) H1 (fun v H2 => ∃ (xs ys : List V) (i : Nat) (y : V), v = .int (i : Int) ∧ H2 l = some (.lst xs) ∧ xs.length < 100000 ∧ H2 r = some (.lst ys) ∧ ys[i]? = some y ∧ Dd.nx σ (upd H2 l (.lst (xs ++ [y])))) E) :
    tDrop (tBM K "list" rAppend ta (tCons (tOp (rIxL K) tb (tCall spDraw [] E t)) tNil)) Dd σ H := by
  obtain ⟨xs, hl⟩ := hl
  refine ha H (Ex.refl H) _ fun H1 e1 => ⟨Or.inl ⟨rfl, xs, sq_of (e1 l _ hl)⟩, ?_⟩
  refine hr H1 e1 _ fun H2 e2 => h H2 (e1.trans e2) H2 (Ex.refl _) _ fun H3 e3 => ?_
  exact draw_mono (fun v H4 ⟨xs, ys, i, y, h1, h2, h3, h4, h5, h6⟩ => by
    subst h1
    exact ⟨r, ys, (i : Int), y, rfl, rfl, sq_of h4, atI_nat h5, l, xs, y, rfl, rfl, h2, sz_lt h3, h6⟩) (k H3 ((e1.trans e2).trans e3))
end
def hOops (s : List D) : D := .tup [.tup [.str "Oops", .str "Exception"], .non, .tup s]
def hOS (s : List D) : D := .tup [.tup [.str "OSError"], .str "e", .tup s]
def rowsD (s0 s1 s2 s3 sl : List D) (n : Nat) : List D :=
  ([.tup [.str "if", .tup [.str "time"], .tup s0, .tup s1], .tup [.str "while", .tup [.str "size", .tup []], .tup s0]] ++
   [.tup [.str "each", .str "x", .str "@y", .tup s0], .tup [.str "try", .tup s0, .tup ([hOops s2, hOS s3].take n), .tup s1, .tup sl]]) ++
  [.tup [.str "with", .non, .tup [.str "lock"], .tup s0], .tup [.str "async_each", .str "x", .str "@e", .tup s0]]
theorem lens : ("if" : Str).length = 2 ∧ ("time" : Str).length = 4 ∧ ("while" : Str).length = 5 ∧ ("size" : Str).length = 4 ∧ ("each" : Str).length = 4 ∧ ("x" : Str).length = 1 ∧ ("@y" : Str).length = 2 ∧ ("try" : Str).length = 3 ∧ ("with" : Str).length = 4 ∧ ("lock" : Str).length = 4 ∧ ("async_each" : Str).length = 10 ∧ ("@e" : Str).length = 2 ∧
    ("Oops" : Str).length = 4 ∧ ("Exception" : Str).length = 9 ∧ ("OSError" : Str).length = 7 ∧ ("e" : Str).length = 1 := by decide +kernel
theorem rows_ok {d n : Nat} {s0 s1 s2 s3 sl : List D} (hn : n ≤ 2) (g0 : szL s0 ≤ 3 * bW d ∧ dpL s0 ≤ bD d) (g1 : szL s1 ≤ 3 * bW d ∧ dpL s1 ≤ bD d) (g2 : szL s2 ≤ 3 * bW d ∧ dpL s2 ≤ bD d) (g3 : szL s3 ≤ 3 * bW d ∧ dpL s3 ≤ bD d) (gl : szL sl ≤ 3 * bW d ∧ dpL sl ≤ bD d) :
    ∀ x ∈ rowsD s0 s1 s2 s3 sl n, szD x ≤ bW (d + 1) ∧ dpD x ≤ bD (d + 1) := by
  obtain ⟨l1, l2, l3, l4, l5, l6, l7, l8, l9, l10, l11, l12, l13, l14, l15, l16⟩ := lens
  have hb : bW (d + 1) = 5 * (3 * bW d + 1) + 36 := rfl
  have hd : bD (d + 1) = bD d + 4 := rfl
  have hh : szL ([hOops s2, hOS s3].take n) ≤ 30 + 2 * (3 * bW d + 1) ∧ dpL ([hOops s2, hOS s3].take n) ≤ bD d + 2 := by
    obtain rfl | rfl | rfl : n = 0 ∨ n = 1 ∨ n = 2 := by omega
    · exact ⟨Nat.zero_le _, Nat.zero_le _⟩
    · simp only [List.take, hOops, szL, szD, dpL, dpD, l13, l14]
      omega
    · simp only [List.take, hOops, hOS, szL, szD, dpL, dpD, l13, l14, l15, l16]
      omega
  intro x hx
  unfold rowsD at hx
  generalize [hOops s2, hOS s3].take n = hs at hh hx
  simp only [List.cons_append, List.nil_append, List.mem_cons, List.not_mem_nil, or_false] at hx
  rcases hx with rfl | rfl | rfl | rfl | rfl | rfl
  all_goals
    simp only [szL, szD, dpL, dpD, l1, l2, l3, l4, l5, l6, l7, l8, l9, l10, l11, l12, hb, hd]
    omega
end K2
/-! The law's steps: a turn with bodies. -/
namespace K2
open PySem L2 Evl PySem.Spec PyProof.Rows RZ StX
theorem four {α : Type} {l : List α} (h : l.length = 4) : ∃ a b c d, l = [a, b, c, d] := by
  match l, h with
  | [a, b, c, d], _ => exact ⟨a, b, c, d, rfl⟩
section
variable {K : PySem.W.Frag} {H : Hp} {Dd : Ends}
theorem rows_tail {a p q : Addr} {d z : Nat} {m way : Int} {x4 x7 x8 x9 x10 x11 x12 : Option V} {xs ys : List V} (wl : Wl a H z) (hz : z ≤ 900000) (hp : H p = some (.lst xs)) (hpa : p ≠ a) (hxl : xs.length < 1000) (hq : H q = some (.lst ys)) (y4 : ys.length = 4) (gy : ∀ y ∈ ys, GT K d H y)
    (k : ∀ v z2 H2 y8 y9 y10 y11, Kw a H H2 → Wl a H2 z2 → z2 ≤ z + 1 → H2 p = some (.lst xs) → GI K (d + 1) H2 v → Dd.nx [some (.ref a), some (.int ((d + 1 : Nat) : Int)), some (.int m), some (.ref p), x4, some (.int way), some (.ref q), x7, y8, y9, y10, y11, x12] (L2.upd H2 p (.lst (xs ++ [v])))) :
    tSeq (tAsg (tTup (tCons (tTup (tCons (tTup (tCons (tC (V.str ("Oops"))) (tCons (tC (V.str ("Exception"))) tNil))) (tCons (tC V.non) (tCons (tOp (rIxL K) (tVar 6) (tC (V.int 2))) tNil)))) (tCons (tTup (tCons (tTup (tCons (tC (V.str ("OSError"))) tNil)) (tCons (tC (V.str ("e"))) (tCons (tOp (rIxL K) (tVar 6) (tC (V.int 3))) tNil)))) tNil))) (gName 8))
      (tSeq (tAsg (tLst (tCons (tTup (tCons (tC (V.str ("if"))) (tCons (tTup (tCons (tC (V.str ("time"))) tNil)) (tCons (tOp (rIxL K) (tVar 6) (tC (V.int 0))) (tCons (tOp (rIxL K) (tVar 6) (tC (V.int 1))) tNil))))) (tCons (tTup (tCons (tC (V.str ("while"))) (tCons (tTup (tCons (tC (V.str ("size"))) (tCons (tTup tNil) tNil))) (tCons (tOp (rIxL K) (tVar 6) (tC (V.int 0))) tNil)))) tNil))) (gName 9))
      (tSeq (tAsg (tOp (rIxL K) (tVar 6) (tOp (rI CMul fun i j => V.int (i * j)) (tOp (rI (fun x j => 0 < j) fun i j => V.int (i % j)) (tCB rInt1 (tCons (tVar 5) tNil)) (tC (V.int 2))) (tC (V.int 3)))) (gName 10))
      (tSeq (tAsg (tTup (tCons (tC (V.str ("try"))) (tCons (tOp (rIxL K) (tVar 6) (tC (V.int 0))) (tCons (tSl (rSlA K) (tVar 8) tNoPart (tPart (tOp (rI (fun x j => 0 < j) fun i j => V.int (i % j)) (tCB rInt1 (tCons (tVar 5) tNil)) (tC (V.int 3))))) (tCons (tOp (rIxL K) (tVar 6) (tC (V.int 1))) (tCons (tVar 10) tNil)))))) (gName 11))
      (tSeq (tAsg (tOp rCat (tVar 9) (tLst (tCons (tTup (tCons (tC (V.str ("each"))) (tCons (tC (V.str ("x"))) (tCons (tC (V.str ("@y"))) (tCons (tOp (rIxL K) (tVar 6) (tC (V.int 0))) tNil))))) (tCons (tVar 11) tNil)))) (gName 9))
      (tSeq (tAsg (tOp rCat (tVar 9) (tLst (tCons (tTup (tCons (tC (V.str ("with"))) (tCons (tC V.non) (tCons (tTup (tCons (tC (V.str ("lock"))) tNil)) (tCons (tOp (rIxL K) (tVar 6) (tC (V.int 0))) tNil))))) (tCons (tTup (tCons (tC (V.str ("async_each"))) (tCons (tC (V.str ("x"))) (tCons (tC (V.str ("@e"))) (tCons (tOp (rIxL K) (tVar 6) (tC (V.int 0))) tNil))))) tNil)))) (gName 9))
        (tDrop (tBM K "list" rAppend (tVar 3) (tCons (tOp (rIxL K) (tVar 9) (tCall spDraw [] E0 (tCons (tVar 0) (tCons (tC (V.int 6)) tNil)))) tNil)))))))) Dd [some (.ref a), some (.int ((d + 1 : Nat) : Int)), some (.int m), some (.ref p), x4, some (.int way), some (.ref q), x7, x8, x9, x10, x11, x12] H := by
  obtain ⟨y0, y1, y2, y3, rfl⟩ := four y4
  obtain ⟨s0, r0, g0⟩ := gy y0 (by simp)
  obtain ⟨s1, r1, g1⟩ := gy y1 (by simp)
  obtain ⟨s2, r2, g2⟩ := gy y2 (by simp)
  obtain ⟨s3, r3, g3⟩ := gy y3 (by simp)
  have hix : ∀ {σ : L2.St} {H1 : Hp} {v : V} (j : Nat), σ[6]? = some (some (.ref q)) → Ex H H1 → [y0, y1, y2, y3][j]? = some v → Ev (tOp (rIxL K) (tVar 6) (tC (.int (j : Int)))) σ H1 v := fun j h e hv => ev_op (ev_var h) ev_c (rv_ixL (sq_of (e _ _ hq)) (atI_nat hv))
  have hi0 : ∀ {σ : L2.St} {H1 : Hp}, σ[6]? = some (some (.ref q)) → Ex H H1 → EvP (tOp (rIxL K) (tVar 6) (tC (.int 0))) σ H1 (fun H2 v => Rp K H2 (.tup s0) v) := fun h e => evp_d (hix 0 h e rfl) (r0.mono e)
  have hi1 : ∀ {σ : L2.St} {H1 : Hp}, σ[6]? = some (some (.ref q)) → Ex H H1 → EvP (tOp (rIxL K) (tVar 6) (tC (.int 1))) σ H1 (fun H2 v => Rp K H2 (.tup s1) v) := fun h e => evp_d (hix 1 h e rfl) (r1.mono e)
  have hi2 : ∀ {σ : L2.St} {H1 : Hp}, σ[6]? = some (some (.ref q)) → Ex H H1 → EvP (tOp (rIxL K) (tVar 6) (tC (.int 2))) σ H1 (fun H2 v => Rp K H2 (.tup s2) v) := fun h e => evp_d (hix 2 h e rfl) (r2.mono e)
  have hi3 : ∀ {σ : L2.St} {H1 : Hp}, σ[6]? = some (some (.ref q)) → Ex H H1 → EvP (tOp (rIxL K) (tVar 6) (tC (.int 3))) σ H1 (fun H2 v => Rp K H2 (.tup s3) v) := fun h e => evp_d (hix 3 h e rfl) (r3.mono e)
  refine q_asgP (P := fun H1 v => Rp K H1 (.tup [hOops s2, hOS s3]) v) (evp_tup (eap_cons (evp_tup (eap_cons (evp_tup (eap_cons (evp_d ev_c (Rp.str "Oops")) (eap_cons (evp_d ev_c (Rp.str "Exception")) eap_nil)) (by simp)) (eap_cons (evp_d ev_c Rp.non) (eap_cons (hi2 rfl (Ex.refl _)) eap_nil))) (by simp))
    (eap_cons (evp_tup (eap_cons (evp_tup (eap_cons (evp_d ev_c (Rp.str "OSError")) eap_nil) (by simp)) (eap_cons (evp_d ev_c (Rp.str "e")) (eap_cons (hi3 rfl (Ex.refl _)) eap_nil))) (by simp)) eap_nil)) (by simp)) fun vh H1 e1 rh => ?_
  refine q_lstR (ds := [.tup [.str "if", .tup [.str "time"], .tup s0, .tup s1], .tup [.str "while", .tup [.str "size", .tup []], .tup s0]]) (eap_cons (evp_tup (eap_cons (evp_d ev_c (Rp.str "if")) (eap_cons (evp_tup (eap_cons (evp_d ev_c (Rp.str "time")) eap_nil) (by simp)) (eap_cons (hi0 rfl e1) (eap_cons (hi1 rfl e1) eap_nil)))) (by simp))
    (eap_cons (evp_tup (eap_cons (evp_d ev_c (Rp.str "while")) (eap_cons (evp_tup (eap_cons (evp_d ev_c (Rp.str "size")) (eap_cons (evp_tup eap_nil (by simp)) eap_nil)) (by simp)) (eap_cons (hi0 rfl e1) eap_nil))) (by simp)) eap_nil)) (by simp) fun b1 bs1 H2 nb1 e2 hb1 rb1 => ?_
  have e02 := e1.trans e2
  obtain ⟨jl, yl, hyl, sl, rl, gl⟩ : ∃ (jl : Nat) (yl : V), (way % 2 * 3 = (jl : Int) ∧ [y0, y1, y2, y3][jl]? = some yl) ∧ ∃ sl, Rp K H (.tup sl) yl ∧ (szL sl ≤ 3 * bW d ∧ dpL sl ≤ bD d) := by
    rcases (by omega : way % 2 = 0 ∨ way % 2 = 1) with h | h
    · exact ⟨0, y0, ⟨by rw [h]; rfl, rfl⟩, s0, r0, g0⟩
    · exact ⟨3, y3, ⟨by rw [h]; rfl, rfl⟩, s3, r3, g3⟩
  refine q_asgP (P := fun H1 v => Rp K H1 (.tup sl) v) (evp_d (ev_op (ev_var rfl) (ev_is (ev_op (ev_op (ev_i1 (ev_var rfl)) ev_c (rv_I (by decide))) ev_c (rv_I (.inr (by decide)))) (by rw [hyl.1])) (rv_ixL (sq_of (e02 _ _ hq)) (atI_nat hyl.2))) (rl.mono e02)) fun vl H3 e3 rvl => ?_
  have e03 := e02.trans e3
  have hw3 : way % 3 = 0 ∨ way % 3 = 1 ∨ way % 3 = 2 := by omega
  refine q_asgP (P := fun H1 v => Rp K H1 (.tup [.str "try", .tup s0, .tup ([hOops s2, hOS s3].take (way % 3).toNat), .tup s1, .tup sl]) v) (evp_tup (eap_cons (evp_d ev_c (Rp.str "try")) (eap_cons (hi0 rfl e03) (eap_cons (evp_cut2 (evp_d (ev_var rfl) (rh.mono (e2.trans e3))) (fun H4 _ => ev_op (ev_i1 (ev_var rfl)) ev_c (rv_I (by decide))) hw3)
    (eap_cons (hi1 rfl e03) (eap_cons (evp_d (ev_var rfl) rvl) eap_nil))))) (by simp)) fun vt H4 e4 rt => ?_
  have e04 := e03.trans e4
  refine q_lstC (b := b1) ((e3.trans e4) _ _ hb1) (ev_var rfl) (rb1.mono (e3.trans e4)) (by simp) (ds := [.tup [.str "each", .str "x", .str "@y", .tup s0], .tup [.str "try", .tup s0, .tup ([hOops s2, hOS s3].take (way % 3).toNat), .tup s1, .tup sl]]) (fun H5 e5 => eap_cons (evp_tup (eap_cons (evp_d ev_c (Rp.str "each")) (eap_cons (evp_d ev_c (Rp.str "x")) (eap_cons (evp_d ev_c (Rp.str "@y")) (eap_cons (hi0 rfl (e04.trans e5)) eap_nil)))) (by simp)) (eap_cons (evp_d (ev_var rfl) (rt.mono e5)) eap_nil)) (by simp) fun b2 bs2 H5 e5 nb2 hb2 rb2 => ?_
  have e05 := e04.trans e5
  refine q_lstC (b := b2) hb2 (ev_var rfl) rb2 (by simp) (ds := [.tup [.str "with", .non, .tup [.str "lock"], .tup s0], .tup [.str "async_each", .str "x", .str "@e", .tup s0]]) (fun H6 e6 => eap_cons (evp_tup (eap_cons (evp_d ev_c (Rp.str "with")) (eap_cons (evp_d ev_c Rp.non) (eap_cons (evp_tup (eap_cons (evp_d ev_c (Rp.str "lock")) eap_nil) (by simp)) (eap_cons (hi0 rfl (e05.trans e6)) eap_nil)))) (by simp))
    (eap_cons (evp_tup (eap_cons (evp_d ev_c (Rp.str "async_each")) (eap_cons (evp_d ev_c (Rp.str "x")) (eap_cons (evp_d ev_c (Rp.str "@e")) (eap_cons (hi0 rfl (e05.trans e6)) eap_nil)))) (by simp)) eap_nil)) (by simp) fun b3 bs3 H6 e6 nb3 hb3 rb3 => ?_
  have e06 := e05.trans e6
  have hb3a : b3 ≠ a := wl_ne (wl.ex e05) nb3
  have rb3' : Rps K H6 (rowsD s0 s1 s2 s3 sl (way % 3).toNat) bs3 := rb3
  have lb3 : bs3.length = 6 := rb3'.len
  refine s_appIx ⟨xs, e06 _ _ hp⟩ (ev_var rfl) (r := b3) (ev_var rfl) (fun H7 _ => ea_cons (ev_var rfl) (ea_cons ev_c ea_nil)) fun H7 e7 => ⟨a, 6, z, rfl, wl.ex (e06.trans e7), by omega, by omega, by omega, fun r z2 H8 r0' r1' hz2 kw wl2 => ?_⟩
  obtain ⟨j, rfl⟩ := Int.eq_ofNat_of_zero_le r0'
  have hj : j < bs3.length := by omega
  have hgj : bs3[j]? = some bs3[j] := List.getElem?_eq_getElem hj
  obtain ⟨x, hx, rx⟩ := rb3'.at_ hgj
  have kw68 : Kw a H6 H8 := (Kw.of e7).trans kw
  have hgx := rows_ok (d := d) (n := (way % 3).toNat) (by omega) g0 g1 g2 g3 gl x (List.mem_of_getElem? hx)
  exact ⟨xs, bs3, j, bs3[j], rfl, kw68 _ _ (e06 _ _ hp) hpa, by omega, kw68 _ _ hb3 hb3a, hgj, k _ z2 H8 _ _ _ _ ((Kw.of e06).trans kw68) wl2 hz2 (kw68 _ _ (e06 _ _ hp) hpa) ⟨x, rx.ew (kw68.ew (wl.ex e06) wl2), hgx.1, hgx.2⟩⟩
end
end K2
/-! The law's steps: a turn. -/
namespace K2
open PySem L2 Evl PySem.Spec PyProof.Rows RZ StX
theorem pick_mono {K : PySem.W.Frag} {E : XK} (vs : List V) (H : Hp) (Q Q' : VK) (h : ∀ v H2, Q v H2 → Q' v H2) (s : spPick K vs H Q E) : spPick K vs H Q' E := by
  obtain ⟨a, p, xs, z, h1, h2, h3, h4, h5, h6, h7, k⟩ := s
  exact ⟨a, p, xs, z, h1, h2, h3, h4, h5, h6, h7, fun x z2 H2 a1 a2 a3 a4 => h _ _ (k x z2 H2 a1 a2 a3 a4)⟩
theorem odd_mono {K : PySem.W.Frag} {E : XK} (vs : List V) (H : Hp) (Q Q' : VK) (h : ∀ v H2, Q v H2 → Q' v H2) (s : spOdd K vs H Q E) : spOdd K vs H Q' E := by
  obtain ⟨a, z, h1, h2, h3, k⟩ := s
  exact ⟨a, z, h1, h2, h3, fun v z2 H2 a1 a2 a3 a4 => h _ _ (k v z2 H2 a1 a2 a3 a4)⟩
/-- what inner is: nothing, or four bodies -/
def InL (K : PySem.W.Frag) (d : Nat) (H : Hp) (ys : List V) : Prop := ys = [] ∨ ∃ d', d = d' + 1 ∧ ys.length = 4 ∧ ∀ y ∈ ys, GT K d' H y
theorem InL.ew {K : PySem.W.Frag} {d : Nat} {H H' : Hp} {ys : List V} (e : Ew H H') (h : InL K d H ys) : InL K d H' ys := by
  rcases h with h | ⟨d', h1, h2, h3⟩
  · exact .inl h
  · exact .inr ⟨d', h1, h2, fun y hy => (h3 y hy).ew e⟩
/-- the statement that draws a step -/
def tStepS (K : PySem.W.Frag) : TS :=
    tIfS (tTest (tOp rLt (tCall spDraw [] E0 (tCons (tVar 0) (tCons (tC (V.int 12)) tNil))) (tVar 2))) (tDrop (tBM K "list" rAppend (tVar 3) (tCons (tCall (spOdd K) [] E0 (tCons (tVar 0) tNil)) tNil)))
      (tIfS (tTest (tOp (rEqNil K) (tVar 6) (tLst tNil)))
        (tSeq (tAsg (tLst (tCons (tTup (tCons (tC (V.str ("say"))) (tCons (tC (V.str ("a"))) (tCons (tC (V.str ("@x"))) tNil)))) (tCons (tTup (tCons (tC (V.str ("let"))) (tCons (tC (V.str ("x"))) (tCons (tTup (tCons (tC (V.str ("future"))) tNil)) tNil)))) (tCons (tTup (tCons (tC (V.str ("do"))) (tCons (tTup (tCons (tC (V.str ("spend"))) (tCons (tC (V.int 1)) tNil))) tNil))) (tCons (tTup (tCons (tC (V.str ("return"))) (tCons (tC (V.int 1)) tNil))) tNil))))) (gName 7))
          (tDrop (tBM K "list" rAppend (tVar 3) (tCons (tCall (spPick K) [] E0 (tCons (tVar 0) (tCons (tVar 7) tNil))) tNil))))
      (tSeq (tAsg (tTup (tCons (tTup (tCons (tTup (tCons (tC (V.str ("Oops"))) (tCons (tC (V.str ("Exception"))) tNil))) (tCons (tC V.non) (tCons (tOp (rIxL K) (tVar 6) (tC (V.int 2))) tNil)))) (tCons (tTup (tCons (tTup (tCons (tC (V.str ("OSError"))) tNil)) (tCons (tC (V.str ("e"))) (tCons (tOp (rIxL K) (tVar 6) (tC (V.int 3))) tNil)))) tNil))) (gName 8))
      (tSeq (tAsg (tLst (tCons (tTup (tCons (tC (V.str ("if"))) (tCons (tTup (tCons (tC (V.str ("time"))) tNil)) (tCons (tOp (rIxL K) (tVar 6) (tC (V.int 0))) (tCons (tOp (rIxL K) (tVar 6) (tC (V.int 1))) tNil))))) (tCons (tTup (tCons (tC (V.str ("while"))) (tCons (tTup (tCons (tC (V.str ("size"))) (tCons (tTup tNil) tNil))) (tCons (tOp (rIxL K) (tVar 6) (tC (V.int 0))) tNil)))) tNil))) (gName 9))
      (tSeq (tAsg (tOp (rIxL K) (tVar 6) (tOp (rI CMul fun i j => V.int (i * j)) (tOp (rI (fun x j => 0 < j) fun i j => V.int (i % j)) (tCB rInt1 (tCons (tVar 5) tNil)) (tC (V.int 2))) (tC (V.int 3)))) (gName 10))
      (tSeq (tAsg (tTup (tCons (tC (V.str ("try"))) (tCons (tOp (rIxL K) (tVar 6) (tC (V.int 0))) (tCons (tSl (rSlA K) (tVar 8) tNoPart (tPart (tOp (rI (fun x j => 0 < j) fun i j => V.int (i % j)) (tCB rInt1 (tCons (tVar 5) tNil)) (tC (V.int 3))))) (tCons (tOp (rIxL K) (tVar 6) (tC (V.int 1))) (tCons (tVar 10) tNil)))))) (gName 11))
      (tSeq (tAsg (tOp rCat (tVar 9) (tLst (tCons (tTup (tCons (tC (V.str ("each"))) (tCons (tC (V.str ("x"))) (tCons (tC (V.str ("@y"))) (tCons (tOp (rIxL K) (tVar 6) (tC (V.int 0))) tNil))))) (tCons (tVar 11) tNil)))) (gName 9))
      (tSeq (tAsg (tOp rCat (tVar 9) (tLst (tCons (tTup (tCons (tC (V.str ("with"))) (tCons (tC V.non) (tCons (tTup (tCons (tC (V.str ("lock"))) tNil)) (tCons (tOp (rIxL K) (tVar 6) (tC (V.int 0))) tNil))))) (tCons (tTup (tCons (tC (V.str ("async_each"))) (tCons (tC (V.str ("x"))) (tCons (tC (V.str ("@e"))) (tCons (tOp (rIxL K) (tVar 6) (tC (V.int 0))) tNil))))) tNil)))) (gName 9))
        (tDrop (tBM K "list" rAppend (tVar 3) (tCons (tOp (rIxL K) (tVar 9) (tCall spDraw [] E0 (tCons (tVar 0) (tCons (tC (V.int 6)) tNil)))) tNil))))))))))
section
variable {K : PySem.W.Frag} {H : Hp} {Dd : Ends}
/-- the step that is drawn -/
theorem turn_pick {a p q : Addr} {d z i : Nat} {m way : Int} {x4 x7 x8 x9 x10 x11 x12 : Option V} {xs ys : List V} (wl : Wl a H z) (hz : z ≤ 890000) (hp : H p = some (.lst xs)) (hpa : p ≠ a) (hxl : xs.length < 1000) (li : LI K d H xs i) (hq : H q = some (.lst ys)) (hqa : q ≠ a) (gy : InL K d H ys)
    (k : ∀ z2 H2 xs2 y7 y8 y9 y10 y11, (∀ H0, H0 p = none → Kw a H0 H → Kw a H0 H2) → Wl a H2 z2 → z2 ≤ z + 6 → H2 p = some (.lst xs2) → LI K d H2 xs2 (i + 1) → Dd.nx [some (.ref a), some (.int (d : Int)), some (.int m), some (.ref p), x4, some (.int way), some (.ref q), y7, y8, y9, y10, y11, x12] H2) :
    tStepS K Dd [some (.ref a), some (.int (d : Int)), some (.int m), some (.ref p), x4, some (.int way), some (.ref q), x7, x8, x9, x10, x11, x12] H := by
  have fin : ∀ {v : V} {z2 : Nat} {H2 : Hp} {y7 y8 y9 y10 y11 : Option V}, Kw a H H2 → Wl a H2 z2 → z2 ≤ z + 6 → H2 p = some (.lst xs) → GI K d H2 v → Dd.nx [some (.ref a), some (.int (d : Int)), some (.int m), some (.ref p), x4, some (.int way), some (.ref q), y7, y8, y9, y10, y11, x12] (L2.upd H2 p (.lst (xs ++ [v]))) := fun {v z2 H2 y7 y8 y9 y10 y11} kw w2 hz2 hp2 g => by
    have wE : Ew H2 (L2.upd H2 p (.lst (xs ++ [v]))) := Ew.lst hp2
    exact k z2 _ (xs ++ [v]) _ _ _ _ _ (fun H0 h0 k0 => (k0.trans kw).mut h0) (w2.updN hpa) hz2 upd_same (((li.ew (kw.ew wl w2)).add g).ew wE)
  unfold tStepS
  refine s_ifDrawLt (m := m) (ea_cons (ev_var rfl) (ea_cons ev_c ea_nil)) (fun H1 => ev_var rfl) fun H1 e1 => ⟨a, 12, z, rfl, wl.ex e1, by omega, by omega, by omega, fun r z2 H2 r0 r1 hz2 kw wl2 => ⟨r, rfl, fun H3 e3 => ?_⟩⟩
  have k3 : Kw a H H3 := ((Kw.of e1).trans kw).trans (Kw.of e3)
  have wl3 := wl2.ex e3
  have hp3 := k3 _ _ hp hpa
  have hq3 := k3 _ _ hq hqa
  constructor
  · refine s_appC ⟨xs, hp3⟩ (ev_var rfl) (ea_cons (ev_var rfl) ea_nil) (fun H4 e4 => ⟨a, z2, rfl, wl3.ex e4, by omega, fun v z3 H5 kw5 wl5 hz5 g => ?_⟩) odd_mono
    have k5 : Kw a H3 H5 := (Kw.of e4).trans kw5
    have hp5 := k5 _ _ hp3 hpa
    exact ⟨xs, hp5, by omega, fin (k3.trans k5) wl5 (by omega) hp5 (.of3 g)⟩
  · have hEq : EvT (tTest (tOp (rEqNil K) (tVar 6) (tLst tNil))) [some (.ref a), some (.int (d : Int)), some (.int m), some (.ref p), x4, some (.int way), some (.ref q), x7, x8, x9, x10, x11, x12] H3 (ys.isEmpty) :=
      et_test (ev_opL (ev_var rfl) (el_lst ea_nil (by simp)) fun pn H4 hpn e4 H5 e5 Q qq => ⟨q, pn, ys, rfl, rfl, .inl ⟨sq_of (e5 _ _ (e4 _ _ hq3)), sq_of (e5 _ _ hpn)⟩, qq H5 (Ex.refl _)⟩)
    refine s_if hEq (fun hb H4 e4 => ?_) (fun hb H4 e4 => ?_)
    · refine q_menu0 (K := K) (ds := [(D.tup [(D.str "say"), (D.str "a"), (D.str "@x")]), (D.tup [(D.str "let"), (D.str "x"), (D.tup [(D.str "future")])]), (D.tup [(D.str "do"), (D.tup [(D.str "spend"), (D.int 1)])]), (D.tup [(D.str "return"), (D.int 1)])]) (eap_cons (evp_tup (eap_cons (evp_d ev_c (Rp.str "say")) (eap_cons (evp_d ev_c (Rp.str "a")) (eap_cons (evp_d ev_c (Rp.str "@x")) eap_nil))) (by simp)) (eap_cons (evp_tup (eap_cons (evp_d ev_c (Rp.str "let")) (eap_cons (evp_d ev_c (Rp.str "x")) (eap_cons (evp_tup (eap_cons (evp_d ev_c (Rp.str "future")) eap_nil) (by simp)) eap_nil))) (by simp)) (eap_cons (evp_tup (eap_cons (evp_d ev_c (Rp.str "do")) (eap_cons (evp_tup (eap_cons (evp_d ev_c (Rp.str "spend")) (eap_cons (evp_d ev_c (Rp.int 1)) eap_nil)) (by simp)) eap_nil)) (by simp)) (eap_cons (evp_tup (eap_cons (evp_d ev_c (Rp.str "return")) (eap_cons (evp_d ev_c (Rp.int 1)) eap_nil)) (by simp)) eap_nil)))) (by decide +kernel) (by simp) fun pm bs H5 npm e5 hpm hne hbl gm => ?_
      have k5 : Kw a H H5 := k3.trans (Kw.of (e4.trans e5))
      have wl5 := wl3.ex (e4.trans e5)
      have hpma : pm ≠ a := wl_ne (wl3.ex e4) npm
      have hp5 := k5 _ _ hp hpa
      refine s_appC ⟨xs, hp5⟩ (ev_var rfl) (ea_cons (ev_var rfl) (ea_cons (ev_var rfl) ea_nil)) (fun H6 e6 => ⟨a, pm, bs, z2, rfl, wl5.ex e6, by omega, hpma, .inl (e6 _ _ hpm), fun h => ?_, by simp at hbl; omega, fun x z3 H7 hx hz3 kw7 wl7 => ?_⟩) pick_mono
      · rw [h] at hbl
        simp at hbl
      · have k57 : Kw a H5 H7 := (Kw.of e6).trans kw7
        have hp7 := k57 _ _ hp5 hpa
        exact ⟨xs, hp7, by omega, fin (k5.trans k57) wl7 (by omega) hp7 (.of3 ((gm x hx).ew (k57.ew wl5 wl7)))⟩
    · have k4 : Kw a H H4 := k3.trans (Kw.of e4)
      have wl4 := wl3.ex e4
      rcases gy with h0 | ⟨d', rfl, h1, h2⟩
      · rw [h0] at hb
        cases hb
      · exact rows_tail (z := z2) wl4 (by omega) (k4 _ _ hp hpa) hpa hxl (k4 _ _ hq hqa) h1 (fun y hy => (h2 y hy).ew (k4.ew wl wl4)) fun v z3 H5 y8 y9 y10 y11 kw5 wl5 hz5 hp5 g => fin (k4.trans kw5) wl5 (by omega) hp5 g
theorem turn_ok {a p : Addr} {d n z i : Nat} {m : Int} {x4 x5 x6 x7 x8 x9 x10 x11 x12 : Option V} {xs : List V} (wl : Wl a H z) (hz : z + zS d ≤ 800000) (hp : H p = some (.lst xs)) (hpa : p ≠ a) (hxl : xs.length < 1000) (li : LI K d H xs i) (hd : d < n + 1)
    (k : ∀ z2 H2 xs2 y5 y6 y7 y8 y9 y10 y11, (∀ H0, H0 p = none → Kw a H0 H → Kw a H0 H2) → Wl a H2 z2 → z2 ≤ z + zS d → H2 p = some (.lst xs2) → LI K d H2 xs2 (i + 1) → Dd.nx [some (.ref a), some (.int (d : Int)), some (.int m), some (.ref p), x4, y5, y6, y7, y8, y9, y10, y11, x12] H2) :
    tSeq (tAsg (tCall spDraw [] E0 (tCons (tVar 0) (tCons (tC (V.int 9)) tNil))) (gName 5))
      (tSeq (tAsg (tLst tNil) (gName 6))
        (tSeq (tIfS (tAnd (tTest (tOp rGt (tVar 1) (tC (V.int 0)))) (tTest (tOp rGt (tVar 5) (tC (V.int 3)))))
          (tAsg (tLc (iRng1 (tCons (tC (V.int 4)) tNil)) (gName 12) tYes (tCall (spStp K n) [] E0 (tCons (tVar 0) (tCons (tOp (rI0 fun i j => V.int (i - j)) (tVar 1) (tC (V.int 1))) (tCons (tVar 2) tNil)))) [12]) (gName 6)) tNext)
          (tStepS K))) Dd [some (.ref a), some (.int (d : Int)), some (.int m), some (.ref p), x4, x5, x6, x7, x8, x9, x10, x11, x12] H := by
  have h7 := zS_ge d
  refine q_asgC (ea_cons (ev_var rfl) (ea_cons ev_c ea_nil)) fun H1 e1 => ⟨a, 9, z, rfl, wl.ex e1, by omega, by omega, by omega, fun way z2 H2 w0 w1 hz2 kw wl2 => ?_⟩
  have k2 : Kw a H H2 := (Kw.of e1).trans kw
  refine q_asgL (el_lst ea_nil (by simp)) fun q H3 nq e3 hq => ?_
  have k3 : Kw a H H3 := k2.trans (Kw.of e3)
  have wl3 := wl2.ex e3
  have hqa : q ≠ a := wl_ne wl2 nq
  have fin : ∀ {H4 : Hp} {z4 : Nat} {q : Addr} {ys : List V} {x7 x8 x9 x10 x11 : Option V}, Kw a H H4 → Wl a H4 z4 → z4 + 6 ≤ z + zS d → H4 q = some (.lst ys) → q ≠ a → InL K d H4 ys → tStepS K Dd [some (.ref a), some (.int (d : Int)), some (.int m), some (.ref p), x4, some (.int way), some (.ref q), x7, x8, x9, x10, x11, x12] H4 :=
    fun {H4 z4 q ys x7 x8 x9 x10 x11} k4 wl4 hz4 hq4 hqa4 hin => turn_pick wl4 (by omega) (k4 _ _ hp hpa) hpa hxl (li.ew (k4.ew wl wl4)) hq4 hqa4 hin fun z5 H5 xs2 y7 y8 y9 y10 y11 kw5 wl5 hz5 hp5 li5 => k z5 H5 xs2 _ _ _ _ _ _ _ (fun H0 h0 k0 => kw5 H0 h0 (k0.trans k4)) wl5 (by omega) hp5 li5
  refine q_when (et_and (et_test (ev_op (ev_var rfl) ev_c rv_I0)) fun _ => et_test (ev_op (ev_var rfl) ev_c rv_I0)) (fun hb H4 e4 => ?_) (fun hb H4 e4 => ?_)
  · rw [Bool.and_eq_true, decide_eq_true_eq] at hb
    obtain ⟨d', rfl⟩ : ∃ d', d = d' + 1 := ⟨d - 1, by omega⟩
    have hzs : zS (d' + 1) = 7 + 4 * (1 + 3 * zS d') := rfl
    refine inner_lc (z := z2) (wl3.ex e4) (by omega) (by omega) fun q2 ys z5 H5 kw5 wl5 hz5 nq2 hq2 hl4 hg => ?_
    exact fin (k3.trans ((Kw.of e4).trans kw5)) wl5 (by omega) hq2 (wl_ne (wl3.ex e4) nq2) (.inr ⟨d', rfl, hl4, hg⟩)
  · exact fin (k3.trans (Kw.of e4)) (wl3.ex e4) (by omega) (e4 _ _ hq) hqa (.inl rfl)
end
end K2
/-! The law's steps: the def. -/
namespace K2
open PySem L2 Evl PySem.Spec PyProof.Rows RZ StX
section
variable {P : Program} {w : World} {K : PySem.W.Frag} {mg : Str → Option Value} {base : Heap}
theorem sc56 : FnScope ["_law_well_here", "_law_deep", "_law_many_odd", "_law_steps_here", "_law_turn", "_law_way", "_law_inner", "_law_plain", "_law_handlers", "_law_rows", "_law_last", "_law_tried", "_law_k"] ["_law_well_here", "_law_deep", "_law_many_odd"] (defScope (top 56)) := ⟨rfl, rfl, rfl, by decide +kernel, rfl, by decide +kernel, by decide +kernel⟩
theorem steps_step (B : Bl mg) {n : Nat} (F : Df K mg "_law_steps" (top 56) ["_law_well_here", "_law_deep", "_law_many_odd"]) (O1 : Okd P w K mg base CX0 1 "_law_draw" ["_law_well_here", "_law_size"] spDraw) (O2 : Okd P w K mg base CX0 2 "_law_pick" ["_law_well_here", "_law_some"] (spPick K))
    (O3 : Okd P w K mg base CX0 3 "_law_odd" ["_law_well_here"] (spOdd K)) (O4 : Okd P w K mg base CX0 (4 + n) "_law_steps" ["_law_well_here", "_law_deep", "_law_many_odd"] (spStp K n)) :
    Okd P w K mg base CX0 (4 + n + 1) "_law_steps" ["_law_well_here", "_law_deep", "_law_many_odd"] (spStp K (n + 1)) := by
  refine F.ok sc56 (fun vs H Q E h => by obtain ⟨a, d, m, z, rfl, _⟩ := h; rfl) (fun f cdv A outer s H vs Q E hr h => ?_)
  obtain ⟨a, d, m, z, rfl, wl, hz, hd, k⟩ := h
  obtain ⟨f__law_draw, d__law_draw, m__law_draw, k__law_draw, b__law_draw, G__law_draw⟩ := O1.ex
  obtain ⟨f__law_pick, d__law_pick, m__law_pick, k__law_pick, b__law_pick, G__law_pick⟩ := O2.ex
  obtain ⟨f__law_odd, d__law_odd, m__law_odd, k__law_odd, b__law_odd, G__law_odd⟩ := O3.ex
  obtain ⟨f__law_steps, d__law_steps, m__law_steps, k__law_steps, b__law_steps, G__law_steps⟩ := O4.ex
  have hu := hu_of hr
  refine ⟨_, (pss_cons (ps_set (i := 3) sc56.nd rfl (Or.inl rfl) (pe_lst pa_nil))
      (pss_cons (ps_for PassesOwn.never rfl (pi_range1 (by rfl) B.range (pa_cons (pe_call G__law_draw (hr.mono (by first | decide | omega)) (by rfl) m__law_draw k__law_draw b__law_draw .nil pass0 (pa_cons (pv 0) (pa_cons pe_int pa_nil))) pa_nil)) (pg_name (i := 4) sc56.nd rfl (Or.inl rfl)) (pss_cons (ps_set (i := 5) sc56.nd rfl (Or.inl rfl) (pe_call G__law_draw (hr.mono (by first | decide | omega)) (by rfl) m__law_draw k__law_draw b__law_draw .nil pass0 (pa_cons (pv 0) (pa_cons pe_int pa_nil))))
      (pss_cons (ps_set (i := 6) sc56.nd rfl (Or.inl rfl) (pe_lst pa_nil))
      (pss_cons (ps_if (PW.pt (pw_and (pt_cmpR op_gt1 (pv 1) pe_int (nomark _)) (pw_and1 (pt_cmpR op_gt1 (pv 5) pe_int (nomark _))))) (pss_one (ps_setLc (i := 6) (own := [("_law_k", 12)]) (g := gName 12) (tt := tYes) rfl sc56.nd rfl rfl (sw_true rfl rfl rfl (by decide +kernel)) (pi_range1 (by rfl) B.range (pa_cons pe_int pa_nil)) (blkOk_by (N := ["_law_well_here", "_law_deep", "_law_many_odd", "_law_steps_here", "_law_turn", "_law_way", "_law_inner", "_law_plain", "_law_handlers", "_law_rows", "_law_last", "_law_tried", "_law_k"]) (sc := defScope (top 56)) (by decide +kernel)) (fun _ _ _ _ _ => (pg_name (i := 12) sc56.nd rfl (Or.inl rfl))) (fun _ _ _ _ _ => pts_nil) (fun _ _ _ _ _ => (pe_call G__law_steps (hr.mono (by first | decide | omega)) (by rfl) m__law_steps k__law_steps b__law_steps .nil pass0 (pa_cons (pv 0) (pa_cons (pe_op op_sub (pv 1) pe_int) (pa_cons (pv 2) pa_nil))))))) pss_nil)
      (pss_one (ps_if (pt_cmpR op_lt2 (pe_call G__law_draw (hr.mono (by first | decide | omega)) (by rfl) m__law_draw k__law_draw b__law_draw .nil pass0 (pa_cons (pv 0) (pa_cons pe_int pa_nil))) (pv 2) (nomark _)) (pss_one (ps_expr (pe_bm PySem.F.plainAttrs_list PySem.F.slot_list_append PySem.F.type_list_append mt_append (pv 3) (pa_cons (pe_call G__law_odd (hr.mono (by first | decide | omega)) (by rfl) m__law_odd k__law_odd b__law_odd .nil pass0 (pa_cons (pv 0) pa_nil)) pa_nil)))) (pss_one (ps_if (pt_cmpR (op_eqNil (Nat.lt_of_succ_lt hu)) (pv 6) (pe_lst pa_nil) (nomark _)) (pss_cons (ps_set (i := 7) sc56.nd rfl (Or.inl rfl) (pe_lst (pa_cons (pe_tup (pa_cons pe_str (pa_cons pe_str (pa_cons pe_str pa_nil)))) (pa_cons (pe_tup (pa_cons pe_str (pa_cons pe_str (pa_cons (pe_tup (pa_cons pe_str pa_nil)) pa_nil)))) (pa_cons (pe_tup (pa_cons pe_str (pa_cons (pe_tup (pa_cons pe_str (pa_cons pe_int pa_nil))) pa_nil))) (pa_cons (pe_tup (pa_cons pe_str (pa_cons pe_int pa_nil))) pa_nil))))))
      (pss_one (ps_expr (pe_bm PySem.F.plainAttrs_list PySem.F.slot_list_append PySem.F.type_list_append mt_append (pv 3) (pa_cons (pe_call G__law_pick (hr.mono (by first | decide | omega)) (by rfl) m__law_pick k__law_pick b__law_pick .nil pass0 (pa_cons (pv 0) (pa_cons (pv 7) pa_nil))) pa_nil))))) (pss_cons (ps_set (i := 8) sc56.nd rfl (Or.inl rfl) (pe_tup (pa_cons (pe_tup (pa_cons (pe_tup (pa_cons pe_str (pa_cons pe_str pa_nil))) (pa_cons pe_non (pa_cons (pe_ix ix_list (pv 6) pe_int (fun _ _ => rfl)) pa_nil)))) (pa_cons (pe_tup (pa_cons (pe_tup (pa_cons pe_str pa_nil)) (pa_cons pe_str (pa_cons (pe_ix ix_list (pv 6) pe_int (fun _ _ => rfl)) pa_nil)))) pa_nil))))
      (pss_cons (ps_set (i := 9) sc56.nd rfl (Or.inl rfl) (pe_lst (pa_cons (pe_tup (pa_cons pe_str (pa_cons (pe_tup (pa_cons pe_str pa_nil)) (pa_cons (pe_ix ix_list (pv 6) pe_int (fun _ _ => rfl)) (pa_cons (pe_ix ix_list (pv 6) pe_int (fun _ _ => rfl)) pa_nil))))) (pa_cons (pe_tup (pa_cons pe_str (pa_cons (pe_tup (pa_cons pe_str (pa_cons (pe_tup pa_nil) pa_nil))) (pa_cons (pe_ix ix_list (pv 6) pe_int (fun _ _ => rfl)) pa_nil)))) pa_nil))))
      (pss_cons (ps_set (i := 10) sc56.nd rfl (Or.inl rfl) (pe_ix ix_list (pv 6) (pe_op op_mul (pe_op op_mod (pe_callTy call_i1 (by rfl) B.int boot_int (pa_cons (pv 5) pa_nil)) pe_int) pe_int) (fun _ _ => rfl)))
      (pss_cons (ps_set (i := 11) sc56.nd rfl (Or.inl rfl) (pe_tup (pa_cons pe_str (pa_cons (pe_ix ix_list (pv 6) pe_int (fun _ _ => rfl)) (pa_cons (pe_slice sl_tupA (pv 8) po_none (po_some (pe_op op_mod (pe_callTy call_i1 (by rfl) B.int boot_int (pa_cons (pv 5) pa_nil)) pe_int))) (pa_cons (pe_ix ix_list (pv 6) pe_int (fun _ _ => rfl)) (pa_cons (pv 10) pa_nil)))))))
      (pss_cons (ps_set (i := 9) sc56.nd rfl (Or.inl rfl) (pe_op op_cat (pv 9) (pe_lst (pa_cons (pe_tup (pa_cons pe_str (pa_cons pe_str (pa_cons pe_str (pa_cons (pe_ix ix_list (pv 6) pe_int (fun _ _ => rfl)) pa_nil))))) (pa_cons (pv 11) pa_nil)))))
      (pss_cons (ps_set (i := 9) sc56.nd rfl (Or.inl rfl) (pe_op op_cat (pv 9) (pe_lst (pa_cons (pe_tup (pa_cons pe_str (pa_cons pe_non (pa_cons (pe_tup (pa_cons pe_str pa_nil)) (pa_cons (pe_ix ix_list (pv 6) pe_int (fun _ _ => rfl)) pa_nil))))) (pa_cons (pe_tup (pa_cons pe_str (pa_cons pe_str (pa_cons pe_str (pa_cons (pe_ix ix_list (pv 6) pe_int (fun _ _ => rfl)) pa_nil))))) pa_nil)))))
      (pss_one (ps_expr (pe_bm PySem.F.plainAttrs_list PySem.F.slot_list_append PySem.F.type_list_append mt_append (pv 3) (pa_cons (pe_ix ix_list (pv 9) (pe_call G__law_draw (hr.mono (by first | decide | omega)) (by rfl) m__law_draw k__law_draw b__law_draw .nil pass0 (pa_cons (pv 0) (pa_cons pe_int pa_nil))) (fun _ _ => rfl)) pa_nil))))))))))))))))))
      (pss_one (ps_ret (pe_callTy call_tuple_of (by rfl) B.tuple boot_tuple (pa_cons (pv 3) pa_nil)))))), ?_⟩
  refine q_asgL (el_lst ea_nil (by simp)) fun p H1 np e1 hp => ?_
  have hpa : p ≠ a := wl_ne wl np
  refine q_forDraw (ea_cons (ev_var rfl) (ea_cons ev_c ea_nil)) fun H2 e2 => ⟨a, 4, z, rfl, wl.ex (e1.trans e2), by omega, by omega, by omega, fun r z2 H3 r0 r1 hz2 kw wl2 => ?_⟩
  have k3 : Kw a H1 H3 := (Kw.of e2).trans kw
  have k03 : Kw a H H3 := (Kw.of e1).trans k3
  refine q_forR1 (n := r) (ea_cons ev_c ea_nil) ⟨r0, by omega⟩ (fun i σ' H' => ∃ x4 x5 x6 x7 x8 x9 x10 x11 xs zi, σ' = [some (.ref a), some (.int (d : Int)), some (.int m), some (.ref p), x4, x5, x6, x7, x8, x9, x10, x11, none] ∧ Kw a H H' ∧ Wl a H' zi ∧ zi ≤ z + 1 + i * zS d ∧ H' p = some (.lst xs) ∧ LI K d H' xs i)
    (fun H4 e4 => ⟨_, _, _, _, _, _, _, _, [], z2, rfl, k03.trans (Kw.of e4), wl2.ex e4, by omega, e4 _ _ (k3 _ _ hp hpa), [], .nil, Nat.zero_le _, Nat.zero_le _, rfl⟩) ?_ ?_
  · rintro i σ' H' hi ⟨x4, x5, x6, x7, x8, x9, x10, x11, xs, zi, rfl, kk, wk, hzi, hpk, li⟩
    have h7 : (i + 1) * zS d ≤ 3 * zS d := Nat.mul_le_mul_right _ (by omega)
    rw [Nat.succ_mul] at h7
    exact turn_ok (n := n) (z := zi) wk (by omega) hpk hpa (by have := li.choose_spec.2.2.2; omega) li (by omega) fun z3 H3' xs' y5 y6 y7 y8 y9 y10 y11 kw3 wl3 hz3 hp3 li3 => ⟨_, _, _, _, _, _, _, _, xs', z3, rfl, kw3 H np kk, wl3, by rw [Nat.succ_mul]; omega, hp3, li3⟩
  · rintro σ' H' ⟨x4, x5, x6, x7, x8, x9, x10, x11, xs, zi, rfl, kk, wk, hzi, hpk, ds, rds, w1, w2, w3⟩
    obtain ⟨i, rfl⟩ := Int.eq_ofNat_of_zero_le r0
    have hi3 : i ≤ 3 := by omega
    have h8 : i * zS d ≤ 3 * zS d := Nat.mul_le_mul_right _ hi3
    have h9 : i * bW d ≤ 3 * bW d := Nat.mul_le_mul_right _ hi3
    rw [Int.toNat_natCast] at hzi w1
    refine s_retP (P := fun H1 v => Rp K H1 (.tup ds) v) (fun H4 e4 Q q => ⟨.ref p, rfl, p, xs, rfl, .inl ⟨sq_of (e4 _ _ hpk), fun l nl => q _ _ (Ex.new nl) (.tup upd_same (rds.mono (e4.trans (Ex.new nl))))⟩⟩) fun v H5 e5 rv => ?_
    exact k v zi H5 (kk.trans (Kw.of e5)) (wk.ex e5) (by omega) ⟨ds, rv, by omega, w2⟩
end
section
variable {P : Program} {w : World} {K : PySem.W.Frag} {mg : Str → Option Value} {base : Heap}
theorem ok_steps (B : Bl mg) (F : Df K mg "_law_steps" (top 56) ["_law_well_here", "_law_deep", "_law_many_odd"]) (O1 : Okd P w K mg base CX0 1 "_law_draw" ["_law_well_here", "_law_size"] spDraw) (O2 : Okd P w K mg base CX0 2 "_law_pick" ["_law_well_here", "_law_some"] (spPick K))
    (O3 : Okd P w K mg base CX0 3 "_law_odd" ["_law_well_here"] (spOdd K)) : ∀ n, Okd P w K mg base CX0 (4 + n) "_law_steps" ["_law_well_here", "_law_deep", "_law_many_odd"] (spStp K n)
  | 0 => ok_none F fun vs H Q E h => by
    obtain ⟨a, d, m, z, _, _, _, h, _⟩ := h
    exact absurd h (Nat.not_lt_zero _)
  | n + 1 => steps_step B F O1 O2 O3 (ok_steps B F O1 O2 O3 n)
end
end K2
/-! The law's is_arrival. -/
namespace K2
open PySem L2 Evl PySem.Spec PyProof.Rows RZ StX
/-- the values that arrive -/
def valOk (c : D) : Prop := c = .int 1 ∨ c = .bl true ∨ c = .str "@x" ∨ c = .tup [.non, .str "x"]
def arrOk (d : D) : Prop := ∀ i b c, d = .tup [i, b, c] → valOk c ∧ ∃ s, b = .str s
def lastI (ds : List D) : Nat → Int
  | 0 => 0
  | k + 1 => headI (ds.getD k .non)
def spLArr (K : PySem.W.Frag) : Sp := fun vs H Q _ => ∃ (v : V) (ds : List D) (k : Nat) (d : D), vs = [v, .int (k : Int)] ∧ Rp K H (.tup ds) v ∧ Sm (.tup ds) ∧ dpL ds ≤ 13 ∧ ds[k]? = some d ∧ arrOk d ∧ (∀ j, k = j + 1 → ∃ m b c, ds[j]? = some (.tup [.int m, b, c])) ∧ RetV (.bl (isArrD (lastI ds k) d)) H Q
section
variable {K : PySem.W.Frag} {σ : L2.St} {H : Hp} {ta te : TE}
theorem at_one : (Str.ofString "@") = ⟨#[64]⟩ := by decide +kernel
theorem ev_lower {x : Str} (h : Ev te σ H (.str x)) (hl : x.length ≤ 5592405) : Ev (tM0 (fun x xs H Q => ∃ a, x = V.str a ∧ xs = [] ∧ a.length ≤ 5592405 ∧ Q (V.str (Txt.lower a)) H) te) σ H (.str (Txt.lower x)) := fun H1 e Q q =>
  h H1 e _ fun H2 e2 => ⟨⟨x, rfl⟩, x, rfl, rfl, hl, q H2 e2⟩
theorem ev_repr {c : D} {v : V} (h : valOk c) (r : Rp K H c v) (hv : Ev te σ H v) : Ev (tOp rNotInS (tC (.str "@")) (tCB (rRepr K) (tCons te tNil))) σ H (.bl (isPlainV c)) := fun H1 e Q q =>
  hv H1 e _ fun H2 e2 => by
    have fin : ∀ z : Str, ∀ b : Bool, b = (!decide ((64 : Nat) ∈ z.cps.toList)) → b = isPlainV c → rNotInS (V.str "@") (V.str z) H2 Q := fun z b h1 h2 => ⟨64, z, by show V.str (Str.ofString "@") = _; rw [at_one], rfl, by rw [← h1, h2]; exact q H2 e2⟩
    rcases h with rfl | rfl | rfl | rfl
    · cases r
      exact .inl ⟨rfl, fun z hz => fin z true (by simp [noAt] at hz; simp [hz]) (by decide +kernel)⟩
    · cases r
      exact .inr (.inl ⟨rfl, fun z hz => fin z true (by simp [noAt] at hz; simp [hz]) (by decide +kernel)⟩)
    · cases r
      exact .inr (.inr (.inl ⟨rfl, fun z hz => fin z false (by simp [noAt] at hz; simp [hz]) (by decide +kernel)⟩))
    · obtain ⟨t, vs, rfl, ht, rs⟩ := r.ofTup
      obtain ⟨v0, v1, rfl, r0, r1⟩ := rs.two
      cases r0
      cases r1
      exact .inr (.inr (.inr ⟨t, rfl, st_of ((e.trans e2) _ _ ht), fun z hz => fin z true (by simp [noAt] at hz; simp [hz]) (by decide +kernel)⟩))
theorem val_arg {c : D} (h : valOk c) : isArg c = true := by
  rcases h with rfl | rfl | rfl | rfl <;> decide +kernel
theorem str_word (s : Str) : (nameS s && decide (V.str s = V.str (Txt.lower s))) = isWord (.str s) := by
  show _ = (nameS s && !hasCap s)
  cases h : nameS s with
  | false => rfl
  | true =>
    unfold nameS at h
    rw [Bool.and_eq_true] at h
    rw [← lower_same h.2]
    rw [Bool.true_and, Bool.true_and]
    exact decide_eq_decide.mpr ⟨fun z => by injection z, fun z => by rw [← z]⟩
end
section
variable {P : Program} {w : World} {K : PySem.W.Frag} {mg : Str → Option Value} {base : Heap}
theorem sc54 : FnScope ["_law_coming", "_law_k", "_law_row", "_law_last", "_law_is_word"] ["_law_coming", "_law_k"] (defScope (top 54)) := ⟨rfl, rfl, rfl, by decide +kernel, rfl, by decide +kernel, by decide +kernel⟩
theorem ok_larr (B : Bl mg) (F : Df K mg "_law_is_arrival" (top 54) ["_law_coming", "_law_k"]) (O1 : Okd P w K mg base CX0 1 "_law_is_name" ["_law_thing"] (spB1 K Sm isName)) (O2 : Okd P w K mg base CX0 (14 + 1) "_law_is_arg" ["_law_thing"] (spArgN K 14)) :
    Okd P w K mg base CX0 16 "_law_is_arrival" ["_law_coming", "_law_k"] (spLArr K) := by
  refine F.ok sc54 (fun vs H Q E h => by obtain ⟨v, ds, k, d, rfl, _⟩ := h; rfl) (fun f cdv A outer s H vs Q E hr h => ?_)
  obtain ⟨v, ds, k, d, rfl, rv, sm, dp, hd, ha, hp, kk⟩ := h
  obtain ⟨f__law_is_name, d__law_is_name, m__law_is_name, k__law_is_name, b__law_is_name, G__law_is_name⟩ := O1.ex
  obtain ⟨f__law_is_arg, d__law_is_arg, m__law_is_arg, k__law_is_arg, b__law_is_arg, G__law_is_arg⟩ := O2.ex
  have hu := hu_of hr
  refine ⟨_, (pss_cons (ps_set (i := 2) sc54.nd rfl (Or.inl rfl) (pe_ix ix_tup (pv 0) (pv 1) (fun _ _ => rfl)))
      (pss_cons (ps_if (PW.pt (pw_or (pt_not (pt_val (pe_callB call_isi (by rfl) B.isinstance boot_isinstance (pa_cons (pv 2) (pa_cons (pe_bltn (v := .ty "tuple") (by rfl) B.tuple boot_tuple rfl) pa_nil))))) (pw_or (pt_cmpR op_ne (pe_callB call_lenQ (by rfl) B.len PySem.boot_len (pa_cons (pv 2) pa_nil)) pe_int (nomark _)) (pw_or (pt_not (pt_val (pe_callB call_isi (by rfl) B.isinstance boot_isinstance (pa_cons (pe_ix ix_tup (pv 2) pe_int (fun _ _ => rfl)) (pa_cons (pe_bltn (v := .ty "int") (by rfl) B.int boot_int rfl) pa_nil))))) (pw_or1 (pt_val (pe_callB call_isi (by rfl) B.isinstance boot_isinstance (pa_cons (pe_ix ix_tup (pv 2) pe_int (fun _ _ => rfl)) (pa_cons (pe_bltn (v := .ty "bool") (by rfl) B.bool boot_bool rfl) pa_nil))))))))) (pss_one (ps_ret pe_bl)) pss_nil)
      (pss_cons (ps_set (i := 3) sc54.nd rfl (Or.inl rfl) pe_int)
      (pss_cons (ps_if (pt_cmpR op_gt1 (pv 1) pe_int (nomark _)) (pss_one (ps_set (i := 3) sc54.nd rfl (Or.inl rfl) (pe_ix ix_tup (pe_ix ix_tup (pv 0) (pe_op op_sub (pv 1) pe_int) (fun _ _ => rfl)) pe_int (fun _ _ => rfl)))) pss_nil)
      (pss_cons (ps_set (i := 4) sc54.nd rfl (Or.inl rfl) (pe_and (pe_call G__law_is_name (hr.mono (by first | decide | omega)) (by rfl) m__law_is_name k__law_is_name b__law_is_name .nil pass0 (pa_cons (pe_ix ix_tup (pv 2) pe_int (fun _ _ => rfl)) pa_nil)) (pe_one (pe_cmpR op_eq (pe_ix ix_tup (pv 2) pe_int (fun _ _ => rfl)) (pe_lower (pe_ix ix_tup (pv 2) pe_int (fun _ _ => rfl))) (nomark _)))))
      (pss_one (ps_ret (pe_and (pv 4) (pe_and (pe_cmpR op_ge1 (pe_ix ix_tup (pv 2) pe_int (fun _ _ => rfl)) (pv 3) (nomark _)) (pe_and (pe_call G__law_is_arg (hr.mono (by first | decide | omega)) (by rfl) m__law_is_arg k__law_is_arg b__law_is_arg .nil pass0 (pa_cons (pe_ix ix_tup (pv 2) pe_int (fun _ _ => rfl)) pa_nil)) (pe_one (pe_cmpR op_notInS pe_str (pe_callB (call_reprA hu) (by rfl) B.repr boot_repr (pa_cons (pe_ix ix_tup (pv 2) pe_int (fun _ _ => rfl)) pa_nil)) rfl)))))))))))), ?_⟩
  obtain ⟨a, vs, rfl, hva, rs⟩ := rv.ofTup
  obtain ⟨u, gu, ru⟩ := rs.get hd
  have smd : Sm d := sm.item hd
  have dpd : dpD d ≤ 13 := Nat.le_trans (dpL_mem (List.mem_of_getElem? hd)) dp
  refine q_asg (ev_op (ev_var rfl) (ev_var rfl) (rv_ixT (st_of hva) (atI_nat gu))) fun H1 e1 => ?_
  have ru1 := ru.mono e1
  cases h3 : (isTup d && is3 d) with
  | false =>
    have q : isArrD (lastI ds k) d = false := by
      unfold isArrD
      split
      · cases h3
      · rfl
    refine q_when (b := !(isTup d) || (!(is3 d) || true)) (et_or (et_not (et_B (ev_isi ru1 (ev_var rfl) (kit_tup d)))) (fun ht => et_or ?_ (fun hq => ?_))) (fun _ H2 e => s_ret ev_c fun H3 e2 => ?_) (fun hb => by
      have : (!(isTup d) || (!(is3 d) || true)) = true := by cases isTup d <;> cases is3 d <;> rfl
      rw [this] at hb; cases hb)
    · cases ru1 with
      | tup hxa rs1 =>
        refine et_is (et_test (ev_op (ev_lenT (ev_var rfl) (st_of hxa)) ev_c (rv_ne rfl))) ?_
        show (!decide (V.int _ = V.int 3)) = !(decide _)
        rw [rs1.len]
        exact congrArg (!·) (decide_eq_decide.mpr ⟨fun z => by injection z, fun z => by rw [z]⟩)
      | _ => cases ht
    · have h1 : isTup d = true := by simpa using ht
      have h2 : is3 d = true := by simpa using hq
      rw [h1, h2] at h3
      cases h3
    · rw [← q]
      exact kk H3 ((e1.trans e).trans e2)
  | true =>
    rw [Bool.and_eq_true] at h3
    obtain ⟨ht, h3⟩ := h3
    cases ru1 with
    | tup hta rts =>
      rename_i ta tvs dd
      obtain ⟨d0, d1, d2, rfl⟩ := is3_of h3
      obtain ⟨v0, v1, v2, rfl, r0, r1, r2⟩ := rts.three
      obtain ⟨hc, wd, rfl⟩ := ha d0 d1 d2 rfl
      have s1 : Sm (.str wd) := smd.item (i := 1) rfl
      have s2 : Sm d2 := smd.item (i := 2) rfl
      have p2 : dpD d2 < 14 := by
        have h1 := dpL_mem (l := [d0, .str wd, d2]) (d := d2) (by simp)
        have h2 : dpD (.tup [d0, .str wd, d2]) = dpL [d0, .str wd, d2] + 1 := rfl
        omega
      have ix0 : atI [v0, v1, v2] (0 : Int) = some v0 := atI_nat (j := 0) rfl
      have ix1 : atI [v0, v1, v2] (1 : Int) = some v1 := atI_nat (j := 1) rfl
      have ix2 : atI [v0, v1, v2] (2 : Int) = some v2 := atI_nat (j := 2) rfl
      have hix : ∀ {σ : L2.St} {H2 : Hp} {j : Int} {y : V}, σ[2]? = some (some (.ref ta)) → Ex H1 H2 → atI [v0, v1, v2] j = some y → Ev (tOp (rIxT K) (tVar 2) (tC (.int j))) σ H2 y := fun h e hy => ev_op (ev_var h) ev_c (rv_ixT (st_of (e _ _ hta)) hy)
      refine q_when (b := !(isWhole d0)) (et_is (et_or (et_not (et_B (ev_isi (Rp.tup hta rts) (ev_var rfl) (kit_tup _)))) (fun _ => et_or (et_test (ev_op (ev_lenT (ev_var rfl) (st_of hta)) ev_c (rv_ne rfl)))
        (fun _ => et_or (et_not (et_B (ev_isi r0 (hix rfl (Ex.refl _) ix0) (kit_in d0)))) fun _ => et_B (ev_isi r0 (hix rfl (Ex.refl _) ix0) (kit_bl d0))))) ?_) (fun hb H2 e => s_ret ev_c fun H3 e2 => ?_) (fun hb H2 e => ?_)
      · cases d0 <;> rfl
      · have q : isArrD (lastI ds k) (.tup [d0, .str wd, d2]) = false := by
          rw [Bool.not_eq_true'] at hb
          cases d0 <;> first | rfl | (exact Bool.noConfusion (show true = false from hb))
        rw [← q]
        exact kk H3 ((e1.trans e).trans e2)
      · rw [Bool.not_eq_false'] at hb
        obtain ⟨i, rfl⟩ := whole_form hb
        cases r0
        cases r1
        refine q_asg ev_c fun H3 e3 => ?_
        have e13 := e.trans e3
        have fin : ∀ {H4 : Hp} {x4 : Option V}, Ex H3 H4 → (tSeq (tAsg (tAndV (tCall (spB1 K Sm isName) [] E0 (tCons (tOp (rIxT K) (tVar 2) (tC (V.int 1))) tNil)) (tOp rEq (tOp (rIxT K) (tVar 2) (tC (V.int 1))) (tM0 (fun x xs H Q => ∃ a, x = V.str a ∧ xs = [] ∧ a.length ≤ 5592405 ∧ Q (V.str (Txt.lower a)) H) (tOp (rIxT K) (tVar 2) (tC (V.int 1)))))) (gName 4))
            (tRet (tAndV (tVar 4) (tAndV (tOp rGe (tOp (rIxT K) (tVar 2) (tC (V.int 0))) (tVar 3)) (tAndV (tCall (spArgN K 14) [] E0 (tCons (tOp (rIxT K) (tVar 2) (tC (V.int 2))) tNil)) (tOp rNotInS (tC (.str "@")) (tCB (rRepr K) (tCons (tOp (rIxT K) (tVar 2) (tC (V.int 2))) tNil))))))))
            { nx := fun _ H' => Q .non H', rt := Q } [some (.ref a), some (.int (k : Int)), some (.ref ta), some (.int (lastI ds k)), x4] H4 := fun {H4 x4} e4 => by
          have e14 := e13.trans e4
          refine q_asg (v := .bl (isWord (.str wd))) (ev_is (ev_andV (ev_call (ea_cons (hix rfl e14 ix1) ea_nil) (spB1_v (d := .str wd) (Rp.str wd) s1)) fun _ => ev_op (hix rfl e14 ix1) (ev_lower (hix rfl e14 ix1) (by have := s1.len; omega)) (rv_eq rfl)) (congrArg V.bl (str_word wd))) fun H5 e5 => ?_
          have e15 := e14.trans e5
          refine s_ret (ev_is (ev_andV (ev_var rfl) fun _ => ev_andV (ev_op (hix rfl e15 ix0) (ev_var rfl) rv_I0) fun _ => ev_andV (ev_call (ea_cons (hix rfl e15 ix2) ea_nil) (spB1_v (r2.mono e15) ⟨s2, p2⟩)) fun _ => ev_repr hc (r2.mono e15) (hix rfl e15 ix2)) ?_) fun H6 e6 => kk H6 ((e1.trans e15).trans e6)
          show V.bl (isWord (.str wd) && (decide (lastI ds k ≤ i) && (isArg d2 && isPlainV d2))) = V.bl (decide (lastI ds k ≤ i) && (isWord (.str wd) && isPlainV d2))
          rw [val_arg hc]
          cases isWord (.str wd) <;> cases decide (lastI ds k ≤ i) <;> cases isPlainV d2 <;> rfl
        refine q_when (et_test (ev_op (ev_var rfl) ev_c rv_I0)) (fun hk H4 e4 => ?_) (fun hk H4 e4 => ?_)
        · rw [decide_eq_true_eq] at hk
          obtain ⟨j, rfl⟩ : ∃ j, k = j + 1 := ⟨k - 1, by omega⟩
          obtain ⟨m, b, c, hm⟩ := hp j rfl
          obtain ⟨y, gy, ry⟩ := (rs.mono ((e1.trans e13).trans e4)).get hm
          obtain ⟨pa, pvs, rfl, hpa, rps⟩ := ry.ofTup
          obtain ⟨w0, w1, w2, rfl, q0, q1, q2⟩ := rps.three
          cases q0
          have hj : (((j + 1 : Nat) : Int) - 1) = (j : Int) := by omega
          refine s_asg (ev_op (ev_op (ev_var rfl) (ev_is (ev_op (ev_var rfl) ev_c rv_I0) (by rw [hj])) (rv_ixT (st_of (((e1.trans e13).trans e4) _ _ hva)) (atI_nat gy))) ev_c (rv_ixT (st_of hpa) (atI_nat (j := 0) rfl))) fun H5 e5 => ?_
          have hl : lastI ds (j + 1) = m := by
            show headI (ds.getD j .non) = m
            rw [List.getD_eq_getElem?_getD, hm]
            rfl
          rw [← hl]
          exact fin (e4.trans e5)
        · rw [decide_eq_false_iff_not] at hk
          obtain rfl : k = 0 := by omega
          exact fin e4
    | _ => cases ht
end
end K2
/-! len(set(t)), t a tuple of texts: how many unlike ones. -/
namespace K2
open PySem PySem.Spec PyProof.Rows
/-- how many unlike texts stand among the first i -/
def unl (ts : List Str) : Nat → Nat
  | 0 => 0
  | i + 1 => if ((ts.take i).any fun y => y == ts.getD i Str.empty) = true then unl ts i else unl ts i + 1
theorem unl_le (ts : List Str) : ∀ i, unl ts i ≤ i
  | 0 => Nat.le_refl _
  | i + 1 => by
    have h := unl_le ts i
    unfold unl
    split <;> omega
/-- the set of the first i texts stands at o -/
def TxS (p : Program) (w : World) (ts : List Str) (o : Addr) (h : Heap) (i : Nat) : Prop := h.SetOf (PySem.strKind p w) o (fun x => (ts.take i).any fun y => y == x) (unl ts i)
theorem TxS.keep {p : Program} {w : World} {ts : List Str} {o : Addr} {h h' : Heap} {i : Nat} (q : TxS p w ts o h i) (k : ∀ b, h.get? o = some b → h'.get? o = some b) : TxS p w ts o h' i := by
  obtain ⟨b, es, ep, tb, g, r⟩ := q
  exact ⟨b, es, ep, tb, k b g, r⟩
theorem any_next {ts : List Str} {i : Nat} (hi : i < ts.length) (x : Str) : (((ts.take i).any fun y => y == x) || decide (x = ts.getD i Str.empty)) = ((ts.take (i + 1)).any fun y => y == x) := by
  have e : ts[i]? = some (ts.getD i Str.empty) := by rw [List.getD_eq_getElem?_getD, List.getElem?_eq_getElem hi]; rfl
  rw [List.take_add_one, e, List.any_append]
  show _ = (_ || ([ts.getD i Str.empty].any fun y => y == x))
  congr 1
  simp only [List.any_cons, List.any_nil, Bool.or_false]
  rw [Bool.eq_iff_iff, decide_eq_true_iff, beq_iff_eq]
  exact ⟨fun z => z.symm, fun z => z.symm⟩
section
variable {p : Program} {w : World} {A : Around} {Rr : Result → Shared → Prop} {it : Addr} {fp wr : List Addr} {G : Array GenState → Array GenState → Prop} {n : Nat} {Pv : Nat → Value → Prop} {Z : Nat → Shared → Prop}
theorem fillT (W : WalksS p w A.in1 it fp wr G n Pv Z) (o : Addr) (nf : o ∉ fp) (ts : List Str) (ln : ts.length = n) (room : n + 1 < scanBound) (pv : ∀ i v, Pv i v → ∃ t, v = .str (ts.getD i Str.empty) t) :
    ∀ (left i : Nat) (s : Shared), i + left = n → Z i s → TxS p w ts o s.heap i → (∀ s2, Moved (o :: wr) G s s2 → TxS p w ts o s2.heap n → Rr (.ok (.ret .none)) s2) →
      codeAny (model p w) A (.builtin "set.update.loop" ⟨[.ref o, .ref it], []⟩) Rr s
  | 0, i, s, hl, hz, hs, fin => by
    obtain rfl : i = n := hl
    have ow : o ∉ wr := fun z => nf (W.sub _ z)
    refine codeAny_builtin F.entry_set_update_loop ?_; rw [Around.under_plainId F.plain_set_update_loop _]; show wpAny _ A.in1 (pyNext (.ref it) >>= _) _ _ s
    refine wpAny_bind (W.done s _ _ hz fun s2 mv => ?_); show wpAny _ A.in1 (ret Value.none) _ _ s2
    exact wpAny_pure (fin s2 (mv.mono fun b hb => List.mem_cons_of_mem _ hb) (hs.keep fun b g => mv.heap o b ow g))
  | left + 1, i, s, hl, hz, hs, fin => by
    have lt : i < n := by omega
    have ow : o ∉ wr := fun z => nf (W.sub _ z)
    refine codeAny_builtin F.entry_set_update_loop ?_; rw [Around.under_plainId F.plain_set_update_loop _]; show wpAny _ A.in1 (pyNext (.ref it) >>= _) _ _ s
    refine wpAny_bind (W.item i s _ _ lt hz fun v s2 hv hz2 mv => ?_)
    obtain ⟨t, rfl⟩ := pv i v hv
    have hs2 : TxS p w ts o s2.heap i := hs.keep fun b g => mv.heap o b ow g
    generalize hx : ts.getD i Str.empty = x
    show wpAny _ A.in1 (holding [Value.str x t] (setAdd o (.str x t)) >>= _) _ _ s2
    refine wpAny_bind (wpAny_holding ?_); unfold setAdd; refine wpAny_holding (wpAny_bind ((PySem.strKind p w).pyHash (k := x) (strKind_is _ _ _ _) ?_))
    refine wpAny_setAddHashed_of (knd := PySem.strKind p w) (s := { s2 with toks := s2.toks + 1 }) (strKind_is _ _ _ _) rfl hs2 (by have := unl_le ts i; omega) fun h3 sb hs3 => ?_
    have hs4 : TxS p w ts o h3 (i + 1) := SetOf_congr hs3 (fun y => by rw [← hx]; exact any_next (by omega) y) (by rw [← hx]; rfl)
    have other : ∀ b, b ≠ o → h3.get? b = s2.heap.get? b := fun b hb => sb.2 b hb
    refine wpAny_pure ⟨plainId_quiet F.plain_set_update_loop _, fillT W o nf ts ln room pv left (i + 1) _ (by omega) (W.frame _ s2 _ _ hz2 (Nat.le_succ _) fun b hb u e => ?_) hs4 fun s5 mv5 hs5 => ?_⟩
    · exact (other b fun z => nf (z ▸ hb)).trans e
    · refine fin s5 (Moved.trans W.gtrans ((mv.mono fun b hb => List.mem_cons_of_mem _ hb).then_heap (Nat.le_succ _) fun b u hb e => ?_) mv5) hs5
      exact (other b fun z => hb (z ▸ List.mem_cons_self)).trans e
end
end K2
/-! The call of set for a tuple of texts. -/
namespace K2
open PySem PySem.Spec PyProof.Rows
/-- a new set's object -/
def newS (b : Bool) : Obj := { cls := .type "set", dict := none, data := .set #[] 0 (.fresh 0 0 b) }
section
variable {p : Program} {w : World} {A : Around} {E : Value → Shared → Prop} {s : Shared}
theorem call_setT {l : Addr} {its : Array Value} {ts : List Str} {Q : Value → Shared → Prop} (hd : A.handled = none) (hl : s.heap.IsTuple l its) (hi : StrsAre its.toList ts) (room : ts.length + 1 < scanBound)
    (k : ∀ (h2 : Heap) (tk : Nat), TxS p w ts s.heap.objs.size h2 ts.length → (∀ b u, s.heap.get? b = some u → h2.get? b = some u) → Q (.ref s.heap.objs.size) { s with heap := h2, toks := tk }) :
    wpAny (model p w) A (call (.type "set") [.ref l]) Q E s := by
  have hlen : ts.length = its.size := by rw [← StrsAre.len_eq hi, Array.length_toList]
  obtain ⟨c, tl, hmro⟩ := PySem.F.called_set.mro; have hmade := PySem.F.called_set.made; have hsub := PySem.F.called_set.sub
  refine wpAny_call (codeAny_of_tree ?_); show wpAny _ _ (callAny (.type "set") _) _ _ _
  refine wpAny_pure ⟨Code.quiet_builtin _ (by decide +kernel), codeAny_builtin PySem.F.entry_type_call ?_⟩; rw [Around.under_plain (weight_type_call_type "set" [.ref l] []) rfl]
  have h1 := PySem.F.called_set.notType; have h2 := PySem.F.called_set.canCreate; have hct := PySem.F.typeCall_set_1 (.ref l)
  repeat (any_goals (first | assumption | wp_step))
  refine codeAny_mono (code_set_new_1 (.ref l) (E := E) (Q₁ := fun v s1 => ∃ b : Bool, v = .ref s.heap.objs.size ∧ s1 = { s with heap := s.heap.push (newS b) }) fun b => ⟨b, rfl, rfl⟩) fun r s1 hr => ?_
  cases r with
  | error e => exact hr
  | ok fl =>
    cases fl with
    | ret v =>
      obtain ⟨b, rfl, rfl⟩ := hr
      have g0 : (s.heap.push (newS b)).get? s.heap.objs.size = some (newS b) := Heap.get?_push_size _ rfl
      have ty : Shared.TypeIs { s with heap := s.heap.push (newS b) } (.ref s.heap.objs.size) "set" := ⟨_, g0, rfl⟩
      have hli := PySem.F.called_set.init.lookup; have hbi := PySem.F.called_set.init.bind (.ref s.heap.objs.size)
      repeat (any_goals (first | assumption | wp_step))
      refine codeAny_mono (codeAny_call_builtin (R := wants (fun r s2 => r = .none ∧ ∃ h3 tk, s2 = { s with heap := h3, toks := tk } ∧ TxS p w ts s.heap.objs.size h3 ts.length ∧ ∀ b u, s.heap.get? b = some u → h3.get? b = some u) E) PySem.F.called_set.init.plain PySem.F.entry_set_init (check_set_init_1 ty ?_)) fun r2 s2 hr2 => ?_
      · obtain ⟨⟨oc, od, ot, os⟩, gl, cl, nl, dl⟩ := hl
        simp only at cl dl
        subst cl; subst dl
        have gl2 : (s.heap.push (newS b)).get? l = some { cls := .type "tuple", dict := od, data := .seq its nl, slots := os } := Heap.get?_push_of_some _ gl
        have ss := PySem.F.sub_tuple_set; have sf := PySem.F.sub_tuple_frozenset; have nd : (Value.type "tuple" == Value.type "dict") = false := by decide
        have it2 : (s.heap.push (newS b)).IsTuple l its := ⟨_, gl2, rfl, nl, rfl⟩
        unfold Builtin.«set.__init__» noKeywords Builtin.Frozenset.updateFrom; generalize hPI : pyIter = PI; wp_walk; subst hPI
        refine wpAny_pyIter_tuple it2 (wpAny_bind (wpAny_runValue ?_))
        have ll : l < s.heap.objs.size := Heap.lt_size gl
        have size1 : (s.heap.push (newS b)).objs.size = s.heap.objs.size + 1 := Heap.size_push ..
        have hdn : A.in1.in1.in1.handled = none := by simp [hd]
        have ln : l ≠ (s.heap.push (newS b)).objs.size := by rw [size1]; exact Nat.ne_of_lt (Nat.lt_succ_of_lt ll)
        have nf : s.heap.objs.size ∉ [(s.heap.push (newS b)).objs.size, l] := by
          rw [size1]
          simp only [List.mem_cons, List.not_mem_nil, or_false, not_or]
          exact ⟨Nat.ne_of_lt (Nat.lt_succ_self _), (Nat.ne_of_lt ll).symm⟩
        have at0 : ∀ (i : Nat) (v : Value), its[i]? = some v → ∃ t, v = .str (ts.getD i Str.empty) t := fun i v hv => SS.strs_at hi i v (by rw [Array.getElem?_toList]; exact hv)
        refine fillT ((Walks.tuple hdn _ l ln its).toS) s.heap.objs.size nf ts hlen (by rw [← hlen]; exact room) at0 its.size 0 _ (Nat.zero_add _) ⟨⟨_, Heap.get?_push_size _ rfl, rfl, rfl⟩, it2.push _⟩ ?_ ?_
        · have g1 : ((s.heap.push (newS b)).push { cls := .type "tuple_iterator", data := .fields #[.ref l, .int 0 0] }).get? s.heap.objs.size = some (newS b) := Heap.get?_push_of_some _ g0
          exact SetOf_congr ((setObjOf_fresh (knd := PySem.strKind p w) b).setOf g1 (by unfold scanBound; omega)) (fun _ => rfl) rfl
        · intro s5 mv hs5
          obtain ⟨h5, gn, dr, tk5, os5⟩ := s5
          obtain rfl : gn = s.gens := mv.gens
          obtain rfl : dr = s.drawn := mv.drawn
          obtain rfl : os5 = s.os := mv.os
          show wpAny _ _ _ _ _ _
          refine wpAny_pure ?_; show wpAny _ _ (ret Value.none) _ _ _
          rw [← hlen] at hs5
          refine wpAny_pure ⟨rfl, h5, tk5, rfl, hs5, fun b2 u e => ?_⟩
          have lt2 : b2 < s.heap.objs.size := Heap.lt_size e
          refine mv.heap b2 u ?_ (Heap.get?_push_of_some _ (Heap.get?_push_of_some _ e))
          rw [size1]
          simp only [List.mem_cons, List.not_mem_nil, or_false, not_or]
          exact ⟨Nat.ne_of_lt lt2, Nat.ne_of_lt (Nat.lt_succ_of_lt lt2)⟩
      · cases r2 with
        | error e => exact hr2
        | ok fl2 =>
          cases fl2 with
          | ret v2 =>
            obtain ⟨rfl, h3, tk, rfl, q1, q2⟩ := hr2
            repeat (any_goals (first | assumption | wp_step))
            exact k _ _ q1 q2
          | _ => exact hr2.elim
    | _ => exact hr.elim
end
end K2
namespace K2
open PySem L2 Evl PySem.Spec PyProof.Rows RZ StX
/-- len(set(t)) -/
def tLenSetT (K : PySem.W.Frag) (ta : TE) : TE := fun σ H Q => ta σ H fun x H1 => ∃ l, ∃ ts : List Str, x = .ref l ∧ SqT K H1 l (ts.map V.str) ∧ ts.length ≤ 100 ∧ Q (.int (unl ts ts.length : Nat)) H1
section
variable {X : Cx}
theorem pe_lenSetT {a : Expr} {ta : TE} {p1 p2 q pos : Pos} (hc : X.calm = true) (hg : Gl X "len") (hm : X.mg "len" = none) (hg2 : Gl X "set") (hm2 : X.mg "set" = none) (ha : PE X a ta) (na : starEach [a] X.env = (false, eval a X.env) :: starEach [] X.env := by rfl) :
    PE X (.Call (.Name "len" p1) [.Call (.Name "set" p2) [a] [] q] [] pos) (tLenSetT X.K ta) := by
  refine ⟨fun pins s σ H Q I h => Call_ (ld_blt I hg hm boot_len (callWith_builtin1 (args_cons ?_ rfl) rfl rfl))⟩
  refine Call_ (ld_blt I hg2 hm2 boot_set (callWith_type1 (args_cons (thn (ha.run pins s σ H _ I h) fun v s1 ⟨x, H1, I1, r1, q1⟩ => args_nil ?_) na) na rfl))
  obtain ⟨l, ts, rfl, hq, h1, q1⟩ := q1
  cases r1
  obtain ⟨its, r, pl, hz⟩ := I1.tuple hq
  refine call_setT (I1.ok.hd hc) pl (by simpa using strsAre_of r) (by unfold scanBound; omega) fun h2 tk hS hk => args_nil ?_
  obtain ⟨o, es, ep, t, ho, hex, hd, _, _, _, hf, hn⟩ := hS
  have I2 : Inv X pins σ H1 { s1 with heap := h2, toks := tk } := I1.kept fun b u e => hk b u e
  have hle := unl_le ts ts.length
  refine call_len_set ho hex hd hf (by rw [hn]; omega) ⟨.int (unl ts ts.length : Nat), H1, I2.tok _, ⟨_, by rw [hn]⟩, q1⟩
end
end K2
/-! The law's due: what arrives. -/
namespace K2
open PySem L2 Evl PySem.Spec PyProof.Rows RZ StX
def ArrAll (dd : D) : Prop := ∀ ds, dd = .tup ds → dpL ds ≤ 13 ∧ ∀ d ∈ ds, arrOk d
section
variable {K : PySem.W.Frag} {H : Hp} {Q : VK}
theorem plr_some {r : Option (List D)} {pl : List D} {v : V} (q : r = some pl) (rv : Rp K H (.tup pl) v) : PlR K r H v := by
  subst q
  exact ⟨(fun h => nomatch h), fun pl2 h => by cases h; exact rv⟩
theorem plr_none {r : Option (List D)} (q : r = none) : PlR K r H .non := by
  subst q
  exact ⟨fun _ => rfl, fun pl2 h => nomatch h⟩
theorem due_out {z o : V} {dd : D} {x2 x3 x4 x5 x6 x7 : Option V} (ro : Rp K H dd o) (smd : Sm dd) (ha : ArrAll dd) (k : ∀ v H2, Ex H H2 → PlR K (outsideR dd) H2 v → Q v H2) :
    tSeq (tIfS (tNot (tB (tCB (rIsi K) (tCons (tVar 1) (tCons (tC (V.ty "tuple")) tNil))))) (tRet (tTup (tCons (tC (V.str "outside")) tNil))) tNext)
      (tSeq (tFor (iRng1 (tCons (tCB (rLenQ K) (tCons (tVar 1) tNil)) tNil)) (gName 4) (tIfS (tNot (tB (tCall (spLArr K) [] E0 (tCons (tVar 1) (tCons (tVar 4) tNil))))) (tRet (tTup (tCons (tC (V.str "outside")) (tCons (tVar 4) tNil)))) tNext))
        (tRet (tC V.non))) { nx := fun _ H' => Q .non H', rt := Q } [some z, some o, x2, x3, x4, x5, x6, x7] H := by
  refine q_when (et_not (et_B (ev_isi ro (ev_var rfl) (kit_tup dd)))) (fun hb H1 e => ?_) (fun hb H1 e => ?_)
  · have q : outsideR dd = some [.str "outside"] := by
      rw [Bool.not_eq_true'] at hb
      cases dd <;> first | rfl | cases hb
    refine s_retP (evp_tup (eap_cons (evp_d ev_c (Rp.str _)) eap_nil) (by simp)) fun v H2 e2 rv => k v H2 (e.trans e2) (plr_some q rv)
  · rw [Bool.not_eq_false'] at hb
    cases ro with
    | tup hva rs =>
      rename_i a vs ds
      obtain ⟨dp, hok⟩ := ha ds rfl
      have lv := rs.len
      have dl : ds.length ≤ 39000 := smd.tlen
      refine q_forR1 (n := (ds.length : Int)) (ea_cons (ev_is (ev_lenT (ev_var rfl) (st_of (e _ _ hva))) (by rw [lv])) ea_nil) ⟨by omega, by omega⟩
        (fun i σ' H' => ∃ y4, σ' = [some z, some (.ref a), x2, x3, y4, x5, x6, x7] ∧ Ex H H' ∧ outsideR (.tup ds) = firstA (lastI ds i) i (ds.drop i) ∧ ∀ j, i = j + 1 → ∃ m b c, ds[j]? = some (.tup [.int m, b, c]))
        (fun H2 e2 => ⟨_, rfl, e.trans e2, rfl, fun j h => nomatch h⟩) ?_ ?_
      · rintro i σ' H2 hi ⟨y4, rfl, e2, hf, hp⟩
        have hi' : i < ds.length := by omega
        obtain ⟨d, hd⟩ : ∃ d, ds[i]? = some d := ⟨ds[i], List.getElem?_eq_getElem hi'⟩
        have hdr : ds.drop i = d :: ds.drop (i + 1) := by
          rw [List.drop_eq_getElem_cons hi']
          have : ds[i] = d := (List.getElem?_eq_some_iff.mp hd).2
          rw [this]
        rw [hdr] at hf
        refine s_when (et_not (et_B (ev_call (sp := spLArr K) (z := .bl (isArrD (lastI ds i) d)) (ea_cons (ev_var rfl) (ea_cons (ev_var rfl) ea_nil)) fun H3 e3 Q2 q _ => ⟨.ref a, ds, i, d, rfl, .tup ((e2.trans e3) _ _ hva) (rs.mono (e2.trans e3)), smd, dp, hd, hok d (List.mem_of_getElem? hd), hp, fun H4 e4 => q H4 e4⟩))) (fun hb H3 e3 => ?_) (fun hb H3 e3 => ?_)
        · rw [Bool.not_eq_true'] at hb
          have hf' : outsideR (.tup ds) = some [.str "outside", .int (i : Int)] := by
            rw [hf]
            unfold firstA
            rw [hb]
            rfl
          refine s_retP (evp_tup (eap_cons (evp_d ev_c (Rp.str "outside")) (eap_cons (evp_d (ev_var rfl) (Rp.int (i : Int))) eap_nil)) (by simp)) fun v H4 e4 rv => k v H4 ((e2.trans e3).trans e4) (plr_some hf' rv)
        · rw [Bool.not_eq_false'] at hb
          obtain ⟨m, b, c, rfl⟩ := arr_form hb
          refine ⟨_, rfl, e2.trans e3, ?_, fun j hj => ?_⟩
          · rw [hf]
            show firstA _ i (_ :: _) = _
            rw [firstA, if_pos hb]
            have : lastI ds (i + 1) = headI (.tup [.int m, b, c]) := by
              show headI (ds.getD i .non) = _
              rw [List.getD_eq_getElem?_getD, hd]
              rfl
            rw [this]
          · obtain rfl : i = j := by omega
            exact ⟨m, b, c, hd⟩
      · rintro σ' H2 ⟨y4, rfl, e2, hf, hp⟩
        rw [Int.toNat_natCast, List.drop_length] at hf
        exact s_ret ev_c fun H3 e3 => k .non H3 (e2.trans e3) (plr_none hf)
    | _ => cases hb
end
end K2
/-! The law's due: the params. -/
namespace K2
open PySem L2 Evl PySem.Spec PyProof.Rows RZ StX
theorem putK_any (m : List (Key × V)) (k j : Key) (v : V) : ((putK m k v).any fun q => decide (q.1 = j)) = ((m.any fun q => decide (q.1 = j)) || decide (k = j)) := by
  unfold putK
  split
  · rename_i h
    rw [List.any_map]
    have e : ((fun q : Key × V => decide (q.1 = j)) ∘ fun q => if q.1 = k then (q.1, v) else q) = fun q : Key × V => decide (q.1 = j) := by
      funext q
      show decide ((if q.1 = k then (q.1, v) else q).1 = j) = decide (q.1 = j)
      by_cases z : q.1 = k
      · rw [if_pos z]
      · rw [if_neg z]
    rw [e]
    by_cases z : k = j
    · subst z
      rw [h, decide_eq_true rfl]
      rfl
    · rw [decide_eq_false z, Bool.or_false]
  · rw [List.any_append]
    simp
theorem putK_count (m : List (Key × V)) (k : Key) (v : V) : (putK m k v).length = if (m.any fun q => decide (q.1 = k)) = true then m.length else m.length + 1 := by
  unfold putK
  split
  · rw [List.length_map]
  · rw [List.length_append]
    rfl
theorem keys_any (x : Str) : ∀ (ws : List Str) (m : List (Key × V)), ((ws.foldl (fun m x => putK m (Sum.inr x : Key) (.bl true)) m).any fun q => decide (q.1 = (Sum.inr x : Key))) = ((m.any fun q => decide (q.1 = (Sum.inr x : Key))) || ws.any fun y => y == x)
  | [], m => by simp
  | w :: ws, m => by
    rw [List.foldl_cons, keys_any x ws, putK_any, List.any_cons, Bool.or_assoc]
    congr 2
    rw [Bool.eq_iff_iff, decide_eq_true_iff, beq_iff_eq]
    exact ⟨fun z => Sum.inr.inj z, fun z => by rw [z]⟩
theorem unl_keys (ts : List Str) : ∀ i, i ≤ ts.length → unl ts i = (keysL (ts.take i)).length
  | 0, _ => rfl
  | i + 1, h => by
    have e : ts[i]? = some (ts.getD i Str.empty) := by rw [List.getD_eq_getElem?_getD, List.getElem?_eq_getElem (by omega)]; rfl
    have k := keys_any (ts.getD i Str.empty) (ts.take i) []
    rw [List.take_add_one, e]
    show unl ts (i + 1) = (keysL (ts.take i ++ [ts.getD i Str.empty])).length
    rw [keysL_snoc, putK_count]
    have k' : ((keysL (ts.take i)).any fun q => decide (q.1 = (Sum.inr (ts.getD i Str.empty) : Key))) = (ts.take i).any fun y => y == ts.getD i Str.empty := by
      unfold keysL
      rw [k]
      rfl
    rw [k', ← unl_keys ts i (by omega)]
    rfl
theorem unl_distinct (ts : List Str) : decide ((unl ts ts.length : Int) < (ts.length : Int)) = !(distinctS ts) := by
  have h := unl_keys ts ts.length (Nat.le_refl _)
  rw [List.take_length] at h
  have h2 := unl_le ts ts.length
  unfold distinctS
  rw [h] at h2 ⊢
  by_cases e : ts.length = (keysL ts).length
  · rw [decide_eq_true e, decide_eq_false (by omega)]
    rfl
  · rw [decide_eq_false e, decide_eq_true (by omega)]
    rfl
theorem small_cap : (lSmall.all fun c => !(decide (c ∈ lCap))) = true := by decide +kernel
theorem par_head {s : Str} {c : Nat} (hc : s.cps.toList[0]? = some c) (h : nameS s = true) : isParam (.str s) = !(Txt.isupper ⟨#[c]⟩) := by
  show (nameS s && _) = _
  rw [h, Bool.true_and]
  unfold nameS at h
  simp only [Bool.and_eq_true] at h
  obtain ⟨⟨_, h2⟩, h3⟩ := h
  rw [headS_at hc] at h2
  cases e : s.cps.toList with
  | nil => rw [e] at hc; simp at hc
  | cons a l =>
    rw [e] at hc h3
    have ha : a = c := by simpa using hc
    subst ha
    have hok : okC a = true := by
      rw [List.all_cons, Bool.and_eq_true] at h3
      exact h3.1
    rw [isupper_ok hok]
    show decide (a ∈ lSmall) = !(decide (a ∈ lCap))
    unfold headC at h2
    by_cases z : a ∈ lSmall
    · have := List.all_eq_true.mp small_cap a z
      rw [this, decide_eq_true z]
    · rw [decide_eq_false z, Bool.false_or] at h2
      rw [h2, decide_eq_false z]
      rfl
section
variable {K : PySem.W.Frag} {σ : L2.St} {H : Hp} {ta te : TE}
theorem et_isup {x : Str} {c : Nat} (h : Ev te σ H (.str x)) (hc : x.cps.toList[0]? = some c) (hl : x.length ≤ 100000) : EvT (tB (tM0 (fun x xs H Q => ∃ a, x = V.str a ∧ xs = [] ∧ True ∧ Q (V.bl (Txt.isupper a)) H) (tOp rIxS te (tC (V.int 0))))) σ H (Txt.isupper ⟨#[c]⟩) :=
  et_B fun H1 e Q q => (ev_op h ev_c (rv_ixS (i := 0) hl (atI_nat (j := 0) hc)) : Ev _ σ H _) H1 e _ fun H2 e2 => ⟨⟨_, rfl⟩, ⟨#[c]⟩, rfl, rfl, trivial, q H2 e2⟩
/-- [x for x in params if not is_name(x) or x[0].isupper()] != [] or len(set(params)) < len(params) -/
theorem et_par {a : Addr} {vs : List V} {ps : List D} {x0 x1 x2 x3 x4 x5 x6 x7 : Option V} (hp : Ev ta [x0, x1, x2, x3, x4, x5, x6, x7] H (.ref a)) (ha : H a = some (.tup vs)) (rs : Rps K H ps vs) (sm : Sm (.tup ps)) (hl : ps.length ≤ 100) :
    EvT (tOr (tTest (tOp (rNeNil K) (tLc (iTup K ta) (gName 7) (tOr (tNot (tB (tCall (spB1 K Sm isName) [] E0 (tCons (tVar 7) tNil)))) (tB (tM0 (fun x xs H Q => ∃ a, x = V.str a ∧ xs = [] ∧ True ∧ Q (V.bl (Txt.isupper a)) H) (tOp rIxS (tVar 7) (tC (V.int 0)))))) (tVar 7) [7]) (tLst tNil)))
      (tTest (tOp rLt (tLenSetT K ta) (tCB (rLenQ K) (tCons ta tNil))))) [x0, x1, x2, x3, x4, x5, x6, x7] H (!(parOk ps)) := by
  have e1 : (!(parOk ps)) = (!(ps.all isParam) || !(distinctS (ps.map strD))) := by unfold parOk; rw [Bool.not_and]
  rw [e1]
  refine et_or (et_test (ev_neNoneD (wk_tup hp ha rs) (by omega) (fun _ => rfl) (fun _ => rfl) fun d x H1 hd e1 rx => ?_)) fun hb => ?_
  · obtain ⟨i, hi⟩ := List.getElem?_of_mem hd
    have smd : Sm d := sm.item hi
    cases hn : isName d with
    | false =>
      have q : isParam d = false := by
        cases d <;> first | rfl | (show (nameS _ && _) = false; rw [show nameS _ = false from hn]; rfl)
      rw [q]
      exact et_is (a := !false || true) (et_or (et_not (et_B (ev_is (ev_call (ea_cons (ev_var rfl) ea_nil) (spB1_v rx smd)) (by rw [hn])))) fun h => (by cases h)) rfl
    | true =>
      obtain ⟨s, rfl⟩ : ∃ s, d = .str s := by cases d <;> first | exact ⟨_, rfl⟩ | cases hn
      cases rx
      have hns : nameS s = true := hn
      obtain ⟨c, hc⟩ : ∃ c, s.cps.toList[0]? = some c := by
        have hh : headS s = true := by
          unfold nameS at hns
          simp only [Bool.and_eq_true] at hns
          exact hns.1.2
        unfold headS at hh
        cases e : s.cps.toList with
        | nil => rw [e] at hh; cases hh
        | cons a l => exact ⟨a, rfl⟩
      rw [par_head hc hns, Bool.not_not]
      refine et_is (et_or (et_not (et_B (ev_is (ev_call (ea_cons (ev_var rfl) ea_nil) (spB1_v (Rp.str s) smd)) (by rw [hn])))) fun _ => et_isup (ev_var rfl) hc (by have := smd.len; omega)) ?_
      rfl
  · have hall : ps.all isParam = true := by simpa using hb
    have hvs := strs_of hall rs
    have hlen : (ps.map strD).length = ps.length := List.length_map ..
    rw [← unl_distinct]
    refine et_test fun H1 e Q q => hp H1 e _ fun H2 e2 => ⟨a, ps.map strD, rfl, st_of (by rw [← hvs]; exact (e.trans e2) _ _ ha), by omega, ?_⟩
    refine hp H2 (e.trans e2) _ fun H3 e3 => ⟨a, vs, rfl, .inr (st_of (((e.trans e2).trans e3) _ _ ha)), _, _, rfl, rfl, ?_⟩
    have : vs.length = (ps.map strD).length := by rw [hvs, List.length_map]
    rw [this]
    exact q H3 (e2.trans e3)
end
end K2
/-! The law's due: the words, the kinds. -/
namespace K2
open PySem L2 Evl PySem.Spec PyProof.Rows RZ StX
theorem paired_at {α β : Type} {R : α → β → Prop} : ∀ {l : List α} {m : List β} {i : Nat} {b : β}, Paired R l m → m[i]? = some b → ∃ a, l[i]? = some a ∧ R a b
  | _, _, i, b, .nil, h => by simp at h
  | a :: l, c :: m, 0, b, .cons q t, h => by
    have : c = b := by simpa using h
    subst this
    exact ⟨a, rfl, q⟩
  | a :: l, c :: m, i + 1, b, .cons q t, h => by
    rw [List.getElem?_cons_succ] at h
    obtain ⟨x, h1, h2⟩ := paired_at t h
    exact ⟨x, by rw [List.getElem?_cons_succ]; exact h1, h2⟩
section
variable {K : PySem.W.Frag} {σ : L2.St} {H : Hp} {ta td te t : TE} {tt : TT} {wi : TI} {tz : TS} {Dd : Ends}
/-- how a list that is kept comes out empty -/
theorem elp_kept {j : Nat} {vs : List Nat} {n : Nat} {P : Nat → Hp → V → Prop} (f : Nat → Bool) (W : Wk wi σ H n P) (hn : n ≤ 40000) (hw : ∀ x, wipe ((wipe σ vs).set j (some x)) vs = wipe σ vs) (hj : ∀ x, ((wipe σ vs).set j (some x))[j]? = some (some x))
    (ht : ∀ i x H1, i < n → Ex H H1 → P i H1 x → EvT tt ((wipe σ vs).set j (some x)) H1 (!(f i))) : EvLP (tLc wi (gName j) tt (tVar j) vs) σ H (fun _ xs => xs.isEmpty = (List.range n).all f) := fun H1 e Q q =>
  el_lc (fun i => !(f i)) (fun _ _ _ => True) W hn (fun _ _ _ _ _ _ => trivial) (fun i x H2 hi e2 px Z kz => kz _ H2 (Ex.refl _) (hw x) (ht i x H2 hi e2 px) fun _ => evp (ev_var (hj x)) fun _ _ => trivial) H1 e _ fun p xs H2 hp e2 hl pl =>
    q p xs H2 hp e2 hl (by
      have h1 : xs.isEmpty = (kept (fun i => !(f i)) n).isEmpty := by
        have := pl.length
        cases hk : kept (fun i => !(f i)) n <;> cases xs <;> first | rfl | (rw [hk] at this; simp at this)
      show xs.isEmpty = _
      rw [h1, kept_nil]
      congr 1
      funext i
      rw [Bool.not_not])
theorem ex_unlock {H H2 : Hp} {d : Addr} {od : Obj} {u : HO} (h : H d = some u) (e : Ex (upd H d (.frz od u)) H2) : Ex H (upd H2 d u) := fun b o hb => by
  by_cases hbd : b = d
  · subst hbd
    rw [upd_same]
    rw [h] at hb
    exact hb
  · rw [upd_ne hbd]
    exact e b o (by rw [upd_ne hbd]; exact hb)
theorem elp_lock {d : Addr} {u : HO} {Pl : List V → Prop} (h : H d = some u) (mu : Mut (some u)) (k : ∀ H1, Ex H H1 → ∀ od, EvLP t σ (upd H1 d (.frz od u)) (fun _ xs => Pl xs)) : EvLP (tLockE t) σ H (fun _ xs => Pl xs) := fun H1 e Q q =>
  ⟨d, u, e _ _ h, mu, fun od => k H1 e od _ (Ex.refl _) _ fun p xs H2 hp e2 hl pl => by
    have hpd : p ≠ d := fun z => by rw [z, upd_same] at hp; cases hp
    exact ⟨e2 d _ upd_same, q p xs (upd H2 d u) (by rw [upd_ne hpd] at hp; exact hp) (ex_unlock (e _ _ h) e2) (by rw [upd_ne hpd]; exact hl) pl⟩⟩
theorem ev_neNilP {b : Bool} (h : EvLP te σ H (fun _ xs => xs.isEmpty = b)) : Ev (tOp (rNeNil K) te (tLst tNil)) σ H (.bl (!b)) := fun H1 e Q q =>
  h H1 e _ fun p xs H2 hp e2 hl pl => (el_lst ea_nil (by simp) : EvL (tLst tNil) σ H2 []) H2 (Ex.refl _) _ fun p2 H3 hp2 e3 hl2 =>
    ⟨p, p2, xs, rfl, rfl, .inl ⟨sq_of (e3 _ _ hl), sq_of hl2⟩, by rw [pl]; exact q H3 (e2.trans e3)⟩
theorem lower_ne (s : Str) (h : nameS s = true) : (!decide (V.str s = V.str (Txt.lower s))) = !(wordS s) := by
  have := str_word s
  rw [h, Bool.true_and] at this
  rw [this]
  rfl
/-- [word for word in routines if not is_name(word) or word != word.lower()] != [] -/
theorem et_words {ra : Addr} {rt : Rt} {kvs : List (Key × V)} {x1 x2 x3 x4 x5 x6 x7 : Option V} (ha : H ra = some (.dK kvs)) (kr : KRt K H rt kvs) (G : RtG rt) :
    EvT (tTest (tOp (rNeNil K) (tLockE (tLc (iKeys (tVar 0)) (gName 3) (tOr (tNot (tB (tCall (spB1 K Sm isName) [] E0 (tCons (tVar 3) tNil)))) (tTest (tOp rNe (tVar 3) (tM0 (fun x xs H Q => ∃ a, x = V.str a ∧ xs = [] ∧ a.length ≤ 5592405 ∧ Q (V.str (Txt.lower a)) H) (tVar 3))))) (tVar 3) [3])) (tLst tNil)))
      [some (.ref ra), x1, x2, x3, x4, x5, x6, x7] H (!(wordsOk rt)) := by
  have lk := kr.len
  refine et_test (ev_neNilP (elp_lock ha trivial fun H1 e1 od => ?_))
  have eq1 : wordsOk rt = (List.range kvs.length).all fun i => match rt[i]? with | some p => wordS p.1 | none => true := by
    unfold wordsOk
    have e1 : (List.range kvs.length).map (fun i => match rt[i]? with | some p => wordS p.1 | none => true) = rt.map fun p => wordS p.1 := by
      apply List.ext_getElem?
      intro i
      by_cases hi : i < rt.length
      · simp [hi, lk]
      · simp [hi, lk]
    have e2 : ((List.range kvs.length).map (fun i => match rt[i]? with | some p => wordS p.1 | none => true)).all id = (rt.map fun p => wordS p.1).all id := by rw [e1]
    rw [List.all_map, List.all_map] at e2
    exact e2.symm
  rw [eq1]
  refine elp_kept (σ := [some (.ref ra), x1, x2, x3, x4, x5, x6, x7]) _ (wk_keys (ev_var rfl) upd_same) (by have := G.len; omega) (fun _ => rfl) (fun _ => rfl) fun i x H2 hi e2 ⟨ky, v, hk, hx⟩ => ?_
  obtain ⟨p, hp, hq1, _⟩ := paired_at kr hk
  have e3 : ky = Sum.inr p.1 := hq1
  subst e3
  subst hx
  rw [hp]
  show EvT _ _ _ (!(wordS p.1))
  have smp : Sm (.str p.1) := G.ks p (List.mem_of_getElem? hp)
  cases hn : nameS p.1 with
  | false =>
    have q : wordS p.1 = false := by unfold wordS; rw [hn]; rfl
    rw [q]
    exact et_is (a := !false || true) (et_or (et_not (et_B (ev_is (ev_call (ea_cons (ev_var rfl) ea_nil) (spB1_v (Rp.str p.1) smp)) (by show V.bl (nameS p.1) = _; rw [hn])))) fun h => (by cases h)) rfl
  | true =>
    refine et_is (et_or (et_not (et_B (ev_is (ev_call (ea_cons (ev_var rfl) ea_nil) (spB1_v (Rp.str p.1) smp)) (by show V.bl (nameS p.1) = V.bl true; rw [hn])))) fun _ => et_test (ev_op (ev_var rfl) (ev_lower (ev_var rfl) (by have := smp.len; omega)) (rv_ne rfl))) ?_
    rw [Bool.not_true, Bool.false_or]
    exact lower_ne p.1 hn
end
end K2
/-! The law's due: the dict of kinds. -/
namespace K2
open PySem L2 Evl PySem.Spec PyProof.Rows RZ StX
theorem lookup_take {p : Str × D} : ∀ {rt : Rt} {i : Nat}, (rt.map (·.1)).Nodup → rt[i]? = some p → (rt.take i).lookup p.1 = none
  | [], i, _, h => by simp at h
  | q :: rt, 0, _, h => rfl
  | (y, e) :: rt, i + 1, nd, h => by
    rw [List.map_cons, List.nodup_cons] at nd
    rw [List.getElem?_cons_succ] at h
    have hne : p.1 ≠ y := fun z => nd.1 (by
      show y ∈ _
      rw [← z]
      exact List.mem_map_of_mem (f := (·.1)) (List.mem_of_getElem? h))
    rw [List.take_succ_cons, List.lookup_cons, beq_eq_false_iff_ne.mpr hne]
    exact lookup_take nd.2 h
theorem putK_last {m : List (Key × V)} {k : Key} {v u : V} (h : valV m k = none) : putK (m ++ [(k, v)]) k u = m ++ [(k, u)] := by
  have hno : ∀ q ∈ m, q.1 ≠ k := fun q hq z => by
    induction m with
    | nil => cases hq
    | cons r m ih =>
      by_cases e : r.1 = k
      · rw [valV_pos e] at h; cases h
      · rw [valV_neg e] at h
        rcases List.mem_cons.mp hq with hq | hq
        · exact e (hq ▸ z)
        · exact ih h hq
  unfold putK
  rw [if_pos (by simp), List.map_append]
  congr 1
  · conv => rhs; rw [← List.map_id m]
    refine List.map_congr_left fun q hq => ?_
    rw [if_neg (hno q hq)]
    rfl
  · simp
def isStr0 : D → Bool
  | .tup (.str _ :: _) => true
  | _ => false
section
variable {K : PySem.W.Frag} {σ : L2.St} {H : Hp} {td ty tv : TE} {tz : TS} {Dd : Ends}
theorem wkg_keys {d : Addr} {o : Obj} {kvs : List (Key × V)} (h : Ev td σ H (.ref d)) (hd : H d = some (.frz o (.dK kvs))) : WkG (iKeys td) σ H kvs.length (fun H1 => H1 d = some (.frz o (.dK kvs))) (fun i _ x => ∃ k v, kvs[i]? = some (k, v) ∧ x = kV k) := fun H1 e R k =>
  h H1 e _ fun H2 e2 => ⟨d, o, rfl, .inl ⟨kvs, e2 _ _ (e _ _ hd), k _ _ H2 e2 (e2 _ _ (e _ _ hd)) walk_keys fun i H3 x H4 hi g3 y => by
    obtain ⟨e4, hx⟩ := y
    subst e4
    exact ⟨Ex.refl _, hx⟩⟩⟩
theorem q_dputS {a : Addr} {es : List (Key × V)} {z : Str} {v : V} (hv : Ev tv σ H v) (hd : Ev td σ H (.ref a)) (hy : Ev ty σ H (.str z)) (ha : H a = some (.dK es)) (hl : es.length < 16000000)
    (k : ∀ H1, Ex H H1 → tz Dd σ (upd H1 a (.dK (putK es (Sum.inr z : Key) v)))) : tSeq (sDPut td ty tv) tz Dd σ H := s_dputS (Dd := { Dd with nx := tz Dd }) hv hd hy ha hl k
theorem ty_lock {H1 : Hp} {ra : Addr} {od : Obj} {kvs : List (Key × V)} {d : D} {v : V} (ha : H ra = some (.dK kvs)) (r : Rp K H d v) (e : Ex (upd H ra (.frz od (.dK kvs))) H1) : TyX K H1 v (.type (tyD d)) := by
  have keep : ∀ {b : Addr} {u : HO}, H b = some u → b ≠ ra → H1 b = some u := fun {b u} h n => e b u (by rw [upd_ne n]; exact h)
  cases r with
  | non => exact .base .non
  | bl b => exact .base (.bl b)
  | int i => exact .base (.int i)
  | str x => exact .base (.str x)
  | tup h _ => exact .base (.tup (keep h fun z => by rw [z, ha] at h; cases h))
  | lst h => exact .base (.lst (keep h fun z => by rw [z, ha] at h; cases h))
  | @dct b _ h =>
    by_cases z : b = ra
    · rw [z]
      exact .fDict (e _ _ upd_same)
    · exact .base (.dK (keep h z))
theorem ev_isiT {v : V} {T n : String} {b : Bool} (ty : ∀ H1, Ex H H1 → TyX K H1 v (.type T)) (ha : Ev td σ H v) (hk : kitB T n = some b) : Ev (tCB (rIsi K) (tCons td (tCons (tC (.ty n)) tNil))) σ H (.bl b) :=
  ev_cb (ea_cons ha (ea_cons ev_c ea_nil)) fun H1 e Q q => ⟨v, .ty n, _, _, b, rfl, .ty n, ty H1 e, kit_ty hk, q H1 (Ex.refl _)⟩
theorem kinds_loop {H0 : Hp} {ra kd : Addr} {o : V} {rt : Rt} {kvs : List (Key × V)} {x3 x4 x5 x6 x7 : Option V} (h0 : H0 ra = some (.dK kvs)) (hk0 : H0 kd = none) (e0 : Ex H0 H) (hkd : H kd = some (.dK [])) (kr : KRt K H0 rt kvs) (G : RtG rt) (nd : (rt.map (·.1)).Nodup)
    (k : ∀ y3 y5 H2 kes, Ex H0 H2 → H2 kd = some (.dK kes) → KKd rt kes → tz Dd [some (.ref ra), some o, some (.ref kd), y3, x4, y5, x6, x7] H2) :
    tSeq (tLock (tFor (iKeys (tVar 0)) (gName 3) (tSeq (tAsg (tDGet (tVar 0) (tVar 3)) (gName 5)) (tSeq (sDPut (tVar 2) (tVar 3) (tC (V.str (""))))
      (tIfS (tAnd (tB (tCB (rIsi K) (tCons (tVar 5) (tCons (tC (V.ty "tuple")) tNil)))) (tAnd (tTest (tOp rEq (tCB (rLenQ K) (tCons (tVar 5) tNil)) (tC (V.int 3)))) (tB (tCB (rIsi K) (tCons (tOp (rIxT K) (tVar 5) (tC (V.int 0))) (tCons (tC (V.ty "str")) tNil))))))
        (sDPut (tVar 2) (tVar 3) (tOp (rIxT K) (tVar 5) (tC (V.int 0)))) tNext))))) tz Dd [some (.ref ra), some o, some (.ref kd), x3, x4, x5, x6, x7] H := by
  have ha := e0 _ _ h0
  have hne : kd ≠ ra := fun z => by rw [z, h0] at hk0; cases hk0
  have lk := kr.len
  have nk : (kvs.map (·.1)).Nodup := by
    rw [kr.keys]
    exact List.Pairwise.map _ (fun a b hab z => hab (Sum.inr.inj z)) nd
  refine ⟨ra, .dK kvs, ha, trivial, fun od => ?_⟩
  obtain ⟨HL, hHL⟩ : ∃ HL, HL = upd H0 ra (.frz od (.dK kvs)) := ⟨_, rfl⟩
  have hLk : HL kd = none := by rw [hHL, upd_ne hne]; exact hk0
  have hLr : HL ra = some (.frz od (.dK kvs)) := by rw [hHL]; exact upd_same
  have eL : Ex HL (upd H ra (.frz od (.dK kvs))) := fun b u hb => by
    by_cases z : b = ra
    · rw [z] at hb ⊢
      rw [hLr] at hb
      rw [upd_same]
      exact hb
    · rw [upd_ne z]
      rw [hHL, upd_ne z] at hb
      exact e0 b u hb
  refine s_forG (wkg_keys (ev_var rfl) upd_same) (fun i σ' H' => ∃ y3 y5 kes, σ' = [some (.ref ra), some o, some (.ref kd), y3, x4, y5, x6, x7] ∧ Ex HL H' ∧ H' kd = some (.dK kes) ∧ KKd (rt.take i) kes)
    (fun H1 e1 _ => ⟨_, _, [], rfl, eL.trans e1, e1 _ _ (by rw [upd_ne hne]; exact hkd), .nil⟩) (fun i σ' H' _ ⟨_, _, _, _, q, _⟩ => q _ _ hLr) ?_ ?_
  · rintro i x σ' H1 H2 hi ⟨y3, y5, kes, rfl, e1, hk1, kk⟩ e2 ⟨ky, v, hkv, rfl⟩
    obtain ⟨p, hp, hq1, rv⟩ := paired_at kr hkv
    have ek : ky = Sum.inr p.1 := hq1
    subst ek
    have hpt : rt.take (i + 1) = rt.take i ++ [p] := by rw [List.take_add_one, hp]; rfl
    have hnone : valV kes (Sum.inr p.1 : Key) = none := by rw [kk.val p.1, lookup_take nd hp]; rfl
    have hval : valV kvs (Sum.inr p.1 : Key) = some v := valV_mem nk (p := (Sum.inr p.1, v)) (List.mem_of_getElem? hkv)
    have lkes : kes.length ≤ 64 := by
      have h1 := Paired.length kk
      have h2 := G.len
      rw [List.length_take] at h1
      omega
    have e12 := e1.trans e2
    have hk2 := e2 _ _ hk1
    have keepT : ∀ {b : Addr} {xs : List V} {H3 : Hp}, H0 b = some (.tup xs) → Ex HL H3 → H3 b = some (.tup xs) := fun {b xs H3} h e => e _ _ (by
      rw [hHL, upd_ne fun z => by rw [z, h0] at h; cases h]
      exact h)
    have tyv : ∀ {d : D} {v : V} {H3 : Hp}, Rp K H0 d v → Ex HL H3 → ∀ H4, Ex H3 H4 → TyX K H4 v (.type (tyD d)) := fun {d v H3} r e H4 e4 => ty_lock h0 r (by rw [← hHL]; exact e.trans e4)
    have fin : ∀ {H3 : Hp} {kx : Str} {y5 : Option V}, Ex HL H3 → H3 kd = some (.dK (kes ++ [(Sum.inr p.1, .str kx)])) → kx = kindOf p.2 → ∃ y3 y5' kes', ([some (.ref ra), some o, some (.ref kd), some (.str p.1), x4, y5, x6, x7] : L2.St) = [some (.ref ra), some o, some (.ref kd), y3, x4, y5', x6, x7] ∧ Ex HL H3 ∧ H3 kd = some (.dK kes') ∧ KKd (rt.take (i + 1)) kes' := fun {H3 kx y5} e h hx => ⟨_, _, _, rfl, e, h, by
      rw [hpt]
      exact Paired_snoc kk ⟨rfl, by rw [hx]⟩⟩
    refine q_asg (ev_dget (ev_var rfl) (ev_var rfl) (.inr ⟨od, e12 _ _ hLr⟩) hval) fun H3 e3 => ?_
    have e13 := e12.trans e3
    refine q_dputS (z := p.1) ev_c (ev_var rfl) (ev_var rfl) (e3 _ _ hk2) (by omega) fun H4 e4 => ?_
    have e14 := e13.trans e4
    rw [putK_new _ hnone]
    obtain ⟨H5, hH5⟩ : ∃ H5, H5 = upd H4 kd (.dK (kes ++ [((Sum.inr p.1 : Key), V.str "")])) := ⟨_, rfl⟩
    have e15 : Ex HL H5 := by rw [hH5]; exact Ex.mut e14 hLk
    have hk5 : H5 kd = some (.dK (kes ++ [((Sum.inr p.1 : Key), V.str "")])) := by rw [hH5]; exact upd_same
    rw [← hH5]
    cases h3 : (isTup p.2 && is3 p.2) with
    | false =>
      have q : kindOf p.2 = "" := by
        unfold kindOf
        split
        · rename_i h; rw [h] at h3; cases h3
        · rfl
      refine s_when (b := isTup p.2 && (is3 p.2 && false)) (et_and (et_B (ev_isiT (tyv rv e15) (ev_var rfl) (kit_tup p.2))) (fun ht => et_and ?_ fun hq => ?_)) (fun hb H6 e6 => ?_) (fun _ H6 e6 => ?_)
      · obtain ⟨ds, hds⟩ : ∃ ds, p.2 = .tup ds := by
          cases hd : p.2 <;> first | exact ⟨_, rfl⟩ | (rw [hd] at ht; cases ht)
        rw [hds] at rv
        obtain ⟨a, vs, rfl, hva, rs⟩ := rv.ofTup
        refine et_is (et_test (ev_op (ev_lenT (ev_var rfl) (st_of (keepT hva e15))) ev_c (rv_eq rfl))) ?_
        rw [hds]
        show decide (V.int _ = V.int 3) = decide _
        rw [rs.len]
        exact decide_eq_decide.mpr ⟨fun z => by injection z, fun z => by rw [z]⟩
      · rw [ht, hq] at h3
        cases h3
      · rw [Bool.and_false, Bool.and_false] at hb
        cases hb
      · exact fin (e15.trans e6) (e6 _ _ hk5) q.symm
    | true =>
      rw [Bool.and_eq_true] at h3
      obtain ⟨ht, h3⟩ := h3
      obtain ⟨ds, hds⟩ : ∃ ds, p.2 = .tup ds := by
        cases hd : p.2 <;> first | exact ⟨_, rfl⟩ | (rw [hd] at ht; cases ht)
      rw [hds] at h3
      obtain ⟨d0, d1, d2, rfl⟩ := is3_of h3
      have rv' := rv
      rw [hds] at rv'
      obtain ⟨a, vs, rfl, hva, rs⟩ := rv'.ofTup
      obtain ⟨v0, v1, v2, rfl, r0, r1, r2⟩ := rs.three
      have h00 : ∀ {H6 : Hp} {σ : L2.St}, Ex HL H6 → σ[5]? = some (some (.ref a)) → Ev (tOp (rIxT K) (tVar 5) (tC (.int 0))) σ H6 v0 := fun e h => ev_op (ev_var h) ev_c (rv_ixT (st_of (keepT hva e)) (atI_nat (j := 0) rfl))
      refine s_when (b := isStr d0) (et_is (et_and (et_B (ev_isiT (tyv rv e15) (ev_var rfl) (kit_tup p.2))) (fun _ => et_and (et_test (ev_op (ev_lenT (ev_var rfl) (st_of (keepT hva e15))) ev_c (rv_eq rfl))) fun _ => et_B (ev_isiT (tyv r0 e15) (h00 e15 rfl) (kit_str d0)))) ?_) (fun hb H6 e6 => ?_) (fun hb H6 e6 => ?_)
      · rw [hds]
        rfl
      · obtain ⟨kx, rfl⟩ : ∃ kx, d0 = .str kx := by cases d0 <;> first | exact ⟨_, rfl⟩ | cases hb
        cases r0
        have lk2 : (kes ++ [((Sum.inr p.1 : Key), V.str "")]).length < 16000000 := by rw [List.length_append]; show kes.length + 1 < _; omega
        refine s_dputS (z := p.1) (h00 (e15.trans e6) rfl) (ev_var rfl) (ev_var rfl) (e6 _ _ hk5) lk2 fun H7 e7 => ?_
        rw [putK_last hnone]
        exact fin (Ex.mut ((e15.trans e6).trans e7) hLk) upd_same (by rw [hds]; rfl)
      · refine fin (e15.trans e6) (e6 _ _ hk5) ?_
        rw [hds]
        cases d0 <;> first | rfl | cases hb
  · rintro σ' H1 ⟨y3, y5, kes, rfl, e1, hk1, kk⟩
    refine ⟨e1 _ _ hLr, ?_⟩
    rw [List.take_of_length_le (by omega)] at kk
    exact k _ _ _ kes (ex_unlock h0 (by rw [← hHL]; exact e1)) (by rw [upd_ne hne]; exact hk1) kk
end
end K2
/-! The law's due: the routines. -/
namespace K2
open PySem L2 Evl PySem.Spec PyProof.Rows RZ StX
/-- how deep the data of routines are, and how many params -/
def RtD (rt : Rt) : Prop := ∀ p ∈ rt, dpD p.2 ≤ 15 ∧ ∀ k ps b, p.2 = .tup [k, .tup ps, b] → ps.length ≤ 100
theorem kindOk_form {d : D} (h : kindOk (kindOf d) = true) : ∃ kx d1 d2, d = .tup [.str kx, d1, d2] ∧ kindOf d = kx := by
  unfold kindOf at h ⊢
  split at h
  · exact ⟨_, _, _, rfl, rfl⟩
  · exact absurd h (by decide +kernel)
theorem kind_routine {d : D} (h : kindOk (kindOf d) = false) : isRoutine d = false := by
  cases hr : isRoutine d with
  | false => rfl
  | true =>
    obtain ⟨kd, ps, b, rfl⟩ := rt_form hr
    have h1 : (kindOk kd && parOk ps) = true := hr
    have h2 : kindOk kd = false := h
    rw [h2] at h1
    cases h1
theorem kind_two {k : Str} (h : kindOk k = true) : (!decide (k = "plain")) = decide (k = "async") := by
  have h1 : (("async" == k) || (("plain" == k) || false)) = true := h
  rw [Bool.or_false, Bool.or_eq_true, beq_iff_eq, beq_iff_eq] at h1
  rcases h1 with h1 | h1 <;> (subst h1; decide +kernel)
section
variable {K : PySem.W.Frag} {H : Hp} {tz : TS} {Dd : Ends}
/-- the word alone is told -/
theorem s_wd {σ : L2.St} {wd : Str} (h : σ[3]? = some (some (.str wd))) (k : ∀ v H2, Ex H H2 → Rp K H2 (.tup [.str wd]) v → Dd.rt v H2) : tRet (tTup (tCons (tVar 3) tNil)) Dd σ H :=
  s_retP (evp_tup (eap_cons (evp_d (ev_var h) (Rp.str wd)) eap_nil) (by simp)) k
def tDueB (K : PySem.W.Frag) : TS :=
  tSeq (tAsg (tDGet (tVar 0) (tVar 3)) (gName 5)) (tSeq (tIfS (tOr (tTest (tOp (rIn K true) (tDGet (tVar 2) (tVar 3)) (tTup (tCons (tC (V.str ("async"))) (tCons (tC (V.str ("plain"))) tNil))))) (tOr (tNot (tB (tCB (rIsi K) (tCons (tOp (rIxT K) (tVar 5) (tC (V.int 1))) (tCons (tC (V.ty "tuple")) tNil))))) (tNot (tB (tCB (rIsi K) (tCons (tOp (rIxT K) (tVar 5) (tC (V.int 2))) (tCons (tC (V.ty "tuple")) tNil))))))) (tRet (tTup (tCons (tVar 3) tNil))) tNext)
    (tSeq (tIfS (tOr (tTest (tOp (rNeNil K) (tLc (iTup K (tOp (rIxT K) (tVar 5) (tC (V.int 1)))) (gName 7) (tOr (tNot (tB (tCall (spB1 K Sm isName) [] E0 (tCons (tVar 7) tNil)))) (tB (tM0 (fun x xs H Q => ∃ a, x = V.str a ∧ xs = [] ∧ True ∧ Q (V.bl (Txt.isupper a)) H) (tOp rIxS (tVar 7) (tC (V.int 0)))))) (tVar 7) [7]) (tLst tNil))) (tTest (tOp rLt (tLenSetT K (tOp (rIxT K) (tVar 5) (tC (V.int 1)))) (tCB (rLenQ K) (tCons (tOp (rIxT K) (tVar 5) (tC (V.int 1))) tNil))))) (tRet (tTup (tCons (tVar 3) tNil))) tNext)
    (tSeq (tAsg (tCall (spLBad K 13 14) [] E0 (tCons (tOp (rIxT K) (tVar 5) (tC (V.int 2))) (tCons (tTup (tCons (tVar 3) tNil)) (tCons (tOp rEq (tDGet (tVar 2) (tVar 3)) (tC (V.str ("plain")))) (tCons (tC (V.bl false)) (tCons (tVar 2) tNil)))))) (gName 6)) (tIfS (tTest (tOp rNotN (tVar 6) (tC V.non))) (tRet (tVar 6)) tNext))))
theorem due_body {ra kd : Addr} {o : V} {rt : Rt} {kvs kes : List (Key × V)} {wd : Str} {d : D} {x4 x5 x6 x7 : Option V} (ha : H ra = some (.dK kvs)) (hk : H kd = some (.dK kes)) (kr : KRt K H rt kvs) (kk : KKd rt kes) (hl : rt.lookup wd = some d) (sm : Sm d) (dp : dpD d ≤ 15) (pl : ∀ k ps b, d = .tup [k, .tup ps, b] → ps.length ≤ 100)
    (k1 : ∀ p v H2, wrongR rt wd = some p → Ex H H2 → Rp K H2 (.tup p) v → Dd.rt v H2) (k2 : ∀ H2 y5 y6, wrongR rt wd = none → Ex H H2 → Dd.nx [some (.ref ra), some o, some (.ref kd), some (.str wd), x4, y5, y6, x7] H2) :
    tDueB K Dd [some (.ref ra), some o, some (.ref kd), some (.str wd), x4, x5, x6, x7] H := by
  have hlook : lookD rt wd = d := by unfold lookD; rw [hl]; rfl
  have notR : isRoutine d = false → wrongR rt wd = some [.str wd] := fun h => by
    unfold wrongR
    rw [hlook, h]
    rfl
  have kval : valV kes (Sum.inr wd : Key) = some (.str (kindOf d)) := by rw [kk.val wd, hl]; rfl
  obtain ⟨v, hv, rv⟩ : ∃ v, valV kvs (Sum.inr wd : Key) = some v ∧ Rp K H d v := by
    rcases kr.val wd with ⟨q, _⟩ | ⟨d', v, q1, q2, rv⟩
    · rw [hl] at q; cases q
    · rw [hl] at q1
      cases q1
      exact ⟨v, q2, rv⟩
  unfold tDueB
  refine q_asg (ev_dget (ev_var rfl) (ev_var rfl) (.inl ha) hv) fun H1 e1 => ?_
  have hkind : ∀ {σ : L2.St} {H2 : Hp}, Ex H H2 → σ[2]? = some (some (.ref kd)) → σ[3]? = some (some (.str wd)) → Ev (tDGet (tVar 2) (tVar 3)) σ H2 (.str (kindOf d)) := fun e h2 h3 => ev_dget (ev_var h2) (ev_var h3) (.inl (e _ _ hk)) kval
  have hin : ∀ {σ : L2.St} {H2 : Hp}, Ex H H2 → σ[2]? = some (some (.ref kd)) → σ[3]? = some (some (.str wd)) → EvT (tTest (tOp (rIn K true) (tDGet (tVar 2) (tVar 3)) (tTup (tCons (tC (V.str ("async"))) (tCons (tC (V.str ("plain"))) tNil))))) σ H2 (!(kindOk (kindOf d))) := fun e h2 h3 =>
    et_test (ev_is (ev_niU (xs := (["async", "plain"] : List Str).map V.str) (hkind e h2 h3) (eu_tup (ea_cons ev_c (ea_cons ev_c ea_nil)) (by simp)) rfl rfl) (by rw [inV_strs]; rfl))
  cases hko : kindOk (kindOf d) with
  | false =>
    refine q_when (b := !false || true) (et_or (et_is (hin e1 rfl rfl) (by rw [hko])) fun h => (by cases h)) (fun _ H2 e2 => ?_) (fun h => nomatch h)
    exact s_wd rfl fun v H3 e3 r3 => k1 _ v H3 (notR (kind_routine hko)) ((e1.trans e2).trans e3) r3
  | true =>
    obtain ⟨kx, d1, d2, rfl, hkx⟩ := kindOk_form hko
    rw [hkx] at hko
    obtain ⟨a, vs, rfl, hva, rs⟩ := rv.ofTup
    obtain ⟨v0, v1, v2, rfl, r0, r1, r2⟩ := rs.three
    have h01 : ∀ {H6 : Hp} {σ : L2.St}, Ex H H6 → σ[5]? = some (some (.ref a)) → Ev (tOp (rIxT K) (tVar 5) (tC (.int 1))) σ H6 v1 := fun e h => ev_op (ev_var h) ev_c (rv_ixT (st_of (e _ _ hva)) (atI_nat (j := 1) rfl))
    have h02 : ∀ {H6 : Hp} {σ : L2.St}, Ex H H6 → σ[5]? = some (some (.ref a)) → Ev (tOp (rIxT K) (tVar 5) (tC (.int 2))) σ H6 v2 := fun e h => ev_op (ev_var h) ev_c (rv_ixT (st_of (e _ _ hva)) (atI_nat (j := 2) rfl))
    have hreq : isRoutine (.tup [.str kx, d1, d2]) = (headOk (.str kx) d2 && parD d1) := isRoutine_eq _ _ _
    refine q_when (b := !(kindOk kx) || (!(isTup d1) || !(isTup d2))) (et_or (et_is (hin e1 rfl rfl) (by rw [hkx])) fun _ => et_or (et_not (et_B (ev_isi (r1.mono e1) (h01 e1 rfl) (kit_tup d1)))) fun _ => et_not (et_B (ev_isi (r2.mono e1) (h02 e1 rfl) (kit_tup d2)))) (fun hb H2 e2 => ?_) (fun hb H2 e2 => ?_)
    · refine s_wd rfl fun v H3 e3 r3 => k1 _ v H3 (notR ?_) ((e1.trans e2).trans e3) r3
      rw [hko] at hb
      rw [hreq]
      cases d1 <;> cases d2 <;> first | (exact absurd (show false = true from hb) Bool.false_ne_true) | rfl | (simp [headOk, parD])
    · obtain ⟨ps, rfl⟩ : ∃ ps, d1 = .tup ps := by
        cases d1 <;> first | exact ⟨_, rfl⟩ | (rw [hko] at hb; cases hb)
      obtain ⟨b, rfl⟩ : ∃ b, d2 = .tup b := by
        cases d2 <;> first | exact ⟨_, rfl⟩ | (rw [hko] at hb; cases hb)
      have e12 := e1.trans e2
      have hreq2 : isRoutine (.tup [.str kx, .tup ps, .tup b]) = parOk ps := by
        show (kindOk kx && parOk ps) = _
        rw [hko, Bool.true_and]
      obtain ⟨pa, pvs, rfl, hpa, rps⟩ := r1.ofTup
      refine q_when (et_par (h01 e12 rfl) (e12 _ _ hpa) (rps.mono e12) (sm.item (i := 1) rfl) (pl _ _ _ rfl)) (fun hb2 H3 e3 => ?_) (fun hb2 H3 e3 => ?_)
      · rw [Bool.not_eq_true'] at hb2
        exact s_wd rfl fun v H4 e4 r4 => k1 _ v H4 (notR (by rw [hreq2]; exact hb2)) ((e12.trans e3).trans e4) r4
      · rw [Bool.not_eq_false'] at hb2
        have e13 := e12.trans e3
        have hw : wrongR rt wd = wrongAt rt (decide (kx = "async")) wd b := by
          unfold wrongR
          rw [hlook, hreq2, if_pos hb2]
        have dpb : dpL b ≤ 13 := by
          have h1 := dpL_mem (l := [.str kx, .tup ps, .tup b]) (d := .tup b) (by simp)
          have h2 : dpD (.tup [.str kx, .tup ps, .tup b]) = dpL [.str kx, .tup ps, .tup b] + 1 := rfl
          have h3 : dpD (.tup b) = dpL b + 1 := rfl
          omega
        have smb : Sm (.tup b) := sm.item (i := 2) rfl
        have hsz : szL b + 1 ≤ 39000 := smb
        have hpl : EvP (tCall (spLBad K 13 14) [] E0 (tCons (tOp (rIxT K) (tVar 5) (tC (V.int 2))) (tCons (tTup (tCons (tVar 3) tNil)) (tCons (tOp rEq (tDGet (tVar 2) (tVar 3)) (tC (V.str ("plain")))) (tCons (tC (V.bl false)) (tCons (tVar 2) tNil)))))) [some (.ref ra), some o, some (.ref kd), some (.str wd), x4, some (.ref a), x6, x7] H3 (PlR K (wrongR rt wd)) := fun H4 e4 Q q => by
          refine h02 (e13.trans e4) rfl H4 (Ex.refl _) _ fun H5 e5 => ?_
          refine (evp_tup (eap_cons (evp_d (ev_var rfl) (Rp.str wd)) eap_nil) (by simp) : EvP _ _ H5 (fun H1 v => Rp K H1 (.tup [.str wd]) v)) H5 (Ex.refl _) _ fun wv H6 e6 rw6 => ?_
          have e16 := ((e13.trans e4).trans e5).trans e6
          refine (ev_op (hkind e16 rfl rfl) ev_c (rv_eq rfl) : Ev _ _ H6 _) H6 (Ex.refl _) _ fun H7 e7 => ?_
          refine ⟨.ref kd, rfl, ?_⟩
          have e17 := e16.trans e7
          have hdd : decide (V.str (kindOf (.tup [.str kx, .tup ps, .tup b])) = V.str "plain") = decide (kx = "plain") := decide_eq_decide.mpr ⟨fun z => by injection z, fun z => by rw [← z]; rfl⟩
          refine ⟨b, [.str wd], v2, wv, decide (kx = "plain"), false, rt, .ref kd, by rw [hdd]; rfl, r2.mono e17, rw6.mono e7, smb, by omega, dpb, by simp, by show 1 + 4 * szL b ≤ 500000; omega, ⟨kd, kes, rfl, .inl (e17 _ _ hk), kk⟩, fun v8 H8 e8 hp8 => q v8 H8 (((e5.trans e6).trans e7).trans e8) ?_⟩
          rw [hw, ← kind_two hko]
          exact hp8
        refine q_asgP hpl fun fv H4 e4 hpv => ?_
        have e14 := e13.trans e4
        refine s_when (et_test (ev_op (ev_var rfl) ev_c rv_notN)) (fun hn H5 e5 => ?_) (fun hn H5 e5 => ?_)
        · rw [Bool.not_eq_true', decide_eq_false_iff_not] at hn
          cases hw2 : wrongR rt wd with
          | none => exact absurd (hpv.1 hw2) hn
          | some p => exact s_ret (ev_var rfl) fun H6 e6 => k1 p fv H6 hw2 ((e14.trans e5).trans e6) ((hpv.2 p hw2).mono (e5.trans e6))
        · rw [Bool.not_eq_false', decide_eq_true_eq] at hn
          cases hw2 : wrongR rt wd with
          | some p =>
            have := hpv.2 p hw2
            rw [hn] at this
            cases this
          | none => exact k2 H5 _ _ hw2 (e14.trans e5)
end
end K2
/-! The law's due. -/
namespace K2
open PySem L2 Evl PySem.Spec PyProof.Rows RZ StX
def spDue (K : PySem.W.Frag) : Sp := fun vs H Q _ => ∃ z o dd, vs = [z, o] ∧ Rp K H dd o ∧ Sm dd ∧ ArrAll dd ∧ ((∃ d, Rp K H d z ∧ isDct d = false ∧ ∀ v H2, Ex H H2 → PlR K (some []) H2 v → Q v H2) ∨
  ∃ rt ra kvs r, z = .ref ra ∧ H ra = some (.dK kvs) ∧ KRt K H rt kvs ∧ RtG rt ∧ RtD rt ∧ (rt.map (·.1)).Nodup ∧ (wordsOk rt = false → r = some []) ∧ (wordsOk rt = true → ∀ ys : List Str, ys.Perm (rt.map (·.1)) → sortedS ys = true → restR rt dd ys = r) ∧ ∀ v H2, Ex H H2 → PlR K r H2 v → Q v H2)
section
variable {P : Program} {w : World} {K : PySem.W.Frag} {mg : Str → Option Value} {base : Heap}
theorem sc53 : FnScope ["_law_routines", "_law_coming", "_law_kinds", "_law_word", "_law_k", "_law_row", "_law_found", "_law_x"] ["_law_routines", "_law_coming"] (defScope (top 53)) := ⟨rfl, rfl, rfl, by decide +kernel, rfl, by decide +kernel, by decide +kernel⟩
theorem ok_due (B : Bl mg) (F : Df K mg "_law_due" (top 53) ["_law_routines", "_law_coming"]) (O1 : Okd P w K mg base CX0 1 "_law_is_name" ["_law_thing"] (spB1 K Sm isName)) (O2 : Okd P w K mg base CX0 31 "_law_bad" ["_law_steps_here", "_law_place", "_law_is_plain", "_law_is_in", "_law_kinds"] (spLBad K 13 14))
    (O3 : Okd P w K mg base CX0 16 "_law_is_arrival" ["_law_coming", "_law_k"] (spLArr K)) : Okd P w K mg base CX0 32 "_law_due" ["_law_routines", "_law_coming"] (spDue K) := by
  refine F.ok sc53 (fun vs H Q E h => by obtain ⟨z, o, dd, rfl, _⟩ := h; rfl) (fun f cdv A outer s H vs Q E hr h => ?_)
  obtain ⟨z, o, dd, rfl, ro, smd, haa, h⟩ := h
  obtain ⟨f__law_is_name, d__law_is_name, m__law_is_name, k__law_is_name, b__law_is_name, G__law_is_name⟩ := O1.ex
  obtain ⟨f__law_bad, d__law_bad, m__law_bad, k__law_bad, b__law_bad, G__law_bad⟩ := O2.ex
  obtain ⟨f__law_is_arrival, d__law_is_arrival, m__law_is_arrival, k__law_is_arrival, b__law_is_arrival, G__law_is_arrival⟩ := O3.ex
  have hu := hu_of hr
  have hu1 : (A.deeper (envOfC "_law_due" (defScope (top 53)) s.heap.objs.size f cdv)).units < cLine := Nat.lt_of_succ_lt hu
  refine ⟨_, (pss_cons (ps_if (pt_not (pt_val (pe_callB call_isi (by rfl) B.isinstance boot_isinstance (pa_cons (pv 0) (pa_cons (pe_bltn (v := .ty "dict") (by rfl) B.dict boot_dict rfl) pa_nil))))) (pss_one (ps_ret (pe_tup pa_nil))) pss_nil)
      (pss_cons (ps_if (pt_cmpR (op_neNil hu1) (pe_lock (pe_lc (own := [("_law_word", 3)]) (g := gName 3) rfl sc53.nd (pi_keys (pv 0)) (blkOk_by (N := ["_law_routines", "_law_coming", "_law_kinds", "_law_word", "_law_k", "_law_row", "_law_found", "_law_x"]) (sc := defScope (top 53)) (by decide +kernel)) (fun _ _ _ _ _ => (pg_name (i := 3) sc53.nd rfl (Or.inl rfl))) (fun _ _ _ _ _ => (pts_one (PW.pt (pw_or (pt_not (pt_val (pe_call G__law_is_name (hr.mono (by first | decide | omega)) (by rfl) m__law_is_name k__law_is_name b__law_is_name .nil pass0 (pa_cons (pv 3) pa_nil)))) (pw_or1 (pt_cmpR op_ne (pv 3) (pe_lower (pv 3)) (nomark _))))))) (fun _ _ _ _ _ => (pv 3)))) (pe_lst pa_nil) (nomark _)) (pss_one (ps_ret (pe_tup pa_nil))) pss_nil)
      (pss_cons (ps_set (i := 2) sc53.nd rfl (Or.inl rfl) pe_dnewK)
      (pss_cons (ps_lock (ps_for PassesOwn.never rfl (pi_keys (pv 0)) (pg_name (i := 3) sc53.nd rfl (Or.inl rfl)) (pss_cons (ps_set (i := 5) sc53.nd rfl (Or.inl rfl) (pe_dget hu (pv 0) (pv 3) (fun _ _ => rfl)))
      (pss_cons (ps_dput hu (pv 2) (pv 3) pe_str rfl)
      (pss_one (ps_if (PW.pt (pw_and (pt_val (pe_callB call_isi (by rfl) B.isinstance boot_isinstance (pa_cons (pv 5) (pa_cons (pe_bltn (v := .ty "tuple") (by rfl) B.tuple boot_tuple rfl) pa_nil)))) (pw_and (pt_cmpR op_eq (pe_callB call_lenQ (by rfl) B.len PySem.boot_len (pa_cons (pv 5) pa_nil)) pe_int (nomark _)) (pw_and1 (pt_val (pe_callB call_isi (by rfl) B.isinstance boot_isinstance (pa_cons (pe_ix ix_tup (pv 5) pe_int (fun _ _ => rfl)) (pa_cons (pe_bltn (v := .ty "str") (by rfl) B.str boot_str rfl) pa_nil)))))))) (pss_one (ps_dput hu (pv 2) (pv 3) (pe_ix ix_tup (pv 5) pe_int (fun _ _ => rfl)) rfl)) pss_nil))))))
      (pss_cons (ps_for PassesOwn.never rfl (pi_list (pe_callB (call_sortD rfl) (by rfl) B.sorted boot_sorted (pa_cons (pv 0) pa_nil))) (pg_name (i := 3) sc53.nd rfl (Or.inl rfl)) (pss_cons (ps_set (i := 5) sc53.nd rfl (Or.inl rfl) (pe_dget hu (pv 0) (pv 3) (fun _ _ => rfl)))
      (pss_cons (ps_if (PW.pt (pw_or (pt_cmpR op_notIn_seq (pe_dget hu (pv 2) (pv 3) (fun _ _ => rfl)) (pe_tup (pa_cons pe_str (pa_cons pe_str pa_nil))) rfl) (pw_or (pt_not (pt_val (pe_callB call_isi (by rfl) B.isinstance boot_isinstance (pa_cons (pe_ix ix_tup (pv 5) pe_int (fun _ _ => rfl)) (pa_cons (pe_bltn (v := .ty "tuple") (by rfl) B.tuple boot_tuple rfl) pa_nil))))) (pw_or1 (pt_not (pt_val (pe_callB call_isi (by rfl) B.isinstance boot_isinstance (pa_cons (pe_ix ix_tup (pv 5) pe_int (fun _ _ => rfl)) (pa_cons (pe_bltn (v := .ty "tuple") (by rfl) B.tuple boot_tuple rfl) pa_nil))))))))) (pss_one (ps_ret (pe_tup (pa_cons (pv 3) pa_nil)))) pss_nil)
      (pss_cons (ps_if (PW.pt (pw_or (pt_cmpR (op_neNil hu1) (pe_lc (own := [("_law_x", 7)]) (g := gName 7) rfl sc53.nd (pi_tup (pe_ix ix_tup (pv 5) pe_int (fun _ _ => rfl))) (blkOk_by (N := ["_law_routines", "_law_coming", "_law_kinds", "_law_word", "_law_k", "_law_row", "_law_found", "_law_x"]) (sc := defScope (top 53)) (by decide +kernel)) (fun _ _ _ _ _ => (pg_name (i := 7) sc53.nd rfl (Or.inl rfl))) (fun _ _ _ _ _ => (pts_one (PW.pt (pw_or (pt_not (pt_val (pe_call G__law_is_name (hr.mono (by first | decide | omega)) (by rfl) m__law_is_name k__law_is_name b__law_is_name .nil pass0 (pa_cons (pv 7) pa_nil)))) (pw_or1 (pt_val (pe_m0 PySem.F.slot_str_isupper PySem.F.type_str_isupper mt_isupper (pe_ix ix_str (pv 7) pe_int (fun _ _ => rfl))))))))) (fun _ _ _ _ _ => (pv 7))) (pe_lst pa_nil) (nomark _)) (pw_or1 (pt_cmpR op_lt2 (pe_lenSetT rfl (by rfl) B.len (by rfl) B.set (pe_ix ix_tup (pv 5) pe_int (fun _ _ => rfl))) (pe_callB call_lenQ (by rfl) B.len PySem.boot_len (pa_cons (pe_ix ix_tup (pv 5) pe_int (fun _ _ => rfl)) pa_nil)) (nomark _))))) (pss_one (ps_ret (pe_tup (pa_cons (pv 3) pa_nil)))) pss_nil)
      (pss_cons (ps_set (i := 6) sc53.nd rfl (Or.inl rfl) (pe_call G__law_bad (hr.mono (by first | decide | omega)) (by rfl) m__law_bad k__law_bad b__law_bad .nil pass0 (pa_cons (pe_ix ix_tup (pv 5) pe_int (fun _ _ => rfl)) (pa_cons (pe_tup (pa_cons (pv 3) pa_nil)) (pa_cons (pe_cmpR op_eq (pe_dget hu (pv 2) (pv 3) (fun _ _ => rfl)) pe_str (nomark _)) (pa_cons pe_bl (pa_cons (pv 2) pa_nil)))))))
      (pss_one (ps_if (pt_cmpR op_notN1 (pv 6) pe_non (nomark _)) (pss_one (ps_ret (pv 6))) pss_nil)))))))
      (pss_cons (ps_if (pt_not (pt_val (pe_callB call_isi (by rfl) B.isinstance boot_isinstance (pa_cons (pv 1) (pa_cons (pe_bltn (v := .ty "tuple") (by rfl) B.tuple boot_tuple rfl) pa_nil))))) (pss_one (ps_ret (pe_tup (pa_cons pe_str pa_nil)))) pss_nil)
      (pss_cons (ps_for PassesOwn.never rfl (pi_range1 (by rfl) B.range (pa_cons (pe_callB call_lenQ (by rfl) B.len PySem.boot_len (pa_cons (pv 1) pa_nil)) pa_nil)) (pg_name (i := 4) sc53.nd rfl (Or.inl rfl)) (pss_one (ps_if (pt_not (pt_val (pe_call G__law_is_arrival (hr.mono (by first | decide | omega)) (by rfl) m__law_is_arrival k__law_is_arrival b__law_is_arrival .nil pass0 (pa_cons (pv 1) (pa_cons (pv 4) pa_nil))))) (pss_one (ps_ret (pe_tup (pa_cons pe_str (pa_cons (pv 4) pa_nil))))) pss_nil)))
      (pss_one (ps_ret pe_non))))))))), ?_⟩
  rcases h with ⟨d, rd, hd, k⟩ | ⟨rt, ra, kvs, r, rfl, hra, kr, G, RD, nd, hw0, hw1, k⟩
  · refine q_when (et_not (et_B (ev_isi rd (ev_var rfl) (kit_dct d)))) (fun _ H1 e1 => ?_) (fun hb => by rw [hd] at hb; cases hb)
    exact s_retP (evp_tup eap_nil (by simp)) fun v H2 e2 rv => k v H2 (e1.trans e2) (plr_some rfl rv)
  · refine q_when (et_not (et_B (ev_isi (d := .dct) (Rp.dct hra) (ev_var rfl) (kit_dct .dct)))) (fun hb => nomatch hb) (fun _ H1 e1 => ?_)
    refine q_when (et_words (e1 _ _ hra) (kr.mono (Ew.of e1)) G) (fun hb H2 e2 => ?_) (fun hb H2 e2 => ?_)
    · rw [Bool.not_eq_true'] at hb
      exact s_retP (evp_tup eap_nil (by simp)) fun v H3 e3 rv => k v H3 ((e1.trans e2).trans e3) (plr_some (hw0 hb) rv)
    · rw [Bool.not_eq_false'] at hb
      have e02 := e1.trans e2
      refine fun kd nk => ?_
      have ha2 := e02 _ _ hra
      have kr2 := kr.mono (Ew.of e02)
      have eN : Ex H2 (upd H2 kd (.dK [])) := Ex.new nk
      refine kinds_loop (H0 := H2) (H := upd H2 kd (.dK [])) (kvs := kvs) ha2 nk eN upd_same kr2 G nd fun y3 y5 H3 kes e3 hk3 kk => ?_
      have e03 := e02.trans e3
      refine q_forBindL (el_sortD (ev_var rfl) (.inl (e03 _ _ hra)) kr.keys (by rw [List.length_map]; exact G.len)) fun p xs H4 np e4 hp ⟨ys, hperm, hs, hx⟩ => ?_
      subst hx
      have hr := hw1 hb ys hperm hs
      have e04 := e03.trans e4
      refine q_forG (wkg_lst ev_c hp) (fun i σ' H' => ∃ y3 y5 y6, σ' = [some (.ref ra), some o, some (.ref kd), y3, none, y5, y6, none] ∧ Ex H4 H' ∧ firstR rt ys = firstR rt (ys.drop i))
        (fun H5 e5 _ => ⟨_, _, _, rfl, e5, rfl⟩) (fun i σ' H' _ ⟨_, _, _, _, q, _⟩ => sq_of (q _ _ hp)) ?_ ?_
      · rintro i x σ' H5 H6 hi ⟨z3, z5, z6, rfl, e5, hf⟩ e6 hx
        rw [List.getElem?_map] at hx
        cases hw : ys[i]? with
        | none => rw [hw] at hx; cases hx
        | some wd =>
          rw [hw] at hx
          cases hx
          have hdr : ys.drop i = wd :: ys.drop (i + 1) := by
            have hl : i < ys.length := (List.getElem?_eq_some_iff.mp hw).1
            rw [List.drop_eq_getElem_cons hl]
            have : ys[i] = wd := (List.getElem?_eq_some_iff.mp hw).2
            rw [this]
          rw [hdr] at hf
          obtain ⟨d, hl, hdm⟩ := lookup_some (hperm.subset (List.mem_of_getElem? hw))
          have e46 := e5.trans e6
          have e06 := e04.trans e46
          refine due_body (o := o) (e06 _ _ hra) ((e4.trans e46) _ _ hk3) (kr.mono (Ew.of e06)) kk hl (G.vs _ hdm) (RD _ hdm).1 (RD _ hdm).2 (fun p v H7 hwr e7 rv => ?_) (fun H7 y5 y6 hwr e7 => ?_)
          · have hf' : firstR rt ys = some p := by rw [hf]; unfold firstR; rw [hwr]
            refine k v H7 (e06.trans e7) (plr_some ?_ rv)
            rw [← hr]
            unfold restR
            rw [hf']
          · refine ⟨_, _, _, rfl, e46.trans e7, ?_⟩
            rw [hf]
            show firstR rt (wd :: _) = _
            rw [firstR, hwr]
      · rintro σ' H5 ⟨z3, z5, z6, rfl, e5, hf⟩
        rw [List.length_map, List.drop_length] at hf
        have e05 := e04.trans e5
        have hr2 : r = outsideR dd := by
          rw [← hr]
          unfold restR
          rw [hf]
          rfl
        exact due_out (ro.mono e05) smd haa fun v H6 e6 hp6 => k v H6 (e05.trans e6) (by rw [hr2]; exact hp6)
end
end K2
/-! xs[::-1]. -/
namespace K2
open PySem L2 Evl PySem.Spec PyProof.Rows RZ StX
/-- a list the other way round: a new list -/
def tBack (K : PySem.W.Frag) (te : TE) (ts : TO) : TE := fun σ H Q => te σ H fun x H1 => ts σ H1 fun k H2 => k = some (-1) ∧ ∃ a xs, x = .ref a ∧ SqL K H2 a xs ∧ ∀ q, H2 q = none → Q (.ref q) (upd H2 q (.lst xs.reverse))
section
variable {X : Cx} {e es : Expr} {te : TE} {ts : TO} {pos p2 : Pos}
theorem pe_back (he : PE X e te) (hs : PO X (some es) ts) : PE X (.Subscript e (.Slice none none (some es) p2) pos) (tBack X.K te ts) := by
  refine ⟨fun pins s σ H Q I h => Subscript_ (thn (he.run pins s σ H _ I h) fun v s1 ⟨x, H1, I1, r1, q1⟩ => wpAny_Slice ?_)⟩
  rw [evalPart_none]
  refine wpAny_pure (wpAny_pure (thn (hs.run pins s1 σ H1 _ I1 q1) fun vk s2 ⟨k, H2, I2, pk, hk, a, xs, ex, hx, q⟩ => ?_))
  subst hk ex
  obtain rfl : v = Value.ref a := r1
  obtain ⟨sl, hsl⟩ : ∃ sl : Obj, sl = { cls := .type "slice", data := .fields #[Value.none, Value.none, vk] } := ⟨_, rfl⟩
  have I3 : Inv X pins σ H2 { s2 with heap := s2.heap.push sl } := I2.kept (t' := s2.toks) fun b o g => Heap.get?_push_of_some _ g
  obtain ⟨its, r, hl, hz⟩ := I3.list hx
  have is : ({ s2 with heap := s2.heap.push sl } : Shared).heap.IsSliceOf s2.heap.objs.size .none .none vk := by rw [hsl]; exact Heap.IsSliceOf.new ..
  rw [← hsl]
  show wpAny (model X.prog X.w) X.A (subscriptTail e (.Slice none none (some es) p2) (.ref a) (.ref s2.heap.objs.size)) (EP X pins σ Q) X.xe { s2 with heap := s2.heap.push sl }
  have hg : wpAny (model X.prog X.w) X.A (getItem (.ref a) (.ref s2.heap.objs.size)) (EP X pins σ Q) X.xe { s2 with heap := s2.heap.push sl } := by
    refine wpAny_getItem_list_slice hl.isList is .none .none pk (by decide) ?_ (by rw [List.size_toArray, ← r.length]; exact hz)
    rw [PySem.W.krv_pick]
    refine ⟨.ref _, _, I3.laid (t' := s2.toks) (o := .lst xs.reverse) (fun b o g => Heap.get?_push_of_some _ g) (Nat.le_refl _) ?_, rfl, q _ (I3.hok.fresh (Nat.le_refl _))⟩
    exact ⟨by rw [List.length_reverse]; exact hz, _, 0, Vals.reverse r, Heap.get?_push_size _ rfl⟩
  exact tail_any (ops := [.ref a, .ref s2.heap.objs.size]) hl.isList.typeIs slot_list_getitem.lookup hg (by with_unfolding_all rfl)
end
end K2
/-! What a place is like; sorted texts. -/
namespace K2
open PySem L2 Evl PySem.Spec PyProof.Rows RZ StX
def okI : D → Bool
  | .int _ => true
  | .str s => PyData.strOk s
  | _ => false
def plOk (pl : List D) : Bool := pl.all okI
theorem plOk_app (a b : List D) : plOk (a ++ b) = (plOk a && plOk b) := by unfold plOk; rw [List.all_append]
theorem way_ok {word : Str} {parts way st : List D} (h : D.tup [.tup way, .tup st] ∈ innerB word parts) : plOk way = true := by
  unfold innerB inn at h
  rw [List.mem_flatMap] at h
  obtain ⟨i, _, hi⟩ := h
  unfold innAt at hi
  split at hi
  · unfold innOf at hi
    split at hi
    · rename_i d _ _ _
      have e : D.tup [.tup way, .tup st] = D.tup [D.tup [D.int (1 + (i : Int))], d] := by simpa using hi
      injection e with e
      injection e with e _
      injection e with e
      rw [e]
      rfl
    · split at hi
      · split at hi
        · unfold hItems at hi
          rw [List.mem_flatMap] at hi
          obtain ⟨r, _, hr⟩ := hi
          unfold hItem at hr
          split at hr
          · rename_i hh hhr
            have e : D.tup [.tup way, .tup st] = D.tup [D.tup [D.int (1 + (i : Int)), D.int (r : Int), D.int 2], third hh] := by simpa using hr
            injection e with e
            injection e with e _
            injection e with e
            rw [e]
            rfl
          · simp at hr
        · simp at hi
      · simp at hi
  · simp at hi
def plIt (l : List It3) : Prop := ∀ c ∈ l, plOk c.place = true
theorem kidsN_ok {place way steps : List D} {il : Bool} {n : Nat} (hp : plOk place = true) (hw : plOk way = true) : plIt (kidsN place way il steps n) := fun c hc => by
  unfold kidsN at hc
  rw [List.mem_flatMap] at hc
  obtain ⟨i, _, hi⟩ := hc
  unfold kid at hi
  split at hi
  · rw [List.mem_singleton] at hi
    rw [hi]
    show plOk (place ++ (way ++ [D.int (i : Int)])) = true
    rw [plOk_app, plOk_app, hp, hw]
    rfl
  · cases hi
theorem childs_ok {place : List D} {il : Bool} {d : D} (hp : plOk place = true) : plIt (childs place il d) := fun c hc => by
  unfold childs at hc
  split at hc
  · unfold chil at hc
    rw [List.mem_flatMap] at hc
    obtain ⟨i, _, hi⟩ := hc
    split at hi
    · rename_i p hpi
      have hm := List.mem_of_getElem? hpi
      unfold kids at hi
      split at hi
      · exact kidsN_ok hp (way_ok hm) c hi
      · cases hi
    · cases hi
  · cases hc
theorem bad_ok {rt : Rt} {async : Bool} : ∀ (n : Nat) (l : List It3) (pl : List D), plIt l → bad rt async n l = some pl → plOk pl = true
  | 0, _, _, _, h => nomatch h
  | _ + 1, [], _, _, h => nomatch h
  | n + 1, i :: rest, pl, hl, h => by
    unfold bad at h
    split at h
    · refine bad_ok n _ pl (fun c hc => ?_) h
      rcases List.mem_append.mp hc with hc | hc
      · exact childs_ok (hl i (by simp)) c hc
      · exact hl c (List.mem_cons_of_mem _ hc)
    · cases h
      exact hl i (by simp)
theorem wrongR_ok {rt : Rt} {x : Str} {pl : List D} (hx : PyData.strOk x = true) (h : wrongR rt x = some pl) : plOk pl = true := by
  have h1 : plOk [D.str x] = true := by show (PyData.strOk x && true) = true; rw [hx]; rfl
  unfold wrongR at h
  split at h
  · split at h
    · unfold wrongAt firstBad at h
      exact bad_ok _ _ _ (kidsN_ok h1 rfl) h
    · cases h
  · cases h
    exact h1
theorem firstR_ok {rt : Rt} : ∀ {ys : List Str} {pl : List D}, (∀ y ∈ ys, PyData.strOk y = true) → firstR rt ys = some pl → plOk pl = true
  | [], _, _, h => nomatch h
  | y :: ys, pl, hy, h => by
    unfold firstR at h
    split at h
    · rename_i p hp
      cases h
      exact wrongR_ok (hy y (by simp)) hp
    · exact firstR_ok (fun z hz => hy z (List.mem_cons_of_mem _ hz)) h
theorem out_ok : PyData.strOk "outside" = true := by decide +kernel
theorem firstA_ok : ∀ {l : List D} {m : Int} {i : Nat} {pl : List D}, firstA m i l = some pl → plOk pl = true
  | [], _, _, _, h => nomatch h
  | d :: l, m, i, pl, h => by
    unfold firstA at h
    split at h
    · exact firstA_ok h
    · cases h
      show (PyData.strOk "outside" && true) = true
      rw [out_ok]
      rfl
theorem restR_ok {rt : Rt} {dd : D} {ys : List Str} {pl : List D} (hy : ∀ y ∈ ys, PyData.strOk y = true) (h : restR rt dd ys = some pl) : plOk pl = true := by
  unfold restR at h
  split at h
  · rename_i p hp
    cases h
    exact firstR_ok hy hp
  · unfold outsideR at h
    split at h
    · exact firstA_ok h
    · cases h
      show (PyData.strOk "outside" && true) = true
      rw [out_ok]
      rfl
def pyI : D → PyData
  | .int i => .int i
  | .str s => .str s
  | _ => .none
section
variable {K : PySem.W.Frag} {H : Hp}
theorem dpl : ∀ {pl : List D} {vs : List V}, plOk pl = true → Rps K H pl vs → DpAll K H vs (pl.map pyI)
  | [], _, _, .nil => .nil
  | d :: pl, _, h, .cons r t => by
    have h' : (okI d && plOk pl) = true := h
    rw [Bool.and_eq_true] at h'
    refine .cons ?_ (dpl h'.2 t)
    cases d with
    | int i => cases r; exact .int i
    | str s => cases r; exact .str s
    | _ => cases h'.1
theorem dp_place {pl : List D} {v : V} (h : plOk pl = true) (r : Rp K H (.tup pl) v) : Dp K H v (.tuple (pl.map pyI)) := by
  obtain ⟨a, vs, rfl, ha, rs⟩ := r.ofTup
  exact .tup (st_of ha) (dpl h rs)
end
theorem lay_all : ∀ {pl : List D}, plOk pl = true → PyData.canLayAll0 (pl.map pyI) = true ∧ PyData.depthAll (pl.map pyI) = 0
  | [], _ => ⟨rfl, rfl⟩
  | d :: pl, h => by
    have h' : (okI d && plOk pl) = true := h
    rw [Bool.and_eq_true] at h'
    obtain ⟨h1, h2⟩ := lay_all h'.2
    rw [List.map_cons]
    cases d with
    | int i => exact ⟨by simp [PyData.canLayAll0, PyData.canLay0, pyI, h1], by simp [PyData.depthAll, PyData.depth, pyI, h2]⟩
    | str s =>
      have hs : PyData.strOk s = true := h'.1
      exact ⟨by simp [PyData.canLayAll0, PyData.canLay0, pyI, h1, hs], by simp [PyData.depthAll, PyData.depth, pyI, h2]⟩
    | _ => cases h'.1
theorem place_lay {pl : List D} (h : plOk pl = true) : (PyData.tuple (pl.map pyI)).canLay0 = true := by
  simp [PyData.canLay0, (lay_all h).1]
theorem place_shaped {pl : List D} (h : plOk pl = true) : SeqAt.shaped (.tuple (pl.map pyI)) = true := by
  simp [SeqAt.shaped, PyData.canLay0, PyData.depth, (lay_all h).1, (lay_all h).2]
theorem place_eq {pl : List D} (h : plOk pl = true) : PyData.eqv (.tuple (pl.map pyI)) (.tuple (pl.map pyI)) = true := SeqAt.eqv_refl _ (place_lay h)
end K2
/-! Sorted texts are told by what they hold; an entry put into a dict of routines. -/
namespace K2
open PySem L2 Evl PySem.Spec PyProof.Rows RZ StX
def leS (a b : Str) : Prop := ¬ (b.cps.toList < a.cps.toList)
theorem leS_anti {a b : Str} (h1 : leS a b) (h2 : leS b a) : a = b := ext_cps (List.le_antisymm h1 h2)
theorem leS_trans {a b c : Str} (h1 : leS a b) (h2 : leS b c) : leS a c := List.le_trans (α := Nat) h1 h2
theorem rising_pw : ∀ (l : List Str) (p : Str), risingS p l = true → (p :: l).Pairwise leS
  | [], p, _ => .cons (by simp) .nil
  | x :: r, p, h => by
    have h' : (!ltCps x.cps.toList p.cps.toList && risingS x r) = true := h
    rw [Bool.and_eq_true, ltCps_eq, Bool.not_eq_true', decide_eq_false_iff_not] at h'
    have ih := rising_pw r x h'.2
    refine .cons (fun y hy => ?_) ih
    rcases List.mem_cons.mp hy with hy | hy
    · rw [hy]; exact h'.1
    · exact leS_trans h'.1 ((List.pairwise_cons.mp ih).1 y hy)
theorem sorted_pw : ∀ {l : List Str}, sortedS l = true → l.Pairwise leS
  | [], _ => .nil
  | x :: r, h => rising_pw r x h
theorem pw_uniq : ∀ {l m : List Str}, l.Pairwise leS → m.Pairwise leS → l.Perm m → l = m
  | [], m, _, _, h => (List.nil_perm.mp h).symm
  | y :: l, [], _, _, h => absurd h.length_eq (by simp)
  | y :: l, z :: m, h1, h2, h => by
    obtain ⟨a1, b1⟩ := List.pairwise_cons.mp h1
    obtain ⟨a2, b2⟩ := List.pairwise_cons.mp h2
    have e : y = z := by
      rcases List.mem_cons.mp (h.subset (List.mem_cons_self (a := y) (l := l))) with q | q
      · exact q
      · rcases List.mem_cons.mp (h.symm.subset (List.mem_cons_self (a := z) (l := m))) with q2 | q2
        · exact q2.symm
        · exact leS_anti (a1 z q2) (a2 y q)
    subst e
    rw [pw_uniq b1 b2 (List.Perm.cons_inv h)]
theorem sorted_uniq {l m k : List Str} (h1 : sortedS l = true) (h2 : sortedS m = true) (p1 : l.Perm k) (p2 : m.Perm k) : l = m := pw_uniq (sorted_pw h1) (sorted_pw h2) (p1.trans p2.symm)
/-- what the program's check and the law tell, however it is sorted -/
theorem rest_uniq (rt : Rt) (dd : D) : ∃ r : Option (List D), (wordsOk rt = false → r = some []) ∧ (wordsOk rt = true → ∀ ys : List Str, ys.Perm (rt.map (·.1)) → sortedS ys = true → restR rt dd ys = r) ∧
    (∀ pl, r = some pl → (∀ p ∈ rt, PyData.strOk p.1 = true) → plOk pl = true) ∧ (r = none → ∃ ds, dd = .tup ds) := by
  cases hw : wordsOk rt with
  | false => exact ⟨some [], fun _ => rfl, (fun h => nomatch h), fun pl h _ => by cases h; rfl, (fun h => nomatch h)⟩
  | true =>
    by_cases he : ∃ ys : List Str, ys.Perm (rt.map (·.1)) ∧ sortedS ys = true
    · obtain ⟨ys, h1, h2⟩ := he
      refine ⟨restR rt dd ys, (fun h => nomatch h), fun _ zs h3 h4 => by rw [sorted_uniq h4 h2 h3 h1], fun pl h hk => restR_ok (fun y hy => ?_) h, fun h => ?_⟩
      · obtain ⟨p, hp, rfl⟩ := List.mem_map.mp (h1.subset hy)
        exact hk p hp
      · unfold restR at h
        split at h
        · cases h
        · unfold outsideR at h
          split at h
          · exact ⟨_, rfl⟩
          · cases h
    · exact ⟨some [], (fun h => nomatch h), fun _ ys h1 h2 => absurd ⟨ys, h1, h2⟩ he, fun pl h _ => by cases h; rfl, (fun h => nomatch h)⟩
/-- an entry put into routines -/
def putR (rt : Rt) (x : Str) (d : D) : Rt := if (rt.any fun p => decide (p.1 = x)) = true then rt.map (fun p => if p.1 = x then (p.1, d) else p) else rt ++ [(x, d)]
theorem putR_len (rt : Rt) (x : Str) (d : D) : (putR rt x d).length ≤ rt.length + 1 := by
  unfold putR
  split <;> simp
theorem putR_mem {rt : Rt} {x : Str} {d : D} {p : Str × D} (h : p ∈ putR rt x d) : p ∈ rt ∨ p = (x, d) := by
  unfold putR at h
  split at h
  · obtain ⟨q, hq, rfl⟩ := List.mem_map.mp h
    by_cases e : q.1 = x
    · rw [if_pos e, e]
      exact .inr rfl
    · rw [if_neg e]
      exact .inl hq
  · rcases List.mem_append.mp h with h | h
    · exact .inl h
    · exact .inr (List.mem_singleton.mp h)
theorem putR_nd {rt : Rt} {x : Str} {d : D} (h : (rt.map (·.1)).Nodup) : ((putR rt x d).map (·.1)).Nodup := by
  unfold putR
  split
  · rw [List.map_map]
    have e : ((fun p : Str × D => p.1) ∘ fun p => if p.1 = x then (p.1, d) else p) = fun p => p.1 := by
      funext p
      show (if p.1 = x then (p.1, d) else p).1 = p.1
      split <;> rfl
    rw [e]
    exact h
  · rename_i hn
    rw [List.map_append, List.nodup_append]
    refine ⟨h, by simp, fun a ha b hb z => ?_⟩
    obtain ⟨p, hp, rfl⟩ := List.mem_map.mp ha
    rw [List.map_cons, List.map_nil, List.mem_singleton] at hb
    refine hn (List.any_eq_true.mpr ⟨p, hp, ?_⟩)
    rw [decide_eq_true_iff, z, hb]
theorem krt_any {K : PySem.W.Frag} {H : Hp} {x : Str} : ∀ {rt : Rt} {kvs : List (Key × V)}, KRt K H rt kvs → (kvs.any fun q => decide (q.1 = (Sum.inr x : Key))) = rt.any fun p => decide (p.1 = x)
  | _, _, .nil => rfl
  | p :: rt, q :: kvs, .cons h t => by
    rw [List.any_cons, List.any_cons, krt_any t]
    congr 1
    have h1 : q.1 = Sum.inr p.1 := h.1
    rw [h1, Bool.eq_iff_iff, decide_eq_true_iff, decide_eq_true_iff]
    exact ⟨fun z => Sum.inr.inj z, fun z => by rw [z]⟩
theorem krt_map {K : PySem.W.Frag} {H : Hp} {x : Str} {d : D} {v : V} (r : Rp K H d v) : ∀ {rt : Rt} {kvs : List (Key × V)}, KRt K H rt kvs → KRt K H (rt.map fun p => if p.1 = x then (p.1, d) else p) (kvs.map fun q => if q.1 = (Sum.inr x : Key) then (q.1, v) else q)
  | _, _, .nil => .nil
  | p :: rt, q :: kvs, .cons h t => by
    have h1 : q.1 = Sum.inr p.1 := h.1
    rw [List.map_cons, List.map_cons]
    refine .cons ?_ (krt_map r t)
    by_cases e : p.1 = x
    · rw [if_pos e, if_pos (by rw [h1, e])]
      exact ⟨h1, r⟩
    · rw [if_neg e, if_neg fun z => e (by rw [h1] at z; exact Sum.inr.inj z)]
      exact h
theorem krt_put {K : PySem.W.Frag} {H : Hp} {rt : Rt} {kvs : List (Key × V)} {x : Str} {d : D} {v : V} (kr : KRt K H rt kvs) (r : Rp K H d v) : KRt K H (putR rt x d) (putK kvs (Sum.inr x : Key) v) := by
  unfold putR putK
  rw [krt_any kr]
  split
  · exact krt_map r kr
  · exact Paired_snoc kr ⟨rfl, r⟩
/-- what an entry is like -/
structure EnOk (p : Str × D) : Prop where
  ks : Sm (.str p.1)
  ok : PyData.strOk p.1 = true
  vs : Sm p.2
  dp : dpD p.2 ≤ 15
  ps : ∀ k ps b, p.2 = .tup [k, .tup ps, b] → ps.length ≤ 100
  kd : ∀ k q b, p.2 = .tup [k, q, b] → (∃ s, k = .str s) ∨ ∃ i, k = .int i
theorem lookup_of {x : Str} {d : D} : ∀ {rt : Rt}, rt.lookup x = some d → (x, d) ∈ rt
  | [], h => nomatch h
  | (y, e) :: rt, h => by
    rw [List.lookup_cons] at h
    split at h
    · rename_i he
      cases h
      rw [beq_iff_eq.mp he]
      exact List.mem_cons_self
    · exact List.mem_cons_of_mem _ (lookup_of h)
theorem rtg_of {rt : Rt} (h : ∀ p ∈ rt, EnOk p) (hl : rt.length < 64) : RtG rt := ⟨fun x k q b hx => (h _ (lookup_of hx)).kd k q b rfl, hl, fun p hp => (h p hp).ks, fun p hp => (h p hp).vs⟩
theorem rtd_of {rt : Rt} (h : ∀ p ∈ rt, EnOk p) : RtD rt := fun p hp => ⟨(h p hp).dp, (h p hp).ps⟩
end K2
/-! law: the routines are drawn. -/
namespace K2
open PySem L2 Evl PySem.Spec PyProof.Rows RZ StX
/-- a well and a dict of routines, all that stood before stands -/
structure RS (K : PySem.W.Frag) (HB H : Hp) (wa rd : Addr) (z : Nat) (rt : Rt) (kvs : List (Key × V)) : Prop where
  ex : Ex HB H
  wl : Wl wa H z
  dc : H rd = some (.dK kvs)
  kr : KRt K H rt kvs
  nw : HB wa = none
  nr : HB rd = none
  ne : rd ≠ wa
theorem RS.kw {K : PySem.W.Frag} {HB H H2 : Hp} {wa rd : Addr} {z z2 : Nat} {rt : Rt} {kvs : List (Key × V)} (s : RS K HB H wa rd z rt kvs) (k : Kw wa H H2) (w2 : Wl wa H2 z2) : RS K HB H2 wa rd z2 rt kvs :=
  ⟨(fun b u hb => k b u (s.ex b u hb) fun e => by rw [e, s.nw] at hb; cases hb), w2, k _ _ s.dc s.ne, s.kr.mono (k.ew s.wl w2), s.nw, s.nr, s.ne⟩
theorem RS.go {K : PySem.W.Frag} {HB H H2 : Hp} {wa rd : Addr} {z : Nat} {rt : Rt} {kvs : List (Key × V)} (s : RS K HB H wa rd z rt kvs) (e : Ex H H2) : RS K HB H2 wa rd z rt kvs := s.kw (Kw.of e) (s.wl.ex e)
theorem RS.put {K : PySem.W.Frag} {HB H : Hp} {wa rd : Addr} {z : Nat} {rt : Rt} {kvs : List (Key × V)} (s : RS K HB H wa rd z rt kvs) {x : Str} {d : D} {v : V} (r : Rp K H d v) : RS K HB (L2.upd H rd (.dK (putK kvs (Sum.inr x : Key) v))) wa rd z (putR rt x d) (putK kvs (Sum.inr x : Key) v) :=
  ⟨Ex.mut s.ex s.nr, s.wl.updN s.ne, upd_same, (krt_put s.kr r).mono (Ew.dK s.dc), s.nw, s.nr, s.ne⟩
def threeL : List (Str × Str) := [("main", "async"), ("pl", "plain"), ("two", "async")]
def TW (H : Hp) (x : V) : Prop := ∃ t w k, x = .ref t ∧ H t = some (.tup [.str w, .str k]) ∧ (w, k) ∈ threeL
theorem TW.ew {H H2 : Hp} {x : V} (e : Ew H H2) (h : TW H x) : TW H2 x := by
  obtain ⟨t, w, k, h1, h2, h3⟩ := h
  exact ⟨t, w, k, h1, (e t).1 _ h2, h3⟩
/-- a list of such, of at most three -/
def TL (H : Hp) (x : V) : Prop := ∃ q ys, x = .ref q ∧ H q = some (.lst ys) ∧ ys.length ≤ 3 ∧ ∀ y ∈ ys, TW H y
theorem Rps.mem {K : PySem.W.Frag} {H : Hp} {ds : List D} {vs : List V} {v : V} (r : Rps K H ds vs) (h : v ∈ vs) : ∃ d ∈ ds, Rp K H d v := by
  obtain ⟨i, hi⟩ := List.getElem?_of_mem h
  obtain ⟨d, h1, h2⟩ := r.at_ hi
  exact ⟨d, List.mem_of_getElem? h1, h2⟩
section
variable {K : PySem.W.Frag} {σ : L2.St} {H : Hp} {ta tb te t1 t2 : TE} {tz tbd : TS} {Dd : Ends} {g : TG}
theorem elp_lstR {tl : TA} {ds : List D} (h : EvAP tl σ H (fun H1 vs => Rps K H1 ds vs)) (hl : ds.length ≤ 100) : EvLP (tLst tl) σ H (fun H1 vs => Rps K H1 ds vs) := fun H1 e Q q =>
  h H1 e _ fun vs H2 e2 r => ⟨sz_of (by rw [r.len]; omega), fun p hp => q p vs _ (fresh_back e2 hp) (e2.trans (Ex.new hp)) upd_same (r.mono (Ex.new hp))⟩
theorem elp_rep {ds : List D} {n : Int} (h : EvLP ta σ H (fun H1 vs => Rps K H1 ds vs)) (hn : ∀ H1, Ev tb σ H1 (.int n)) (h0 : 0 ≤ n) (h1 : n ≤ 100) (hl : ds.length ≤ 100) : EvLP (tOp rRep ta tb) σ H (fun H1 vs => Rps K H1 (List.replicate n.toNat ds).flatten vs) := fun H1 e Q q =>
  h H1 e _ fun p xs H2 np e2 hp r => hn H2 H2 (Ex.refl _) _ fun H3 e3 => by
    have hx := r.len
    refine ⟨p, n, xs, rfl, rfl, e3 _ _ hp, by omega, by omega, ?_, fun u nu => q u _ _ (fresh_back (e2.trans e3) nu) ((e2.trans e3).trans (Ex.new nu)) upd_same ((r.mono (e3.trans (Ex.new nu))).repl _)⟩
    have : xs.length * n.toNat ≤ 100 * 100 := Nat.mul_le_mul (by omega) (by omega)
    exact sz_of (by omega)
theorem elp_cat2 {ds es : List D} (ha : EvLP ta σ H (fun H1 vs => Rps K H1 ds vs)) (hb : ∀ H1, Ex H H1 → EvLP tb σ H1 (fun H1 vs => Rps K H1 es vs)) (hl : ds.length + es.length ≤ 1000) : EvLP (tOp rCat ta tb) σ H (fun H1 vs => Rps K H1 (ds ++ es) vs) := fun H1 e Q q =>
  ha H1 e _ fun p xs H2 np e2 hp r => hb H2 (e.trans e2) H2 (Ex.refl _) _ fun p2 ys H3 np2 e3 hp2 r2 => by
    have hx := r.len
    have hy := r2.len
    exact ⟨p, p2, xs, ys, rfl, rfl, e3 _ _ hp, hp2, sz_of (by omega), fun u nu => q u _ _ (fresh_back (e2.trans e3) nu) ((e2.trans e3).trans (Ex.new nu)) upd_same ((r.mono (e3.trans (Ex.new nu))).app (r2.mono (Ex.new nu)))⟩
theorem q_asgPickP {x : V} {i : Nat} {Pl : Hp → List V → Prop} (h1 : Ev t1 σ H x) (h2 : ∀ H1, Ex H H1 → EvLP t2 σ H1 Pl) (k : ∀ p xs H1, H p = none → Ex H H1 → H1 p = some (.lst xs) → Pl H1 xs → spPick K ([x, .ref p] ++ []) H1 (fun v H2 => tz Dd (σ.set i (some v)) H2) E0) :
    tSeq (tAsg (tCall (spPick K) [] E0 (tCons t1 (tCons t2 tNil))) (gName i)) tz Dd σ H := h1 H (Ex.refl H) _ fun H1 e1 => h2 H1 e1 H1 (Ex.refl _) _ fun p xs H2 np e2 hp pl => k p xs H2 (fresh_back e1 np) (e1.trans e2) hp pl
theorem q_forPick {x : V} {Pl : Hp → List V → Prop} (h1 : Ev t1 σ H x) (h2 : ∀ H1, Ex H H1 → EvLP t2 σ H1 Pl) (k : ∀ p xs H1, H p = none → Ex H H1 → H1 p = some (.lst xs) → Pl H1 xs → spPick K ([x, .ref p] ++ []) H1 (fun v H2 => tSeq (tFor (iList K (tC v)) g tbd) tz Dd σ H2) E0) :
    tSeq (tFor (iList K (tCall (spPick K) [] E0 (tCons t1 (tCons t2 tNil)))) g tbd) tz Dd σ H := h1 H (Ex.refl H) _ fun H1 e1 => h2 H1 e1 H1 (Ex.refl _) _ fun p xs H2 np e2 hp pl => k p xs H2 (fresh_back e1 np) (e1.trans e2) hp pl
/-- [some, some[::-1], some[1:] + some[:1]] -/
theorem elp_three {sp : Addr} {y0 y1 y2 : V} (h5 : σ[5]? = some (some (.ref sp))) (hs : H sp = some (.lst [y0, y1, y2])) (tw : ∀ y ∈ [y0, y1, y2], TW H y) :
    EvLP (tLst (tCons (tVar 5) (tCons (tBack K (tVar 5) (tPart (tUn (rU fun i => V.int (-i)) (tC (V.int 1))))) (tCons (tOp rCat (tSl (rSlL K) (tVar 5) (tPart (tC (V.int 1))) tNoPart) (tSl (rSlL K) (tVar 5) tNoPart (tPart (tC (V.int 1))))) tNil)))) σ H (fun H1 xs => xs ≠ [] ∧ xs.length ≤ 3 ∧ ∀ x ∈ xs, TL H1 x) := fun H1 e Q q => by
  have tw0 := tw y0 (by simp)
  have tw1 := tw y1 (by simp)
  have tw2 := tw y2 (by simp)
  refine ⟨.ref sp, h5, .ref sp, h5, ?_⟩
  refine (eo_some (ev_un ev_c ru_neg) : EvO _ σ H1 (some (-1))) H1 (Ex.refl _) _ fun H2 e2 => ⟨rfl, sp, [y0, y1, y2], rfl, sq_of ((e.trans e2) _ _ hs), fun b nb => ?_⟩
  have e3 : Ex H2 (upd H2 b (.lst [y2, y1, y0])) := Ex.new nb
  have hb : (upd H2 b (.lst [y2, y1, y0])) b = some (.lst [y2, y1, y0]) := upd_same
  show tOp rCat _ _ σ (upd H2 b (.lst [y2, y1, y0])) _
  generalize upd H2 b (.lst [y2, y1, y0]) = H3 at e3 hb
  have e03 := (e.trans e2).trans e3
  refine (el_sl (ev_var h5) (eo_some ev_c) eo_none (sq_of (e03 _ _ hs)) : EvL _ σ H3 (cutV [y0, y1, y2] (some 1) none)) H3 (Ex.refl _) _ fun c1 H4 nc1 e4 hc1 => ?_
  refine (el_sl (ev_var h5) eo_none (eo_some ev_c) (sq_of ((e03.trans e4) _ _ hs)) : EvL _ σ H4 (cutV [y0, y1, y2] none (some 1))) H4 (Ex.refl _) _ fun c2 H5 nc2 e5 hc2 => ?_
  refine ⟨c1, c2, _, _, rfl, rfl, e5 _ _ hc1, hc2, sz_of (show 2 + 1 ≤ 100000 by decide), fun c nc => ?_⟩
  have e6 : Ex H5 (upd H5 c (.lst (cutV [y0, y1, y2] (some 1) none ++ cutV [y0, y1, y2] none (some 1)))) := Ex.new nc
  have hc : (upd H5 c (.lst (cutV [y0, y1, y2] (some 1) none ++ cutV [y0, y1, y2] none (some 1)))) c = some (.lst [y1, y2, y0]) := upd_same
  refine ⟨sz_of (by simp), fun l nl => ?_⟩
  generalize upd H5 c (.lst (cutV [y0, y1, y2] (some 1) none ++ cutV [y0, y1, y2] none (some 1))) = H6 at *
  have e7 : Ex H6 (upd H6 l (.lst [.ref sp, .ref b, .ref c])) := Ex.new nl
  have e36 := (e4.trans e5).trans e6
  have e07 := (e03.trans e36).trans e7
  refine q l _ _ (fresh_back ((e2.trans e3).trans e36) nl) ((e2.trans e3).trans (e36.trans e7)) upd_same ⟨by simp, by simp, fun x hx => ?_⟩
  have w := Ew.of e07
  rcases List.mem_cons.mp hx with rfl | hx
  · exact ⟨sp, _, rfl, e07 _ _ hs, by simp, fun y hy => (tw y hy).ew w⟩
  · rcases List.mem_cons.mp hx with rfl | hx
    · refine ⟨b, _, rfl, (e36.trans e7) _ _ hb, by simp, fun y hy => ?_⟩
      simp only [List.mem_cons, List.not_mem_nil, or_false] at hy
      rcases hy with rfl | rfl | rfl
      · exact tw2.ew w
      · exact tw1.ew w
      · exact tw0.ew w
    · rw [List.mem_singleton] at hx
      subst hx
      refine ⟨c, _, rfl, e7 _ _ hc, by simp, fun y hy => ?_⟩
      simp only [List.mem_cons, List.not_mem_nil, or_false] at hy
      rcases hy with rfl | rfl | rfl
      · exact tw1.ew w
      · exact tw2.ew w
      · exact tw0.ew w
end
end K2
/-! law: a routine is drawn. -/
namespace K2
open PySem L2 Evl PySem.Spec PyProof.Rows RZ StX
def prmL : List D := (List.replicate (2 : Int).toNat [(D.tup []), (D.tup [(D.str "a")]), (D.tup [(D.str "a"), (D.str "b")]), (D.tup [(D.str "a"), (D.str "b")]), (D.tup [])]).flatten ++ [(D.tup [(D.str "a"), (D.str "a")]), (D.tup [(D.str "A")]), D.lst, (D.tup [(D.int 5)])]
theorem prm_ok : (prmL.all fun d => decide (szD d ≤ 10) && decide (dpD d ≤ 2)) = true := by decide +kernel
theorem three_ok : (threeL.all fun p => decide (szD (.str p.1) ≤ 10) && decide (szD (.str p.2) ≤ 10) && PyData.strOk p.1) = true := by decide +kernel
theorem bW2 : bW 2 = 11006 := by decide +kernel
theorem bD2 : bD 2 = 13 := by decide +kernel
theorem zS2 : zS 2 = 1151 := by decide +kernel
theorem en_row {wd kd : Str} {kx ps : D} {steps : List D} (h3 : (wd, kd) ∈ threeL) (hk : kx ∈ [D.str kd, D.str "Async", D.int 5]) (hp : ps ∈ prmL) (h1 : szL steps ≤ 3 * bW 2) (h2 : dpL steps ≤ bD 2) : EnOk (wd, .tup [kx, ps, .tup steps]) := by
  have ht := List.all_eq_true.mp three_ok _ h3
  have hq := List.all_eq_true.mp prm_ok _ hp
  simp only [Bool.and_eq_true, decide_eq_true_eq] at ht hq
  obtain ⟨⟨t1, t2⟩, t3⟩ := ht
  obtain ⟨q1, q2⟩ := hq
  rw [bW2] at h1
  rw [bD2] at h2
  have hkx : szD kx ≤ 10 ∧ dpD kx = 0 ∧ ((∃ s, kx = .str s) ∨ ∃ i, kx = .int i) := by
    simp only [List.mem_cons, List.not_mem_nil, or_false] at hk
    rcases hk with rfl | rfl | rfl
    · exact ⟨t2, rfl, .inl ⟨_, rfl⟩⟩
    · exact ⟨by decide +kernel, rfl, .inl ⟨_, rfl⟩⟩
    · exact ⟨by decide, rfl, .inr ⟨_, rfl⟩⟩
  obtain ⟨k1, k2, k3⟩ := hkx
  refine ⟨?_, t3, ?_, ?_, fun k l b e => ?_, fun k l b e => ?_⟩
  · show szD (.str wd) ≤ 39000
    omega
  · show szL [kx, ps, .tup steps] + 1 ≤ 39000
    have : szL [kx, ps, .tup steps] = szD kx + (szD ps + ((szL steps + 1) + 0)) := rfl
    omega
  · show dpL [kx, ps, .tup steps] + 1 ≤ 15
    have : dpL [kx, ps, .tup steps] = max (dpD kx) (max (dpD ps) (max (dpL steps + 1) 0)) := rfl
    omega
  · have e2 : ps = .tup l := by
      injection e with e
      injection e with _ e
      injection e
    rw [e2] at q1
    have h4 : szD (.tup l) = szL l + 1 := rfl
    have h5 := szL_len l
    omega
  · have e2 : kx = k := by
      injection e with e
      injection e
    rw [← e2]
    exact k3
section
variable {K : PySem.W.Frag} {Dd : Ends}
theorem rout_body {HB H : Hp} {a wa rd : Addr} {z : Nat} {rt : Rt} {kvs : List (Key × V)} {m : Int} {wd kd : Str} {x1 x5 x6 x7 x8 x9 x10 x11 x14 x15 : Option V} (s : RS K HB H wa rd z rt kvs) (hz : z ≤ 700000) (h3 : (wd, kd) ∈ threeL) (hl : kvs.length ≤ 60)
    (k : ∀ H2 z2 d y5 y13 kvs2, RS K HB H2 wa rd z2 (putR rt wd d) kvs2 → z2 ≤ z + 3460 → EnOk (wd, d) → (∀ q u, q ≠ wa → q ≠ rd → H q = some u → H2 q = some u) → Dd.nx [some (.ref a), x1, some (.ref wa), some (.int m), some (.ref rd), y5, x6, x7, x8, x9, x10, x11, some (.str wd), y13, x14, x15] H2) :
    tSeq (tAsg (tCall (spPick K) [] E0 (tCons (tVar 2) (tCons (tOp rCat (tOp rRep (tLst (tCons (tVar 13) tNil)) (tC (V.int 9))) (tLst (tCons (tC (V.str "Async")) (tCons (tC (V.int 5)) tNil)))) tNil))) (gName 13))
      (tSeq (tAsg (tOp rCat (tOp rRep (tLst (tCons (tTup tNil) (tCons (tTup (tCons (tC (V.str "a")) tNil)) (tCons (tTup (tCons (tC (V.str "a")) (tCons (tC (V.str "b")) tNil))) (tCons (tTup (tCons (tC (V.str "a")) (tCons (tC (V.str "b")) tNil))) (tCons (tTup tNil) tNil)))))) (tC (V.int 2)))
        (tLst (tCons (tTup (tCons (tC (V.str "a")) (tCons (tC (V.str "a")) tNil))) (tCons (tTup (tCons (tC (V.str "A")) tNil)) (tCons (tLst (tCons (tC (V.str "a")) tNil)) (tCons (tTup (tCons (tC (V.int 5)) tNil)) tNil)))))) (gName 5))
      (sDPut (tVar 4) (tVar 12) (tTup (tCons (tVar 13) (tCons (tCall (spPick K) [] E0 (tCons (tVar 2) (tCons (tVar 5) tNil))) (tCons (tCall (spStp K 3) [] E0 (tCons (tVar 2) (tCons (tC (V.int 2)) (tCons (tVar 3) tNil)))) tNil)))))) Dd
      [some (.ref a), x1, some (.ref wa), some (.int m), some (.ref rd), x5, x6, x7, x8, x9, x10, x11, some (.str wd), some (.str kd), x14, x15] H := by
  have keep0 : ∀ {H2 : Hp}, Kw wa H H2 → ∀ q u, q ≠ wa → q ≠ rd → H q = some u → H2 q = some u := fun kw q u h1 _ h => kw _ _ h h1
  refine q_asgPickP (ev_var rfl) (fun H1 _ => elp_cat2 (K := K) (elp_rep (elp_lstR (ds := [D.str kd]) (eap_cons (evp_d (ev_var rfl) (Rp.str kd)) eap_nil) (by simp)) (fun _ => ev_c) (by decide) (by decide) (by simp)) (fun _ _ => elp_lstR (ds := [D.str "Async", D.int 5]) (eap_cons (evp_d ev_c (Rp.str "Async")) (eap_cons (evp_d ev_c (Rp.int 5)) eap_nil)) (by simp)) (by simp)) fun p xs H1 np e1 hp rx => ?_
  have s1 := s.go e1
  have lx := rx.len
  refine ⟨wa, p, xs, z, rfl, s1.wl, by omega, wl_ne s.wl np, .inl hp, fun h => ?_, by rw [lx]; simp, fun kv z2 H2 hx hz2 k2 wl2 => ?_⟩
  · rw [h] at lx
    simp at lx
  obtain ⟨kx, hkx, rk1⟩ := rx.mem hx
  have hkx' : kx ∈ [D.str kd, D.str "Async", D.int 5] := by
    rcases List.mem_append.mp hkx with h | h
    · rw [List.mem_flatten] at h
      obtain ⟨l, h1, h2⟩ := h
      rw [(List.mem_replicate.mp h1).2] at h2
      rw [List.mem_singleton.mp h2]
      simp
    · exact List.mem_cons_of_mem _ h
  have s2 := s1.kw k2 wl2
  have rk2 : Rp K H2 kx kv := rk1.ew (k2.ew s1.wl wl2)
  refine q_asgLP (elp_cat2 (K := K) (elp_rep (elp_lstR (ds := [(D.tup []), (D.tup [(D.str "a")]), (D.tup [(D.str "a"), (D.str "b")]), (D.tup [(D.str "a"), (D.str "b")]), (D.tup [])]) (eap_cons (evp_tup eap_nil (by simp)) (eap_cons (evp_tup (eap_cons (evp_d ev_c (Rp.str "a")) eap_nil) (by simp)) (eap_cons (evp_tup (eap_cons (evp_d ev_c (Rp.str "a")) (eap_cons (evp_d ev_c (Rp.str "b")) eap_nil)) (by simp)) (eap_cons (evp_tup (eap_cons (evp_d ev_c (Rp.str "a")) (eap_cons (evp_d ev_c (Rp.str "b")) eap_nil)) (by simp)) (eap_cons (evp_tup eap_nil (by simp)) eap_nil))))) (by simp)) (fun _ => ev_c) (by decide) (by decide) (by simp))
    (fun _ _ => elp_lstR (ds := [(D.tup [(D.str "a"), (D.str "a")]), (D.tup [(D.str "A")]), D.lst, (D.tup [(D.int 5)])]) (eap_cons (evp_tup (eap_cons (evp_d ev_c (Rp.str "a")) (eap_cons (evp_d ev_c (Rp.str "a")) eap_nil)) (by simp)) (eap_cons (evp_tup (eap_cons (evp_d ev_c (Rp.str "A")) eap_nil) (by simp)) (eap_cons (evp_lstA (eap_cons (evp_d ev_c (Rp.str "a")) eap_nil) (by simp)) (eap_cons (evp_tup (eap_cons (evp_d ev_c (Rp.int 5)) eap_nil) (by simp)) eap_nil)))) (by simp)) (by simp)) fun p5 xs5 H3 np5 e3 hp5 rx5 => ?_
  have s3 := s2.go e3
  have rx5' : Rps K H3 prmL xs5 := rx5
  have lx5 := rx5'.len
  refine ⟨kv, rfl, ?_⟩
  show tCall (spPick K) [] E0 (tCons (tVar 2) (tCons (tVar 5) tNil)) _ H3 _
  refine raw_call (ea_cons (ev_var rfl) (ea_cons (ev_var rfl) ea_nil)) fun H4 e4 => ⟨wa, p5, xs5, z2, rfl, (s3.go e4).wl, by omega, wl_ne s2.wl np5, .inl (e4 _ _ hp5), fun h => ?_, by rw [lx5]; decide, fun pv z5 H5 hpv hz5 k5 wl5 => ?_⟩
  · rw [h] at lx5
    simp [prmL] at lx5
  obtain ⟨ps, hps, rp4⟩ := (rx5'.mono e4).mem hpv
  have s4 := s3.go e4
  have s5 := s4.kw k5 wl5
  have rp5 := rp4.ew (k5.ew s4.wl wl5)
  have k25 : Kw wa H2 H5 := (Kw.of (e3.trans e4)).trans k5
  show tCall (spStp K 3) [] E0 (tCons (tVar 2) (tCons (tC (V.int 2)) (tCons (tVar 3) tNil))) _ H5 _
  refine raw_call (ea_cons (ev_var rfl) (ea_cons ev_c (ea_cons (ev_var rfl) ea_nil))) fun H6 e6 => ⟨wa, 2, m, z5, rfl, (s5.go e6).wl, by rw [zS2]; omega, by decide, fun sv z7 H7 k7 wl7 hz7 g => ?_⟩
  have s6 := s5.go e6
  have s7 := s6.kw k7 wl7
  have k57 : Kw wa H5 H7 := (Kw.of e6).trans k7
  obtain ⟨steps, rst, g1, g2⟩ := g
  have rk7 := (rk2.ew (k25.ew s2.wl s5.wl)).ew (k57.ew s5.wl s7.wl)
  have rp7 := rp5.ew (k57.ew s5.wl s7.wl)
  refine ⟨sz_of (by simp), fun t nt => ?_⟩
  have e8 : Ex H7 (L2.upd H7 t (.tup [kv, pv, sv])) := Ex.new nt
  have rr : Rp K (L2.upd H7 t (.tup [kv, pv, sv])) (.tup [kx, ps, .tup steps]) (.ref t) := .tup upd_same (.cons (rk7.mono e8) (.cons (rp7.mono e8) (.cons (rst.mono e8) .nil)))
  have s8 := s7.go e8
  have hkl := s8.kr.len
  refine ⟨.ref rd, rfl, .str wd, rfl, rd, _, rfl, DPut.k (k := Sum.inr wd) s8.dc (Nat.lt_of_lt_of_le (by omega : kvs.length < 100) (by decide)), ?_⟩
  have s9 := s8.put (x := wd) rr
  rw [zS2] at hz7
  refine k _ z7 _ _ _ _ s9 (by omega) (en_row h3 hkx' hps g1 g2) fun q u h1 h2 h => ?_
  rw [upd_ne h2]
  exact e8 _ _ (k57 _ _ (k25 _ _ (k2 _ _ (e1 _ _ h) h1) h1) h1)
end
end K2
/-! law: an odd entry, what arrives, what is given. -/
namespace K2
open PySem L2 Evl PySem.Spec PyProof.Rows RZ StX
def oddE : List (Str × D) := [("Up", .int 5), ("pl", .int 5), (repS "x" (21 : Int).toNat, .tup []), ("two", .tup [.str "async", .tup []]), ("main", .tup [.str "async", .tup [], .lst])]
theorem odd_sz : (oddE.all fun p => decide (szD (.str p.1) ≤ 100) && PyData.strOk p.1 && decide (szD p.2 ≤ 100) && decide (dpD p.2 ≤ 5)) = true := by decide +kernel
theorem oddE_ok : ∀ p ∈ oddE, EnOk p := fun p hp => by
  have h := List.all_eq_true.mp odd_sz p hp
  simp only [Bool.and_eq_true, decide_eq_true_eq] at h
  obtain ⟨⟨⟨h1, h2⟩, h3⟩, h4⟩ := h
  refine ⟨?_, h2, ?_, by omega, fun k ps b e => ?_, fun k q b e => ?_⟩
  · show szD (.str p.1) ≤ 39000
    omega
  · show szD p.2 ≤ 39000
    omega
  · rw [e] at h3
    have h5 : szD (.tup [k, .tup ps, b]) = (szD k + ((szL ps + 1) + (szD b + 0))) + 1 := rfl
    have h6 := szL_len ps
    omega
  · simp only [oddE, List.mem_cons, List.not_mem_nil, or_false] at hp
    rcases hp with rfl | rfl | rfl | rfl | rfl
    · cases e
    · cases e
    · cases e
    · cases e
    · injection e with e
      injection e with e _
      exact .inl ⟨_, e.symm⟩
def comA : List D := [(D.tup []), (D.tup []), (D.tup []), (D.tup [(D.tup [(D.int 0), (D.str "a"), (D.int 1)]), (D.tup [(D.int 0), (D.str "b"), (D.tup [D.non, (D.str "x")])]), (D.tup [(D.int 7), (D.str "a"), (D.bl true)])]), D.lst, (D.tup [(D.tup [(D.int 3), (D.str "a"), (D.int 1)]), (D.tup [(D.int 2), (D.str "a"), (D.int 1)])])]
def comB : List D := [(D.tup [(D.tup [(D.int 0), (D.str "A"), (D.int 1)])]), (D.tup [(D.tup [(D.int (-1)), (D.str "a"), (D.int 1)])]), (D.tup [(D.tup [(D.int 0), (D.str "a")])]), (D.tup [(D.tup [(D.int 0), (D.str "a"), (D.str "@x")])]), (D.tup [(D.tup [(D.bl true), (D.str "a"), (D.int 1)])]), (D.tup [(D.int 5)])]
def comL : List D := comA ++ comB
theorem com_sz : (comL.all fun d => decide (szD d ≤ 100) && decide (dpD d ≤ 5)) = true := by decide +kernel
theorem com_sm {d : D} (h : d ∈ comL) : Sm d := by
  have h1 := List.all_eq_true.mp com_sz d h
  simp only [Bool.and_eq_true, decide_eq_true_eq] at h1
  show szD d ≤ 39000
  omega
def valB : D → Bool
  | .int i => decide (i = 1)
  | .bl b => b
  | .str s => decide (s = "@x")
  | .tup [.non, .str s] => decide (s = "x")
  | _ => false
theorem valB_ok {c : D} (h : valB c = true) : valOk c := by
  unfold valB at h
  split at h
  · exact .inl (by rw [of_decide_eq_true h])
  · exact .inr (.inl (by rw [h]))
  · exact .inr (.inr (.inl (by rw [of_decide_eq_true h])))
  · exact .inr (.inr (.inr (by rw [of_decide_eq_true h])))
  · cases h
def arrB : D → Bool
  | .tup [_, .str _, c] => valB c
  | .tup [_, _, _] => false
  | _ => true
theorem arrB_ok {d : D} (h : arrB d = true) : arrOk d := fun i b c e => by
  subst e
  unfold arrB at h
  split at h
  · rename_i e
    injection e with e
    injection e with _ e
    injection e with e1 e
    injection e with e2 _
    subst e1 e2
    exact ⟨valB_ok h, _, rfl⟩
  · cases h
  · rename_i h1 h2
    exact absurd rfl (h2 _ _ _)
def comOk : D → Bool
  | .tup ds => decide (dpL ds ≤ 13) && ds.all arrB
  | _ => true
theorem com_all : (comL.all comOk) = true := by decide +kernel
theorem com_arr {d : D} (h : d ∈ comL) : ArrAll d := fun ds e => by
  have h1 := List.all_eq_true.mp com_all d h
  subst e
  have h2 : (decide (dpL ds ≤ 13) && ds.all arrB) = true := h1
  rw [Bool.and_eq_true, decide_eq_true_eq] at h2
  exact ⟨h2.1, fun x hx => arrB_ok (List.all_eq_true.mp h2.2 x hx)⟩
section
variable {K : PySem.W.Frag} {Dd : Ends} {tz : TS}
theorem law_odd {HB H : Hp} {a wa rd : Addr} {z : Nat} {rt : Rt} {kvs : List (Key × V)} {m : Int} {x1 x5 x6 x7 x8 x9 x10 x11 x12 x13 x14 x15 : Option V} (s : RS K HB H wa rd z rt kvs) (hz : z ≤ 800000) (he : ∀ p ∈ rt, EnOk p) (nd : (rt.map (·.1)).Nodup) (hl : rt.length ≤ 10)
    (k : ∀ H2 z2 rt2 kvs2 y6 y7, RS K HB H2 wa rd z2 rt2 kvs2 → z2 ≤ z + 1 → (∀ p ∈ rt2, EnOk p) → (rt2.map (·.1)).Nodup → rt2.length ≤ rt.length + 1 → tz Dd [some (.ref a), x1, some (.ref wa), some (.int m), some (.ref rd), x5, y6, y7, x8, x9, x10, x11, x12, x13, x14, x15] H2) :
    tSeq (tAsg (tCall spDraw [] E0 (tCons (tVar 2) (tCons (tC (V.int 16)) tNil))) (gName 6))
      (tSeq (tAsg (tLst (tCons (tTup (tCons (tC (V.str "Up")) (tCons (tC (V.int 5)) tNil))) (tCons (tTup (tCons (tC (V.str "pl")) (tCons (tC (V.int 5)) tNil))) (tCons (tTup (tCons (tOp rMulS (tC (V.str "x")) (tC (V.int 21))) (tCons (tTup tNil) tNil))) (tCons (tTup (tCons (tC (V.str "two")) (tCons (tTup (tCons (tC (V.str "async")) (tCons (tTup tNil) tNil))) tNil))) (tCons (tTup (tCons (tC (V.str "main")) (tCons (tTup (tCons (tC (V.str "async")) (tCons (tTup tNil) (tCons (tLst tNil) tNil)))) tNil))) tNil)))))) (gName 7))
      (tSeq (tIfS (tTest (tOp rLt (tVar 6) (tC (V.int 5)))) (sDPut (tVar 4) (tOp (rIxT K) (tOp (rIxL K) (tVar 7) (tVar 6)) (tC (V.int 0))) (tOp (rIxT K) (tOp (rIxL K) (tVar 7) (tVar 6)) (tC (V.int 1)))) tNext) tz)) Dd
      [some (.ref a), x1, some (.ref wa), some (.int m), some (.ref rd), x5, x6, x7, x8, x9, x10, x11, x12, x13, x14, x15] H := by
  refine q_asgC (ea_cons (ev_var rfl) (ea_cons ev_c ea_nil)) fun H1 e1 => ⟨wa, 16, z, rfl, (s.go e1).wl, by omega, by omega, by omega, fun way z2 H2 w0 w1 hz2 k2 wl2 => ?_⟩
  have s2 := (s.go e1).kw k2 wl2
  refine q_lstR (K := K) (ds := oddE.map fun p => .tup [.str p.1, p.2]) (eap_cons (evp_tup (eap_cons (evp_d ev_c (Rp.str "Up")) (eap_cons (evp_d ev_c (Rp.int 5)) eap_nil)) (by simp)) (eap_cons (evp_tup (eap_cons (evp_d ev_c (Rp.str "pl")) (eap_cons (evp_d ev_c (Rp.int 5)) eap_nil)) (by simp)) (eap_cons (evp_tup (eap_cons (evp_mulS (by decide) (by decide) (by decide) (by decide)) (eap_cons (evp_tup eap_nil (by simp)) eap_nil)) (by simp)) (eap_cons (evp_tup (eap_cons (evp_d ev_c (Rp.str "two")) (eap_cons (evp_tup (eap_cons (evp_d ev_c (Rp.str "async")) (eap_cons (evp_tup eap_nil (by simp)) eap_nil)) (by simp)) eap_nil)) (by simp)) (eap_cons (evp_tup (eap_cons (evp_d ev_c (Rp.str "main")) (eap_cons (evp_tup (eap_cons (evp_d ev_c (Rp.str "async")) (eap_cons (evp_tup eap_nil (by simp)) (eap_cons (evp_lstA eap_nil (by simp)) eap_nil))) (by simp)) eap_nil)) (by simp)) eap_nil))))) (by decide) fun b bs H3 nb e3 hb rb => ?_
  have s3 := s2.go e3
  have lb := rb.len
  obtain ⟨j, rfl⟩ := Int.eq_ofNat_of_zero_le w0
  refine q_when (et_test (ev_op (ev_var rfl) ev_c rv_I0)) (fun hb5 H4 e4 => ?_) (fun hb5 H4 e4 => k H4 z2 rt kvs _ _ (s3.go e4) hz2 he nd (Nat.le_succ _))
  rw [decide_eq_true_eq] at hb5
  have s4 := s3.go e4
  have hj : j < oddE.length := by
    have : oddE.length = 5 := rfl
    omega
  obtain ⟨p, hp⟩ : ∃ p, oddE[j]? = some p := ⟨oddE[j], List.getElem?_eq_getElem hj⟩
  obtain ⟨y, gy, ry⟩ := (rb.mono e4).get (i := j) (d := .tup [.str p.1, p.2]) (by rw [List.getElem?_map, hp]; rfl)
  obtain ⟨t, vs, rfl, ht, rs⟩ := ry.ofTup
  obtain ⟨v0, v1, rfl, r0, r1⟩ := rs.two
  cases r0
  have hix : ∀ {H5 : Hp} {σ : L2.St}, Ex H4 H5 → σ[7]? = some (some (.ref b)) → σ[6]? = some (some (.int (j : Int))) → Ev (tOp (rIxL K) (tVar 7) (tVar 6)) σ H5 (.ref t) := fun e h7 h6 => ev_op (ev_var h7) (ev_var h6) (rv_ixL (sq_of ((e4.trans e) _ _ hb)) (atI_nat gy))
  have hkl := s4.kr.len
  refine s_dputS (z := p.1) (ev_op (hix (Ex.refl _) rfl rfl) ev_c (rv_ixT (st_of ht) (atI_nat (j := 1) rfl))) (ev_var rfl) (ev_op (hix (Ex.refl _) rfl rfl) ev_c (rv_ixT (st_of ht) (atI_nat (j := 0) rfl))) s4.dc (by omega) fun H5 e5 => ?_
  have s5 := (s4.go e5).put (x := p.1) (r1.mono e5)
  refine k _ z2 _ _ _ _ s5 hz2 (fun q hq => ?_) (putR_nd nd) (putR_len _ _ _)
  rcases putR_mem hq with hq | hq
  · exact he q hq
  · rw [hq]
    exact oddE_ok p (List.mem_of_getElem? hp)
theorem law_com {HB H : Hp} {a wa rd : Addr} {z : Nat} {rt : Rt} {kvs : List (Key × V)} {m : Int} {x1 x5 x6 x7 x8 x9 x10 x11 x12 x13 x14 x15 : Option V} (s : RS K HB H wa rd z rt kvs) (hz : z ≤ 800000)
    (k : ∀ H2 z2 o dd y5, RS K HB H2 wa rd z2 rt kvs → z2 ≤ z + 1 → dd ∈ comL → Rp K H2 dd o → tz Dd [some (.ref a), x1, some (.ref wa), some (.int m), some (.ref rd), y5, x6, x7, some o, x9, x10, x11, x12, x13, x14, x15] H2) :
    tSeq (tAsg (tLst (tCons (tTup tNil) (tCons (tTup tNil) (tCons (tTup tNil) (tCons (tTup (tCons (tTup (tCons (tC (V.int 0)) (tCons (tC (V.str "a")) (tCons (tC (V.int 1)) tNil)))) (tCons (tTup (tCons (tC (V.int 0)) (tCons (tC (V.str "b")) (tCons (tTup (tCons (tC V.non) (tCons (tC (V.str "x")) tNil))) tNil)))) (tCons (tTup (tCons (tC (V.int 7)) (tCons (tC (V.str "a")) (tCons (tC (V.bl true)) tNil)))) tNil)))) (tCons (tLst tNil) (tCons (tTup (tCons (tTup (tCons (tC (V.int 3)) (tCons (tC (V.str "a")) (tCons (tC (V.int 1)) tNil)))) (tCons (tTup (tCons (tC (V.int 2)) (tCons (tC (V.str "a")) (tCons (tC (V.int 1)) tNil)))) tNil))) tNil))))))) (gName 5))
      (tSeq (tAsg (tOp rCat (tVar 5) (tLst (tCons (tTup (tCons (tTup (tCons (tC (V.int 0)) (tCons (tC (V.str "A")) (tCons (tC (V.int 1)) tNil)))) tNil)) (tCons (tTup (tCons (tTup (tCons (tUn (rU fun i => V.int (-i)) (tC (V.int 1))) (tCons (tC (V.str "a")) (tCons (tC (V.int 1)) tNil)))) tNil)) (tCons (tTup (tCons (tTup (tCons (tC (V.int 0)) (tCons (tC (V.str "a")) tNil))) tNil)) (tCons (tTup (tCons (tTup (tCons (tC (V.int 0)) (tCons (tC (V.str "a")) (tCons (tC (V.str "@x")) tNil)))) tNil)) (tCons (tTup (tCons (tTup (tCons (tC (V.bl true)) (tCons (tC (V.str "a")) (tCons (tC (V.int 1)) tNil)))) tNil)) (tCons (tTup (tCons (tC (V.int 5)) tNil)) tNil)))))))) (gName 5))
      (tSeq (tAsg (tCall (spPick K) [] E0 (tCons (tVar 2) (tCons (tVar 5) tNil))) (gName 8)) tz)) Dd
      [some (.ref a), x1, some (.ref wa), some (.int m), some (.ref rd), x5, x6, x7, x8, x9, x10, x11, x12, x13, x14, x15] H := by
  refine q_lstR (K := K) (ds := comA) (eap_cons (evp_tup eap_nil (by simp)) (eap_cons (evp_tup eap_nil (by simp)) (eap_cons (evp_tup eap_nil (by simp)) (eap_cons (evp_tup (eap_cons (evp_tup (eap_cons (evp_d ev_c (Rp.int 0)) (eap_cons (evp_d ev_c (Rp.str "a")) (eap_cons (evp_d ev_c (Rp.int 1)) eap_nil))) (by simp)) (eap_cons (evp_tup (eap_cons (evp_d ev_c (Rp.int 0)) (eap_cons (evp_d ev_c (Rp.str "b")) (eap_cons (evp_tup (eap_cons (evp_d ev_c Rp.non) (eap_cons (evp_d ev_c (Rp.str "x")) eap_nil)) (by simp)) eap_nil))) (by simp)) (eap_cons (evp_tup (eap_cons (evp_d ev_c (Rp.int 7)) (eap_cons (evp_d ev_c (Rp.str "a")) (eap_cons (evp_d ev_c (Rp.bl true)) eap_nil))) (by simp)) eap_nil))) (by simp)) (eap_cons (evp_lstA eap_nil (by simp)) (eap_cons (evp_tup (eap_cons (evp_tup (eap_cons (evp_d ev_c (Rp.int 3)) (eap_cons (evp_d ev_c (Rp.str "a")) (eap_cons (evp_d ev_c (Rp.int 1)) eap_nil))) (by simp)) (eap_cons (evp_tup (eap_cons (evp_d ev_c (Rp.int 2)) (eap_cons (evp_d ev_c (Rp.str "a")) (eap_cons (evp_d ev_c (Rp.int 1)) eap_nil))) (by simp)) eap_nil)) (by simp)) eap_nil)))))) (by decide) fun b bs H1 nb e1 hb rb => ?_
  refine q_lstC (K := K) (ds := comB) hb (ev_var rfl) rb (by decide) (fun H2 e2 => (eap_cons (evp_tup (eap_cons (evp_tup (eap_cons (evp_d ev_c (Rp.int 0)) (eap_cons (evp_d ev_c (Rp.str "A")) (eap_cons (evp_d ev_c (Rp.int 1)) eap_nil))) (by simp)) eap_nil) (by simp)) (eap_cons (evp_tup (eap_cons (evp_tup (eap_cons (evp_d (ev_un ev_c ru_neg) (Rp.int (-1))) (eap_cons (evp_d ev_c (Rp.str "a")) (eap_cons (evp_d ev_c (Rp.int 1)) eap_nil))) (by simp)) eap_nil) (by simp)) (eap_cons (evp_tup (eap_cons (evp_tup (eap_cons (evp_d ev_c (Rp.int 0)) (eap_cons (evp_d ev_c (Rp.str "a")) eap_nil)) (by simp)) eap_nil) (by simp)) (eap_cons (evp_tup (eap_cons (evp_tup (eap_cons (evp_d ev_c (Rp.int 0)) (eap_cons (evp_d ev_c (Rp.str "a")) (eap_cons (evp_d ev_c (Rp.str "@x")) eap_nil))) (by simp)) eap_nil) (by simp)) (eap_cons (evp_tup (eap_cons (evp_tup (eap_cons (evp_d ev_c (Rp.bl true)) (eap_cons (evp_d ev_c (Rp.str "a")) (eap_cons (evp_d ev_c (Rp.int 1)) eap_nil))) (by simp)) eap_nil) (by simp)) (eap_cons (evp_tup (eap_cons (evp_d ev_c (Rp.int 5)) eap_nil) (by simp)) eap_nil))))))) (by decide) fun b2 bs2 H2 e2 nb2 hb2 rb2 => ?_
  have s2 := s.go (e1.trans e2)
  have rb2' : Rps K H2 comL bs2 := rb2
  have l2 := rb2'.len
  have lc : comL.length = 12 := rfl
  refine q_asgC (ea_cons (ev_var rfl) (ea_cons (ev_var rfl) ea_nil)) fun H3 e3 => ⟨wa, b2, bs2, z, rfl, (s2.go e3).wl, by omega, wl_ne (s.go e1).wl nb2, .inl (e3 _ _ hb2), fun h => ?_, by omega, fun o z4 H4 ho hz4 k4 wl4 => ?_⟩
  · rw [h] at l2
    rw [lc] at l2
    cases l2
  obtain ⟨dd, hdd, rd4⟩ := (rb2'.mono e3).mem ho
  have s3 := s2.go e3
  exact k H4 z4 o dd _ (s3.kw k4 wl4) hz4 hdd (rd4.ew (k4.ew s3.wl wl4))
/-- what is given: the dict, or something that is none -/
def GV (K : PySem.W.Frag) (H : Hp) (rd : Addr) (rt : Rt) (dd : D) (zv : V) (r : Option (List D)) : Prop :=
  (zv = .ref rd ∧ (wordsOk rt = false → r = some []) ∧ (wordsOk rt = true → ∀ ys : List Str, ys.Perm (rt.map (·.1)) → sortedS ys = true → restR rt dd ys = r) ∧ (r = none → ∃ ds, dd = .tup ds)) ∨ ((∃ d, Rp K H d zv ∧ isDct d = false) ∧ r = some [])
theorem due_mono {vs : List V} {H : Hp} {Q Q' : VK} {E : XK} (h : ∀ v H2, Q v H2 → Q' v H2) (s : spDue K vs H Q E) : spDue K vs H Q' E := by
  obtain ⟨z, o, dd, h1, h2, h3, h4, h5⟩ := s
  refine ⟨z, o, dd, h1, h2, h3, h4, ?_⟩
  rcases h5 with ⟨d, a1, a2, k⟩ | ⟨rt, ra, kvs, r, a1, a2, a3, a4, a5, a6, a7, a8, k⟩
  · exact .inl ⟨d, a1, a2, fun v H2 e p => h _ _ (k v H2 e p)⟩
  · exact .inr ⟨rt, ra, kvs, r, a1, a2, a3, a4, a5, a6, a7, a8, fun v H2 e p => h _ _ (k v H2 e p)⟩
theorem law_given {HB H : Hp} {a wa rd : Addr} {z : Nat} {rt : Rt} {kvs : List (Key × V)} {m : Int} {o : V} {dd : D} {x1 x5 x6 x7 x9 x10 x11 x12 x13 x14 x15 : Option V} (s : RS K HB H wa rd z rt kvs) (hz : z ≤ 800000) (he : ∀ p ∈ rt, EnOk p) (nd : (rt.map (·.1)).Nodup) (hl : rt.length ≤ 20) (hdd : dd ∈ comL) (ro : Rp K H dd o)
    (k : ∀ H2 z2 zv v r, RS K HB H2 wa rd z2 rt kvs → Rp K H2 dd o → GV K H2 rd rt dd zv r → PlR K r H2 v → (∀ pl, r = some pl → plOk pl = true) → tz Dd [some (.ref a), x1, some (.ref wa), some (.int m), some (.ref rd), x5, x6, x7, some o, some zv, some v, x11, x12, x13, x14, x15] H2) :
    tSeq (tAsg (tOp (rIxL K) (tLst (tCons (tVar 4) (tCons (tVar 4) (tCons (tVar 4) (tCons (tVar 4) (tCons (tCB rListD (tCons (tVar 4) tNil)) (tCons (tC V.non) tNil))))))) (tCall spDraw [] E0 (tCons (tVar 2) (tCons (tC (V.int 6)) tNil)))) (gName 9))
      (tSeq (tAsg (tCall (spDue K) [] E0 (tCons (tVar 9) (tCons (tVar 8) tNil))) (gName 10)) tz) Dd
      [some (.ref a), x1, some (.ref wa), some (.int m), some (.ref rd), x5, x6, x7, some o, x9, x10, x11, x12, x13, x14, x15] H := by
  have G := rtg_of he (by omega)
  have hcont : ∀ {H2 : Hp} {z2 : Nat} {zv : V}, RS K HB H2 wa rd z2 rt kvs → Rp K H2 dd o → (zv = .ref rd ∨ ∃ d, Rp K H2 d zv ∧ isDct d = false) →
      tSeq (tAsg (tCall (spDue K) [] E0 (tCons (tVar 9) (tCons (tVar 8) tNil))) (gName 10)) tz Dd [some (.ref a), x1, some (.ref wa), some (.int m), some (.ref rd), x5, x6, x7, some o, some zv, x10, x11, x12, x13, x14, x15] H2 := fun {H2 z2 zv} s2 ro2 hv => by
    refine q_asgC (ea_cons (ev_var rfl) (ea_cons (ev_var rfl) ea_nil)) fun H3 e3 => ?_
    have s3 := s2.go e3
    refine ⟨zv, o, dd, rfl, ro2.mono e3, com_sm hdd, com_arr hdd, ?_⟩
    rcases hv with rfl | ⟨d, rdv, hd⟩
    · obtain ⟨r, h1, h2, h3, h4⟩ := rest_uniq rt dd
      exact .inr ⟨rt, rd, kvs, r, rfl, s3.dc, s3.kr, G, rtd_of he, nd, h1, h2, fun v H4 e4 hp => k H4 _ _ v r (s3.go e4) (ro2.mono (e3.trans e4)) (.inl ⟨rfl, h1, h2, h4⟩) hp fun pl hpl => h3 pl hpl fun p hp => (he p hp).ok⟩
    · exact .inl ⟨d, rdv.mono e3, hd, fun v H4 e4 hp => k H4 _ _ v _ (s3.go e4) (ro2.mono (e3.trans e4)) (.inr ⟨⟨d, rdv.mono (e3.trans e4), hd⟩, rfl⟩) hp fun pl hpl => by cases hpl; rfl⟩
  refine ⟨.ref rd, rfl, .ref rd, rfl, .ref rd, rfl, .ref rd, rfl, .ref rd, rfl, ?_⟩
  refine ⟨rd, kvs, rfl, s.dc, fun kl nkl => ?_⟩
  have e1 : Ex H (L2.upd H kl (.lst (kvs.map fun kv => kV kv.1))) := Ex.new nkl
  have hkl : (L2.upd H kl (.lst (kvs.map fun kv => kV kv.1))) kl = some (.lst (kvs.map fun kv => kV kv.1)) := upd_same
  generalize L2.upd H kl (.lst (kvs.map fun kv => kV kv.1)) = H1 at e1 hkl
  refine ⟨sz_of (by simp), fun l nl => ?_⟩
  have e2 : Ex H1 (L2.upd H1 l (.lst [.ref rd, .ref rd, .ref rd, .ref rd, .ref kl, .non])) := Ex.new nl
  have hll : (L2.upd H1 l (.lst [.ref rd, .ref rd, .ref rd, .ref rd, .ref kl, .non])) l = some (.lst [.ref rd, .ref rd, .ref rd, .ref rd, .ref kl, .non]) := upd_same
  show tCall spDraw [] E0 (tCons (tVar 2) (tCons (tC (V.int 6)) tNil)) _ (L2.upd H1 l (.lst [.ref rd, .ref rd, .ref rd, .ref rd, .ref kl, .non])) _
  generalize L2.upd H1 l (.lst [.ref rd, .ref rd, .ref rd, .ref rd, .ref kl, .non]) = H2 at e2 hll
  have s2 := s.go (e1.trans e2)
  refine raw_call (ea_cons (ev_var rfl) (ea_cons ev_c ea_nil)) fun H3 e3 => ⟨wa, 6, z, rfl, (s2.go e3).wl, by omega, by omega, by omega, fun r z4 H4 r0 r1 hz4 k4 wl4 => ?_⟩
  have s3 := s2.go e3
  have s4 := s3.kw k4 wl4
  have k24 : Kw wa H2 H4 := (Kw.of e3).trans k4
  have hlw : l ≠ wa := wl_ne (s.go e1).wl nl
  have hkw : kl ≠ wa := wl_ne s.wl nkl
  have hl4 := k24 _ _ hll hlw
  have hk4 := k24 _ _ (e2 _ _ hkl) hkw
  have ro4 := (ro.mono (e1.trans e2)).ew (k24.ew s2.wl wl4)
  obtain ⟨j, rfl⟩ := Int.eq_ofNat_of_zero_le r0
  have hj : j = 0 ∨ j = 1 ∨ j = 2 ∨ j = 3 ∨ j = 4 ∨ j = 5 := by omega
  rcases hj with rfl | rfl | rfl | rfl | rfl | rfl
  · exact ⟨l, _, _, .ref rd, rfl, rfl, sq_of hl4, atI_nat (j := 0) rfl, hcont s4 ro4 (.inl rfl)⟩
  · exact ⟨l, _, _, .ref rd, rfl, rfl, sq_of hl4, atI_nat (j := 1) rfl, hcont s4 ro4 (.inl rfl)⟩
  · exact ⟨l, _, _, .ref rd, rfl, rfl, sq_of hl4, atI_nat (j := 2) rfl, hcont s4 ro4 (.inl rfl)⟩
  · exact ⟨l, _, _, .ref rd, rfl, rfl, sq_of hl4, atI_nat (j := 3) rfl, hcont s4 ro4 (.inl rfl)⟩
  · exact ⟨l, _, _, .ref kl, rfl, rfl, sq_of hl4, atI_nat (j := 4) rfl, hcont s4 ro4 (.inr ⟨.lst, .lst hk4, rfl⟩)⟩
  · exact ⟨l, _, _, .non, rfl, rfl, sq_of hl4, atI_nat (j := 5) rfl, hcont s4 ro4 (.inr ⟨.non, .non, rfl⟩)⟩
end
end K2
/-! law: Program is called. -/
namespace K2
open PySem L2 Evl PySem.Spec PyProof.Rows RZ StX
def rDctI (K : PySem.W.Frag) : List V → Hp → VK → Prop := fun xs H Q => ∃ (a : Addr) (ps : List Addr) (kvs : List (Key × V)), xs = [.ref a] ∧ SqL K H a (ps.map V.ref) ∧ Paired (fun p kv => SqT K H p [kV kv.1, kv.2]) ps kvs ∧ ∀ p, H p = none → Q (.ref p) (upd H p (.dK (mergeK [] kvs)))
theorem krt_mem {K : PySem.W.Frag} {H : Hp} : ∀ {rt : Rt} {kvs : List (Key × V)} {q : Key × V}, KRt K H rt kvs → q ∈ kvs → ∃ d, Rp K H d q.2
  | _, _, q, .nil, h => nomatch h
  | _, _, q, .cons h t, hq => by
    rcases List.mem_cons.mp hq with e | e
    · rw [e]; exact ⟨_, h.2⟩
    · exact krt_mem t e
theorem valV_in {m : List (Key × V)} {k : Key} {v : V} (h : valV m k = some v) : ∃ q ∈ m, q.2 = v := by
  induction m with
  | nil => cases h
  | cons r m ih =>
    by_cases e : r.1 = k
    · rw [valV_pos e] at h
      cases h
      exact ⟨r, by simp, rfl⟩
    · rw [valV_neg e] at h
      obtain ⟨q, h1, h2⟩ := ih h
      exact ⟨q, List.mem_cons_of_mem _ h1, h2⟩
theorem rp_flat {K : PySem.W.Frag} {H : Hp} {d : D} {v : V} (r : Rp K H d v) : flatB v = true ∨ ∃ c, v = .ref c := by
  cases r <;> first | exact .inr ⟨_, rfl⟩ | exact .inl rfl
theorem PrAt.keep {Cp : Addr} {H H2 : Hp} {a rD d : Addr} {o : V} {es : List (Key × V)} (h : PrAt Cp H a rD o es) (k : ∀ b u, H b = some u → b ≠ d → H2 b = some u) (h1 : a ≠ d) (h2 : rD ≠ d) : PrAt Cp H2 a rD o es := by
  obtain ⟨dx, fs, q1, q2⟩ := h.ob
  exact ⟨⟨dx, fs, k _ _ q1 h1, q2⟩, k _ _ h.dc h2, h.nd, h.len⟩
section
variable {K : PySem.W.Frag} {σ : L2.St} {H : Hp} {ta tb te : TE} {tz : TS} {Dd : Ends} {Cp Cb : Addr}
theorem ed_rou {x rD : Addr} {o : V} {es : List (Key × V)} (h : Ev te σ H (.ref x)) (pa : PrAt Cp H x rD o es) : EvD (tProp Cp (spRou Cp) [] E0 te) σ H es := fun H1 e Q q =>
  h H1 e _ fun H2 e2 => by
    obtain ⟨dx, fs, h1, _⟩ := pa.ob
    exact ⟨x, dx, fs, rfl, (e.trans e2) _ _ h1, x, rD, o, es, rfl, pa.mono (e.trans e2), fun p H3 np e3 hp => q p H3 (fresh_back e2 np) (e2.trans e3) hp⟩
theorem ev_outP {x rD : Addr} {o : V} {es : List (Key × V)} (h : Ev te σ H (.ref x)) (pa : PrAt Cp H x rD o es) : Ev (tProp Cp (spOut Cp) [] E0 te) σ H o := fun H1 e Q q =>
  h H1 e _ fun H2 e2 => by
    obtain ⟨dx, fs, h1, _⟩ := pa.ob
    exact ⟨x, dx, fs, rfl, (e.trans e2) _ _ h1, x, rD, o, es, rfl, pa.mono (e.trans e2), fun H3 e3 => q H3 (e2.trans e3)⟩
theorem et_neDS {b : Addr} {es ls : List (Key × V)} (h : EvD ta σ H es) (hb : Ev tb σ H (.ref b)) (hd : H b = some (.dK ls)) (hl : es.length = ls.length) (hp : ∀ p ∈ es, valV ls p.1 = some p.2 ∧ (flatB p.2 = true ∨ ∃ c, p.2 = .ref c)) : EvT (tTest (tOp rNeDS ta tb)) σ H false :=
  et_test fun H1 e Q q => h H1 e _ fun p H2 np e2 hp2 => hb H2 (e.trans e2) _ fun H3 e3 => ⟨p, b, es, ls, rfl, rfl, e3 _ _ hp2, ((e.trans e2).trans e3) _ _ hd, hl, hp, q H3 (e2.trans e3)⟩
theorem ed_items {b : Addr} {kvs : List (Key × V)} (h : Ev te σ H (.ref b)) (hd : H b = some (.dK kvs)) (nd : (kvs.map (·.1)).Nodup) : EvD (tCB (rDctI K) (tCons (LiI.tListItems te) tNil)) σ H kvs := fun H1 e Q q =>
  h H1 e _ fun H2 e2 => ⟨b, kvs, rfl, (e.trans e2) _ _ hd, fun H3 p ts hk np nts hpt hlp pr => ⟨p, ts, kvs, rfl, sq_of hlp, L2.Paired.mapP pr fun _ _ w => st_of w, fun u nu => by
    have em : mergeK [] kvs = kvs := by
      have := putK_all kvs [] (by simpa using nd)
      rw [List.nil_append] at this
      exact this
    rw [em]
    exact q u _ (fresh_back (e2.trans hk) nu) ((e2.trans hk).trans (Ex.new nu)) upd_same⟩⟩
theorem q_asgDD {i : Nat} {kvs : List (Key × V)} (h : EvD te σ H kvs) (k : ∀ p H1, H p = none → Ex H H1 → H1 p = some (.dK kvs) → tz Dd (σ.set i (some (.ref p))) H1) : tSeq (tAsg te (gName i)) tz Dd σ H := h H (Ex.refl H) _ fun p H1 hp e hl => k p H1 hp e hl
/-- d.clear(), d a new dict -/
theorem q_dclear {es : List (Key × V)} (h : EvD te σ H es) (k : ∀ p H1, H p = none → Ex H H1 → tz Dd σ (L2.upd H1 p (.dK []))) : tSeq (tDrop (tBM0 K "dict" rDClear te)) tz Dd σ H :=
  h H (Ex.refl H) _ fun p H1 np e hp => ⟨.inr (.inr (.inl ⟨rfl, .inl ⟨es, hp⟩⟩)), p, es, rfl, rfl, hp, k p H1 np e⟩
end
def tSuite (K : PySem.W.Frag) (Cb : Addr) (a : Addr) (cls : Value) (d : Option Addr) : TS := tIfS (tOr (tTest (tOp rIsN (tVar 10) (tC .non))) (tTest (tOp (rNeD K) (tXf a cls d Cb "place" (tVar 11)) (tVar 10)))) (tRet (tC (.bl false))) tNext
def tTryB (K : PySem.W.Frag) (Cp Cb : Addr) (W : WX) : TS :=
  tSeq (tAsg (tMakeKS Cp 1 1 (spPr K Cp Cb) (fun vs zs => vs ++ zs) (WE W) (tCons (tVar 9) tNil) (tCons (tVar 8) tNil)) (gName 14))
    (tSeq (tIfS (tOr (tTest (tOp rNotN (tVar 10) (tC .non))) (tOr (tTest (tOp rNeDS (tProp Cp (spRou Cp) [] E0 (tVar 14)) (tVar 9))) (tTest (tOp (rNeSelf K) (tProp Cp (spOut Cp) [] E0 (tVar 14)) (tVar 8))))) (tRet (tC (.bl false))) tNext)
    (tSeq (tAsg (tCB (rDctI K) (tCons (LiI.tListItems (tVar 9)) tNil)) (gName 15))
    (tSeq (sDPut (tVar 9) (tC (.str "zz")) (tTup (tCons (tC (.str "plain")) (tCons (tTup tNil) (tCons (tTup tNil) tNil)))))
    (tSeq (tDrop (tBM0 K "dict" rDClear (tProp Cp (spRou Cp) [] E0 (tVar 14))))
      (tIfS (tTest (tOp rNeDS (tProp Cp (spRou Cp) [] E0 (tVar 14)) (tVar 15))) (tRet (tC (.bl false))) tNext)))))
section
variable {K : PySem.W.Frag} {Dd : Ends} {Cp Cb : Addr}
theorem ev_place {σ : L2.St} {H : Hp} {te : TE} {a2 d : Addr} {y z : V} (h : Ev te σ H (.ref a2)) (hd : H d = some (.xd [("place", y), ("why", z)])) : Ev (tXf a2 (.ref Cb) (some d) Cb "place" te) σ H y := fun H1 e Q q =>
  h H1 e _ fun H2 e2 => ⟨rfl, rfl, d, _, y, rfl, (e.trans e2) _ _ hd, rfl, q H2 e2⟩
theorem et_neP {σ : L2.St} {H : Hp} {ta tb : TE} {pl : List D} {y v : V} (ha : Ev ta σ H y) (hb : Ev tb σ H v) (ok : plOk pl = true) (ry : Rp K H (.tup pl) y) (rv : Rp K H (.tup pl) v) : EvT (tTest (tOp (rNeD K) ta tb)) σ H false :=
  et_test (ev_op ha hb (rv_val fun H1 e Q q => ⟨_, _, dp_place ok (ry.mono e), dp_place ok (rv.mono e), place_shaped ok, place_shaped ok, by rw [place_eq ok]; exact q⟩))
theorem q_dputP {σ : L2.St} {H : Hp} {td ty tv : TE} {tz : TS} {a : Addr} {es : List (Key × V)} {z : Str} {Pp : Hp → V → Prop} (hv : EvP tv σ H Pp) (hd : ∀ H1, Ev td σ H1 (.ref a)) (hy : ∀ H1, Ev ty σ H1 (.str z)) (ha : H a = some (.dK es)) (hl : es.length < 16000000)
    (k : ∀ v H1, Ex H H1 → Pp H1 v → ∀ H2, Ex H1 H2 → tz Dd σ (L2.upd H2 a (.dK (putK es (Sum.inr z : Key) v)))) : tSeq (sDPut td ty tv) tz Dd σ H :=
  hv H (Ex.refl H) _ fun v H1 e1 pv => hd H1 H1 (Ex.refl _) _ fun H2 e2 => hy H2 H2 (Ex.refl _) _ fun H3 e3 => ⟨a, _, rfl, DPut.k (k := Sum.inr z) ((e1.trans (e2.trans e3)) _ _ ha) (Nat.lt_of_lt_of_le hl (by decide)), k v H1 e1 pv H3 (e2.trans e3)⟩
/-- the except's part -/
theorem suite_ok {H : Hp} {pl : List D} {y v : V} {d a2 : Addr} {z : V} {σ : L2.St} (h10 : σ[10]? = some (some v)) (h11 : σ[11]? = some (some (.ref a2))) (ok : plOk pl = true) (ry : Rp K H (.tup pl) y) (rv : Rp K H (.tup pl) v) (hd : H d = some (.xd [("place", y), ("why", z)])) (k : ∀ H1, Ex H H1 → Dd.nx σ H1) :
    tSuite K Cb a2 (.ref Cb) (some d) Dd σ H := by
  have hn : decide (v = V.non) = false := by
    obtain ⟨_, _, rfl, _⟩ := rv.ofTup
    exact decide_eq_false fun h => nomatch h
  unfold tSuite
  refine s_when (b := false) (et_is (et_or (et_test (ev_op (ev_var h10) ev_c rv_isN)) fun _ => et_neP (ev_place (ev_var h11) hd) (ev_var h10) ok ry rv) ?_) (fun h => nomatch h) fun _ H1 e1 => k H1 e1
  rw [hn]
  rfl
theorem law_try {HB H : Hp} {wa rd : Addr} {z : Nat} {rt : Rt} {kvs : List (Key × V)} {o zv v : V} {dd : D} {r : Option (List D)} {x0 x1 x2 x3 x4 x5 x6 x7 x11 x12 x13 x14 x15 : Option V} (EX : PySem.W.exmOne K (.ref Cb) (.ref Cb) = some true) (s : RS K HB H wa rd z rt kvs) (he : ∀ p ∈ rt, EnOk p) (nd : (rt.map (·.1)).Nodup) (hl : rt.length ≤ 20)
    (smd : Sm dd) (ro : Rp K H dd o) (gv : GV K H rd rt dd zv r) (hp : PlR K r H v) (ok : ∀ pl, r = some pl → plOk pl = true)
    (k : ∀ H2 y11 y14 y15, Ex HB H2 → Dd.nx [x0, x1, x2, x3, x4, x5, x6, x7, some o, some zv, some v, y11, x12, x13, y14, y15] H2) :
    tTryB K Cp Cb (wAs K (.ref Cb) 11 (tSuite K Cb) (fun _ _ _ _ => False) Dd) Dd [x0, x1, x2, x3, x4, x5, x6, x7, some o, some zv, some v, x11, x12, x13, x14, x15] H := by
  unfold tTryB
  refine ⟨zv, rfl, o, rfl, rfl, rfl, fun x dx nx ndx hne => ?_⟩
  obtain ⟨HX, hHX⟩ : ∃ HX, HX = L2.upd (L2.upd H dx (.own x)) x (.ins Cp dx []) := ⟨_, rfl⟩
  have eX : Ex H HX := by
    rw [hHX]
    refine Ex.trans (Ex.new ndx) (Ex.new ?_)
    rw [upd_ne hne.symm]
    exact nx
  have hx : HX x = some (.ins Cp dx []) := by rw [hHX]; exact upd_same
  rw [← hHX]
  have G := rtg_of he (by omega)
  have hbad : ∀ pl, r = some pl → Bad K Cb pl HX (WE (wAs K (.ref Cb) 11 (tSuite K Cb) (fun _ _ _ _ => False) Dd) [x0, x1, x2, x3, x4, x5, x6, x7, some o, some zv, some v, x11, x12, x13, x14, x15]) := fun pl hpl d y z2 H2 e2 ry hd =>
    ⟨true, EX, fun _ a2 na2 => suite_ok (v := v) rfl rfl (ok pl hpl) ry ((hp.2 pl hpl).mono (eX.trans e2)) hd fun H3 e3 => k H3 _ _ _ (((s.ex.trans eX).trans e2).trans e3), fun h => nomatch h⟩
  rcases gv with ⟨rfl, hw0, hw1, hds⟩ | ⟨⟨d, rdv, hdd⟩, hr⟩
  · refine ⟨x, dx, .ref rd, dd, o, rfl, hx, ro.mono eX, smd, .inr ⟨rt, rd, kvs, r, rfl, eX _ _ s.dc, s.kr.mono (Ew.of eX), G, nd, hw0, hw1, hbad, fun hn H2 rD es nrD keep pa hlen hval => ⟨rfl, ?_⟩⟩⟩
    obtain rfl : v = .non := hp.1 hn
    obtain ⟨ds, rfl⟩ := hds hn
    have xne : ∀ b u, H b = some u → b ≠ x := fun b u h e => by rw [e, nx] at h; cases h
    have e2 : Ex H H2 := fun b u h => keep b u (eX b u h) (xne b u h)
    have hrd2 := e2 _ _ s.dc
    have hfl : ∀ p ∈ es, valV kvs p.1 = some p.2 ∧ (flatB p.2 = true ∨ ∃ c, p.2 = .ref c) := fun p hp => by
      refine ⟨hval p hp, ?_⟩
      obtain ⟨q, hq, e⟩ := valV_in (hval p hp)
      obtain ⟨d, rq⟩ := krt_mem s.kr hq
      rw [← e]
      exact rp_flat rq
    have nk : (kvs.map (·.1)).Nodup := by
      rw [s.kr.keys]
      exact List.Pairwise.map _ (fun a b hab z => hab (Sum.inr.inj z)) nd
    obtain ⟨oa, ovs, rfl, hoa, _⟩ := ro.ofTup
    refine q_when (b := false) (et_is (et_or (et_test (ev_op (ev_var rfl) ev_c rv_notN)) fun _ => et_or (et_neDS (ed_rou (ev_var rfl) pa) (ev_var rfl) hrd2 hlen hfl) fun _ => et_test (ev_op (ev_outP (ev_var rfl) pa) (ev_var rfl) (rv_val (z := .bl false) fun H1 e1 Q q => ⟨oa, ovs, rfl, rfl, .inr (st_of (e1 _ _ (e2 _ _ hoa))), q⟩))) rfl) (fun h => nomatch h) fun _ H3 e3 => ?_
    refine q_asgDD (ed_items (ev_var rfl) (e3 _ _ hrd2) nk) fun kd H4 nkd e4 hkd => ?_
    have e24 := e3.trans e4
    have hrd4 := e24 _ _ hrd2
    have hkl := s.kr.len
    refine q_dputP (z := "zz") (Pp := fun H1 v => Rp K H1 (.tup [.str "plain", .tup [], .tup []]) v) (evp_tup (eap_cons (evp_d ev_c (Rp.str "plain")) (eap_cons (evp_tup eap_nil (by simp)) (eap_cons (evp_tup eap_nil (by simp)) eap_nil))) (by simp)) (fun _ => ev_var rfl) (fun _ => ev_c) hrd4 (by omega) fun nv H5a e5a rnv H5 e5b => ?_
    have e5 := e5a.trans e5b
    have hxrd : x ≠ rd := fun e => xne rd _ s.dc e.symm
    have hrDrd : rD ≠ rd := fun e => by
      rw [e, eX _ _ s.dc] at nrD
      cases nrD
    have pa5 := pa.mono (e24.trans e5)
    have hkrd : kd ≠ rd := fun e => by
      have := e3 _ _ hrd2
      rw [← e, nkd] at this
      cases this
    obtain ⟨H6, hH6⟩ : ∃ H6, H6 = L2.upd H5 rd (.dK (putK kvs (Sum.inr "zz" : Key) nv)) := ⟨_, rfl⟩
    have k56 : ∀ b u, H5 b = some u → b ≠ rd → H6 b = some u := fun b u h n => by rw [hH6, upd_ne n]; exact h
    have pa6 := pa5.keep k56 hxrd hrDrd
    have hkd6 := k56 _ _ (e5 _ _ hkd) hkrd
    have eB6 : Ex HB H6 := by
      rw [hH6]
      exact Ex.mut ((s.ex.trans e2).trans (e24.trans e5)) s.nr
    rw [← hH6]
    refine q_dclear (ed_rou (ev_var rfl) pa6) fun p H7 np e7 => ?_
    have e68 : Ex H6 (L2.upd H7 p (.dK [])) := Ex.mut e7 np
    generalize L2.upd H7 p (.dK []) = H8 at e68
    refine s_when (et_neDS (ed_rou (ev_var rfl) (pa6.mono e68)) (ev_var rfl) (e68 _ _ hkd6) hlen hfl) (fun h => nomatch h) fun _ H9 e9 => k H9 _ _ _ ((eB6.trans e68).trans e9)
  · exact ⟨x, dx, zv, dd, o, rfl, hx, ro.mono eX, smd, .inl ⟨d, rdv.mono eX, hdd, hbad [] hr⟩⟩
end
end K2
/-! law: a cell. -/
namespace K2
open PySem L2 Evl PySem.Spec PyProof.Rows RZ StX
theorem tw_of {K : PySem.W.Frag} {H : Hp} {w k : Str} {v : V} (r : Rp K H (.tup [.str w, .str k]) v) (h : (w, k) ∈ threeL) : TW H v := by
  obtain ⟨t, vs, rfl, ht, rs⟩ := r.ofTup
  obtain ⟨v0, v1, rfl, r0, r1⟩ := rs.two
  cases r0
  cases r1
  exact ⟨t, w, k, rfl, ht, h⟩
section
variable {K : PySem.W.Frag} {Dd : Ends} {Cp Cb : Addr}
theorem law_cell {H : Hp} {a : Addr} {c : Int} {x2 x3 x4 x5 x6 x7 x8 x9 x10 x11 x12 x13 x14 x15 : Option V} (EX : PySem.W.exmOne K (.ref Cb) (.ref Cb) = some true)
    (k : ∀ H2 y1 y2 y3 y4 y5 y6 y7 y8 y9 y10 y11 y12 y13 y14 y15, Ex H H2 → Dd.nx [some (.ref a), y1, y2, y3, y4, y5, y6, y7, y8, y9, y10, y11, y12, y13, y14, y15] H2) :
    (tSeq (tAsg (tCall spWell [] E0 (tCons (tVar 1) tNil)) (gName 2))
      (tSeq (tAsg (tCall spDraw [] E0 (tCons (tVar 2) (tCons (tC (V.int 3)) tNil))) (gName 3))
      (tSeq (tAsg tDNewK (gName 4))
      (tSeq (tAsg (tLst (tCons (tTup (tCons (tC (V.str "main")) (tCons (tC (V.str "async")) tNil))) (tCons (tTup (tCons (tC (V.str "pl")) (tCons (tC (V.str "plain")) tNil))) (tCons (tTup (tCons (tC (V.str "two")) (tCons (tC (V.str "async")) tNil))) tNil)))) (gName 5))
      (tSeq (tFor (iList K (tCall (spPick K) [] E0 (tCons (tVar 2) (tCons (tLst (tCons (tVar 5) (tCons (tBack K (tVar 5) (tPart (tUn (rU fun i => V.int (-i)) (tC (V.int 1))))) (tCons (tOp rCat (tSl (rSlL K) (tVar 5) (tPart (tC (V.int 1))) tNoPart) (tSl (rSlL K) (tVar 5) tNoPart (tPart (tC (V.int 1))))) tNil)))) tNil)))) (gTup K 2 (gCons (gName 12) (gCons (gName 13) gNil)))
      (tSeq (tAsg (tCall (spPick K) [] E0 (tCons (tVar 2) (tCons (tOp rCat (tOp rRep (tLst (tCons (tVar 13) tNil)) (tC (V.int 9))) (tLst (tCons (tC (V.str "Async")) (tCons (tC (V.int 5)) tNil)))) tNil))) (gName 13))
      (tSeq (tAsg (tOp rCat (tOp rRep (tLst (tCons (tTup tNil) (tCons (tTup (tCons (tC (V.str "a")) tNil)) (tCons (tTup (tCons (tC (V.str "a")) (tCons (tC (V.str "b")) tNil))) (tCons (tTup (tCons (tC (V.str "a")) (tCons (tC (V.str "b")) tNil))) (tCons (tTup tNil) tNil)))))) (tC (V.int 2))) (tLst (tCons (tTup (tCons (tC (V.str "a")) (tCons (tC (V.str "a")) tNil))) (tCons (tTup (tCons (tC (V.str "A")) tNil)) (tCons (tLst (tCons (tC (V.str "a")) tNil)) (tCons (tTup (tCons (tC (V.int 5)) tNil)) tNil)))))) (gName 5)) (sDPut (tVar 4) (tVar 12) (tTup (tCons (tVar 13) (tCons (tCall (spPick K) [] E0 (tCons (tVar 2) (tCons (tVar 5) tNil))) (tCons (tCall (spStp K 3) [] E0 (tCons (tVar 2) (tCons (tC (V.int 2)) (tCons (tVar 3) tNil)))) tNil))))))))
      (tSeq (tAsg (tCall spDraw [] E0 (tCons (tVar 2) (tCons (tC (V.int 16)) tNil))) (gName 6))
      (tSeq (tAsg (tLst (tCons (tTup (tCons (tC (V.str "Up")) (tCons (tC (V.int 5)) tNil))) (tCons (tTup (tCons (tC (V.str "pl")) (tCons (tC (V.int 5)) tNil))) (tCons (tTup (tCons (tOp rMulS (tC (V.str "x")) (tC (V.int 21))) (tCons (tTup tNil) tNil))) (tCons (tTup (tCons (tC (V.str "two")) (tCons (tTup (tCons (tC (V.str "async")) (tCons (tTup tNil) tNil))) tNil))) (tCons (tTup (tCons (tC (V.str "main")) (tCons (tTup (tCons (tC (V.str "async")) (tCons (tTup tNil) (tCons (tLst tNil) tNil)))) tNil))) tNil)))))) (gName 7))
      (tSeq (tIfS (tTest (tOp rLt (tVar 6) (tC (V.int 5)))) (sDPut (tVar 4) (tOp (rIxT K) (tOp (rIxL K) (tVar 7) (tVar 6)) (tC (V.int 0))) (tOp (rIxT K) (tOp (rIxL K) (tVar 7) (tVar 6)) (tC (V.int 1)))) tNext)
      (tSeq (tAsg (tLst (tCons (tTup tNil) (tCons (tTup tNil) (tCons (tTup tNil) (tCons (tTup (tCons (tTup (tCons (tC (V.int 0)) (tCons (tC (V.str "a")) (tCons (tC (V.int 1)) tNil)))) (tCons (tTup (tCons (tC (V.int 0)) (tCons (tC (V.str "b")) (tCons (tTup (tCons (tC V.non) (tCons (tC (V.str "x")) tNil))) tNil)))) (tCons (tTup (tCons (tC (V.int 7)) (tCons (tC (V.str "a")) (tCons (tC (V.bl true)) tNil)))) tNil)))) (tCons (tLst tNil) (tCons (tTup (tCons (tTup (tCons (tC (V.int 3)) (tCons (tC (V.str "a")) (tCons (tC (V.int 1)) tNil)))) (tCons (tTup (tCons (tC (V.int 2)) (tCons (tC (V.str "a")) (tCons (tC (V.int 1)) tNil)))) tNil))) tNil))))))) (gName 5))
      (tSeq (tAsg (tOp rCat (tVar 5) (tLst (tCons (tTup (tCons (tTup (tCons (tC (V.int 0)) (tCons (tC (V.str "A")) (tCons (tC (V.int 1)) tNil)))) tNil)) (tCons (tTup (tCons (tTup (tCons (tUn (rU fun i => V.int (-i)) (tC (V.int 1))) (tCons (tC (V.str "a")) (tCons (tC (V.int 1)) tNil)))) tNil)) (tCons (tTup (tCons (tTup (tCons (tC (V.int 0)) (tCons (tC (V.str "a")) tNil))) tNil)) (tCons (tTup (tCons (tTup (tCons (tC (V.int 0)) (tCons (tC (V.str "a")) (tCons (tC (V.str "@x")) tNil)))) tNil)) (tCons (tTup (tCons (tTup (tCons (tC (V.bl true)) (tCons (tC (V.str "a")) (tCons (tC (V.int 1)) tNil)))) tNil)) (tCons (tTup (tCons (tC (V.int 5)) tNil)) tNil)))))))) (gName 5))
      (tSeq (tAsg (tCall (spPick K) [] E0 (tCons (tVar 2) (tCons (tVar 5) tNil))) (gName 8))
      (tSeq (tAsg (tOp (rIxL K) (tLst (tCons (tVar 4) (tCons (tVar 4) (tCons (tVar 4) (tCons (tVar 4) (tCons (tCB rListD (tCons (tVar 4) tNil)) (tCons (tC V.non) tNil))))))) (tCall spDraw [] E0 (tCons (tVar 2) (tCons (tC (V.int 6)) tNil)))) (gName 9))
      (tSeq (tAsg (tCall (spDue K) [] E0 (tCons (tVar 9) (tCons (tVar 8) tNil))) (gName 10)) fun D σ H1 => tTryB K Cp Cb (wAs K (.ref Cb) 11 (tSuite K Cb) (fun _ _ _ _ => False) D) D σ H1))))))))))))) Dd
      [some (.ref a), some (.int c), x2, x3, x4, x5, x6, x7, x8, x9, x10, x11, x12, x13, x14, x15] H := by
  refine q_asgC (ea_cons (ev_var rfl) ea_nil) fun H1 e1 => ⟨c, rfl, fun wa H2 nwa e2 wl2 => ?_⟩
  have nw : H wa = none := fresh_back e1 nwa
  refine q_asgC (ea_cons (ev_var rfl) (ea_cons ev_c ea_nil)) fun H3 e3 => ⟨wa, 3, 0, rfl, wl2.ex e3, by omega, by omega, by omega, fun m z4 H4 m0 m1 hz4 k4 wl4 => ?_⟩
  have e14 : Ex H H4 := fun b u hb => k4 b u (e3 _ _ (e2 _ _ (e1 _ _ hb))) fun e => by rw [e, nw] at hb; cases hb
  refine fun rd nrd => ?_
  have nr : H rd = none := fresh_back e14 nrd
  have hrw : rd ≠ wa := wl_ne wl4 nrd
  have s5 : RS K H (L2.upd H4 rd (.dK [])) wa rd z4 [] [] := ⟨e14.trans (Ex.new nrd), wl4.updN hrw, upd_same, .nil, nw, nr, hrw⟩
  show tSeq _ _ _ _ (L2.upd H4 rd (.dK []))
  generalize L2.upd H4 rd (.dK []) = H5 at s5
  refine q_lstR (K := K) (ds := threeL.map fun p => .tup [.str p.1, .str p.2]) (eap_cons (evp_tup (eap_cons (evp_d ev_c (Rp.str "main")) (eap_cons (evp_d ev_c (Rp.str "async")) eap_nil)) (by simp)) (eap_cons (evp_tup (eap_cons (evp_d ev_c (Rp.str "pl")) (eap_cons (evp_d ev_c (Rp.str "plain")) eap_nil)) (by simp)) (eap_cons (evp_tup (eap_cons (evp_d ev_c (Rp.str "two")) (eap_cons (evp_d ev_c (Rp.str "async")) eap_nil)) (by simp)) eap_nil))) (by decide) fun sp xs H6 nsp e6 hsp rx => ?_
  obtain ⟨y0, y1, y2, rfl, r0, r1, r2⟩ := rx.three
  have s6 := s5.go e6
  have tw : ∀ y ∈ [y0, y1, y2], TW H6 y := fun y hy => by
    simp only [List.mem_cons, List.not_mem_nil, or_false] at hy
    rcases hy with rfl | rfl | rfl
    · exact tw_of r0 (by simp [threeL])
    · exact tw_of r1 (by simp [threeL])
    · exact tw_of r2 (by simp [threeL])
  refine q_forPick (ev_var rfl) (fun H7 e7 => elp_three rfl (e7 _ _ hsp) fun y hy => (tw y hy).ew (Ew.of e7)) fun lp ls H8 nlp e8 hlp ⟨hne, hl3, htl⟩ => ?_
  have s8 := s6.go e8
  refine ⟨wa, lp, ls, z4, rfl, s8.wl, by omega, wl_ne s6.wl nlp, .inl hlp, hne, by omega, fun x z9 H9 hx hz9 k9 wl9 => ?_⟩
  obtain ⟨q, ys, rfl, hq8, hyl, twq⟩ := htl x hx
  have s9 := s8.kw k9 wl9
  have hqw : q ≠ wa := fun e => by
    obtain ⟨u1, u2, hw⟩ := s8.wl
    rw [e, hw] at hq8
    injection hq8 with hq8
    injection hq8 with hq8
    obtain ⟨_, _, _, h1, _⟩ := twq (.int u1) (by rw [← hq8]; simp)
    cases h1
  have hqr : q ≠ rd := fun e => by rw [e, s8.dc] at hq8; cases hq8
  have hq9 := k9 _ _ hq8 hqw
  have tw9 : ∀ y ∈ ys, TW H9 y := fun y hy => (twq y hy).ew (k9.ew s8.wl wl9)
  refine q_forG (wkg_lst ev_c hq9) (fun i σ' H' => ∃ (y5 y12 y13 : Option V) (rt : Rt) (kvs : List (Key × V)) (z : Nat), σ' = [some (.ref a), some (.int c), some (.ref wa), some (.int m), some (.ref rd), y5, x6, x7, x8, x9, x10, x11, y12, y13, x14, x15] ∧ RS K H H' wa rd z rt kvs ∧ z ≤ 10 + i * 3460 ∧ (∀ p ∈ rt, EnOk p) ∧ (rt.map (·.1)).Nodup ∧ rt.length ≤ i ∧ H' q = some (.lst ys) ∧ ∀ y ∈ ys, TW H' y)
    (fun H10 e10 _ => ⟨_, _, _, [], [], z9, rfl, s9.go e10, by omega, (fun _ h => nomatch h), List.nodup_nil, Nat.le_refl _, e10 _ _ hq9, fun y hy => (tw9 y hy).ew (Ew.of e10)⟩) (fun i σ' H' _ ⟨_, _, _, _, _, _, _, _, _, _, _, _, h, _⟩ => sq_of h) ?_ ?_
  · rintro i x σ' H10 H11 hi ⟨y5, y12, y13, rt, kvs, z, rfl, s10, hz, he, nd, hlr, hq10, tw10⟩ e11 hx2
    have s11 := s10.go e11
    have hq11 := e11 _ _ hq10
    have tw11 : ∀ y ∈ ys, TW H11 y := fun y hy => (tw10 y hy).ew (Ew.of e11)
    obtain ⟨t, w, kd, rfl, ht, h3⟩ := tw11 x (List.mem_of_getElem? hx2)
    refine ⟨t, _, rfl, st_of ht, rfl, .str w, [.str kd], rfl, .str kd, [], rfl, rfl, ?_⟩
    have hkl := s11.kr.len
    refine rout_body s11 (by omega) h3 (by omega) fun H12 z12 d y5' y13' kvs2 s12 hz12 hen keep => ⟨_, _, _, _, _, z12, rfl, s12, by rw [Nat.succ_mul]; omega, fun p hp => ?_, putR_nd nd, ?_, keep _ _ hqw hqr hq11, fun y hy => ?_⟩
    · rcases putR_mem hp with hp | hp
      · exact he p hp
      · rw [hp]; exact hen
    · have := putR_len rt w d
      omega
    · obtain ⟨t2, w2, k2, h1, h2, h4⟩ := tw11 y hy
      refine ⟨t2, w2, k2, h1, keep _ _ (fun e => ?_) (fun e => ?_) h2, h4⟩
      · obtain ⟨_, _, hw⟩ := s11.wl
        rw [e, hw] at h2
        cases h2
      · rw [e, s11.dc] at h2
        cases h2
  · rintro σ' H10 ⟨y5, y12, y13, rt, kvs, z, rfl, s10, hz, he, nd, hlr, hq10, tw10⟩
    refine law_odd s10 (by omega) he nd (by omega) fun H11 z11 rt2 kvs2 y6 y7 s11 hz11 he2 nd2 hl2 => ?_
    refine law_com s11 (by omega) fun H12 z12 o dd y5' s12 hz12 hdd ro => ?_
    refine law_given s12 (by omega) he2 nd2 (by omega) hdd ro fun H13 z13 zv v r s13 ro13 gv hp ok => ?_
    exact law_try EX s13 he2 nd2 (by omega) (com_sm hdd) ro13 gv hp ok fun H14 y11 y14 y15 e14 => k H14 _ _ _ _ _ _ _ _ _ _ _ _ _ _ _ e14
end
end K2
/-! law. -/
namespace K2
open PySem L2 Evl PySem.Spec PyProof.Rows RZ StX
theorem prog_kb {K : PySem.W.Frag} {f : Addr} {fd : FuncData} {kw : Str × V} (F : FD K "__init__" "Program.__init__" (inClass (top 40) 0) [] [kw] f fd) : ∃ g, KBn K fd ["self", "routines", "outside"] 2 ["outside"] g (fun vs zs => vs ++ zs) := by
  obtain ⟨mv, h⟩ := FunD.kbinds0 (ps := ["self", "routines", "outside"]) F 2 ["outside"] [] (fun us mv ws => us ++ ws) (by simp) (by simp) (fun h1 _ h3 => h1.append h3)
    (fun D doc pm an cdv ct us mv ws h1 h2 h3 => match us, mv, ws, h1, h2, h3 with | [_, _], [], [_], _, _, _ => rfl)
  exact ⟨_, h⟩
def spLaw (K : PySem.W.Frag) : Sp := fun vs H Q _ => ∃ (a : Addr) (ns : List Int), vs = [.ref a] ∧ SqL K H a (ns.map V.int) ∧ ns.length ≤ 63 ∧ ∀ H', Q (.bl true) H'
section
variable {K : PySem.W.Frag} {σ : L2.St} {H : Hp} {te : TE} {tbd tz : TS} {Dd : Ends}
theorem evp_cell {a : Addr} {ns : List Int} (h : σ[0]? = some (some (.ref a))) (hS : SqL K H a (ns.map V.int)) : EvP (tCall (spCellAt K) [] E0 (tCons (tVar 0) (tCons (tC (V.int 0)) tNil))) σ H (fun _ v => ∃ c : Int, v = .int c) := fun H1 e Q q =>
  ⟨.ref a, h, a, ns, rfl, ex_l e hS, fun i H2 e2 => q _ H2 e2 ⟨i, rfl⟩⟩
theorem elp_cells {a : Addr} {ns : List Int} (h : σ[0]? = some (some (.ref a))) (hS : SqL K H a (ns.map V.int)) (hl : ns.length ≤ 63) :
    EvLP (tOp rCat (tLst (tCons (tCall (spCellAt K) [] E0 (tCons (tVar 0) (tCons (tC (V.int 0)) tNil))) tNil)) (tSl (rSlL K) (tVar 0) (tPart (tC (V.int 1))) (tPart (tC (V.int 6))))) σ H (fun _ xs => ∀ x ∈ xs, ∃ c : Int, x = .int c) := fun H1 e Q q =>
  evp_cell h hS H1 e _ fun v H2 e2 ⟨c, hc⟩ => ⟨sz_of (by simp), fun p hp => by
    have e3 : Ex H2 (L2.upd H2 p (.lst [v])) := Ex.new hp
    have hpl : (L2.upd H2 p (.lst [v])) p = some (.lst [v]) := upd_same
    show tSl _ _ _ _ σ (L2.upd H2 p (.lst [v])) _
    generalize L2.upd H2 p (.lst [v]) = H3 at e3 hpl
    refine (el_sl (ev_var h) (eo_some ev_c) (eo_some ev_c) (ex_l ((e.trans e2).trans e3) hS) : EvL _ σ H3 (cutV (ns.map V.int) (some 1) (some 6))) H3 (Ex.refl _) _ fun r H4 nr e4 hr => ?_
    have hcl := cutV_length (ns.map V.int) (some 1) (some 6)
    rw [List.length_map] at hcl
    refine ⟨p, r, _, _, rfl, rfl, e4 _ _ hpl, hr, sz_of (by show 1 + (cutV (ns.map V.int) (some 1) (some 6)).length ≤ 100000; omega), fun u nu => q u _ _ (fresh_back ((e2.trans e3).trans e4) nu) (((e2.trans e3).trans e4).trans (Ex.new nu)) upd_same fun x hx => ?_⟩
    rcases List.mem_append.mp hx with hx | hx
    · exact ⟨c, (List.mem_singleton.mp hx).trans hc⟩
    · unfold cutV at hx
      obtain ⟨c2, _, e⟩ := List.mem_map.mp (List.mem_of_mem_drop (List.mem_of_mem_take hx))
      exact ⟨c2, e.symm⟩⟩
end
section
variable {P : Program} {w : World} {K : PySem.W.Frag} {mg : Str → Option Value} {base : Heap} {Cp Cb fB : Addr} {dB : FuncData}
theorem sc57 : FnScope ["_law_script", "_law_cell", "_law_well_here", "_law_many_odd", "_law_routines", "_law_some", "_law_way", "_law_odd_here", "_law_coming", "_law_given", "_law_due_here", "e", "_law_word", "_law_kind", "_law_found", "_law_kept"] ["_law_script"] (defScope (top 57)) := ⟨rfl, rfl, rfl, by decide +kernel, rfl, by decide +kernel, by decide +kernel⟩
theorem ok_law (B : Bl mg) (RP : PrC K mg Cp) (ER : Errs P w K mg base Cb fB dB) (TX : XfC K Cb) (EX : PySem.W.exmOne K (.ref Cb) (.ref Cb) = some true) {f : Addr} {fd : FuncData} (F : Fun K "law" "law" (top 57) f fd) (O1 : Okd P w K mg base CX0 1 "_law_cell_at" ["_law_script", "_law_k"] (spCellAt K)) (O2 : Okd P w K mg base CX0 1 "_law_well" ["_law_cell"] spWell) (O3 : Okd P w K mg base CX0 1 "_law_draw" ["_law_well_here", "_law_size"] spDraw)
    (O4 : Okd P w K mg base CX0 2 "_law_pick" ["_law_well_here", "_law_some"] (spPick K)) (O5 : Okd P w K mg base CX0 7 "_law_steps" ["_law_well_here", "_law_deep", "_law_many_odd"] (spStp K 3)) (O6 : Okd P w K mg base CX0 32 "_law_due" ["_law_routines", "_law_coming"] (spDue K))
    (OR : ∀ {g : Addr} {gd : FuncData}, FD K "routines" "Program.routines" (inClass (top 40) 1) [] [] g gd → FnOk P w K mg base CX0 1 g gd ["self"] (spRou Cp)) (OO : ∀ {g : Addr} {gd : FuncData}, FD K "outside" "Program.outside" (inClass (top 40) 2) [] [] g gd → FnOk P w K mg base CX0 1 g gd ["self"] (spOut Cp))
    (OP : ∀ {g : Addr} {gd : FuncData} {kw : Str × V}, FD K "__init__" "Program.__init__" (inClass (top 40) 0) [] [kw] g gd → FnOk P w K mg base (L2.CX P w) 9 g gd ["self", "routines", "outside"] (spPr K Cp Cb)) : FnOk P w K mg base CX0 34 f fd ["_law_script"] (spLaw K) := by
  refine F.ok sc57 (fun vs H Q E h => by obtain ⟨_, _, rfl, _⟩ := h; rfl) (fun cdv A outer s H vs Q E hr h => ?_)
  obtain ⟨a, ns, rfl, hS, hlen, k⟩ := h
  obtain ⟨f__law_cell_at, d__law_cell_at, m__law_cell_at, k__law_cell_at, b__law_cell_at, G__law_cell_at⟩ := O1.ex
  obtain ⟨f__law_well, d__law_well, m__law_well, k__law_well, b__law_well, G__law_well⟩ := O2.ex
  obtain ⟨f__law_draw, d__law_draw, m__law_draw, k__law_draw, b__law_draw, G__law_draw⟩ := O3.ex
  obtain ⟨f__law_pick, d__law_pick, m__law_pick, k__law_pick, b__law_pick, G__law_pick⟩ := O4.ex
  obtain ⟨f__law_steps, d__law_steps, m__law_steps, k__law_steps, b__law_steps, G__law_steps⟩ := O5.ex
  obtain ⟨f__law_due, d__law_due, m__law_due, k__law_due, b__law_due, G__law_due⟩ := O6.ex
  obtain ⟨fI, dI, kwI, MI, FI, _⟩ := RP.ini
  obtain ⟨gI, bI⟩ := prog_kb FI
  obtain ⟨pR, gR, dR, prR, FR⟩ := RP.rou
  obtain ⟨pO, gO, dO, prO, FO⟩ := RP.out
  have GI := OP FI
  have GR := OR FR
  have GO := OO FO
  have bR : L2.Binds K dR ["self"] [] := FR.bindsN fun _ _ _ _ _ _ us hl => match us, hl with | [_], _ => rfl
  have bO : L2.Binds K dO ["self"] [] := FO.bindsN fun _ _ _ _ _ _ us hl => match us, hl with | [_], _ => rfl
  have hu := hu_of hr
  have hu1 := Nat.lt_of_succ_lt hu
  have hu0 := hr.units
  refine ⟨_, (pss_cons (ps_for PassesOwn.never rfl (pi_list (pe_op op_cat (pe_lst (pa_cons (pe_call G__law_cell_at (hr.mono (by first | decide | omega)) (by rfl) m__law_cell_at k__law_cell_at b__law_cell_at .nil pass0 (pa_cons (pv 0) (pa_cons pe_int pa_nil))) pa_nil)) (pe_slice sl_list (pv 0) (po_some pe_int) (po_some pe_int)))) (pg_name (i := 1) sc57.nd rfl (Or.inl rfl)) (pss_cons (ps_set (i := 2) sc57.nd rfl (Or.inl rfl) (pe_call G__law_well (hr.mono (by first | decide | omega)) (by rfl) m__law_well k__law_well b__law_well .nil pass0 (pa_cons (pv 1) pa_nil)))
      (pss_cons (ps_set (i := 3) sc57.nd rfl (Or.inl rfl) (pe_call G__law_draw (hr.mono (by first | decide | omega)) (by rfl) m__law_draw k__law_draw b__law_draw .nil pass0 (pa_cons (pv 2) (pa_cons pe_int pa_nil))))
      (pss_cons (ps_set (i := 4) sc57.nd rfl (Or.inl rfl) pe_dnewK)
      (pss_cons (ps_set (i := 5) sc57.nd rfl (Or.inl rfl) (pe_lst (pa_cons (pe_tup (pa_cons pe_str (pa_cons pe_str pa_nil))) (pa_cons (pe_tup (pa_cons pe_str (pa_cons pe_str pa_nil))) (pa_cons (pe_tup (pa_cons pe_str (pa_cons pe_str pa_nil))) pa_nil)))))
      (pss_cons (ps_for PassesOwn.never rfl (pi_list (pe_call G__law_pick (hr.mono (by first | decide | omega)) (by rfl) m__law_pick k__law_pick b__law_pick .nil pass0 (pa_cons (pv 2) (pa_cons (pe_lst (pa_cons (pv 5) (pa_cons (pe_back (pv 5) (po_some (pe_un un_neg pe_int))) (pa_cons (pe_op op_cat (pe_slice sl_list (pv 5) (po_some pe_int) po_none) (pe_slice sl_list (pv 5) po_none (po_some pe_int))) pa_nil)))) pa_nil)))) (pg_tup (by rfl) (pgs_cons (pg_name (i := 12) sc57.nd rfl (Or.inl rfl)) (pgs_cons (pg_name (i := 13) sc57.nd rfl (Or.inl rfl)) pgs_nil))) (pss_cons (ps_set (i := 13) sc57.nd rfl (Or.inl rfl) (pe_call G__law_pick (hr.mono (by first | decide | omega)) (by rfl) m__law_pick k__law_pick b__law_pick .nil pass0 (pa_cons (pv 2) (pa_cons (pe_op op_cat (pe_op op_rep (pe_lst (pa_cons (pv 13) pa_nil)) pe_int) (pe_lst (pa_cons pe_str (pa_cons pe_int pa_nil)))) pa_nil))))
      (pss_cons (ps_set (i := 5) sc57.nd rfl (Or.inl rfl) (pe_op op_cat (pe_op op_rep (pe_lst (pa_cons (pe_tup pa_nil) (pa_cons (pe_tup (pa_cons pe_str pa_nil)) (pa_cons (pe_tup (pa_cons pe_str (pa_cons pe_str pa_nil))) (pa_cons (pe_tup (pa_cons pe_str (pa_cons pe_str pa_nil))) (pa_cons (pe_tup pa_nil) pa_nil)))))) pe_int) (pe_lst (pa_cons (pe_tup (pa_cons pe_str (pa_cons pe_str pa_nil))) (pa_cons (pe_tup (pa_cons pe_str pa_nil)) (pa_cons (pe_lst (pa_cons pe_str pa_nil)) (pa_cons (pe_tup (pa_cons pe_int pa_nil)) pa_nil)))))))
      (pss_one (ps_dput hu (pv 4) (pv 12) (pe_tup (pa_cons (pv 13) (pa_cons (pe_call G__law_pick (hr.mono (by first | decide | omega)) (by rfl) m__law_pick k__law_pick b__law_pick .nil pass0 (pa_cons (pv 2) (pa_cons (pv 5) pa_nil))) (pa_cons (pe_call G__law_steps (hr.mono (by first | decide | omega)) (by rfl) m__law_steps k__law_steps b__law_steps .nil pass0 (pa_cons (pv 2) (pa_cons pe_int (pa_cons (pv 3) pa_nil)))) pa_nil)))) rfl)))))
      (pss_cons (ps_set (i := 6) sc57.nd rfl (Or.inl rfl) (pe_call G__law_draw (hr.mono (by first | decide | omega)) (by rfl) m__law_draw k__law_draw b__law_draw .nil pass0 (pa_cons (pv 2) (pa_cons pe_int pa_nil))))
      (pss_cons (ps_set (i := 7) sc57.nd rfl (Or.inl rfl) (pe_lst (pa_cons (pe_tup (pa_cons pe_str (pa_cons pe_int pa_nil))) (pa_cons (pe_tup (pa_cons pe_str (pa_cons pe_int pa_nil))) (pa_cons (pe_tup (pa_cons (pe_op op_mulS pe_str pe_int) (pa_cons (pe_tup pa_nil) pa_nil))) (pa_cons (pe_tup (pa_cons pe_str (pa_cons (pe_tup (pa_cons pe_str (pa_cons (pe_tup pa_nil) pa_nil))) pa_nil))) (pa_cons (pe_tup (pa_cons pe_str (pa_cons (pe_tup (pa_cons pe_str (pa_cons (pe_tup pa_nil) (pa_cons (pe_lst pa_nil) pa_nil)))) pa_nil))) pa_nil)))))))
      (pss_cons (ps_if (pt_cmpR op_lt2 (pv 6) pe_int (nomark _)) (pss_one (ps_dput hu (pv 4) (pe_ix ix_tup (pe_ix ix_list (pv 7) (pv 6) (fun _ _ => rfl)) pe_int (fun _ _ => rfl)) (pe_ix ix_tup (pe_ix ix_list (pv 7) (pv 6) (fun _ _ => rfl)) pe_int (fun _ _ => rfl)) rfl)) pss_nil)
      (pss_cons (ps_set (i := 5) sc57.nd rfl (Or.inl rfl) (pe_lst (pa_cons (pe_tup pa_nil) (pa_cons (pe_tup pa_nil) (pa_cons (pe_tup pa_nil) (pa_cons (pe_tup (pa_cons (pe_tup (pa_cons pe_int (pa_cons pe_str (pa_cons pe_int pa_nil)))) (pa_cons (pe_tup (pa_cons pe_int (pa_cons pe_str (pa_cons (pe_tup (pa_cons pe_non (pa_cons pe_str pa_nil))) pa_nil)))) (pa_cons (pe_tup (pa_cons pe_int (pa_cons pe_str (pa_cons pe_bl pa_nil)))) pa_nil)))) (pa_cons (pe_lst pa_nil) (pa_cons (pe_tup (pa_cons (pe_tup (pa_cons pe_int (pa_cons pe_str (pa_cons pe_int pa_nil)))) (pa_cons (pe_tup (pa_cons pe_int (pa_cons pe_str (pa_cons pe_int pa_nil)))) pa_nil))) pa_nil))))))))
      (pss_cons (ps_set (i := 5) sc57.nd rfl (Or.inl rfl) (pe_op op_cat (pv 5) (pe_lst (pa_cons (pe_tup (pa_cons (pe_tup (pa_cons pe_int (pa_cons pe_str (pa_cons pe_int pa_nil)))) pa_nil)) (pa_cons (pe_tup (pa_cons (pe_tup (pa_cons (pe_un un_neg pe_int) (pa_cons pe_str (pa_cons pe_int pa_nil)))) pa_nil)) (pa_cons (pe_tup (pa_cons (pe_tup (pa_cons pe_int (pa_cons pe_str pa_nil))) pa_nil)) (pa_cons (pe_tup (pa_cons (pe_tup (pa_cons pe_int (pa_cons pe_str (pa_cons pe_str pa_nil)))) pa_nil)) (pa_cons (pe_tup (pa_cons (pe_tup (pa_cons pe_bl (pa_cons pe_str (pa_cons pe_int pa_nil)))) pa_nil)) (pa_cons (pe_tup (pa_cons pe_int pa_nil)) pa_nil)))))))))
      (pss_cons (ps_set (i := 8) sc57.nd rfl (Or.inl rfl) (pe_call G__law_pick (hr.mono (by first | decide | omega)) (by rfl) m__law_pick k__law_pick b__law_pick .nil pass0 (pa_cons (pv 2) (pa_cons (pv 5) pa_nil))))
      (pss_cons (ps_set (i := 9) sc57.nd rfl (Or.inl rfl) (pe_ix ix_list (pe_lst (pa_cons (pv 4) (pa_cons (pv 4) (pa_cons (pv 4) (pa_cons (pv 4) (pa_cons (pe_callTy (call_list_dK rfl) (by rfl) B.list boot_list (pa_cons (pv 4) pa_nil)) (pa_cons pe_non pa_nil))))))) (pe_call G__law_draw (hr.mono (by first | decide | omega)) (by rfl) m__law_draw k__law_draw b__law_draw .nil pass0 (pa_cons (pv 2) (pa_cons pe_int pa_nil))) (fun _ _ => rfl)))
      (pss_cons (ps_set (i := 10) sc57.nd rfl (Or.inl rfl) (pe_call G__law_due (hr.mono (by first | decide | omega)) (by rfl) m__law_due k__law_due b__law_due .nil pass0 (pa_cons (pv 9) (pa_cons (pv 8) pa_nil))))
      (pss_one (ps_try_as (i := 11) (tb := fun W => tSeq (tAsg (tMakeKS Cp 1 1 (spPr K Cp Cb) (fun vs zs => vs ++ zs) (WE W) (tCons (tVar 9) tNil) (tCons (tVar 8) tNil)) (gName 14)) (tSeq (tIfS (tOr (tTest (tOp rNotN (tVar 10) (tC .non))) (tOr (tTest (tOp rNeDS (tProp Cp (spRou Cp) [] E0 (tVar 14)) (tVar 9))) (tTest (tOp (rNeSelf K) (tProp Cp (spOut Cp) [] E0 (tVar 14)) (tVar 8))))) (tRet (tC (.bl false))) tNext) (tSeq (tAsg (tCB (fun xs H Q => ∃ (a : Addr) (ps : List Addr) (kvs : List (Key × V)), xs = [.ref a] ∧ SqL K H a (ps.map V.ref) ∧ Paired (fun p kv => SqT K H p [kV kv.1, kv.2]) ps kvs ∧ ∀ p, H p = none → Q (.ref p) (upd H p (.dK (mergeK [] kvs)))) (tCons (LiI.tListItems (tVar 9)) tNil)) (gName 15)) (tSeq (sDPut (tVar 9) (tC (.str "zz")) (tTup (tCons (tC (.str "plain")) (tCons (tTup tNil) (tCons (tTup tNil) tNil))))) (tSeq (tDrop (tBM0 K "dict" rDClear (tProp Cp (spRou Cp) [] E0 (tVar 14)))) (tIfS (tTest (tOp rNeDS (tProp Cp (spRou Cp) [] E0 (tVar 14)) (tVar 15))) (tRet (tC (.bl false))) tNext)))))) (ts := fun a cls d => tIfS (tOr (tTest (tOp rIsN (tVar 10) (tC .non))) (tTest (tOp (rNeD K) (tXf a cls d Cb "place" (tVar 11)) (tVar 10)))) (tRet (tC (.bl false))) tNext) (Wout := fun _ _ _ _ => False) rfl rfl sc57.nd rfl rfl ⟨rfl, by decide, .inl ER.R.m_BadProgram⟩ takes0 (fun W pn xe tk _ => (pss_cons (ps_set (i := 14) sc57.nd rfl (Or.inl rfl) (pe_makeKS (n := 1) MI GI (hr.mono (by first | decide | omega)) (by rfl) RP.m_Program bI (fun σ => passAt tk σ) (pa_cons (pv 9) pa_nil) (pk_cons (pv 8) pk_nil)))
      (pss_cons (ps_if (PW.pt (pw_or (pt_cmpR op_notN1 (pv 10) pe_non (nomark _)) (pw_or (pt_cmpR (op_neDS hu1) (pe_prop (pv 14) RP.cl prR GR (hr.mono (by first | decide | omega)) bR .nil pass0 rfl) (pv 9) (nomark _)) (pw_or1 (pt_cmpR (op_neSelf hu1) (pe_prop (pv 14) RP.cl prO GO (hr.mono (by first | decide | omega)) bO .nil pass0 rfl) (pv 8) (nomark _)))))) (pss_one (ps_ret pe_bl)) pss_nil)
      (pss_cons (ps_set (i := 15) sc57.nd rfl (Or.inl rfl) (pe_callTy (call_dictP rfl) (by rfl) B.dict boot_dict (pa_cons (LiI.pe_listItems rfl (pv 9) (by rfl) B.list boot_list) pa_nil)))
      (pss_cons (ps_dput hu (pv 9) pe_str (pe_tup (pa_cons pe_str (pa_cons (pe_tup pa_nil) (pa_cons (pe_tup pa_nil) pa_nil)))) rfl)
      (pss_cons (ps_expr (pe_bm0 PySem.F.plainAttrs_dict PySem.F.slot_dict_clear PySem.F.type_dict_clear mtd_clear (by exact pe_prop (pv 14) RP.cl prR GR (hr.mono (by first | decide | omega)) bR .nil pass0 rfl)))
      (pss_one (ps_if (pt_cmpR (op_neDS hu1) (pe_prop (pv 14) RP.cl prR GR (hr.mono (by first | decide | omega)) bR .nil pass0 rfl) (pv 15) (nomark _)) (pss_one (ps_ret pe_bl)) pss_nil))))))))
      (fun a oe cls d pn hz hf => (pss_one (ps_if (PW.pt (pw_or (pt_cmpR op_isN1 (pv 10) pe_non (nomark _)) (pw_or1 (pt_cmpR (op_neD hu0) (pe_xf TX ER.R.place hz hf (pv 11)) (pv 10) (nomark _))))) (pss_one (ps_ret pe_bl)) pss_nil)))))))))))))))))))
      (pss_one (ps_ret pe_bl))), ?_⟩
  refine q_forBindL (elp_cells rfl hS hlen) fun pl xs H0 npl e0 hpl hxs => ?_
  refine q_forG (wkg_lst ev_c hpl) (fun i σ' H' => ∃ x1 x2 x3 x4 x5 x6 x7 x8 x9 x10 x11 x12 x13 x14 x15 : Option V, σ' = [some (.ref a), x1, x2, x3, x4, x5, x6, x7, x8, x9, x10, x11, x12, x13, x14, x15] ∧ Ex H0 H')
    (fun H1 e1 _ => ⟨_, _, _, _, _, _, _, _, _, _, _, _, _, _, _, rfl, e1⟩) (fun i σ' H' _ ⟨_, _, _, _, _, _, _, _, _, _, _, _, _, _, _, _, q⟩ => sq_of (q _ _ hpl)) ?_ (fun σ' H' ⟨_, _, _, _, _, _, _, _, _, _, _, _, _, _, _, _, _⟩ => s_ret ev_c fun H2 e2 => k H2)
  rintro i x σ' HA HB hi ⟨x1, x2, x3, x4, x5, x6, x7, x8, x9, x10, x11, x12, x13, x14, x15, rfl, eA⟩ eAB hx
  obtain ⟨c, rfl⟩ := hxs x (List.mem_of_getElem? hx)
  have eB : Ex H0 HB := eA.trans eAB
  refine law_cell EX fun H2 y1 y2 y3 y4 y5 y6 y7 y8 y9 y10 y11 y12 y13 y14 y15 e2 => ⟨_, _, _, _, _, _, _, _, _, _, _, _, _, _, _, rfl, eB.trans e2⟩
end
end K2
/-! The end: the tables of the top. -/
namespace K2
open PySem L2 Evl PySem.Spec PyProof.Rows RZ StX
def strB : Str → Value → Bool
  | x, .str y _ => decide (y = x)
  | _, _ => false
def intB : Int → Value → Bool
  | i, .int j _ => decide (j = i)
  | _, _ => false
def seqB {α : Type} (f : α → Value → Bool) : List α → List Value → Bool
  | [], [] => true
  | x :: l, v :: m => f x v && seqB f l m
  | _, _ => false
/-- a tuple of the top -/
def tupB {α : Type} (f : α → Value → Bool) (K : PySem.W.Frag) (a : Addr) (l : List α) : Bool := match K.lookup a with
  | some ⟨.type c, _, .seq its _, _⟩ => decide (c = "tuple") && (decide (its.size ≤ 1000) && seqB f l its.toList)
  | _ => false
def refB (g : Addr → Bool) : Value → Bool
  | .ref t => g t
  | _ => false
theorem seq_rel {α : Type} {f : α → Value → Bool} {r : α → V} (hr : ∀ x v, f x v = true → L2.RelV (r x) v) : ∀ {l : List α} {m : List Value}, seqB f l m = true → Vals (l.map r) m
  | [], [], _ => .nil
  | [], _ :: _, h => nomatch h
  | _ :: _, [], h => nomatch h
  | x :: l, v :: m, h => by
    have h' : (f x v && seqB f l m) = true := h
    rw [Bool.and_eq_true] at h'
    exact .cons (hr _ _ h'.1) (seq_rel hr h'.2)
theorem str_rel (x : Str) (v : Value) (h : strB x v = true) : L2.RelV (.str x) v := by
  unfold strB at h
  split at h
  · exact ⟨_, by rw [of_decide_eq_true h]⟩
  · cases h
theorem int_rel (i : Int) (v : Value) (h : intB i v = true) : L2.RelV (.int i) v := by
  unfold intB at h
  split at h
  · exact ⟨_, by rw [of_decide_eq_true h]⟩
  · cases h
theorem tup_at {α : Type} {f : α → Value → Bool} {r : α → V} (hr : ∀ x v, f x v = true → L2.RelV (r x) v) {K : PySem.W.Frag} {a : Addr} {l : List α} (h : tupB f K a l = true) (H : Hp) : SqT K H a (l.map r) := by
  unfold tupB at h
  split at h
  · rename_i c od its n sl hq
    rw [Bool.and_eq_true, Bool.and_eq_true, decide_eq_true_eq, decide_eq_true_eq] at h
    obtain ⟨h1, h2, h3⟩ := h
    subst h1
    exact .inr ⟨_, its, n, hq, rfl, rfl, Nat.le_trans h2 (by decide), seq_rel hr h3⟩
  · cases h
/-- a table of the top with texts as keys -/
theorem tab_mk {K : PySem.W.Frag} {w : World} {a : Addr} {α : Type} {l : List (Str × α)} {rB : α → Value → Bool} (h1 : He.dicW K a = some (He.keysIn w.params (l.map (·.1)))) (h2 : (l.all fun p => match PySem.W.nsIn K a p.1 with | some (some u) => rB p.2 u | _ => false) = true) :
    ∃ es n, KDict K w a es n ∧ (∀ z, l.lookup z = none → PySem.W.nsIn K a z = some none) ∧ ∀ z x, l.lookup z = some x → ∃ u, PySem.W.nsIn K a z = some (some u) ∧ rB x u = true := by
  obtain ⟨es, n, D⟩ := He.dicW_ok h1
  have hk : es.toList.map He.keyOf = He.keysIn w.params (l.map (·.1)) := by
    unfold He.dicW at h1
    rw [D.at_] at h1
    have e : (decide (("dict" : String) = "dict") && ((#[] : Array (Option Value)).isEmpty && !(a == sysModules))) = true := by rw [D.low]; rfl
    dsimp only at h1
    rw [e] at h1
    exact Option.some.inj h1
  refine ⟨es, n, D, fun z hz => ?_, fun z x hz => ?_⟩
  · have keys : ∀ e ∈ es.toList, ∃ k t, e.key = .str k t ∧ k ∈ l.map (·.1) := fun e he => by
      obtain ⟨k, t, e1, _⟩ := D.lit.all e he
      refine ⟨k, t, e1, ?_⟩
      have hm : He.keyOf e ∈ He.keysIn w.params (l.map (·.1)) := by rw [← hk]; exact List.mem_map_of_mem he
      unfold He.keysIn at hm
      obtain ⟨k2, hk2, e2⟩ := List.mem_map.mp hm
      unfold He.keyOf at e2
      rw [e1] at e2
      have := Option.some.inj e2
      rw [(Prod.mk.inj this).1] at hk2
      exact hk2
    have f1 : es.toList.find? (·.key.isStr z) = none := by
      rw [List.find?_eq_none]
      intro e he hs
      obtain ⟨k, t, e1, e2⟩ := keys e he
      rw [e1, PySem.W.isStr_of] at hs
      have : k = z := by simpa [Value.isStrOf] using hs
      rw [this] at e2
      obtain ⟨p, hp, rfl⟩ := List.mem_map.mp e2
      have := List.lookup_eq_none_iff.mp hz p hp
      simp at this
    have f2 : es.toList.any (·.refKey) = false := by
      rw [List.any_eq_false]
      intro e he
      obtain ⟨k, t, e1, _⟩ := keys e he
      simp [DictEntry.refKey, e1]
    unfold PySem.W.nsIn
    rw [D.at_]
    dsimp only
    rw [f1, f2]
    rfl
  · have hm : (z, x) ∈ l := by
      clear h1 h2 hk D
      induction l with
      | nil => cases hz
      | cons p l ih =>
        obtain ⟨y, e⟩ := p
        rw [List.lookup_cons] at hz
        split at hz
        · rename_i he
          cases hz
          rw [beq_iff_eq.mp he]
          exact List.mem_cons_self
        · exact List.mem_cons_of_mem _ (ih hz)
    have := List.all_eq_true.mp h2 _ hm
    dsimp only at this
    split at this
    · rename_i u hu
      exact ⟨u, hu, this⟩
    · cases this
def arB (K : PySem.W.Frag) (p : Int × Int) : Value → Bool := refB fun t => tupB intB K t [p.1, p.2]
def shB (K : PySem.W.Frag) (l : List Str) : Value → Bool := refB fun t => tupB strB K t l
theorem ref_of {g : Addr → Bool} {u : Value} (h : refB g u = true) : ∃ t, u = .ref t ∧ g t = true := by
  cases u <;> first | exact ⟨_, rfl, h⟩ | cases h
theorem tb_mk {K : PySem.W.Frag} {w : World} {mg : Str → Option Value} {a1 a2 a3 a4 a5 a6 : Addr} (g1 : mg "ARITIES" = some (.ref a1)) (g2 : mg "ROUTINE_AT" = some (.ref a2)) (g3 : mg "SHAPES" = some (.ref a3)) (g4 : mg "BARRED" = some (.ref a4)) (g5 : mg "FOR_ASYNC" = some (.ref a5)) (g6 : mg "LOOPS" = some (.ref a6))
    (d1 : He.dicW K a1 = some (He.keysIn w.params (arL.map (·.1)))) (v1 : (arL.all fun p => match PySem.W.nsIn K a1 p.1 with | some (some u) => arB K p.2 u | _ => false) = true)
    (d2 : He.dicW K a2 = some (He.keysIn w.params (roL.map (·.1)))) (v2 : (roL.all fun p => match PySem.W.nsIn K a2 p.1 with | some (some u) => intB p.2 u | _ => false) = true)
    (d3 : He.dicW K a3 = some (He.keysIn w.params (shL.map (·.1)))) (v3 : (shL.all fun p => match PySem.W.nsIn K a3 p.1 with | some (some u) => shB K p.2 u | _ => false) = true)
    (t4 : tupB strB K a4 barredL = true) (t5 : tupB strB K a5 asyncL = true) (t6 : tupB strB K a6 loopsL = true) : Tb K w mg := by
  obtain ⟨es1, n1, D1, z1, y1⟩ := tab_mk d1 v1
  obtain ⟨es2, n2, D2, z2, y2⟩ := tab_mk d2 v2
  obtain ⟨es3, n3, D3, z3, y3⟩ := tab_mk d3 v3
  refine ⟨⟨a1, _, es1, n1, g1, rfl, D1, z1, fun z lo hi h => ?_⟩, ⟨a2, _, es2, n2, g2, rfl, D2, z2, fun z k h => ?_⟩, ⟨a3, _, es3, n3, g3, rfl, D3, z3, fun z l h => ?_⟩, ⟨a4, _, g4, rfl, fun H => tup_at str_rel t4 H⟩, ⟨a5, _, g5, rfl, fun H => tup_at str_rel t5 H⟩, ⟨a6, _, g6, rfl, fun H => tup_at str_rel t6 H⟩⟩
  · obtain ⟨u, h1, h2⟩ := y1 z _ h
    obtain ⟨t, rfl, h3⟩ := ref_of h2
    exact ⟨t, _, h1, rfl, fun H => tup_at (l := [lo, hi]) int_rel h3 H⟩
  · obtain ⟨u, h1, h2⟩ := y2 z _ h
    exact ⟨u, h1, int_rel _ _ h2⟩
  · obtain ⟨u, h1, h2⟩ := y3 z _ h
    obtain ⟨t, rfl, h3⟩ := ref_of h2
    exact ⟨t, _, h1, rfl, fun H => tup_at str_rel h3 H⟩
theorem ca_mk {K : PySem.W.Frag} {w : World} {mg : Str → Option Value} {a : Addr} (g : mg "CALL_AT" = some (.ref a)) (d : He.dicW K a = some (He.keysIn w.params (caL.map (·.1)))) (v : (caL.all fun p => match PySem.W.nsIn K a p.1 with | some (some u) => intB p.2 u | _ => false) = true) : Ca K w mg := by
  obtain ⟨es, n, D, z, y⟩ := tab_mk d v
  refine ⟨⟨a, _, es, n, g, rfl, D, z, fun z k h => ?_⟩⟩
  obtain ⟨u, h1, h2⟩ := y z _ h
  exact ⟨u, h1, int_rel _ _ h2⟩
end K2
/-! What the top has written. -/
namespace K2
open PySem L2 Evl PySem.Spec PyProof.Rows RZ StX
theorem df_mk {K : PySem.W.Frag} {h : Heap} {mg : Str → Option Value} {nm : Str} {st : Stmt} {ps : List Str} {f : Addr} {od an : Option Addr} {sl : Array (Option Value)} {oc kV dc pm cd ct : Value} (X : K.In h) (G : h.Ns mainGlobals mg)
    (a : PySem.W.nsIn K mainGlobals nm = some (some (.ref f))) (l : K.lookup f = some ⟨oc, od, .func (PySem.W.fnOf nm nm (defArgs st) (defBody st) (defScope st) .none kV dc pm an cd ct), sl⟩) (c : PySem.W.codeIn K cd nm = true) (k : PySem.W.keepIn K (.ref f) = true)
    (hb : ∀ (kV doc pm : Value) (an : Option Addr) (cdv ct : Value) (us : List Value), us.length = ps.length → bindArgs (PySem.W.fnOf nm nm (defArgs st) (defBody st) (defScope st) .none kV doc pm an cdv ct) ⟨us, []⟩ = pure (ps.zip us)) : Df K mg nm st ps := by
  have F := fun_mk (st := st) l c k
  exact ⟨f, _, PySem.W.mg_of X G a, F.binds hb, F⟩
/-- an error of a class is what an except of that class names -/
theorem exm_same {K : PySem.W.Frag} {C : Addr} (h1 : PySem.W.subIn K (.ref C) (.type "BaseException") = some true) (h2 : PySem.W.isClsIn K C = true) (h3 : PySem.W.typeIn K (.ref C) = some (.type "type")) (h4 : PySem.W.subIn K (.ref C) (.ref C) = some true) : PySem.W.exmOne K (.ref C) (.ref C) = some true := by
  have h2' : (PySem.W.clsIn K C).isSome = true := h2
  have e1 : (PySem.W.subIn K (.ref C) (.type "BaseException") == some true) = true := by rw [h1]; rfl
  have e2 : ((PySem.W.clsIn K C).isSome && PySem.W.typeIn K (.ref C) == some (.type "type")) = true := by rw [h2', h3]; rfl
  exact (if_pos e1).trans ((if_pos e2).trans h4)
theorem ers_mk {K : PySem.W.Frag} {h : Heap} {mg : Str → Option Value} {C L fB fL TB TL eT : Addr} (X : K.In h) (G : h.Ns mainGlobals mg)
    {nm q : Str} {N : Addr} {bs bm : List Value} {sn : List Str} {sub : List Value} {ab : Bool} {col : Option Bool} {dd : Option Addr} {m0 m1 m2 m3 m5 : Option Value} {od1 an1 od2 od3 an3 od4 : Option Addr} {sl1 sl2 sl3 sl4 : Array (Option Value)} {oc1 kV1 dc1 pm1 cd1 ct1 oc2 oc3 kV3 dc3 pm3 cd3 ct3 oc4 : Value} {n2 n4 : Nat} {tk : Tok}
    (b1 : PySem.W.nsIn K mainGlobals "BadProgram" = some (some (.ref C))) (b2 : K.lookup C = some (excClassObj nm q C N bs bm true sn sub ab col dd m0 m1 m2 m3 m5 "ValueError.__new__")) (b3 : PySem.HandSPX.refsVE bm = true)
    (b4 : PySem.W.findIn K (.ref C) "__setattr__" = some (some (.builtin "object.__setattr__"))) (b5 : PySem.W.subIn K (.ref C) (.type "BaseException") = some true) (b6 : PySem.W.typeIn K (.ref C) = some (.type "type")) (b7 : PySem.W.keepIn K (.ref C) = true)
    (b8 : PySem.W.findIn K (.ref C) "why" = some none) (b9 : PySem.W.findIn K (.ref C) "place" = some none) (b10 : PySem.W.findIn K (.ref C) "__init__" = some (some (.ref fB))) (b11 : PySem.W.typeIn K (.ref fB) = some (.type "function"))
    (b12 : K.lookup fB = some ⟨oc1, od1, .func (PySem.W.fnOf "__init__" "BadProgram.__init__" (defArgs sBP) (defBody sBP) (defScope sBP) (.ref TB) kV1 dc1 pm1 an1 cd1 ct1), sl1⟩) (b13 : PySem.W.codeIn K cd1 "BadProgram.__init__" = true) (b14 : PySem.W.keepIn K (.ref fB) = true) (b15 : K.lookup TB = some ⟨oc2, od2, .seq #[.ref eT] n2, sl2⟩)
    (l1 : PySem.W.nsIn K mainGlobals "LoopError" = some (some (.ref L))) (l2 : PySem.W.keepIn K (.ref L) = true) (l3 : PySem.W.readsIn K L (.type "type") = true) (l4 : PySem.W.specialIn K (.ref L) "__getattribute__" = some (some (.builtin "type.__getattribute__"))) (l5 : PySem.W.findCls K (.ref L) (.type "type") "__init__" = some (.val (.ref fL)))
    (l6 : K.lookup fL = some ⟨oc3, od3, .func (PySem.W.fnOf "__init__" "LoopError.__init__" (defArgs sLE) (defBody sLE) (defScope sLE) (.ref TL) kV3 dc3 pm3 an3 cd3 ct3), sl3⟩) (l7 : PySem.W.codeIn K cd3 "LoopError.__init__" = true) (l8 : PySem.W.keepIn K (.ref fL) = true) (l9 : K.lookup TL = some ⟨oc4, od4, .seq #[.str "" tk] n4, sl4⟩) : Ers K mg C :=
  { m_BadProgram := PySem.W.mg_of X G b1
    T := ⟨⟨nm, q, N, bs, bm, sn, sub, ab, col, dd, m0, m1, m2, m3, m5, b2, b3⟩, b4, b5, b6, b7⟩
    why := b8
    place := b9
    ini := ⟨fB, _, .ref eT, b10, b11, ⟨⟨_, _, _, _, _, _, _, _, _, _, rfl, b12, b13, .inr ⟨by simp, TB, _, [.ref eT], n2, rfl, b15, rfl, .cons rfl .nil⟩, .inl rfl⟩, b14⟩⟩
    base := ⟨L, fL, _, .str "", PySem.W.mg_of X G l1, l2, ⟨l3, l4⟩, ⟨l5, rfl⟩, l8, ⟨⟨_, _, _, _, _, _, _, _, _, _, rfl, l6, l7, .inr ⟨by simp, TL, _, [.str "" tk], n4, rfl, l9, rfl, .cons ⟨_, rfl⟩ .nil⟩, .inl rfl⟩, l8⟩⟩ }
theorem prc_mk {K : PySem.W.Frag} {h : Heap} {mg : Str → Option Value} {C f1 f2 f3 p2 p3 kd e0 : Addr} (X : K.In h) (G : h.Ns mainGlobals mg) {od1 an1 od2 an2 od3 an3 : Option Addr} {sl1 sl2 sl3 : Array (Option Value)} {oc1 dc1 pm1 cd1 ct1 oc2 kV2 dc2 pm2 cd2 ct2 oc3 kV3 dc3 pm3 cd3 ct3 : Value} {r2 r3 : List Value}
    (p1 : PySem.W.nsIn K mainGlobals "Program" = some (some (.ref C))) (c1 : PySem.W.plainGet K C Str.empty = true) (c2 : PySem.W.hasDictIn K C = true) (c3 : PySem.W.plainOver K C = true) (c4 : PySem.W.findIn K (.ref C) "__setattr__" = some (some (.builtin "object.__setattr__")))
    (n1 : PySem.W.findIn K (.ref C) "_routines" = some none) (n2 : PySem.W.findIn K (.ref C) "_arrivals" = some none) (n3 : PySem.W.findIn K (.ref C) "ops" = some none)
    (m1 : PySem.W.makesIn K C = true) (m2 : PySem.W.findIn K (.ref C) "__init__" = some (some (.ref f1))) (m3 : PySem.W.isFn K (.ref f1) = true) (m4 : PySem.W.keepIn K (.ref C) = true)
    (i1 : K.lookup f1 = some ⟨oc1, od1, .func (PySem.W.fnOf "__init__" "Program.__init__" (defArgs (inClass (top 40) 0)) (defBody (inClass (top 40) 0)) (defScope (inClass (top 40) 0)) .none (.ref kd) dc1 pm1 an1 cd1 ct1), sl1⟩) (i2 : PySem.W.codeIn K cd1 "Program.__init__" = true) (i3 : PySem.W.keepIn K (.ref f1) = true) (i4 : PySem.W.nsIn K kd "outside" = some (some (.ref e0)))
    (q1 : PySem.W.findIn K (.ref C) "routines" = some (some (.ref p2))) (q2 : PySem.W.specialIn K (.ref p2) "__get__" = some (some (.builtin "property.__get__"))) (q3 : PySem.W.takesIn K (.ref p2) = some true) (q4 : PySem.W.recIn K p2 "property" = some (.ref f2 :: r2))
    (q5 : K.lookup f2 = some ⟨oc2, od2, .func (PySem.W.fnOf "routines" "Program.routines" (defArgs (inClass (top 40) 1)) (defBody (inClass (top 40) 1)) (defScope (inClass (top 40) 1)) .none kV2 dc2 pm2 an2 cd2 ct2), sl2⟩) (q6 : PySem.W.codeIn K cd2 "Program.routines" = true) (q7 : PySem.W.keepIn K (.ref f2) = true)
    (s1 : PySem.W.findIn K (.ref C) "outside" = some (some (.ref p3))) (s2 : PySem.W.specialIn K (.ref p3) "__get__" = some (some (.builtin "property.__get__"))) (s3 : PySem.W.takesIn K (.ref p3) = some true) (s4 : PySem.W.recIn K p3 "property" = some (.ref f3 :: r3))
    (s5 : K.lookup f3 = some ⟨oc3, od3, .func (PySem.W.fnOf "outside" "Program.outside" (defArgs (inClass (top 40) 2)) (defBody (inClass (top 40) 2)) (defScope (inClass (top 40) 2)) .none kV3 dc3 pm3 an3 cd3 ct3), sl3⟩) (s6 : PySem.W.codeIn K cd3 "Program.outside" = true) (s7 : PySem.W.keepIn K (.ref f3) = true) : PrC K mg C :=
  { m_Program := PySem.W.mg_of X G p1
    cl := ⟨c1, c2, c3, c4⟩
    n1 := n1
    n2 := n2
    n3 := n3
    ini := ⟨f1, _, ("outside", .ref e0), ⟨m1, m2, m3, m4⟩, ⟨⟨_, _, _, _, _, _, _, _, _, _, rfl, i1, i2, .inl ⟨rfl, rfl⟩, .inr ⟨kd, rfl, fun q hq => by
      rw [List.mem_singleton] at hq
      subst hq
      exact ⟨_, i4, rfl⟩⟩⟩, i3⟩, rfl⟩
    rou := ⟨p2, f2, _, ⟨q1, q2, q3, _, q4⟩, ⟨⟨_, _, _, _, _, _, _, _, _, _, rfl, q5, q6, .inl ⟨rfl, rfl⟩, .inl rfl⟩, q7⟩⟩
    out := ⟨p3, f3, _, ⟨s1, s2, s3, _, s4⟩, ⟨⟨_, _, _, _, _, _, _, _, _, _, rfl, s5, s6, .inl ⟨rfl, rfl⟩, .inl rfl⟩, s7⟩⟩ }

theorem all_mk {l : PySem.W.OpenLaw} {w : World} {K : PySem.W.Frag} {h : Heap} {mg : Str → Option Value} {fa Cp Cb : Addr} (X : K.In h) (G : h.Ns mainGlobals mg) (hfa : mg "law" = some (.ref fa))
    {f10 : Addr} {od10 an10 : Option Addr} {sl10 : Array (Option Value)} {oc10 kV10 dc10 pm10 cd10 ct10 : Value}
    {f11 : Addr} {od11 an11 : Option Addr} {sl11 : Array (Option Value)} {oc11 kV11 dc11 pm11 cd11 ct11 : Value}
    {f12 : Addr} {od12 an12 : Option Addr} {sl12 : Array (Option Value)} {oc12 kV12 dc12 pm12 cd12 ct12 : Value}
    {f13 : Addr} {od13 an13 : Option Addr} {sl13 : Array (Option Value)} {oc13 kV13 dc13 pm13 cd13 ct13 : Value}
    {f14 : Addr} {od14 an14 : Option Addr} {sl14 : Array (Option Value)} {oc14 kV14 dc14 pm14 cd14 ct14 : Value}
    {f15 : Addr} {od15 an15 : Option Addr} {sl15 : Array (Option Value)} {oc15 kV15 dc15 pm15 cd15 ct15 : Value}
    {f16 : Addr} {od16 an16 : Option Addr} {sl16 : Array (Option Value)} {oc16 kV16 dc16 pm16 cd16 ct16 : Value}
    {f17 : Addr} {od17 an17 : Option Addr} {sl17 : Array (Option Value)} {oc17 kV17 dc17 pm17 cd17 ct17 : Value}
    {f18 : Addr} {od18 an18 : Option Addr} {sl18 : Array (Option Value)} {oc18 kV18 dc18 pm18 cd18 ct18 : Value}
    {f25 : Addr} {od25 an25 : Option Addr} {sl25 : Array (Option Value)} {oc25 kV25 dc25 pm25 cd25 ct25 : Value}
    {f26 : Addr} {od26 an26 : Option Addr} {sl26 : Array (Option Value)} {oc26 kV26 dc26 pm26 cd26 ct26 : Value}
    {f27 : Addr} {od27 an27 : Option Addr} {sl27 : Array (Option Value)} {oc27 kV27 dc27 pm27 cd27 ct27 : Value}
    {f28 : Addr} {od28 an28 : Option Addr} {sl28 : Array (Option Value)} {oc28 kV28 dc28 pm28 cd28 ct28 : Value}
    {f29 : Addr} {od29 an29 : Option Addr} {sl29 : Array (Option Value)} {oc29 kV29 dc29 pm29 cd29 ct29 : Value}
    {f30 : Addr} {od30 an30 : Option Addr} {sl30 : Array (Option Value)} {oc30 kV30 dc30 pm30 cd30 ct30 : Value}
    {f31 : Addr} {od31 an31 : Option Addr} {sl31 : Array (Option Value)} {oc31 kV31 dc31 pm31 cd31 ct31 : Value}
    {f32 : Addr} {od32 an32 : Option Addr} {sl32 : Array (Option Value)} {oc32 kV32 dc32 pm32 cd32 ct32 : Value}
    {f33 : Addr} {od33 an33 : Option Addr} {sl33 : Array (Option Value)} {oc33 kV33 dc33 pm33 cd33 ct33 : Value}
    {f34 : Addr} {od34 an34 : Option Addr} {sl34 : Array (Option Value)} {oc34 kV34 dc34 pm34 cd34 ct34 : Value}
    {f36 : Addr} {od36 an36 : Option Addr} {sl36 : Array (Option Value)} {oc36 kV36 dc36 pm36 cd36 ct36 : Value}
    {f37 : Addr} {od37 an37 : Option Addr} {sl37 : Array (Option Value)} {oc37 kV37 dc37 pm37 cd37 ct37 : Value}
    {f38 : Addr} {od38 an38 : Option Addr} {sl38 : Array (Option Value)} {oc38 kV38 dc38 pm38 cd38 ct38 : Value}
    {f39 : Addr} {od39 an39 : Option Addr} {sl39 : Array (Option Value)} {oc39 kV39 dc39 pm39 cd39 ct39 : Value}
    {f42 : Addr} {od42 an42 : Option Addr} {sl42 : Array (Option Value)} {oc42 kV42 dc42 pm42 cd42 ct42 : Value}
    {f43 : Addr} {od43 an43 : Option Addr} {sl43 : Array (Option Value)} {oc43 kV43 dc43 pm43 cd43 ct43 : Value}
    {f44 : Addr} {od44 an44 : Option Addr} {sl44 : Array (Option Value)} {oc44 kV44 dc44 pm44 cd44 ct44 : Value}
    {f45 : Addr} {od45 an45 : Option Addr} {sl45 : Array (Option Value)} {oc45 kV45 dc45 pm45 cd45 ct45 : Value}
    {f46 : Addr} {od46 an46 : Option Addr} {sl46 : Array (Option Value)} {oc46 kV46 dc46 pm46 cd46 ct46 : Value}
    {f47 : Addr} {od47 an47 : Option Addr} {sl47 : Array (Option Value)} {oc47 kV47 dc47 pm47 cd47 ct47 : Value}
    {f48 : Addr} {od48 an48 : Option Addr} {sl48 : Array (Option Value)} {oc48 kV48 dc48 pm48 cd48 ct48 : Value}
    {f49 : Addr} {od49 an49 : Option Addr} {sl49 : Array (Option Value)} {oc49 kV49 dc49 pm49 cd49 ct49 : Value}
    {f50 : Addr} {od50 an50 : Option Addr} {sl50 : Array (Option Value)} {oc50 kV50 dc50 pm50 cd50 ct50 : Value}
    {f51 : Addr} {od51 an51 : Option Addr} {sl51 : Array (Option Value)} {oc51 kV51 dc51 pm51 cd51 ct51 : Value}
    {f52 : Addr} {od52 an52 : Option Addr} {sl52 : Array (Option Value)} {oc52 kV52 dc52 pm52 cd52 ct52 : Value}
    {f53 : Addr} {od53 an53 : Option Addr} {sl53 : Array (Option Value)} {oc53 kV53 dc53 pm53 cd53 ct53 : Value}
    {f54 : Addr} {od54 an54 : Option Addr} {sl54 : Array (Option Value)} {oc54 kV54 dc54 pm54 cd54 ct54 : Value}
    {f55 : Addr} {od55 an55 : Option Addr} {sl55 : Array (Option Value)} {oc55 kV55 dc55 pm55 cd55 ct55 : Value}
    {f56 : Addr} {od56 an56 : Option Addr} {sl56 : Array (Option Value)} {oc56 kV56 dc56 pm56 cd56 ct56 : Value}
    {f57 : Addr} {od57 an57 : Option Addr} {sl57 : Array (Option Value)} {oc57 kV57 dc57 pm57 cd57 ct57 : Value}
    (a10 : PySem.W.nsIn K mainGlobals "is_whole" = some (some (.ref f10))) (l10 : K.lookup f10 = some ⟨oc10, od10, .func (PySem.W.fnOf "is_whole" "is_whole" (defArgs (top 10)) (defBody (top 10)) (defScope (top 10)) .none kV10 dc10 pm10 an10 cd10 ct10), sl10⟩) (c10 : PySem.W.codeIn K cd10 "is_whole" = true) (k10 : PySem.W.keepIn K (.ref f10) = true)
    (a11 : PySem.W.nsIn K mainGlobals "is_name" = some (some (.ref f11))) (l11 : K.lookup f11 = some ⟨oc11, od11, .func (PySem.W.fnOf "is_name" "is_name" (defArgs (top 11)) (defBody (top 11)) (defScope (top 11)) .none kV11 dc11 pm11 an11 cd11 ct11), sl11⟩) (c11 : PySem.W.codeIn K cd11 "is_name" = true) (k11 : PySem.W.keepIn K (.ref f11) = true)
    (a12 : PySem.W.nsIn K mainGlobals "is_word" = some (some (.ref f12))) (l12 : K.lookup f12 = some ⟨oc12, od12, .func (PySem.W.fnOf "is_word" "is_word" (defArgs (top 12)) (defBody (top 12)) (defScope (top 12)) .none kV12 dc12 pm12 an12 cd12 ct12), sl12⟩) (c12 : PySem.W.codeIn K cd12 "is_word" = true) (k12 : PySem.W.keepIn K (.ref f12) = true)
    (a13 : PySem.W.nsIn K mainGlobals "is_param" = some (some (.ref f13))) (l13 : K.lookup f13 = some ⟨oc13, od13, .func (PySem.W.fnOf "is_param" "is_param" (defArgs (top 13)) (defBody (top 13)) (defScope (top 13)) .none kV13 dc13 pm13 an13 cd13 ct13), sl13⟩) (c13 : PySem.W.codeIn K cd13 "is_param" = true) (k13 : PySem.W.keepIn K (.ref f13) = true)
    (a14 : PySem.W.nsIn K mainGlobals "leaves" = some (some (.ref f14))) (l14 : K.lookup f14 = some ⟨oc14, od14, .func (PySem.W.fnOf "leaves" "leaves" (defArgs (top 14)) (defBody (top 14)) (defScope (top 14)) .none kV14 dc14 pm14 an14 cd14 ct14), sl14⟩) (c14 : PySem.W.codeIn K cd14 "leaves" = true) (k14 : PySem.W.keepIn K (.ref f14) = true)
    (a15 : PySem.W.nsIn K mainGlobals "is_plain_leaf" = some (some (.ref f15))) (l15 : K.lookup f15 = some ⟨oc15, od15, .func (PySem.W.fnOf "is_plain_leaf" "is_plain_leaf" (defArgs (top 15)) (defBody (top 15)) (defScope (top 15)) .none kV15 dc15 pm15 an15 cd15 ct15), sl15⟩) (c15 : PySem.W.codeIn K cd15 "is_plain_leaf" = true) (k15 : PySem.W.keepIn K (.ref f15) = true)
    (a16 : PySem.W.nsIn K mainGlobals "is_arg_leaf" = some (some (.ref f16))) (l16 : K.lookup f16 = some ⟨oc16, od16, .func (PySem.W.fnOf "is_arg_leaf" "is_arg_leaf" (defArgs (top 16)) (defBody (top 16)) (defScope (top 16)) .none kV16 dc16 pm16 an16 cd16 ct16), sl16⟩) (c16 : PySem.W.codeIn K cd16 "is_arg_leaf" = true) (k16 : PySem.W.keepIn K (.ref f16) = true)
    (a17 : PySem.W.nsIn K mainGlobals "is_plain_value" = some (some (.ref f17))) (l17 : K.lookup f17 = some ⟨oc17, od17, .func (PySem.W.fnOf "is_plain_value" "is_plain_value" (defArgs (top 17)) (defBody (top 17)) (defScope (top 17)) .none kV17 dc17 pm17 an17 cd17 ct17), sl17⟩) (c17 : PySem.W.codeIn K cd17 "is_plain_value" = true) (k17 : PySem.W.keepIn K (.ref f17) = true)
    (a18 : PySem.W.nsIn K mainGlobals "is_arg" = some (some (.ref f18))) (l18 : K.lookup f18 = some ⟨oc18, od18, .func (PySem.W.fnOf "is_arg" "is_arg" (defArgs (top 18)) (defBody (top 18)) (defScope (top 18)) .none kV18 dc18 pm18 an18 cd18 ct18), sl18⟩) (c18 : PySem.W.codeIn K cd18 "is_arg" = true) (k18 : PySem.W.keepIn K (.ref f18) = true)
    (a25 : PySem.W.nsIn K mainGlobals "is_plain_routine" = some (some (.ref f25))) (l25 : K.lookup f25 = some ⟨oc25, od25, .func (PySem.W.fnOf "is_plain_routine" "is_plain_routine" (defArgs (top 25)) (defBody (top 25)) (defScope (top 25)) .none kV25 dc25 pm25 an25 cd25 ct25), sl25⟩) (c25 : PySem.W.codeIn K cd25 "is_plain_routine" = true) (k25 : PySem.W.keepIn K (.ref f25) = true)
    (a26 : PySem.W.nsIn K mainGlobals "names_routine" = some (some (.ref f26))) (l26 : K.lookup f26 = some ⟨oc26, od26, .func (PySem.W.fnOf "names_routine" "names_routine" (defArgs (top 26)) (defBody (top 26)) (defScope (top 26)) .none kV26 dc26 pm26 an26 cd26 ct26), sl26⟩) (c26 : PySem.W.codeIn K cd26 "names_routine" = true) (k26 : PySem.W.keepIn K (.ref f26) = true)
    (a27 : PySem.W.nsIn K mainGlobals "is_call" = some (some (.ref f27))) (l27 : K.lookup f27 = some ⟨oc27, od27, .func (PySem.W.fnOf "is_call" "is_call" (defArgs (top 27)) (defBody (top 27)) (defScope (top 27)) .none kV27 dc27 pm27 an27 cd27 ct27), sl27⟩) (c27 : PySem.W.codeIn K cd27 "is_call" = true) (k27 : PySem.W.keepIn K (.ref f27) = true)
    (a28 : PySem.W.nsIn K mainGlobals "is_target" = some (some (.ref f28))) (l28 : K.lookup f28 = some ⟨oc28, od28, .func (PySem.W.fnOf "is_target" "is_target" (defArgs (top 28)) (defBody (top 28)) (defScope (top 28)) .none kV28 dc28 pm28 an28 cd28 ct28), sl28⟩) (c28 : PySem.W.codeIn K cd28 "is_target" = true) (k28 : PySem.W.keepIn K (.ref f28) = true)
    (a29 : PySem.W.nsIn K mainGlobals "is_handler" = some (some (.ref f29))) (l29 : K.lookup f29 = some ⟨oc29, od29, .func (PySem.W.fnOf "is_handler" "is_handler" (defArgs (top 29)) (defBody (top 29)) (defScope (top 29)) .none kV29 dc29 pm29 an29 cd29 ct29), sl29⟩) (c29 : PySem.W.codeIn K cd29 "is_handler" = true) (k29 : PySem.W.keepIn K (.ref f29) = true)
    (a30 : PySem.W.nsIn K mainGlobals "is_part" = some (some (.ref f30))) (l30 : K.lookup f30 = some ⟨oc30, od30, .func (PySem.W.fnOf "is_part" "is_part" (defArgs (top 30)) (defBody (top 30)) (defScope (top 30)) .none kV30 dc30 pm30 an30 cd30 ct30), sl30⟩) (c30 : PySem.W.codeIn K cd30 "is_part" = true) (k30 : PySem.W.keepIn K (.ref f30) = true)
    (a31 : PySem.W.nsIn K mainGlobals "is_step" = some (some (.ref f31))) (l31 : K.lookup f31 = some ⟨oc31, od31, .func (PySem.W.fnOf "is_step" "is_step" (defArgs (top 31)) (defBody (top 31)) (defScope (top 31)) .none kV31 dc31 pm31 an31 cd31 ct31), sl31⟩) (c31 : PySem.W.codeIn K cd31 "is_step" = true) (k31 : PySem.W.keepIn K (.ref f31) = true)
    (a32 : PySem.W.nsIn K mainGlobals "inner_bodies" = some (some (.ref f32))) (l32 : K.lookup f32 = some ⟨oc32, od32, .func (PySem.W.fnOf "inner_bodies" "inner_bodies" (defArgs (top 32)) (defBody (top 32)) (defScope (top 32)) .none kV32 dc32 pm32 an32 cd32 ct32), sl32⟩) (c32 : PySem.W.codeIn K cd32 "inner_bodies" = true) (k32 : PySem.W.keepIn K (.ref f32) = true)
    (a33 : PySem.W.nsIn K mainGlobals "first_wrong_step" = some (some (.ref f33))) (l33 : K.lookup f33 = some ⟨oc33, od33, .func (PySem.W.fnOf "first_wrong_step" "first_wrong_step" (defArgs (top 33)) (defBody (top 33)) (defScope (top 33)) .none kV33 dc33 pm33 an33 cd33 ct33), sl33⟩) (c33 : PySem.W.codeIn K cd33 "first_wrong_step" = true) (k33 : PySem.W.keepIn K (.ref f33) = true)
    (a34 : PySem.W.nsIn K mainGlobals "used_ops" = some (some (.ref f34))) (l34 : K.lookup f34 = some ⟨oc34, od34, .func (PySem.W.fnOf "used_ops" "used_ops" (defArgs (top 34)) (defBody (top 34)) (defScope (top 34)) .none kV34 dc34 pm34 an34 cd34 ct34), sl34⟩) (c34 : PySem.W.codeIn K cd34 "used_ops" = true) (k34 : PySem.W.keepIn K (.ref f34) = true)
    (a36 : PySem.W.nsIn K mainGlobals "is_routine" = some (some (.ref f36))) (l36 : K.lookup f36 = some ⟨oc36, od36, .func (PySem.W.fnOf "is_routine" "is_routine" (defArgs (top 36)) (defBody (top 36)) (defScope (top 36)) .none kV36 dc36 pm36 an36 cd36 ct36), sl36⟩) (c36 : PySem.W.codeIn K cd36 "is_routine" = true) (k36 : PySem.W.keepIn K (.ref f36) = true)
    (a37 : PySem.W.nsIn K mainGlobals "check_routines" = some (some (.ref f37))) (l37 : K.lookup f37 = some ⟨oc37, od37, .func (PySem.W.fnOf "check_routines" "check_routines" (defArgs (top 37)) (defBody (top 37)) (defScope (top 37)) .none kV37 dc37 pm37 an37 cd37 ct37), sl37⟩) (c37 : PySem.W.codeIn K cd37 "check_routines" = true) (k37 : PySem.W.keepIn K (.ref f37) = true)
    (a38 : PySem.W.nsIn K mainGlobals "is_arrival" = some (some (.ref f38))) (l38 : K.lookup f38 = some ⟨oc38, od38, .func (PySem.W.fnOf "is_arrival" "is_arrival" (defArgs (top 38)) (defBody (top 38)) (defScope (top 38)) .none kV38 dc38 pm38 an38 cd38 ct38), sl38⟩) (c38 : PySem.W.codeIn K cd38 "is_arrival" = true) (k38 : PySem.W.keepIn K (.ref f38) = true)
    (a39 : PySem.W.nsIn K mainGlobals "check_outside" = some (some (.ref f39))) (l39 : K.lookup f39 = some ⟨oc39, od39, .func (PySem.W.fnOf "check_outside" "check_outside" (defArgs (top 39)) (defBody (top 39)) (defScope (top 39)) .none kV39 dc39 pm39 an39 cd39 ct39), sl39⟩) (c39 : PySem.W.codeIn K cd39 "check_outside" = true) (k39 : PySem.W.keepIn K (.ref f39) = true)
    (a42 : PySem.W.nsIn K mainGlobals "_law_cell_at" = some (some (.ref f42))) (l42 : K.lookup f42 = some ⟨oc42, od42, .func (PySem.W.fnOf "_law_cell_at" "_law_cell_at" (defArgs (top 42)) (defBody (top 42)) (defScope (top 42)) .none kV42 dc42 pm42 an42 cd42 ct42), sl42⟩) (c42 : PySem.W.codeIn K cd42 "_law_cell_at" = true) (k42 : PySem.W.keepIn K (.ref f42) = true)
    (a43 : PySem.W.nsIn K mainGlobals "_law_well" = some (some (.ref f43))) (l43 : K.lookup f43 = some ⟨oc43, od43, .func (PySem.W.fnOf "_law_well" "_law_well" (defArgs (top 43)) (defBody (top 43)) (defScope (top 43)) .none kV43 dc43 pm43 an43 cd43 ct43), sl43⟩) (c43 : PySem.W.codeIn K cd43 "_law_well" = true) (k43 : PySem.W.keepIn K (.ref f43) = true)
    (a44 : PySem.W.nsIn K mainGlobals "_law_draw" = some (some (.ref f44))) (l44 : K.lookup f44 = some ⟨oc44, od44, .func (PySem.W.fnOf "_law_draw" "_law_draw" (defArgs (top 44)) (defBody (top 44)) (defScope (top 44)) .none kV44 dc44 pm44 an44 cd44 ct44), sl44⟩) (c44 : PySem.W.codeIn K cd44 "_law_draw" = true) (k44 : PySem.W.keepIn K (.ref f44) = true)
    (a45 : PySem.W.nsIn K mainGlobals "_law_pick" = some (some (.ref f45))) (l45 : K.lookup f45 = some ⟨oc45, od45, .func (PySem.W.fnOf "_law_pick" "_law_pick" (defArgs (top 45)) (defBody (top 45)) (defScope (top 45)) .none kV45 dc45 pm45 an45 cd45 ct45), sl45⟩) (c45 : PySem.W.codeIn K cd45 "_law_pick" = true) (k45 : PySem.W.keepIn K (.ref f45) = true)
    (a46 : PySem.W.nsIn K mainGlobals "_law_table" = some (some (.ref f46))) (l46 : K.lookup f46 = some ⟨oc46, od46, .func (PySem.W.fnOf "_law_table" "_law_table" (defArgs (top 46)) (defBody (top 46)) (defScope (top 46)) .none kV46 dc46 pm46 an46 cd46 ct46), sl46⟩) (c46 : PySem.W.codeIn K cd46 "_law_table" = true) (k46 : PySem.W.keepIn K (.ref f46) = true)
    (a47 : PySem.W.nsIn K mainGlobals "_law_is_name" = some (some (.ref f47))) (l47 : K.lookup f47 = some ⟨oc47, od47, .func (PySem.W.fnOf "_law_is_name" "_law_is_name" (defArgs (top 47)) (defBody (top 47)) (defScope (top 47)) .none kV47 dc47 pm47 an47 cd47 ct47), sl47⟩) (c47 : PySem.W.codeIn K cd47 "_law_is_name" = true) (k47 : PySem.W.keepIn K (.ref f47) = true)
    (a48 : PySem.W.nsIn K mainGlobals "_law_is_arg" = some (some (.ref f48))) (l48 : K.lookup f48 = some ⟨oc48, od48, .func (PySem.W.fnOf "_law_is_arg" "_law_is_arg" (defArgs (top 48)) (defBody (top 48)) (defScope (top 48)) .none kV48 dc48 pm48 an48 cd48 ct48), sl48⟩) (c48 : PySem.W.codeIn K cd48 "_law_is_arg" = true) (k48 : PySem.W.keepIn K (.ref f48) = true)
    (a49 : PySem.W.nsIn K mainGlobals "_law_is_call" = some (some (.ref f49))) (l49 : K.lookup f49 = some ⟨oc49, od49, .func (PySem.W.fnOf "_law_is_call" "_law_is_call" (defArgs (top 49)) (defBody (top 49)) (defScope (top 49)) .none kV49 dc49 pm49 an49 cd49 ct49), sl49⟩) (c49 : PySem.W.codeIn K cd49 "_law_is_call" = true) (k49 : PySem.W.keepIn K (.ref f49) = true)
    (a50 : PySem.W.nsIn K mainGlobals "_law_is_handler" = some (some (.ref f50))) (l50 : K.lookup f50 = some ⟨oc50, od50, .func (PySem.W.fnOf "_law_is_handler" "_law_is_handler" (defArgs (top 50)) (defBody (top 50)) (defScope (top 50)) .none kV50 dc50 pm50 an50 cd50 ct50), sl50⟩) (c50 : PySem.W.codeIn K cd50 "_law_is_handler" = true) (k50 : PySem.W.keepIn K (.ref f50) = true)
    (a51 : PySem.W.nsIn K mainGlobals "_law_is_step" = some (some (.ref f51))) (l51 : K.lookup f51 = some ⟨oc51, od51, .func (PySem.W.fnOf "_law_is_step" "_law_is_step" (defArgs (top 51)) (defBody (top 51)) (defScope (top 51)) .none kV51 dc51 pm51 an51 cd51 ct51), sl51⟩) (c51 : PySem.W.codeIn K cd51 "_law_is_step" = true) (k51 : PySem.W.keepIn K (.ref f51) = true)
    (a52 : PySem.W.nsIn K mainGlobals "_law_bad" = some (some (.ref f52))) (l52 : K.lookup f52 = some ⟨oc52, od52, .func (PySem.W.fnOf "_law_bad" "_law_bad" (defArgs (top 52)) (defBody (top 52)) (defScope (top 52)) .none kV52 dc52 pm52 an52 cd52 ct52), sl52⟩) (c52 : PySem.W.codeIn K cd52 "_law_bad" = true) (k52 : PySem.W.keepIn K (.ref f52) = true)
    (a53 : PySem.W.nsIn K mainGlobals "_law_due" = some (some (.ref f53))) (l53 : K.lookup f53 = some ⟨oc53, od53, .func (PySem.W.fnOf "_law_due" "_law_due" (defArgs (top 53)) (defBody (top 53)) (defScope (top 53)) .none kV53 dc53 pm53 an53 cd53 ct53), sl53⟩) (c53 : PySem.W.codeIn K cd53 "_law_due" = true) (k53 : PySem.W.keepIn K (.ref f53) = true)
    (a54 : PySem.W.nsIn K mainGlobals "_law_is_arrival" = some (some (.ref f54))) (l54 : K.lookup f54 = some ⟨oc54, od54, .func (PySem.W.fnOf "_law_is_arrival" "_law_is_arrival" (defArgs (top 54)) (defBody (top 54)) (defScope (top 54)) .none kV54 dc54 pm54 an54 cd54 ct54), sl54⟩) (c54 : PySem.W.codeIn K cd54 "_law_is_arrival" = true) (k54 : PySem.W.keepIn K (.ref f54) = true)
    (a55 : PySem.W.nsIn K mainGlobals "_law_odd" = some (some (.ref f55))) (l55 : K.lookup f55 = some ⟨oc55, od55, .func (PySem.W.fnOf "_law_odd" "_law_odd" (defArgs (top 55)) (defBody (top 55)) (defScope (top 55)) .none kV55 dc55 pm55 an55 cd55 ct55), sl55⟩) (c55 : PySem.W.codeIn K cd55 "_law_odd" = true) (k55 : PySem.W.keepIn K (.ref f55) = true)
    (a56 : PySem.W.nsIn K mainGlobals "_law_steps" = some (some (.ref f56))) (l56 : K.lookup f56 = some ⟨oc56, od56, .func (PySem.W.fnOf "_law_steps" "_law_steps" (defArgs (top 56)) (defBody (top 56)) (defScope (top 56)) .none kV56 dc56 pm56 an56 cd56 ct56), sl56⟩) (c56 : PySem.W.codeIn K cd56 "_law_steps" = true) (k56 : PySem.W.keepIn K (.ref f56) = true)
    (a57 : PySem.W.nsIn K mainGlobals "law" = some (some (.ref f57))) (l57 : K.lookup f57 = some ⟨oc57, od57, .func (PySem.W.fnOf "law" "law" (defArgs (top 57)) (defBody (top 57)) (defScope (top 57)) .none kV57 dc57 pm57 an57 cd57 ct57), sl57⟩) (c57 : PySem.W.codeIn K cd57 "law" = true) (k57 : PySem.W.keepIn K (.ref f57) = true)
    (z_isinstance : PySem.W.nsIn K mainGlobals "isinstance" = some none)
    (z_int : PySem.W.nsIn K mainGlobals "int" = some none)
    (z_bool : PySem.W.nsIn K mainGlobals "bool" = some none)
    (z_str : PySem.W.nsIn K mainGlobals "str" = some none)
    (z_tuple : PySem.W.nsIn K mainGlobals "tuple" = some none)
    (z_dict : PySem.W.nsIn K mainGlobals "dict" = some none)
    (z_list : PySem.W.nsIn K mainGlobals "list" = some none)
    (z_len : PySem.W.nsIn K mainGlobals "len" = some none)
    (z_all : PySem.W.nsIn K mainGlobals "all" = some none)
    (z_any : PySem.W.nsIn K mainGlobals "any" = some none)
    (z_sorted : PySem.W.nsIn K mainGlobals "sorted" = some none)
    (z_enumerate : PySem.W.nsIn K mainGlobals "enumerate" = some none)
    (z_zip : PySem.W.nsIn K mainGlobals "zip" = some none)
    (z_set : PySem.W.nsIn K mainGlobals "set" = some none)
    (z_range : PySem.W.nsIn K mainGlobals "range" = some none)
    (z_max : PySem.W.nsIn K mainGlobals "max" = some none)
    (z_repr : PySem.W.nsIn K mainGlobals "repr" = some none)
    {t1 t2 t3 t4 : Tok} (y_small : PySem.W.nsIn K mainGlobals "SMALL" = some (some (.str "abcdefghijklmnopqrstuvwxyz" t1))) (y_cap : PySem.W.nsIn K mainGlobals "CAPITAL" = some (some (.str "ABCDEFGHIJKLMNOPQRSTUVWXYZ" t2))) (y_dig : PySem.W.nsIn K mainGlobals "DIGITS" = some (some (.str "0123456789" t3))) (y_long : PySem.W.nsIn K mainGlobals "LONGEST" = some (some (.int 20 t4)))
    {g1 g2 g3 g4 g5 g6 g7 : Addr}
    (w1 : PySem.W.nsIn K mainGlobals "ARITIES" = some (some (.ref g1))) (dt1 : He.dicW K g1 = some (He.keysIn w.params (arL.map (·.1)))) (vt1 : (arL.all fun p => match PySem.W.nsIn K g1 p.1 with | some (some u) => arB K p.2 u | _ => false) = true)
    (w2 : PySem.W.nsIn K mainGlobals "ROUTINE_AT" = some (some (.ref g2))) (dt2 : He.dicW K g2 = some (He.keysIn w.params (roL.map (·.1)))) (vt2 : (roL.all fun p => match PySem.W.nsIn K g2 p.1 with | some (some u) => intB p.2 u | _ => false) = true)
    (w3 : PySem.W.nsIn K mainGlobals "SHAPES" = some (some (.ref g3))) (dt3 : He.dicW K g3 = some (He.keysIn w.params (shL.map (·.1)))) (vt3 : (shL.all fun p => match PySem.W.nsIn K g3 p.1 with | some (some u) => shB K p.2 u | _ => false) = true)
    (w7 : PySem.W.nsIn K mainGlobals "CALL_AT" = some (some (.ref g7))) (dt7 : He.dicW K g7 = some (He.keysIn w.params (caL.map (·.1)))) (vt7 : (caL.all fun p => match PySem.W.nsIn K g7 p.1 with | some (some u) => intB p.2 u | _ => false) = true)
    (w4 : PySem.W.nsIn K mainGlobals "BARRED" = some (some (.ref g4))) (tt4 : tupB strB K g4 barredL = true)
    (w5 : PySem.W.nsIn K mainGlobals "FOR_ASYNC" = some (some (.ref g5))) (tt5 : tupB strB K g5 asyncL = true)
    (w6 : PySem.W.nsIn K mainGlobals "LOOPS" = some (some (.ref g6))) (tt6 : tupB strB K g6 loopsL = true)
    (ER : Ers K mg Cb) (RP : PrC K mg Cp) (TX : XfC K Cb) (EX : PySem.W.exmOne K (.ref Cb) (.ref Cb) = some true) :
    ∃ fd : FuncData, (∀ (s : Shared) (v : Value), BindsTo s fd ⟨[v], []⟩ [("_law_script", v)]) ∧ ∀ base : Heap, K.In base → base.Ns mainGlobals mg → FnOk l.prog w K mg base CX0 34 fa fd ["_law_script"] (spLaw K) := by
  have e := hfa.symm.trans (PySem.W.mg_of X G a57)
  cases e
  have D10 : Df K mg "is_whole" (top 10) ["value"] := df_mk X G a10 l10 c10 k10 fun _ _ _ _ _ _ us hl => match us, hl with | [_], _ => rfl
  have D11 : Df K mg "is_name" (top 11) ["value"] := df_mk X G a11 l11 c11 k11 fun _ _ _ _ _ _ us hl => match us, hl with | [_], _ => rfl
  have D12 : Df K mg "is_word" (top 12) ["value"] := df_mk X G a12 l12 c12 k12 fun _ _ _ _ _ _ us hl => match us, hl with | [_], _ => rfl
  have D13 : Df K mg "is_param" (top 13) ["value"] := df_mk X G a13 l13 c13 k13 fun _ _ _ _ _ _ us hl => match us, hl with | [_], _ => rfl
  have D14 : Df K mg "leaves" (top 14) ["value"] := df_mk X G a14 l14 c14 k14 fun _ _ _ _ _ _ us hl => match us, hl with | [_], _ => rfl
  have D15 : Df K mg "is_plain_leaf" (top 15) ["leaf"] := df_mk X G a15 l15 c15 k15 fun _ _ _ _ _ _ us hl => match us, hl with | [_], _ => rfl
  have D16 : Df K mg "is_arg_leaf" (top 16) ["leaf"] := df_mk X G a16 l16 c16 k16 fun _ _ _ _ _ _ us hl => match us, hl with | [_], _ => rfl
  have D17 : Df K mg "is_plain_value" (top 17) ["value"] := df_mk X G a17 l17 c17 k17 fun _ _ _ _ _ _ us hl => match us, hl with | [_], _ => rfl
  have D18 : Df K mg "is_arg" (top 18) ["value"] := df_mk X G a18 l18 c18 k18 fun _ _ _ _ _ _ us hl => match us, hl with | [_], _ => rfl
  have D25 : Df K mg "is_plain_routine" (top 25) ["word", "routines"] := df_mk X G a25 l25 c25 k25 fun _ _ _ _ _ _ us hl => match us, hl with | [_, _], _ => rfl
  have D26 : Df K mg "names_routine" (top 26) ["op", "word", "routines"] := df_mk X G a26 l26 c26 k26 fun _ _ _ _ _ _ us hl => match us, hl with | [_, _, _], _ => rfl
  have D27 : Df K mg "is_call" (top 27) ["call", "routines"] := df_mk X G a27 l27 c27 k27 fun _ _ _ _ _ _ us hl => match us, hl with | [_, _], _ => rfl
  have D28 : Df K mg "is_target" (top 28) ["value"] := df_mk X G a28 l28 c28 k28 fun _ _ _ _ _ _ us hl => match us, hl with | [_], _ => rfl
  have D29 : Df K mg "is_handler" (top 29) ["handler"] := df_mk X G a29 l29 c29 k29 fun _ _ _ _ _ _ us hl => match us, hl with | [_], _ => rfl
  have D30 : Df K mg "is_part" (top 30) ["shape", "part", "routines"] := df_mk X G a30 l30 c30 k30 fun _ _ _ _ _ _ us hl => match us, hl with | [_, _, _], _ => rfl
  have D31 : Df K mg "is_step" (top 31) ["step", "kind", "in_loop", "routines"] := df_mk X G a31 l31 c31 k31 fun _ _ _ _ _ _ us hl => match us, hl with | [_, _, _, _], _ => rfl
  have D32 : Df K mg "inner_bodies" (top 32) ["step"] := df_mk X G a32 l32 c32 k32 fun _ _ _ _ _ _ us hl => match us, hl with | [_], _ => rfl
  have D33 : Df K mg "first_wrong_step" (top 33) ["word", "routine", "routines"] := df_mk X G a33 l33 c33 k33 fun _ _ _ _ _ _ us hl => match us, hl with | [_, _, _], _ => rfl
  have D34 : Df K mg "used_ops" (top 34) ["routines"] := df_mk X G a34 l34 c34 k34 fun _ _ _ _ _ _ us hl => match us, hl with | [_], _ => rfl
  have D36 : Df K mg "is_routine" (top 36) ["routine"] := df_mk X G a36 l36 c36 k36 fun _ _ _ _ _ _ us hl => match us, hl with | [_], _ => rfl
  have D37 : Df K mg "check_routines" (top 37) ["routines"] := df_mk X G a37 l37 c37 k37 fun _ _ _ _ _ _ us hl => match us, hl with | [_], _ => rfl
  have D38 : Df K mg "is_arrival" (top 38) ["row", "earliest"] := df_mk X G a38 l38 c38 k38 fun _ _ _ _ _ _ us hl => match us, hl with | [_, _], _ => rfl
  have D39 : Df K mg "check_outside" (top 39) ["outside"] := df_mk X G a39 l39 c39 k39 fun _ _ _ _ _ _ us hl => match us, hl with | [_], _ => rfl
  have D42 : Df K mg "_law_cell_at" (top 42) ["_law_script", "_law_k"] := df_mk X G a42 l42 c42 k42 fun _ _ _ _ _ _ us hl => match us, hl with | [_, _], _ => rfl
  have D43 : Df K mg "_law_well" (top 43) ["_law_cell"] := df_mk X G a43 l43 c43 k43 fun _ _ _ _ _ _ us hl => match us, hl with | [_], _ => rfl
  have D44 : Df K mg "_law_draw" (top 44) ["_law_well_here", "_law_size"] := df_mk X G a44 l44 c44 k44 fun _ _ _ _ _ _ us hl => match us, hl with | [_, _], _ => rfl
  have D45 : Df K mg "_law_pick" (top 45) ["_law_well_here", "_law_some"] := df_mk X G a45 l45 c45 k45 fun _ _ _ _ _ _ us hl => match us, hl with | [_, _], _ => rfl
  have D46 : Df K mg "_law_table" (top 46) [] := df_mk X G a46 l46 c46 k46 fun _ _ _ _ _ _ us hl => match us, hl with | [], _ => rfl
  have D47 : Df K mg "_law_is_name" (top 47) ["_law_thing"] := df_mk X G a47 l47 c47 k47 fun _ _ _ _ _ _ us hl => match us, hl with | [_], _ => rfl
  have D48 : Df K mg "_law_is_arg" (top 48) ["_law_thing"] := df_mk X G a48 l48 c48 k48 fun _ _ _ _ _ _ us hl => match us, hl with | [_], _ => rfl
  have D49 : Df K mg "_law_is_call" (top 49) ["_law_thing", "_law_kinds"] := df_mk X G a49 l49 c49 k49 fun _ _ _ _ _ _ us hl => match us, hl with | [_, _], _ => rfl
  have D50 : Df K mg "_law_is_handler" (top 50) ["_law_thing"] := df_mk X G a50 l50 c50 k50 fun _ _ _ _ _ _ us hl => match us, hl with | [_], _ => rfl
  have D51 : Df K mg "_law_is_step" (top 51) ["_law_thing", "_law_is_plain", "_law_is_in", "_law_kinds"] := df_mk X G a51 l51 c51 k51 fun _ _ _ _ _ _ us hl => match us, hl with | [_, _, _, _], _ => rfl
  have D52 : Df K mg "_law_bad" (top 52) ["_law_steps_here", "_law_place", "_law_is_plain", "_law_is_in", "_law_kinds"] := df_mk X G a52 l52 c52 k52 fun _ _ _ _ _ _ us hl => match us, hl with | [_, _, _, _, _], _ => rfl
  have D53 : Df K mg "_law_due" (top 53) ["_law_routines", "_law_coming"] := df_mk X G a53 l53 c53 k53 fun _ _ _ _ _ _ us hl => match us, hl with | [_, _], _ => rfl
  have D54 : Df K mg "_law_is_arrival" (top 54) ["_law_coming", "_law_k"] := df_mk X G a54 l54 c54 k54 fun _ _ _ _ _ _ us hl => match us, hl with | [_, _], _ => rfl
  have D55 : Df K mg "_law_odd" (top 55) ["_law_well_here"] := df_mk X G a55 l55 c55 k55 fun _ _ _ _ _ _ us hl => match us, hl with | [_], _ => rfl
  have D56 : Df K mg "_law_steps" (top 56) ["_law_well_here", "_law_deep", "_law_many_odd"] := df_mk X G a56 l56 c56 k56 fun _ _ _ _ _ _ us hl => match us, hl with | [_, _, _], _ => rfl
  have FL := fun_mk (st := top 57) l57 c57 k57
  have B : Bl mg := { isinstance := PySem.W.mg_none_of X G z_isinstance, int := PySem.W.mg_none_of X G z_int, bool := PySem.W.mg_none_of X G z_bool, str := PySem.W.mg_none_of X G z_str, tuple := PySem.W.mg_none_of X G z_tuple, dict := PySem.W.mg_none_of X G z_dict, list := PySem.W.mg_none_of X G z_list, len := PySem.W.mg_none_of X G z_len, all := PySem.W.mg_none_of X G z_all, any := PySem.W.mg_none_of X G z_any, sorted := PySem.W.mg_none_of X G z_sorted, enumerate := PySem.W.mg_none_of X G z_enumerate, zip := PySem.W.mg_none_of X G z_zip, set := PySem.W.mg_none_of X G z_set, range := PySem.W.mg_none_of X G z_range, max := PySem.W.mg_none_of X G z_max, repr := PySem.W.mg_none_of X G z_repr }
  have C : Cn mg := ⟨⟨_, PySem.W.mg_of X G y_small, ⟨_, rfl⟩⟩, ⟨_, PySem.W.mg_of X G y_cap, ⟨_, rfl⟩⟩, ⟨_, PySem.W.mg_of X G y_dig, ⟨_, rfl⟩⟩, ⟨_, PySem.W.mg_of X G y_long, ⟨_, rfl⟩⟩⟩
  have T : Tb K w mg := tb_mk (PySem.W.mg_of X G w1) (PySem.W.mg_of X G w2) (PySem.W.mg_of X G w3) (PySem.W.mg_of X G w4) (PySem.W.mg_of X G w5) (PySem.W.mg_of X G w6) dt1 vt1 dt2 vt2 dt3 vt3 tt4 tt5 tt6
  have A7 : Ca K w mg := ca_mk (PySem.W.mg_of X G w7) dt7 vt7
  refine ⟨PySem.W.fnOf "law" "law" (defArgs (top 57)) (defBody (top 57)) (defScope (top 57)) .none kV57 dc57 pm57 an57 cd57 ct57, fun s v => .of_eq rfl, fun base _ _ => ?_⟩
  obtain ⟨fE, dE, EE⟩ := errs (P := l.prog) (w := w) (base := base) ER
  have O10 := ok_whole (P := l.prog) (w := w) (base := base) B D10
  have O11 := ok_name (P := l.prog) (w := w) (base := base) B C D11
  have O12 := ok_word B C D12 O11
  have O13 := ok_param B C D13 O11
  have O14 := ok_leaves (P := l.prog) (w := w) (base := base) B D14
  have O15 := ok_plainLeaf (P := l.prog) (w := w) (base := base) B D15
  have O16 := ok_argLeaf B D16 O15 O11
  have O17 := ok_plainV B D17 O15 O14
  have O18 := ok_arg B D18 O16 O14
  have O25 := ok_plR (P := l.prog) (w := w) (base := base) B D25
  have O26 := ok_named B D26 O25
  have O27 := ok_call B T D27 O18 O11 O26
  have O28 := ok_target B D28 O11
  have O29 := ok_handler B D29 O11 O28
  have O30 := ok_part B D30 O11 O28 O27 O18 O29
  have O31 := ok_step B T D31 O18 O30
  have O32 := ok_inner (P := l.prog) (w := w) (base := base) B T D32
  have O33 := ok_first B T D33 O31 O32
  have O34 := ok_used (P := l.prog) (w := w) (base := base) B A7 D34 O32
  have O36 := ok_routine B D36 O13
  have O37 := ok_chkR B EE D37 O12 O36 O33
  have O38 := ok_arr B D38 O10 O12 O17
  have O39 := ok_chkO B EE D39 O38
  have O42 := ok_cellAt (P := l.prog) (w := w) (base := base) B D42
  have O43 := ok_well (P := l.prog) (w := w) (base := base) B D43
  have O44 := ok_draw (P := l.prog) (w := w) (base := base) B D44
  have O45 := ok_pick B D45 O44
  have O46 := ok_table (P := l.prog) (w := w) (base := base) B D46
  have O47 := ok_lname (P := l.prog) (w := w) (base := base) B D47
  have O48 := ok_larg B D48 O47
  have O49 := ok_lcall B (n := 13) D49 O47 (O48 13) O46
  have O50 := ok_lhandler B D50 O47
  have O51 := ok_lstep B (n := 13) D51 O47 (O48 13) O49 O50
  have O52 := ok_lbad B (n := 13) D52 O51 14
  have O54 := ok_larr B D54 O47 (O48 14)
  have O53 := ok_due B D53 O47 O52 O54
  have O55 := ok_odd B D55 O44 O45 O46
  have O56 := ok_steps B D56 O44 O45 O55 3
  exact ok_law B RP EE TX EX FL O42 O43 O44 O45 O56 O53 (fun F => ok_rou RP F) (fun F => ok_out RP F) (fun F => ok_pr B RP F O37 O39 O34)
end K2
open PySem PySem.W PyProof.Rows
set_option maxRecDepth 100000 in
set_option maxHeartbeats 0 in
theorem PySem.Challenge.cw_loopyard_k02_what_is_no_program_holds : PySem.Challenge.rw_loopyard_k02_what_is_no_program.Holds := by
  w_on; o_law; k_head; (case hw => w_witness2)
  k_fill
  refine L2.walk_of (l := PySem.Challenge.rw_loopyard_k02_what_is_no_program) (n := 63) (k := 34) (x := "_law_script") (CX := fun _ => L2.CX0) (sp := fun w => K2.spLaw _) rfl (by decide) rfl ⟨rfl, by decide, by decide⟩ (fun w h Y => PySem.W.kIn_of Y) ?F (fun _ _ a ns hl _ hS => ⟨a, ns, rfl, hS, hl, fun _ => rfl⟩) (fun _ _ _ _ _ h => h)
  case F =>
    intro w mg fa h KX G hmg
    refine' K2.all_mk KX G hmg ?a10 ?l10 ?c10 ?k10 ?a11 ?l11 ?c11 ?k11 ?a12 ?l12 ?c12 ?k12 ?a13 ?l13 ?c13 ?k13 ?a14 ?l14 ?c14 ?k14 ?a15 ?l15 ?c15 ?k15 ?a16 ?l16 ?c16 ?k16 ?a17 ?l17 ?c17 ?k17 ?a18 ?l18 ?c18 ?k18 ?a25 ?l25 ?c25 ?k25 ?a26 ?l26 ?c26 ?k26 ?a27 ?l27 ?c27 ?k27 ?a28 ?l28 ?c28 ?k28 ?a29 ?l29 ?c29 ?k29 ?a30 ?l30 ?c30 ?k30 ?a31 ?l31 ?c31 ?k31 ?a32 ?l32 ?c32 ?k32 ?a33 ?l33 ?c33 ?k33 ?a34 ?l34 ?c34 ?k34 ?a36 ?l36 ?c36 ?k36 ?a37 ?l37 ?c37 ?k37 ?a38 ?l38 ?c38 ?k38 ?a39 ?l39 ?c39 ?k39 ?a42 ?l42 ?c42 ?k42 ?a43 ?l43 ?c43 ?k43 ?a44 ?l44 ?c44 ?k44 ?a45 ?l45 ?c45 ?k45 ?a46 ?l46 ?c46 ?k46 ?a47 ?l47 ?c47 ?k47 ?a48 ?l48 ?c48 ?k48 ?a49 ?l49 ?c49 ?k49 ?a50 ?l50 ?c50 ?k50 ?a51 ?l51 ?c51 ?k51 ?a52 ?l52 ?c52 ?k52 ?a53 ?l53 ?c53 ?k53 ?a54 ?l54 ?c54 ?k54 ?a55 ?l55 ?c55 ?k55 ?a56 ?l56 ?c56 ?k56 ?a57 ?l57 ?c57 ?k57 ?z_isinstance ?z_int ?z_bool ?z_str ?z_tuple ?z_dict ?z_list ?z_len ?z_all ?z_any ?z_sorted ?z_enumerate ?z_zip ?z_set ?z_range ?z_max ?z_repr ?y_small ?y_cap ?y_dig ?y_long ?w1 ?dt1 ?vt1 ?w2 ?dt2 ?vt2 ?w3 ?dt3 ?vt3 ?w7 ?dt7 ?vt7 ?w4 ?tt4 ?w5 ?tt5 ?w6 ?tt6
      (K2.ers_mk KX G ?eb1 ?eb2 ?eb3 ?eb4 ?eb5 ?eb6 ?eb7 ?eb8 ?eb9 ?eb10 ?eb11 ?eb12 ?eb13 ?eb14 ?eb15 ?el1 ?el2 ?el3 ?el4 ?el5 ?el6 ?el7 ?el8 ?el9)
      (K2.prc_mk KX G ?rp1 ?rc1 ?rc2 ?rc3 ?rc4 ?rn1 ?rn2 ?rn3 ?rm1 ?rm2 ?rm3 ?rm4 ?ri1 ?ri2 ?ri3 ?ri4 ?rq1 ?rq2 ?rq3 ?rq4 ?rq5 ?rq6 ?rq7 ?rs1 ?rs2 ?rs3 ?rs4 ?rs5 ?rs6 ?rs7) ⟨?xga, ?xgg, ?xex, ?xhd⟩ (K2.exm_same ?x1 ?x2 ?x3 ?x4)
    (case eb1 => k_is)
    (case eb2 => k_is)
    (case eb3 => decide +kernel)
    (case eb4 => k_is)
    (case eb5 => k_is)
    (case eb6 => k_is)
    (case eb7 => k_is)
    (case eb8 => k_is)
    (case eb9 => k_is)
    (case eb10 => k_is)
    (case eb11 => k_is)
    (case eb12 => k_is)
    (case eb13 => k_is)
    (case eb14 => k_is)
    (case eb15 => k_is)
    (case el1 => k_is)
    (case el2 => k_is)
    (case el3 => k_is)
    (case el4 => k_is)
    (case el5 => k_is)
    (case el6 => k_is)
    (case el7 => k_is)
    (case el8 => k_is)
    (case el9 => k_is)
    (case rp1 => k_is)
    (case rc1 => k_is)
    (case rc2 => k_is)
    (case rc3 => k_is)
    (case rc4 => k_is)
    (case rn1 => k_is)
    (case rn2 => k_is)
    (case rn3 => k_is)
    (case rm1 => k_is)
    (case rm2 => k_is)
    (case rm3 => k_is)
    (case rm4 => k_is)
    (case ri1 => k_is)
    (case ri2 => k_is)
    (case ri3 => k_is)
    (case ri4 => k_is)
    (case rq1 => k_is)
    (case rq2 => k_is)
    (case rq3 => k_is)
    (case rq4 => k_is)
    (case rq5 => k_is)
    (case rq6 => k_is)
    (case rq7 => k_is)
    (case rs1 => k_is)
    (case rs2 => k_is)
    (case rs3 => k_is)
    (case rs4 => k_is)
    (case rs5 => k_is)
    (case rs6 => k_is)
    (case rs7 => k_is)
    (case xga => k_is)
    (case xgg => k_is)
    (case xex => k_is)
    (case xhd => k_is)
    (case x1 => k_is)
    (case x2 => k_is)
    (case x3 => k_is)
    (case x4 => first | rfl | k_is)
    (case a10 => k_is)
    (case l10 => k_is)
    (case c10 => k_is)
    (case k10 => k_is)
    (case a11 => k_is)
    (case l11 => k_is)
    (case c11 => k_is)
    (case k11 => k_is)
    (case a12 => k_is)
    (case l12 => k_is)
    (case c12 => k_is)
    (case k12 => k_is)
    (case a13 => k_is)
    (case l13 => k_is)
    (case c13 => k_is)
    (case k13 => k_is)
    (case a14 => k_is)
    (case l14 => k_is)
    (case c14 => k_is)
    (case k14 => k_is)
    (case a15 => k_is)
    (case l15 => k_is)
    (case c15 => k_is)
    (case k15 => k_is)
    (case a16 => k_is)
    (case l16 => k_is)
    (case c16 => k_is)
    (case k16 => k_is)
    (case a17 => k_is)
    (case l17 => k_is)
    (case c17 => k_is)
    (case k17 => k_is)
    (case a18 => k_is)
    (case l18 => k_is)
    (case c18 => k_is)
    (case k18 => k_is)
    (case a25 => k_is)
    (case l25 => k_is)
    (case c25 => k_is)
    (case k25 => k_is)
    (case a26 => k_is)
    (case l26 => k_is)
    (case c26 => k_is)
    (case k26 => k_is)
    (case a27 => k_is)
    (case l27 => k_is)
    (case c27 => k_is)
    (case k27 => k_is)
    (case a28 => k_is)
    (case l28 => k_is)
    (case c28 => k_is)
    (case k28 => k_is)
    (case a29 => k_is)
    (case l29 => k_is)
    (case c29 => k_is)
    (case k29 => k_is)
    (case a30 => k_is)
    (case l30 => k_is)
    (case c30 => k_is)
    (case k30 => k_is)
    (case a31 => k_is)
    (case l31 => k_is)
    (case c31 => k_is)
    (case k31 => k_is)
    (case a32 => k_is)
    (case l32 => k_is)
    (case c32 => k_is)
    (case k32 => k_is)
    (case a33 => k_is)
    (case l33 => k_is)
    (case c33 => k_is)
    (case k33 => k_is)
    (case a34 => k_is)
    (case l34 => k_is)
    (case c34 => k_is)
    (case k34 => k_is)
    (case a36 => k_is)
    (case l36 => k_is)
    (case c36 => k_is)
    (case k36 => k_is)
    (case a37 => k_is)
    (case l37 => k_is)
    (case c37 => k_is)
    (case k37 => k_is)
    (case a38 => k_is)
    (case l38 => k_is)
    (case c38 => k_is)
    (case k38 => k_is)
    (case a39 => k_is)
    (case l39 => k_is)
    (case c39 => k_is)
    (case k39 => k_is)
    (case a42 => k_is)
    (case l42 => k_is)
    (case c42 => k_is)
    (case k42 => k_is)
    (case a43 => k_is)
    (case l43 => k_is)
    (case c43 => k_is)
    (case k43 => k_is)
    (case a44 => k_is)
    (case l44 => k_is)
    (case c44 => k_is)
    (case k44 => k_is)
    (case a45 => k_is)
    (case l45 => k_is)
    (case c45 => k_is)
    (case k45 => k_is)
    (case a46 => k_is)
    (case l46 => k_is)
    (case c46 => k_is)
    (case k46 => k_is)
    (case a47 => k_is)
    (case l47 => k_is)
    (case c47 => k_is)
    (case k47 => k_is)
    (case a48 => k_is)
    (case l48 => k_is)
    (case c48 => k_is)
    (case k48 => k_is)
    (case a49 => k_is)
    (case l49 => k_is)
    (case c49 => k_is)
    (case k49 => k_is)
    (case a50 => k_is)
    (case l50 => k_is)
    (case c50 => k_is)
    (case k50 => k_is)
    (case a51 => k_is)
    (case l51 => k_is)
    (case c51 => k_is)
    (case k51 => k_is)
    (case a52 => k_is)
    (case l52 => k_is)
    (case c52 => k_is)
    (case k52 => k_is)
    (case a53 => k_is)
    (case l53 => k_is)
    (case c53 => k_is)
    (case k53 => k_is)
    (case a54 => k_is)
    (case l54 => k_is)
    (case c54 => k_is)
    (case k54 => k_is)
    (case a55 => k_is)
    (case l55 => k_is)
    (case c55 => k_is)
    (case k55 => k_is)
    (case a56 => k_is)
    (case l56 => k_is)
    (case c56 => k_is)
    (case k56 => k_is)
    (case a57 => k_is)
    (case l57 => k_is)
    (case c57 => k_is)
    (case k57 => k_is)
    (case z_isinstance => k_is)
    (case z_int => k_is)
    (case z_bool => k_is)
    (case z_str => k_is)
    (case z_tuple => k_is)
    (case z_dict => k_is)
    (case z_list => k_is)
    (case z_len => k_is)
    (case z_all => k_is)
    (case z_any => k_is)
    (case z_sorted => k_is)
    (case z_enumerate => k_is)
    (case z_zip => k_is)
    (case z_set => k_is)
    (case z_range => k_is)
    (case z_max => k_is)
    (case z_repr => k_is)
    (case y_small => k_is)
    (case y_cap => k_is)
    (case y_dig => k_is)
    (case y_long => k_is)
    (case w1 => k_is)
    (case w2 => k_is)
    (case w3 => k_is)
    (case w7 => k_is)
    (case w4 => k_is)
    (case w5 => k_is)
    (case w6 => k_is)
    (case dt1 => kernel_rfl)
    (case vt1 => kernel_rfl)
    (case dt2 => kernel_rfl)
    (case vt2 => kernel_rfl)
    (case dt3 => kernel_rfl)
    (case vt3 => kernel_rfl)
    (case dt7 => kernel_rfl)
    (case vt7 => kernel_rfl)
    (case tt4 => kernel_rfl)
    (case tt5 => kernel_rfl)
    (case tt6 => kernel_rfl)
