import PyProof.Rows.All
import Wide.All
import OpenK.AllK
import Wide.FinOn
import HandS.ForMost
import HandS.IsInst
import HandS.Gcd
import HandS.Wide
import HandS.FStr
import HandS.StrMore
import HandS.Exc
import HandS.Lambda
import Flt.RightSqrt
import HandS.Walk
import HandS.Style
import KE.GoesMore
import KE.GoesEnum
import KE.KMathGC
import HandS.TupAny
import HandS.TupMul
import KE.KDictZip
import HandS.Zip0
import HandS.Star
import HandS.Zip
import HandS.Deep
import HandS.RevRange
import HandS.ExcInit
import HandS.ExcOwn
import HandS.ExcField
import HandS.WordsExc
import HandS.TryMany
import KE.KExcInit
import HandS.Conv
import HandS.SetFor
import HandS.Strs
import HandS.CallLocal
import HandS.EndTab
import PyProof.StrBlock2
import PySem.Challenge.RW_thirdcounts_k02_errors_of_numbers
set_option Elab.async false
set_option linter.all false
set_option maxRecDepth 100000
/-! A data layer over the hand layer: what expressions, statements and defs do to plain data (PyData), and to one list of three ints that is written in place. -/
namespace DL
open PySem PySem.Spec PyProof.Rows L2
/-- the tables of code objects that are known, and the names that they bear -/
class TabT where
  T : List (Addr × Str)
variable [TabT]

/-! ### 1. states, heaps, data -/
abbrev S := Int × Int × Int
def dv (s : S) : HO := .lst [.int s.1, .int s.2.1, .int s.2.2]
/-- the state's list, and lists that are being filled: what they hold stands still meanwhile -/
structure Z where
  dice : Option Addr
  vol : List (Addr × HO)
/-- not one of these -/
def Fz (z : Z) (a : Addr) : Prop := (z.dice ≠ some a ∧ ∀ q, (a, q) ∉ TabT.T) ∧ ∀ o, (a, o) ∉ z.vol
structure At (z : Z) (H : Hp) (s : S) : Prop where
  d : ∀ a, z.dice = some a → H a = some (dv s)
  v : ∀ p ∈ z.vol, H p.1 = some p.2
  n : ∀ p ∈ z.vol, z.dice ≠ some p.1 ∧ ∃ xs, p.2 = .lst xs
  t : LamX.Tabs TabT.T H
/-- the tables stand where all but lists is kept -/
theorem tabs_but {T : List (Addr × Str)} {H H' : Hp} (t : LamX.Tabs T H) (k : ∀ b o, H b = some o → (∀ xs, o ≠ .lst xs) → H' b = some o) : LamX.Tabs T H' := fun p hp => by
  obtain ⟨ps, h1, h2, h3⟩ := t p hp
  refine ⟨ps, k _ _ h1 (fun xs e => by cases e), h2, fun pos cv hc => ?_⟩
  obtain ⟨c, e1, e2⟩ := h3 pos cv hc
  exact ⟨c, e1, k _ _ e2 (fun xs e => by
    unfold LamX.CodeO at e
    cases e)⟩
theorem tabs_upd {T : List (Addr × Str)} {H : Hp} {a : Addr} {xs : List V} {o : HO} (t : LamX.Tabs T H) (h : H a = some (.lst xs)) : LamX.Tabs T (upd H a o) := tabs_but t fun b u e n => by
  by_cases hb : b = a
  · rw [hb, h] at e
    exact absurd (Option.some.inj e).symm (n xs)
  · rw [upd_ne hb]
    exact e
theorem tabs_new {T : List (Addr × Str)} {H : Hp} {p : Addr} {o : HO} (t : LamX.Tabs T H) (h : H p = none) : LamX.Tabs T (upd H p o) := tabs_but t fun b u e n => by
  rw [upd_ne (ne_of_none e h)]
  exact e
def Ez (z : Z) (H H' : Hp) : Prop := ∀ a o, Fz z a → H a = some o → H' a = some o
theorem Ez.refl {z : Z} (H : Hp) : Ez z H H := fun _ _ _ h => h
theorem Ez.trans {z : Z} {H H1 H2 : Hp} (a : Ez z H H1) (b : Ez z H1 H2) : Ez z H H2 := fun x o n h => b x o n (a x o n h)
theorem Ez.new {z : Z} {H : Hp} {p : Addr} {o : HO} (h : H p = none) : Ez z H (upd H p o) := fun a u _ e => by
  rw [upd_ne (ne_of_none e h)]
  exact e
theorem At.new {z : Z} {H : Hp} {p : Addr} {o : HO} {s : S} (A : At z H s) (h : H p = none) : At z (upd H p o) s := by
  refine ⟨fun a e => ?_, fun q hq => ?_, A.n, tabs_new A.t h⟩
  · rw [upd_ne (ne_of_none (A.d a e) h)]
    exact A.d a e
  · rw [upd_ne (ne_of_none (A.v q hq) h)]
    exact A.v q hq
theorem At.fresh {z : Z} {H : Hp} {p : Addr} {s : S} (A : At z H s) (h : H p = none) : Fz z p := by
  refine ⟨⟨fun e => ?_, fun q hq => ?_⟩, fun o ho => ?_⟩
  · have := A.d p e
    rw [this] at h
    cases h
  · obtain ⟨ps, e, _⟩ := A.t _ hq
    have e : H p = some (.tbl ps) := e
    rw [e] at h
    cases h
  · have : H p = some o := A.v _ ho
    rw [this] at h
    cases h
theorem At.tab_far {z : Z} {H : Hp} {a : Addr} {xs : List V} {s : S} (A : At z H s) (h : H a = some (.lst xs)) : ∀ q, (a, q) ∉ TabT.T := fun q hq => by
  obtain ⟨ps, e, _⟩ := A.t _ hq
  have e : H a = some (.tbl ps) := e
  rw [e] at h
  cases h
theorem At.set {z : Z} {a : Addr} {H : Hp} {s s' : S} (A : At z H s') (e : z.dice = some a) : At z (upd H a (dv s)) s := by
  refine ⟨fun b e2 => ?_, fun q hq => ?_, A.n, tabs_upd A.t (A.d a e)⟩
  · rw [e] at e2
    cases e2
    exact upd_same
  · have := (A.n q hq).1
    rw [upd_ne (fun h => this (by rw [e, h]))]
    exact A.v q hq
theorem Ez.set {z : Z} {a : Addr} {H : Hp} {o : HO} (h : z.dice = some a) : Ez z H (upd H a o) := fun b u n e => by
  rw [upd_ne (fun q => n.1.1 (by rw [h, q]))]
  exact e

mutual
inductive Da (z : Z) (H : Hp) : V → PyData → Prop
  | non : Da z H .non .none
  | bl (b : Bool) : Da z H (.bl b) (.bool b)
  | int (i : Int) : Da z H (.int i) (.int i)
  | str (x : Str) : Da z H (.str x) (.str x)
  | dct {a : Addr} : Fz z a → H a = some (.dK []) → Da z H (.ref a) (.dict [])
  | lst {a : Addr} {xs : List V} {ds : List PyData} : Fz z a → H a = some (.lst xs) → DaAll z H xs ds → Da z H (.ref a) (.list ds)
  | tup {a : Addr} {xs : List V} {ds : List PyData} : Fz z a → H a = some (.tup xs) → DaAll z H xs ds → Da z H (.ref a) (.tuple ds)
inductive DaAll (z : Z) (H : Hp) : List V → List PyData → Prop
  | nil : DaAll z H [] []
  | cons {v : V} {vs : List V} {d : PyData} {ds : List PyData} : Da z H v d → DaAll z H vs ds → DaAll z H (v :: vs) (d :: ds)
end
mutual
theorem Da.mono {z : Z} {H H' : Hp} (e : Ez z H H') : ∀ {v : V} {d : PyData}, Da z H v d → Da z H' v d
  | _, _, .non => .non
  | _, _, .bl b => .bl b
  | _, _, .int i => .int i
  | _, _, .str x => .str x
  | _, _, .dct n h => .dct n (e _ _ n h)
  | _, _, .lst n h r => .lst n (e _ _ n h) (DaAll.mono e r)
  | _, _, .tup n h r => .tup n (e _ _ n h) (DaAll.mono e r)
theorem DaAll.mono {z : Z} {H H' : Hp} (e : Ez z H H') : ∀ {vs : List V} {ds : List PyData}, DaAll z H vs ds → DaAll z H' vs ds
  | _, _, .nil => .nil
  | _, _, .cons h r => .cons (Da.mono e h) (DaAll.mono e r)
end
mutual
/-- no dict within -/
def nod : PyData → Bool
  | .none => true
  | .bool _ => true
  | .int _ => true
  | .str _ => true
  | .list xs => nodAll xs
  | .tuple xs => nodAll xs
  | .dict _ => false
def nodAll : List PyData → Bool
  | [] => true
  | x :: xs => nod x && nodAll xs
end
mutual
theorem Da.dp {K : PySem.W.Frag} {z : Z} {H : Hp} : ∀ {v : V} {d : PyData}, Da z H v d → nod d = true → Dp K H v d
  | _, _, .non, _ => .non
  | _, _, .bl b, _ => .bl b
  | _, _, .int i, _ => .int i
  | _, _, .str x, _ => .str x
  | _, _, .dct n h, q => by simp [nod] at q
  | _, _, .lst n h r, q => .lst (.inl (.inl h)) (DaAll.dp r (by simpa [nod] using q))
  | _, _, .tup n h r, q => .tup (.inl (.inl h)) (DaAll.dp r (by simpa [nod] using q))
theorem DaAll.dp {K : PySem.W.Frag} {z : Z} {H : Hp} : ∀ {vs : List V} {ds : List PyData}, DaAll z H vs ds → nodAll ds = true → DpAll K H vs ds
  | _, _, .nil, _ => .nil
  | _, _, .cons h r, q => by
    simp only [nodAll, Bool.and_eq_true] at q
    exact .cons (Da.dp h q.1) (DaAll.dp r q.2)
end
theorem DaAll.length {z : Z} {H : Hp} : ∀ {vs : List V} {ds : List PyData}, DaAll z H vs ds → vs.length = ds.length
  | _, _, .nil => rfl
  | _, _, .cons _ r => by rw [List.length_cons, List.length_cons, DaAll.length r]
theorem DaAll.get {z : Z} {H : Hp} : ∀ {vs : List V} {ds : List PyData}, DaAll z H vs ds → ∀ (i : Nat) (d : PyData), ds[i]? = some d → ∃ v, vs[i]? = some v ∧ Da z H v d
  | _, _, .nil, i, d, h => by simp at h
  | _, _, .cons h r, 0, d, e => by
    cases Option.some.inj e
    exact ⟨_, rfl, h⟩
  | _, _, .cons h r, i + 1, d, e => DaAll.get r i d e
theorem DaAll.getV {z : Z} {H : Hp} : ∀ {vs : List V} {ds : List PyData}, DaAll z H vs ds → ∀ (i : Nat) (v : V), vs[i]? = some v → ∃ d, ds[i]? = some d ∧ Da z H v d
  | _, _, .nil, i, d, h => by simp at h
  | _, _, .cons h r, 0, d, e => by
    cases Option.some.inj e
    exact ⟨_, rfl, h⟩
  | _, _, .cons h r, i + 1, d, e => DaAll.getV r i d e
theorem DaAll.app {z : Z} {H : Hp} : ∀ {vs : List V} {ds : List PyData} {us : List V} {es : List PyData}, DaAll z H vs ds → DaAll z H us es → DaAll z H (vs ++ us) (ds ++ es)
  | _, _, _, _, .nil, q => q
  | _, _, _, _, .cons h r, q => .cons h (DaAll.app r q)

/-! ### exceptions as data: of a class without fields, with one field -/
inductive XD | pl (C : Addr) | wf (C : Addr) (f : Str) (d : PyData)
def XR (z : Z) (H : Hp) (cls : Value) (dx : Option Addr) : XD → Prop
  | .pl C => cls = .ref C ∧ dx = none
  | .wf C f d => cls = .ref C ∧ ∃ p v, dx = some p ∧ Fz z p ∧ H p = some (.xd [(f, v)]) ∧ Da z H v d
theorem XR.mono {z : Z} {H H' : Hp} {cls : Value} {dx : Option Addr} (e : Ez z H H') : ∀ {x : XD}, XR z H cls dx x → XR z H' cls dx x
  | .pl _, h => h
  | .wf _ _ _, ⟨h1, p, v, h2, n, h3, h4⟩ => ⟨h1, p, v, h2, n, e _ _ n h3, h4.mono e⟩

/-! ### slots -/
inductive Sl | un | val (d : PyData) | dice | raw (v : V) | own (ds : List PyData) | exc (a : Addr) (cls : Value) (dx : Option Addr) (x : XD)
inductive SlR (z : Z) (H : Hp) : Option V → Sl → Prop
  | un {x : Option V} : SlR z H x .un
  | val {v : V} {d : PyData} : Da z H v d → SlR z H (some v) (.val d)
  | dice {a : Addr} : z.dice = some a → SlR z H (some (.ref a)) .dice
  | raw {v : V} : SlR z H (some v) (.raw v)
  | own {p : Addr} {vs : List V} {ds : List PyData} : (p, HO.lst vs) ∈ z.vol → DaAll z H vs ds → SlR z H (some (.ref p)) (.own ds)
  | exc {a : Addr} {cls : Value} {dx : Option Addr} {x : XD} : XR z H cls dx x → SlR z H (some (.ref a)) (.exc a cls dx x)
inductive En (z : Z) (H : Hp) : L2.St → List Sl → Prop
  | nil : En z H [] []
  | cons {x : Option V} {σ : L2.St} {e : Sl} {es : List Sl} : SlR z H x e → En z H σ es → En z H (x :: σ) (e :: es)
theorem SlR.mono {z : Z} {H H' : Hp} {x : Option V} {e : Sl} (k : Ez z H H') (h : SlR z H x e) : SlR z H' x e := by
  cases h with
  | un => exact .un
  | val d => exact .val (d.mono k)
  | dice e => exact .dice e
  | raw => exact .raw
  | own m r => exact .own m (r.mono k)
  | exc r => exact .exc (r.mono k)
theorem En.mono {z : Z} {H H' : Hp} (k : Ez z H H') : ∀ {σ : L2.St} {es : List Sl}, En z H σ es → En z H' σ es
  | _, _, .nil => .nil
  | _, _, .cons h r => .cons (h.mono k) (En.mono k r)
theorem En.length {z : Z} {H : Hp} : ∀ {σ : L2.St} {es : List Sl}, En z H σ es → σ.length = es.length
  | _, _, .nil => rfl
  | _, _, .cons h r => by rw [List.length_cons, List.length_cons, En.length r]
theorem En.get {z : Z} {H : Hp} : ∀ {σ : L2.St} {es : List Sl}, En z H σ es → ∀ {i : Nat} {d : PyData}, es[i]? = some (.val d) → ∃ v, σ[i]? = some (some v) ∧ Da z H v d
  | _, _, .nil, i, d, h => by simp at h
  | _, _, .cons h r, 0, d, e => by
    cases Option.some.inj e
    cases h with
    | val q => exact ⟨_, rfl, q⟩
  | _, _, .cons h r, i + 1, d, e => En.get r (i := i) e
theorem En.getD {z : Z} {H : Hp} : ∀ {σ : L2.St} {es : List Sl}, En z H σ es → ∀ {i : Nat}, es[i]? = some .dice → ∃ a, σ[i]? = some (some (.ref a)) ∧ z.dice = some a
  | _, _, .nil, i, h => by simp at h
  | _, _, .cons h r, 0, e => by
    cases Option.some.inj e
    cases h with
    | dice q => exact ⟨_, rfl, q⟩
  | _, _, .cons h r, i + 1, e => En.getD r (i := i) e
theorem En.set {z : Z} {H : Hp} : ∀ {σ : L2.St} {es : List Sl}, En z H σ es → ∀ (i : Nat) {x : Option V} {e : Sl}, SlR z H x e → En z H (σ.set i x) (es.set i e)
  | _, _, .nil, i, _, _, _ => .nil
  | _, _, .cons h r, 0, _, _, q => .cons q r
  | _, _, .cons h r, i + 1, _, _, q => .cons h (En.set r i q)
theorem En.app {z : Z} {H : Hp} : ∀ {σ : L2.St} {es : List Sl} {τ : L2.St} {fs : List Sl}, En z H σ es → En z H τ fs → En z H (σ ++ τ) (es ++ fs)
  | _, _, _, _, .nil, q => q
  | _, _, _, _, .cons h r, q => .cons h (En.app r q)
theorem En.uns {z : Z} {H : Hp} : ∀ (n : Nat), En z H (List.replicate n none) (List.replicate n .un)
  | 0 => .nil
  | n + 1 => .cons .un (En.uns n)
/-- less is known -/
inductive Le : List Sl → List Sl → Prop
  | nil : Le [] []
  | same {e : Sl} {es fs : List Sl} : Le es fs → Le (e :: es) (e :: fs)
  | un {e : Sl} {es fs : List Sl} : Le es fs → Le (e :: es) (.un :: fs)
theorem Le.refl : ∀ es : List Sl, Le es es
  | [] => .nil
  | _ :: es => .same (Le.refl es)
theorem En.le {z : Z} {H : Hp} : ∀ {es fs : List Sl}, Le es fs → ∀ {σ : L2.St}, En z H σ es → En z H σ fs
  | _, _, .nil, _, h => h
  | _, _, .same l, _, .cons h r => .cons h (En.le l r)
  | _, _, .un l, _, .cons h r => .cons .un (En.le l r)

/-! ### 2. the weakest readings -/
section
variable {X : Cx}
def wE (X : Cx) (e : Expr) : TE := fun σ H Q => ∃ t, PE X e t ∧ t σ H Q
def wT (X : Cx) (e : Expr) : TT := fun σ H Q => ∃ t, PT X e t ∧ t σ H Q
def wA (X : Cx) (es : List Expr) : TA := fun σ H Q => ∃ t, PA X es t ∧ t σ H Q
def wS (X : Cx) (st : Stmt) : TS := fun D σ H => ∃ t, PS X st t ∧ t D σ H
def wB (X : Cx) (st : List Stmt) : TS := fun D σ H => ∃ t, PSs X st t ∧ t D σ H
theorem wE_ok {e : Expr} : PE X e (wE X e) := ⟨fun pins s σ H Q I ⟨_, h, q⟩ => h.run pins s σ H Q I q⟩
theorem wT_ok {e : Expr} : PT X e (wT X e) := ⟨fun pins s σ H Q I ⟨_, h, q⟩ => h.run pins s σ H Q I q⟩
theorem wA_ok {es : List Expr} : PA X es (wA X es) := ⟨fun pos pins s σ H Q I ⟨_, h, q⟩ => h.run pos pins s σ H Q I q⟩
theorem wS_ok {st : Stmt} : PS X st (wS X st) := ⟨fun pins s σ H D I ⟨_, h, q⟩ => h.run pins s σ H D I q⟩
theorem wB_ok {st : List Stmt} : PSs X st (wB X st) := ⟨fun pins s σ H D I ⟨_, h, q⟩ => h.run pins s σ H D I q⟩
theorem wB_never {st : List Stmt} : PSs X st tNever := ⟨fun _ _ _ _ _ _ h => h.elim⟩
/-- e gives the data d, and the state goes from s to s' -/
def EV (X : Cx) (z : Z) (e : Expr) (es : List Sl) (s : S) (d : PyData) (s' : S) : Prop := ∀ σ H, En z H σ es → At z H s → ∀ Q : VK, (∀ v H2, Ez z H H2 → At z H2 s' → Da z H2 v d → Q v H2) → wE X e σ H Q
def ET (X : Cx) (z : Z) (e : Expr) (es : List Sl) (s : S) (b : Bool) (s' : S) : Prop := ∀ σ H, En z H σ es → At z H s → ∀ Q : Bool → Hp → Prop, (∀ H2, Ez z H H2 → At z H2 s' → Q b H2) → wT X e σ H Q
def EA (X : Cx) (z : Z) (xs : List Expr) (es : List Sl) (s : S) (as : List Sl) (s' : S) : Prop := ∀ σ H, En z H σ es → At z H s → ∀ Q : List V → Hp → Prop, (∀ vs H2, Ez z H H2 → At z H2 s' → En z H2 (vs.map some) as → Q vs H2) → wA X xs σ H Q

variable {z : Z} {es : List Sl} {s s1 s2 s' : S} {a b c e : Expr} {pos p : Pos} {d d1 d2 : PyData}
/-- from a reading -/
theorem EV.mk {te : TE} (h : PE X e te) (k : ∀ σ H, En z H σ es → At z H s → ∀ Q : VK, (∀ v H2, Ez z H H2 → At z H2 s' → Da z H2 v d → Q v H2) → te σ H Q) : EV X z e es s d s' := fun σ H en at_ Q q => ⟨te, h, k σ H en at_ Q q⟩
theorem EV.is (h : EV X z e es s d s') (q : d = d1) : EV X z e es s d1 s' := q ▸ h
theorem EV.st (h : EV X z e es s d s') (q : s' = s1) : EV X z e es s d s1 := q ▸ h
theorem ET.is {b b' : Bool} (h : ET X z e es s b s') (q : b = b') : ET X z e es s b' s' := q ▸ h
theorem ev_int {i : Int} {j} : EV X z (.Constant (.int i) j pos) es s (.int i) s := .mk pe_int fun _ H _ at_ _ q => q _ H (.refl H) at_ (.int i)
theorem ev_bl {i : Bool} {j} : EV X z (.Constant (.bool i) j pos) es s (.bool i) s := .mk pe_bl fun _ H _ at_ _ q => q _ H (.refl H) at_ (.bl i)
theorem ev_str {i : Str} {j} : EV X z (.Constant (.str i) j pos) es s (.str i) s := .mk pe_str fun _ H _ at_ _ q => q _ H (.refl H) at_ (.str i)
theorem ev_non {j} : EV X z (.Constant .none j pos) es s .none s := .mk pe_non fun _ H _ at_ _ q => q _ H (.refl H) at_ .non
theorem ev_var (i : Nat) {x : Str} (h : es[i]? = some (.val d) := by rfl) (hN : X.N[i]? = some x := by rfl) (hv : Vis X.env.scope x := by first | exact Or.inl rfl | exact Or.inr (Or.inl rfl) | exact Or.inr (Or.inr rfl))
    (hd : (x == ("__debug__" : Str)) = false := by decide) (hcd : (x == ("__classdict__" : Str)) = false := by decide) : EV X z (.Name x pos) es s d s :=
  .mk (pe_var hN hv hd hcd) fun σ H en at_ Q q => by
    obtain ⟨v, e1, e2⟩ := en.get h
    exact ⟨v, e1, q v H (.refl H) at_ e2⟩
theorem ev_glob {x : Str} {i : Int} {u : Value} (hg : Gl X x) (hm : X.mg x = some u) (r : ∃ t, u = .int i t) (hd : (x == ("__debug__" : Str)) = false := by decide) : EV X z (.Name x pos) es s (.int i) s :=
  .mk (pe_glob (v := .int i) hg hm r hd) fun _ H _ at_ _ q => q _ H (.refl H) at_ (.int i)

/-! ### operators -/
/-- what an operation on values does to data -/
def RD (z : Z) (s : S) (r : R2) (d1 d2 d : PyData) : Prop := ∀ x y H, At z H s → Da z H x d1 → Da z H y d2 → ∀ Q : VK, (∀ v H2, Ez z H H2 → At z H2 s → Da z H2 v d → Q v H2) → r x y H Q
theorem ev_opR {r : R2} {f : Value → Value → Sem Value} {op : Operator} (ho : OpR X (binaryOp op) r) (hr : RD z s2 r d1 d2 d) (ha : EV X z a es s d1 s1) (hb : EV X z b es s1 d2 s2) : EV X z (.BinOp a op b pos) es s d s2 :=
  .mk (pe_op ho wE_ok wE_ok) fun σ H en at_ Q q => ha σ H en at_ _ fun x H1 e1 a1 x1 => hb σ H1 (en.mono e1) a1 _ fun y H2 e2 a2 y2 => hr x y H2 a2 (x1.mono e2) y2 Q fun v H3 e3 a3 v3 => q v H3 ((e1.trans e2).trans e3) a3 v3
theorem ev_cmpR {r : R2} {op : CmpOp} (ho : OpR X (compareOp op) r) (hr : RD z s2 r d1 d2 d) (ha : EV X z a es s d1 s1) (hb : EV X z b es s1 d2 s2) (hm : behindInMarks op b = false) : EV X z (.Compare a [op] [b] pos) es s d s2 :=
  .mk (pe_cmpR ho wE_ok wE_ok hm) fun σ H en at_ Q q => ha σ H en at_ _ fun x H1 e1 a1 x1 => hb σ H1 (en.mono e1) a1 _ fun y H2 e2 a2 y2 => hr x y H2 a2 (x1.mono e2) y2 Q fun v H3 e3 a3 v3 => q v H3 ((e1.trans e2).trans e3) a3 v3
theorem et_cmpR {r : R2} {op : CmpOp} {k : Bool} (ho : OpR X (compareOp op) r) (hr : RD z s2 r d1 d2 (.bool k)) (ha : EV X z a es s d1 s1) (hb : EV X z b es s1 d2 s2) (hm : behindInMarks op b = false) : ET X z (.Compare a [op] [b] pos) es s k s2 :=
  fun σ H en at_ Q q => ⟨_, pt_cmpR ho wE_ok wE_ok hm, ha σ H en at_ _ fun x H1 e1 a1 x1 => hb σ H1 (en.mono e1) a1 _ fun y H2 e2 a2 y2 => hr x y H2 a2 (x1.mono e2) y2 _ fun v H3 e3 a3 v3 => by
    cases v3
    exact ⟨k, rfl, q H3 ((e1.trans e2).trans e3) a3⟩⟩
theorem rd_I0 {g : Int → Int → V} {i j : Int} {d : PyData} (h : ∀ H, Da z H (g i j) d) : RD z s (rI0 g) (.int i) (.int j) d := fun x y H at_ hx hy Q q => by
  cases hx
  cases hy
  exact ⟨i, j, rfl, rfl, q _ H (.refl H) at_ (h H)⟩
theorem rd_I {C : Int → Int → Prop} {g : Int → Int → V} {i j : Int} {d : PyData} (hc : C i j) (h : ∀ H, Da z H (g i j) d) : RD z s (rI C g) (.int i) (.int j) d := fun x y H at_ hx hy Q q => by
  cases hx
  cases hy
  exact ⟨i, j, rfl, rfl, hc, q _ H (.refl H) at_ (h H)⟩
theorem ev_add {i j : Int} (ha : EV X z a es s (.int i) s1) (hb : EV X z b es s1 (.int j) s2) : EV X z (.BinOp a .Add b pos) es s (.int (i + j)) s2 := ev_opR (f := binaryOp .Add) op_add (rd_I0 fun _ => .int _) ha hb
theorem ev_sub {i j : Int} (ha : EV X z a es s (.int i) s1) (hb : EV X z b es s1 (.int j) s2) : EV X z (.BinOp a .Sub b pos) es s (.int (i - j)) s2 := ev_opR (f := binaryOp .Sub) op_sub (rd_I0 fun _ => .int _) ha hb
theorem ev_mul {i j : Int} (hc : CMulW i j) (ha : EV X z a es s (.int i) s1) (hb : EV X z b es s1 (.int j) s2) : EV X z (.BinOp a .Mult b pos) es s (.int (i * j)) s2 := ev_opR (f := binaryOp .Mult) op_mulW (rd_I hc fun _ => .int _) ha hb
theorem ev_mod {i j : Int} (hc : j ≠ 0) (ha : EV X z a es s (.int i) s1) (hb : EV X z b es s1 (.int j) s2) : EV X z (.BinOp a .Mod b pos) es s (.int (i.fmod j)) s2 := ev_opR (f := binaryOp .Mod) op_modN (rd_I hc fun _ => .int _) ha hb
theorem ev_pow {i j : Int} (hc : CPow i j) (ha : EV X z a es s (.int i) s1) (hb : EV X z b es s1 (.int j) s2) : EV X z (.BinOp a .Pow b pos) es s (.int (i ^ j.toNat)) s2 := ev_opR (f := binaryOp .Pow) op_pow (rd_I hc fun _ => .int _) ha hb
/-- // by any divisor but 0 below 2 ^ 9000 -/
def CDivZ (_ j : Int) : Prop := j ≠ 0 ∧ j.natAbs.log2 < 9000
theorem op_fdivZ : OpR X (binaryOp .FloorDiv) (rI CDivZ fun i j => .int (i.fdiv j)) := opI fun _ _ _ _ _ _ _ hc q => floordiv_int hc.1 q (.inl (PyProof.noPylong_of_log2 hc.2))
theorem ev_div {i j : Int} (hc : CDivZ i j) (ha : EV X z a es s (.int i) s1) (hb : EV X z b es s1 (.int j) s2) : EV X z (.BinOp a .FloorDiv b pos) es s (.int (i.fdiv j)) s2 := ev_opR (f := binaryOp .FloorDiv) op_fdivZ (rd_I hc fun _ => .int _) ha hb
theorem ev_neg {i : Int} (ha : EV X z a es s (.int i) s1) : EV X z (.UnaryOp .USub a pos) es s (.int (-i)) s1 :=
  .mk (pe_un un_neg wE_ok) fun σ H en at_ Q q => ha σ H en at_ _ fun x H1 e1 a1 x1 => by
    cases x1
    exact ⟨i, rfl, q _ H1 e1 a1 (.int _)⟩
theorem ev_addS {x y : Str} (hl : x.length + y.length ≤ sizeLine) (ha : EV X z a es s (.str x) s1) (hb : EV X z b es s1 (.str y) s2) : EV X z (.BinOp a .Add b pos) es s (.str (x ++ y)) s2 :=
  ev_opR (f := binaryOp .Add) op_add_str (fun u v H at_ hu hv Q q => by
    cases hu
    cases hv
    exact ⟨x, y, rfl, rfl, hl, q _ H (.refl H) at_ (.str _)⟩) ha hb
theorem ev_catT {ds fs : List PyData} (h0 : ds ≠ []) (h1 : fs ≠ []) (hl : ds.length + fs.length ≤ 100000) (ha : EV X z a es s (.tuple ds) s1) (hb : EV X z b es s1 (.tuple fs) s2) : EV X z (.BinOp a .Add b pos) es s (.tuple (ds ++ fs)) s2 :=
  ev_opR (f := binaryOp .Add) op_catT (fun u v H at_ hu hv Q q => by
    cases hu with
    | tup n1 e1 r1 =>
      cases hv with
      | tup n2 e2 r2 =>
        refine ⟨_, _, _, _, rfl, rfl, .inl (.inl e1), .inl (.inl e2), fun w => ?_, ?_, fun w => ?_, fun w p hp => ?_⟩
        · subst w
          cases r1
          exact h0 rfl
        · rw [r1.length, r2.length]
          exact Nat.le_trans hl (by decide)
        · subst w
          cases r2
          exact absurd rfl h1
        · exact q _ _ (.new hp) (at_.new hp) (.tup (at_.fresh hp) upd_same ((r1.app r2).mono (.new hp)))) ha hb
theorem ev_cat {ds fs : List PyData} (hl : ds.length + fs.length ≤ 100000) (ha : EV X z a es s (.list ds) s1) (hb : EV X z b es s1 (.list fs) s2) : EV X z (.BinOp a .Add b pos) es s (.list (ds ++ fs)) s2 :=
  ev_opR (f := binaryOp .Add) op_cat (fun u v H at_ hu hv Q q => by
    cases hu with
    | lst n1 e1 r1 =>
      cases hv with
      | lst n2 e2 r2 =>
        refine ⟨_, _, _, _, rfl, rfl, e1, e2, ?_, fun p hp => ?_⟩
        · rw [r1.length, r2.length]
          exact Nat.le_trans hl (by decide)
        · exact q _ _ (.new hp) (at_.new hp) (.lst (at_.fresh hp) upd_same ((r1.app r2).mono (.new hp)))) ha hb

/-! ### comparisons -/
theorem ev_lt {i j : Int} (ha : EV X z a es s (.int i) s1) (hb : EV X z b es s1 (.int j) s2) : EV X z (.Compare a [.Lt] [b] pos) es s (.bool (decide (i < j))) s2 := ev_cmpR op_lt (rd_I0 fun _ => .bl _) ha hb (nomark _)
theorem ev_le {i j : Int} (ha : EV X z a es s (.int i) s1) (hb : EV X z b es s1 (.int j) s2) : EV X z (.Compare a [.LtE] [b] pos) es s (.bool (decide (i ≤ j))) s2 := ev_cmpR op_le (rd_I0 fun _ => .bl _) ha hb (nomark _)
theorem ev_gt {i j : Int} (ha : EV X z a es s (.int i) s1) (hb : EV X z b es s1 (.int j) s2) : EV X z (.Compare a [.Gt] [b] pos) es s (.bool (decide (j < i))) s2 := ev_cmpR op_gt (rd_I0 fun _ => .bl _) ha hb (nomark _)
theorem ev_ge {i j : Int} (ha : EV X z a es s (.int i) s1) (hb : EV X z b es s1 (.int j) s2) : EV X z (.Compare a [.GtE] [b] pos) es s (.bool (decide (j ≤ i))) s2 := ev_cmpR op_ge (rd_I0 fun _ => .bl _) ha hb (nomark _)
theorem et_lt {i j : Int} (ha : EV X z a es s (.int i) s1) (hb : EV X z b es s1 (.int j) s2) : ET X z (.Compare a [.Lt] [b] pos) es s (decide (i < j)) s2 := et_cmpR op_lt (rd_I0 fun _ => .bl _) ha hb (nomark _)
theorem et_le {i j : Int} (ha : EV X z a es s (.int i) s1) (hb : EV X z b es s1 (.int j) s2) : ET X z (.Compare a [.LtE] [b] pos) es s (decide (i ≤ j)) s2 := et_cmpR op_le (rd_I0 fun _ => .bl _) ha hb (nomark _)
theorem et_gt {i j : Int} (ha : EV X z a es s (.int i) s1) (hb : EV X z b es s1 (.int j) s2) : ET X z (.Compare a [.Gt] [b] pos) es s (decide (j < i)) s2 := et_cmpR op_gt (rd_I0 fun _ => .bl _) ha hb (nomark _)
theorem et_ge {i j : Int} (ha : EV X z a es s (.int i) s1) (hb : EV X z b es s1 (.int j) s2) : ET X z (.Compare a [.GtE] [b] pos) es s (decide (j ≤ i)) s2 := et_cmpR op_ge (rd_I0 fun _ => .bl _) ha hb (nomark _)
theorem rd_eqD {K : PySem.W.Frag} (n1 : nod d1 = true) (n2 : nod d2 = true) (h1 : SeqAt.shaped d1 = true) (h2 : SeqAt.shaped d2 = true) : RD z s (rEqD K) d1 d2 (.bool (PyData.eqv d1 d2)) := fun x y H at_ hx hy Q q =>
  ⟨d1, d2, hx.dp n1, hy.dp n2, h1, h2, q _ H (.refl H) at_ (.bl _)⟩
theorem rd_neD {K : PySem.W.Frag} (n1 : nod d1 = true) (n2 : nod d2 = true) (h1 : SeqAt.shaped d1 = true) (h2 : SeqAt.shaped d2 = true) : RD z s (rNeD K) d1 d2 (.bool (!PyData.eqv d1 d2)) := fun x y H at_ hx hy Q q =>
  ⟨d1, d2, hx.dp n1, hy.dp n2, h1, h2, q _ H (.refl H) at_ (.bl _)⟩
/-- plain data: no dict, of small depth -/
def Pl (d : PyData) : Prop := nod d = true ∧ SeqAt.shaped d = true
theorem ev_eq (hu : X.A.units + 64 < cLine) (p1 : Pl d1) (p2 : Pl d2) (ha : EV X z a es s d1 s1) (hb : EV X z b es s1 d2 s2) : EV X z (.Compare a [.Eq] [b] pos) es s (.bool (PyData.eqv d1 d2)) s2 := ev_cmpR (op_eqD hu) (rd_eqD p1.1 p2.1 p1.2 p2.2) ha hb (nomark _)
theorem ev_ne (hu : X.A.units + 64 < cLine) (p1 : Pl d1) (p2 : Pl d2) (ha : EV X z a es s d1 s1) (hb : EV X z b es s1 d2 s2) : EV X z (.Compare a [.NotEq] [b] pos) es s (.bool (!PyData.eqv d1 d2)) s2 := ev_cmpR (op_neD hu) (rd_neD p1.1 p2.1 p1.2 p2.2) ha hb (nomark _)
theorem et_eq (hu : X.A.units + 64 < cLine) (p1 : Pl d1) (p2 : Pl d2) (ha : EV X z a es s d1 s1) (hb : EV X z b es s1 d2 s2) : ET X z (.Compare a [.Eq] [b] pos) es s (PyData.eqv d1 d2) s2 := et_cmpR (op_eqD hu) (rd_eqD p1.1 p2.1 p1.2 p2.2) ha hb (nomark _)
theorem et_ne (hu : X.A.units + 64 < cLine) (p1 : Pl d1) (p2 : Pl d2) (ha : EV X z a es s d1 s1) (hb : EV X z b es s1 d2 s2) : ET X z (.Compare a [.NotEq] [b] pos) es s (!PyData.eqv d1 d2) s2 := et_cmpR (op_neD hu) (rd_neD p1.1 p2.1 p1.2 p2.2) ha hb (nomark _)
end

/-! ### 3. argument lists, displays, calls -/
def ED (X : Cx) (z : Z) (xs : List Expr) (es : List Sl) (s : S) (ds : List PyData) (s' : S) : Prop := ∀ σ H, En z H σ es → At z H s → ∀ Q : List V → Hp → Prop, (∀ vs H2, Ez z H H2 → At z H2 s' → DaAll z H2 vs ds → Q vs H2) → wA X xs σ H Q
section
variable {X : Cx} {z : Z} {es : List Sl} {s s1 s2 s' : S} {a b c e : Expr} {xs : List Expr} {pos p : Pos} {d d1 d2 : PyData} {ds fs : List PyData} {as : List Sl}
theorem ed_nil : ED X z [] es s [] s := fun σ H en at_ Q q => ⟨tNil, pa_nil, q [] H (.refl H) at_ .nil⟩
theorem ed_cons (ha : EV X z a es s d s1) (hr : ED X z xs es s1 ds s2) (hs : starEach (a :: xs) X.env = (false, eval a X.env) :: starEach xs X.env := by rfl) : ED X z (a :: xs) es s (d :: ds) s2 := fun σ H en at_ Q q =>
  ⟨_, pa_cons wE_ok wA_ok hs, ha σ H en at_ _ fun v H1 e1 a1 v1 => hr σ H1 (en.mono e1) a1 _ fun vs H2 e2 a2 v2 => q (v :: vs) H2 (e1.trans e2) a2 (.cons (v1.mono e2) v2)⟩
theorem ea_nil : EA X z [] es s [] s := fun σ H en at_ Q q => ⟨tNil, pa_nil, q [] H (.refl H) at_ .nil⟩
theorem ea_cons (ha : EV X z a es s d s1) (hr : EA X z xs es s1 as s2) (hs : starEach (a :: xs) X.env = (false, eval a X.env) :: starEach xs X.env := by rfl) : EA X z (a :: xs) es s (.val d :: as) s2 := fun σ H en at_ Q q =>
  ⟨_, pa_cons wE_ok wA_ok hs, ha σ H en at_ _ fun v H1 e1 a1 v1 => hr σ H1 (en.mono e1) a1 _ fun vs H2 e2 a2 v2 => q (v :: vs) H2 (e1.trans e2) a2 (.cons (.val (v1.mono e2)) v2)⟩
/-- the state's list handed on -/
theorem ea_dice (i : Nat) {x : Str} (hr : EA X z xs es s as s2) (h : es[i]? = some .dice := by rfl) (hN : X.N[i]? = some x := by rfl) (hv : Vis X.env.scope x := by first | exact Or.inl rfl | exact Or.inr (Or.inl rfl) | exact Or.inr (Or.inr rfl))
    (hs : starEach ((.Name x pos) :: xs) X.env = (false, eval (.Name x pos) X.env) :: starEach xs X.env := by rfl) (hd : (x == ("__debug__" : Str)) = false := by decide) (hcd : (x == ("__classdict__" : Str)) = false := by decide) : EA X z (.Name x pos :: xs) es s (.dice :: as) s2 := fun σ H en at_ Q q => by
  obtain ⟨a, e1, e2⟩ := en.getD h
  exact ⟨_, pa_cons (pe_var hN hv hd hcd) wA_ok hs, .ref a, e1, hr σ H en at_ _ fun vs H2 k2 a2 v2 => q (.ref a :: vs) H2 k2 a2 (.cons (.dice e2) v2)⟩
theorem ev_tup {k : Nat} (h : ED X z xs es s ds s') (hl : ds.length ≤ 100000 := by exact Nat.le_of_ble_eq_true rfl) : EV X z (.Tuple xs k pos) es s (.tuple ds) s' := .mk (pe_tup wA_ok) fun σ H en at_ Q q =>
  h σ H en at_ _ fun vs H1 e1 a1 v1 => ⟨by rw [v1.length]; exact Nat.le_trans hl (by decide), fun p hp => q _ _ (e1.trans (.new hp)) (a1.new hp) (.tup (a1.fresh hp) upd_same (v1.mono (.new hp)))⟩
theorem ev_lst (h : ED X z xs es s ds s') (hl : ds.length ≤ 100000 := by exact Nat.le_of_ble_eq_true rfl) : EV X z (.List xs pos) es s (.list ds) s' := .mk (pe_lst wA_ok) fun σ H en at_ Q q =>
  h σ H en at_ _ fun vs H1 e1 a1 v1 => ⟨by rw [v1.length]; exact Nat.le_trans hl (by decide), fun p hp => q _ _ (e1.trans (.new hp)) (a1.new hp) (.lst (a1.fresh hp) upd_same (v1.mono (.new hp)))⟩
theorem ev_emptyDict : EV X z (.Dict [] [] pos) es s (.dict []) s := .mk pe_dnewK fun σ H en at_ Q q => fun p hp => q _ _ (.new hp) (at_.new hp) (.dct (at_.fresh hp) upd_same)
/-- a def of the text by what it does to data: from the arguments and the state ahead to the result and the state behind -/
abbrev Rel := List Sl → S → PyData → S → Prop
def spD (R : Rel) : Sp := fun vs H Q _ => ∃ z as s d s', R as s d s' ∧ En z H (vs.map some) as ∧ At z H s ∧ ∀ v H', Ez z H H' → At z H' s' → Da z H' v d → Q v H'
/-- the name x stands for such a def -/
def Dn (P : Program) (w : World) (K : PySem.W.Frag) (mg : Str → Option Value) (base : Heap) (k : Nat) (x : Str) (R : Rel) : Prop :=
  ∃ f fd ps, FnOk P w K mg base CX0 k f fd ps (spD R) ∧ mg x = some (.ref f) ∧ PySem.W.keepIn K (.ref f) = true ∧ Binds K fd ps []
theorem ev_call {k : Nat} {x : Str} {R : Rel} (G : Dn X.prog X.w X.K X.mg X.base k x R) (hr : Room k X.A) (ha : EA X z (e :: xs) es s as s1) (hR : R as s1 d s') (hg : Gl X x := by rfl) (hdb : (x == ("__debug__" : Str)) = false := by decide)
    (he : starEach (e :: xs) X.env = (false, eval e X.env) :: starEach xs X.env := by rfl) (hpl : (backTo pos (starEach xs X.env)).any (·.1) = false := by rfl) : EV X z (.Call (.Name x p) (e :: xs) [] pos) es s d s' := by
  obtain ⟨f, fd, ps, F, hm, hk, hb⟩ := G
  refine .mk (pe_call F hr hg hm hk hb .nil pass0 wA_ok hdb he hpl) fun σ H en at_ Q q => ?_
  refine ha σ H en at_ _ fun vs H1 e1 a1 v1 => ?_
  rw [List.append_nil]
  exact ⟨z, as, s1, d, s', hR, v1, a1, fun v H' e2 a2 v2 => q v H' (e1.trans e2) a2 v2⟩
/-- what a built-in's call does to data -/
def RB (z : Z) (s : S) (r : List V → Hp → VK → Prop) (ds : List PyData) (d : PyData) : Prop := ∀ vs H, At z H s → DaAll z H vs ds → ∀ Q : VK, (∀ v H2, Ez z H H2 → At z H2 s → Da z H2 v d → Q v H2) → r vs H Q
theorem ev_bltn {id : String} {x : Str} {r : List V → Hp → VK → Prop} (hc : CallR X (.builtin id) r) (hr : RB z s1 r ds d) (hm : X.mg x = none) (ha : ED X z (e :: xs) es s ds s1) (hv : bootBuiltins x = some (.builtin id) := by decide +kernel) (hg : Gl X x := by rfl)
    (hn : x ≠ "__name__" := by decide) (hdb : (x == ("__debug__" : Str)) = false := by decide) (he : starEach (e :: xs) X.env = (false, eval e X.env) :: starEach xs X.env := by rfl) (hpl : (backTo pos (starEach xs X.env)).any (·.1) = false := by rfl) : EV X z (.Call (.Name x p) (e :: xs) [] pos) es s d s1 :=
  .mk (pe_callB hc hg hm hv wA_ok hn hdb he hpl) fun σ H en at_ Q q => ha σ H en at_ _ fun vs H1 e1 a1 v1 => hr vs H1 a1 v1 Q fun v H2 e2 a2 v2 => q v H2 (e1.trans e2) a2 v2
theorem ev_bty {T : String} {x : Str} {r : List V → Hp → VK → Prop} (hc : CallR X (.type T) r) (hr : RB z s1 r ds d) (hm : X.mg x = none) (ha : ED X z (e :: xs) es s ds s1) (hv : bootBuiltins x = some (.type T) := by decide +kernel) (hg : Gl X x := by rfl)
    (hn : x ≠ "__name__" := by decide) (hdb : (x == ("__debug__" : Str)) = false := by decide) (he : starEach (e :: xs) X.env = (false, eval e X.env) :: starEach xs X.env := by rfl) (hpl : (backTo pos (starEach xs X.env)).any (·.1) = false := by rfl) : EV X z (.Call (.Name x p) (e :: xs) [] pos) es s d s1 :=
  .mk (pe_callTy hc hg hm hv wA_ok hn hdb he hpl) fun σ H en at_ Q q => ha σ H en at_ _ fun vs H1 e1 a1 v1 => hr vs H1 a1 v1 Q fun v H2 e2 a2 v2 => q v H2 (e1.trans e2) a2 v2
/-- a module's name for a built-in function (math.gcd ..) -/
theorem ev_bfun {id : String} {x : Str} {r : List V → Hp → VK → Prop} (hc : CallR X (.builtin id) r) (hr : RB z s1 r ds d) (hm : X.mg x = some (.builtin id)) (ha : ED X z (e :: xs) es s ds s1) (hg : Gl X x := by rfl)
    (hdb : (x == ("__debug__" : Str)) = false := by decide) (he : starEach (e :: xs) X.env = (false, eval e X.env) :: starEach xs X.env := by rfl) (hpl : (backTo pos (starEach xs X.env)).any (·.1) = false := by rfl) : EV X z (.Call (.Name x p) (e :: xs) [] pos) es s d s1 :=
  .mk (pe_callBfun hc hg hm wA_ok hdb he hpl) fun σ H en at_ Q q => ha σ H en at_ _ fun vs H1 e1 a1 v1 => hr vs H1 a1 v1 Q fun v H2 e2 a2 v2 => q v H2 (e1.trans e2) a2 v2
theorem rb_len : RB z s (fun xs H Q => ∃ x n, xs = [x] ∧ LenV X.K x H n ∧ Q (.int n) H) [.list ds] (.int ds.length) := fun vs H at_ h Q q => by
  cases h with
  | cons h r =>
    cases r
    cases h with
    | lst n e r =>
      refine ⟨_, ds.length, rfl, .inl ⟨_, .inl (.inl e), r.length.symm⟩, q _ H (.refl H) at_ (.int _)⟩
theorem rb_lenT : RB z s (fun xs H Q => ∃ x n, xs = [x] ∧ LenV X.K x H n ∧ Q (.int n) H) [.tuple ds] (.int ds.length) := fun vs H at_ h Q q => by
  cases h with
  | cons h r =>
    cases r
    cases h with
    | tup n e r =>
      refine ⟨_, ds.length, rfl, .inr ⟨_, .inl (.inl e), r.length.symm⟩, q _ H (.refl H) at_ (.int _)⟩
theorem rb_lenS {x : Str} (hl : x.length ≤ sizeLine) : RB z s (fun xs H Q => ∃ x n, xs = [x] ∧ LenV X.K x H n ∧ Q (.int n) H) [.str x] (.int x.length) := fun vs H at_ h Q q => by
  cases h with
  | cons h r =>
    cases r
    cases h
    exact ⟨_, x.length, rfl, ⟨hl, rfl⟩, q _ H (.refl H) at_ (.int _)⟩
theorem rb_int {i : Int} : RB z s (fun xs H Q => (∃ i, xs = [.int i] ∧ Q (.int i) H) ∨ ∃ k, xs = [.bl k] ∧ Q (.int (if k then 1 else 0)) H) [.int i] (.int i) := fun vs H at_ h Q q => by
  cases h with
  | cons h r =>
    cases r
    cases h
    exact .inl ⟨_, rfl, q _ H (.refl H) at_ (.int _)⟩
theorem rb_intB {k : Bool} : RB z s (fun xs H Q => (∃ i, xs = [.int i] ∧ Q (.int i) H) ∨ ∃ k, xs = [.bl k] ∧ Q (.int (if k then 1 else 0)) H) [.bool k] (.int (if k then 1 else 0)) := fun vs H at_ h Q q => by
  cases h with
  | cons h r =>
    cases r
    cases h
    exact .inr ⟨_, rfl, q _ H (.refl H) at_ (.int _)⟩
theorem rb_abs {i : Int} : RB z s (fun xs H Q => ∃ i, xs = [.int i] ∧ Q (.int (if i < 0 then -i else i)) H) [.int i] (.int i.natAbs) := fun vs H at_ h Q q => by
  cases h with
  | cons h r =>
    cases r
    cases h
    refine ⟨_, rfl, ?_⟩
    have e : (if i < 0 then -i else i) = (i.natAbs : Int) := by
      by_cases h : i < 0
      · rw [if_pos h]; omega
      · rw [if_neg h]; omega
    rw [e]
    exact q _ H (.refl H) at_ (.int _)
theorem rb_gcd {i j : Int} : RB z s rGcd [.int i, .int j] (.int (Nat.gcd i.natAbs j.natAbs : Nat)) := fun vs H at_ h Q q => by
  cases h with
  | cons h r =>
    cases h
    cases r with
    | cons h r =>
      cases h
      cases r
      exact ⟨i, j, rfl, q _ H (.refl H) at_ (.int _)⟩
/-- the class of a datum -/
def tyD : PyData → String
  | .none => "NoneType"
  | .bool _ => "bool"
  | .int _ => "int"
  | .str _ => "str"
  | .list _ => "list"
  | .tuple _ => "tuple"
  | .dict _ => "dict"
theorem Da.ty {K : PySem.W.Frag} {H : Hp} {v : V} {d : PyData} (h : Da z H v d) : TyX K H v (.type (tyD d)) := by
  cases h with
  | non => exact .base .non
  | bl b => exact .base (.bl b)
  | int i => exact .base (.int i)
  | str x => exact .base (.str x)
  | dct n e => exact .base (.dK e)
  | lst n e r => exact .base (.lst e)
  | tup n e r => exact .base (.tup e)
theorem pe_ty {x : Str} {T : String} (hm : X.mg x = none) (hv : bootBuiltins x = some (.type T) := by decide +kernel) (hg : Gl X x := by rfl) (hn : x ≠ "__name__" := by decide) (hd : (x == ("__debug__" : Str)) = false := by decide) : PE X (.Name x pos) (tC (.ty T)) :=
  ⟨fun pins s σ H Q I h => ld_blt I hg hm hv ⟨.ty T, H, I, rfl, h⟩ hn hd⟩
theorem ev_isi {x y : Str} {T : String} {k : Bool} (hm : X.mg x = none) (hm2 : X.mg y = none) (he : EV X z e es s d s1) (hk : kitB (tyD d) T = some k) (hx : x = "isinstance" := by rfl) (hv : bootBuiltins x = some (.builtin "isinstance") := by decide +kernel) (hg : Gl X x := by rfl) (hvy : bootBuiltins y = some (.type T) := by decide +kernel) (hgy : Gl X y := by rfl)
    (hn : x ≠ "__name__" := by decide) (hdb : (x == ("__debug__" : Str)) = false := by decide) (hny : y ≠ "__name__" := by decide) (hdy : (y == ("__debug__" : Str)) = false := by decide) (hs : starEach [e, .Name y p] X.env = (false, eval e X.env) :: starEach [.Name y p] X.env := by rfl) (hs2 : starEach [.Name y p] X.env = (false, eval (.Name y p) X.env) :: starEach [] X.env := by rfl) (hpl : (backTo pos (starEach [.Name y p] X.env)).any (·.1) = false := by rfl) {p0 : Pos} :
    EV X z (.Call (.Name x p0) [e, .Name y p] [] pos) es s (.bool k) s1 :=
  .mk (pe_callB call_isi hg hm hv (pa_cons wE_ok (pa_cons (pe_ty hm2 hvy hgy hny hdy) pa_nil hs2) hs) hn hdb hs hpl) fun σ H en at_ Q q => he σ H en at_ _ fun v H1 e1 a1 v1 =>
    ⟨v, .ty T, .type (tyD d), .type T, k, rfl, .ty T, v1.ty, kit_ty hk, q _ H1 e1 a1 (.bl k)⟩
theorem atI_rel {H : Hp} {vs : List V} {i : Int} (h : DaAll z H vs ds) (e : atI ds i = some d) : ∃ v, atI vs i = some v ∧ Da z H v d := by
  unfold atI at e ⊢
  rw [h.length]
  cases hj : ixN ds.length i with
  | none =>
    rw [hj] at e
    cases e
  | some j =>
    rw [hj] at e
    exact h.get j d e
theorem ev_ixL {i : Int} (ha : EV X z a es s (.list ds) s1) (hb : EV X z b es s1 (.int i) s2) (h : atI ds i = some d) (hs : PlainIx b := by intro _ _; rfl) : EV X z (.Subscript a b pos) es s d s2 :=
  .mk (pe_ix ix_list wE_ok wE_ok hs) fun σ H en at_ Q q => ha σ H en at_ _ fun v H1 e1 a1 v1 => hb σ H1 (en.mono e1) a1 _ fun u H2 e2 a2 v2 => by
    cases v2
    cases v1 with
    | lst n e r =>
      obtain ⟨v, k1, k2⟩ := atI_rel (r.mono e2) h
      exact ⟨_, _, i, v, rfl, rfl, .inl (.inl (e2 _ _ n e)), k1, q _ H2 (e1.trans e2) a2 k2⟩
theorem ev_ixT {i : Int} (ha : EV X z a es s (.tuple ds) s1) (hb : EV X z b es s1 (.int i) s2) (h : atI ds i = some d) (hs : PlainIx b := by intro _ _; rfl) : EV X z (.Subscript a b pos) es s d s2 :=
  .mk (pe_ix ix_tup wE_ok wE_ok hs) fun σ H en at_ Q q => ha σ H en at_ _ fun v H1 e1 a1 v1 => hb σ H1 (en.mono e1) a1 _ fun u H2 e2 a2 v2 => by
    cases v2
    cases v1 with
    | tup n e r =>
      obtain ⟨v, k1, k2⟩ := atI_rel (r.mono e2) h
      exact ⟨_, _, i, v, rfl, rfl, .inl (.inl (e2 _ _ n e)), k1, q _ H2 (e1.trans e2) a2 k2⟩

/-! ### conditions -/
theorem ev_ifT (hc : ET X z c es s true s1) (ha : EV X z a es s1 d s2) : EV X z (.IfExp c a b pos) es s d s2 := .mk (pe_ifExp wT_ok wE_ok wE_ok) fun σ H en at_ Q q =>
  hc σ H en at_ _ fun H1 e1 a1 => iteT (ha σ H1 (en.mono e1) a1 _ fun v H2 e2 a2 v2 => q v H2 (e1.trans e2) a2 v2)
theorem ev_ifF (hc : ET X z c es s false s1) (hb : EV X z b es s1 d s2) : EV X z (.IfExp c a b pos) es s d s2 := .mk (pe_ifExp wT_ok wE_ok wE_ok) fun σ H en at_ Q q =>
  hc σ H en at_ _ fun H1 e1 a1 => iteF (hb σ H1 (en.mono e1) a1 _ fun v H2 e2 a2 v2 => q v H2 (e1.trans e2) a2 v2)
theorem ev_andT (ha : EV X z a es s (.bool true) s1) (hb : EV X z (.BoolOp .And (b :: xs) pos) es s1 d s2) : EV X z (.BoolOp .And (a :: b :: xs) pos) es s d s2 := .mk (pe_and wE_ok wE_ok) fun σ H en at_ Q q =>
  ha σ H en at_ _ fun v H1 e1 a1 v1 => by
    cases v1
    exact ⟨true, rfl, iteT (hb σ H1 (en.mono e1) a1 _ fun v H2 e2 a2 v2 => q v H2 (e1.trans e2) a2 v2)⟩
theorem ev_andF (ha : EV X z a es s (.bool false) s1) : EV X z (.BoolOp .And (a :: b :: xs) pos) es s (.bool false) s1 := .mk (pe_and wE_ok wE_ok) fun σ H en at_ Q q =>
  ha σ H en at_ _ fun v H1 e1 a1 v1 => by
    cases v1
    exact ⟨false, rfl, iteF (q _ H1 e1 a1 (.bl false))⟩
theorem ev_orT (ha : EV X z a es s (.bool true) s1) : EV X z (.BoolOp .Or (a :: b :: xs) pos) es s (.bool true) s1 := .mk (pe_or wE_ok wE_ok) fun σ H en at_ Q q =>
  ha σ H en at_ _ fun v H1 e1 a1 v1 => by
    cases v1
    exact ⟨true, rfl, iteT (q _ H1 e1 a1 (.bl true))⟩
theorem ev_orF (ha : EV X z a es s (.bool false) s1) (hb : EV X z (.BoolOp .Or (b :: xs) pos) es s1 d s2) : EV X z (.BoolOp .Or (a :: b :: xs) pos) es s d s2 := .mk (pe_or wE_ok wE_ok) fun σ H en at_ Q q =>
  ha σ H en at_ _ fun v H1 e1 a1 v1 => by
    cases v1
    exact ⟨false, rfl, iteF (hb σ H1 (en.mono e1) a1 _ fun v H2 e2 a2 v2 => q v H2 (e1.trans e2) a2 v2)⟩
theorem ev_b1 {op : PySem.BoolOp} (ha : EV X z a es s d s1) : EV X z (.BoolOp op [a] pos) es s d s1 := .mk (pe_one wE_ok) fun σ H en at_ Q q => ha σ H en at_ Q q
theorem ev_and {k1 k2 : Bool} (ha : EV X z a es s (.bool k1) s) (hb : k1 = true → EV X z (.BoolOp .And (b :: xs) pos) es s (.bool k2) s) : EV X z (.BoolOp .And (a :: b :: xs) pos) es s (.bool (k1 && k2)) s := by
  cases k1 with
  | true => exact ev_andT ha (hb rfl)
  | false => exact ev_andF ha
theorem ev_or {k1 k2 : Bool} (ha : EV X z a es s (.bool k1) s) (hb : k1 = false → EV X z (.BoolOp .Or (b :: xs) pos) es s (.bool k2) s) : EV X z (.BoolOp .Or (a :: b :: xs) pos) es s (.bool (k1 || k2)) s := by
  cases k1 with
  | true => exact ev_orT ha
  | false => exact ev_orF ha (hb rfl)
theorem ev_not {k : Bool} (ha : EV X z a es s (.bool k) s1) : EV X z (.UnaryOp .Not a pos) es s (.bool (!k)) s1 := .mk (pe_not wE_ok) fun σ H en at_ Q q =>
  ha σ H en at_ _ fun v H1 e1 a1 v1 => by
    cases v1
    exact ⟨k, rfl, q _ H1 e1 a1 (.bl _)⟩
theorem et_val {k : Bool} (h : EV X z e es s (.bool k) s1) (he : ∀ whole, isTrue e X.env whole = (do let v ← whole; standAt e.pos; holding [v] (truthy v)) := by intro _; rfl) : ET X z e es s k s1 := fun σ H en at_ Q q =>
  ⟨_, pt_val wE_ok he, h σ H en at_ _ fun v H1 e1 a1 v1 => by
    cases v1
    exact ⟨k, rfl, q H1 e1 a1⟩⟩
theorem et_not {k : Bool} (h : ET X z a es s k s1) : ET X z (.UnaryOp .Not a pos) es s (!k) s1 := fun σ H en at_ Q q => ⟨_, pt_not wT_ok, h σ H en at_ _ fun H1 e1 a1 => q H1 e1 a1⟩
def wW (X : Cx) (e : Expr) : TT := fun σ H Q => ∃ t, PW X e t ∧ t σ H Q
theorem wW_ok : PW X e (wW X e) := ⟨fun whole pins s σ H Q I ⟨_, h, q⟩ => h.run whole pins s σ H Q I q⟩
def EW (X : Cx) (z : Z) (e : Expr) (es : List Sl) (s : S) (b : Bool) (s' : S) : Prop := ∀ σ H, En z H σ es → At z H s → ∀ Q : Bool → Hp → Prop, (∀ H2, Ez z H H2 → At z H2 s' → Q b H2) → wW X e σ H Q
theorem et_w {k : Bool} (h : EW X z e es s k s1) : ET X z e es s k s1 := fun σ H en at_ Q q => ⟨_, PW.pt wW_ok, h σ H en at_ Q q⟩
theorem ew_andT {k : Bool} (ha : ET X z a es s true s1) (hb : EW X z (.BoolOp .And (b :: xs) pos) es s1 k s2) : EW X z (.BoolOp .And (a :: b :: xs) pos) es s k s2 := fun σ H en at_ Q q => ⟨_, pw_and wT_ok wW_ok,
  ha σ H en at_ _ fun H1 e1 a1 => iteT (hb σ H1 (en.mono e1) a1 _ fun H2 e2 a2 => q H2 (e1.trans e2) a2)⟩
theorem ew_andF (ha : ET X z a es s false s1) : EW X z (.BoolOp .And (a :: b :: xs) pos) es s false s1 := fun σ H en at_ Q q => ⟨_, pw_and wT_ok wW_ok, ha σ H en at_ _ fun H1 e1 a1 => iteF (q H1 e1 a1)⟩
theorem ew_orF {k : Bool} (ha : ET X z a es s false s1) (hb : EW X z (.BoolOp .Or (b :: xs) pos) es s1 k s2) : EW X z (.BoolOp .Or (a :: b :: xs) pos) es s k s2 := fun σ H en at_ Q q => ⟨_, pw_or wT_ok wW_ok,
  ha σ H en at_ _ fun H1 e1 a1 => iteF (hb σ H1 (en.mono e1) a1 _ fun H2 e2 a2 => q H2 (e1.trans e2) a2)⟩
theorem ew_orT (ha : ET X z a es s true s1) : EW X z (.BoolOp .Or (a :: b :: xs) pos) es s true s1 := fun σ H en at_ Q q => ⟨_, pw_or wT_ok wW_ok, ha σ H en at_ _ fun H1 e1 a1 => iteT (q H1 e1 a1)⟩
theorem ew_and1 {k : Bool} (ha : ET X z a es s k s1) : EW X z (.BoolOp .And [a] pos) es s k s1 := fun σ H en at_ Q q => ⟨_, pw_and1 wT_ok, ha σ H en at_ Q q⟩
theorem ew_or1 {k : Bool} (ha : ET X z a es s k s1) : EW X z (.BoolOp .Or [a] pos) es s k s1 := fun σ H en at_ Q q => ⟨_, pw_or1 wT_ok, ha σ H en at_ Q q⟩
theorem ew_and {k1 k2 : Bool} (ha : ET X z a es s k1 s) (hb : k1 = true → EW X z (.BoolOp .And (b :: xs) pos) es s k2 s) : EW X z (.BoolOp .And (a :: b :: xs) pos) es s (k1 && k2) s := by
  cases k1 with
  | true => exact ew_andT ha (hb rfl)
  | false => exact ew_andF ha
theorem ew_or {k1 k2 : Bool} (ha : ET X z a es s k1 s) (hb : k1 = false → EW X z (.BoolOp .Or (b :: xs) pos) es s k2 s) : EW X z (.BoolOp .Or (a :: b :: xs) pos) es s (k1 || k2) s := by
  cases k1 with
  | true => exact ew_orT ha
  | false => exact ew_orF ha (hb rfl)
theorem et_chain {i j l : Int} {s3 : S} (ha : EV X z a es s (.int i) s1) (hb : EV X z b es s1 (.int j) s2) (hc : EV X z c es s2 (.int l) s2) (hm : lastMarks [.LtE, .LtE] [b, c] = false := by with_unfolding_all rfl) : EV X z (.Compare a [.LtE, .LtE] [b, c] pos) es s (.bool (decide (i ≤ j) && decide (j ≤ l))) s2 :=
  .mk (pe_chain op_le op_le wE_ok wE_ok wE_ok hm) fun σ H en at_ Q q => ha σ H en at_ _ fun x H1 e1 a1 x1 => hb σ H1 (en.mono e1) a1 _ fun y H2 e2 a2 y2 => by
    cases x1
    cases y2
    refine ⟨i, j, rfl, rfl, decide (i ≤ j), rfl, ?_⟩
    cases hk : decide (i ≤ j) with
    | true =>
      refine iteT (hc σ H2 (en.mono (e1.trans e2)) a2 _ fun w H3 e3 a3 w3 => ?_)
      cases w3
      exact ⟨j, l, rfl, rfl, by rw [hk] at q; exact q _ H3 ((e1.trans e2).trans e3) a3 (.bl _)⟩
    | false => exact iteF (by rw [hk] at q; exact q _ H2 (e1.trans e2) a2 (.bl _))
theorem et_chainLt {i j l : Int} (ha : EV X z a es s (.int i) s1) (hb : EV X z b es s1 (.int j) s2) (hc : EV X z c es s2 (.int l) s2) (hm : lastMarks [.Lt, .Lt] [b, c] = false := by with_unfolding_all rfl) : EV X z (.Compare a [.Lt, .Lt] [b, c] pos) es s (.bool (decide (i < j) && decide (j < l))) s2 :=
  .mk (pe_chain op_lt op_lt wE_ok wE_ok wE_ok hm) fun σ H en at_ Q q => ha σ H en at_ _ fun x H1 e1 a1 x1 => hb σ H1 (en.mono e1) a1 _ fun y H2 e2 a2 y2 => by
    cases x1
    cases y2
    refine ⟨i, j, rfl, rfl, decide (i < j), rfl, ?_⟩
    cases hk : decide (i < j) with
    | true =>
      refine iteT (hc σ H2 (en.mono (e1.trans e2)) a2 _ fun w H3 e3 a3 w3 => ?_)
      cases w3
      exact ⟨j, l, rfl, rfl, by rw [hk] at q; exact q _ H3 ((e1.trans e2).trans e3) a3 (.bl _)⟩
    | false => exact iteF (by rw [hk] at q; exact q _ H2 (e1.trans e2) a2 (.bl _))
end

/-! ### 4. statements -/
inductive Out | nx (es : List Sl) (s : S) | rt (d : PyData) (s : S) | ex (W : L2.WX) (es : List Sl) (x : XD) (s : S)
def Meets (z : Z) (H : Hp) (D : Ends) : Out → Prop
  | .nx es s => ∀ σ' H', Ez z H H' → At z H' s → En z H' σ' es → D.nx σ' H'
  | .rt d s => ∀ v H', Ez z H H' → At z H' s → Da z H' v d → D.rt v H'
  | .ex W es x s => ∀ cls dx σ' H', Ez z H H' → At z H' s → En z H' σ' es → XR z H' cls dx x → W cls dx σ' H'
theorem Meets.mono {z : Z} {H H1 : Hp} {D : Ends} (e : Ez z H H1) : ∀ {o : Out}, Meets z H D o → Meets z H1 D o
  | .nx es s, h => fun σ' H' k a n => h σ' H' (e.trans k) a n
  | .rt d s, h => fun v H' k a n => h v H' (e.trans k) a n
  | .ex W es x s, h => fun cls dx σ' H' k a n r => h cls dx σ' H' (e.trans k) a n r
/-- a block: from what the slots hold and the state ahead to how it ends -/
def SR (X : Cx) (z : Z) (st : List Stmt) (es : List Sl) (s : S) (o : Out) : Prop := ∀ σ H, En z H σ es → At z H s → ∀ D : Ends, Meets z H D o → wB X st D σ H
section
variable {X : Cx} {z : Z} {es es1 es2 fs : List Sl} {s s1 s2 s' : S} {a b c e : Expr} {xs : List Expr} {pos p p1 p2 p3 p4 : Pos} {d d1 d2 : PyData} {ds : List PyData} {as : List Sl} {o : Out} {st : Stmt} {rest body els : List Stmt}
theorem sr_nil : SR X z [] es s (.nx es s) := fun σ H en at_ D q => ⟨_, pss_nil, q σ H (.refl H) at_ en⟩
theorem sr_le (h : SR X z body es s (.nx es1 s1)) (l : Le es1 es2) : SR X z body es s (.nx es2 s1) := fun σ H en at_ D q => h σ H en at_ D fun σ' H' k a n => q σ' H' k a (n.le l)
theorem sr_pre (l : Le es fs) (h : SR X z body fs s o) : SR X z body es s o := fun σ H en at_ D q => h σ H (en.le l) at_ D q
theorem sr_is {o' : Out} (h : SR X z body es s o) (q : o = o') : SR X z body es s o' := q ▸ h
theorem sr_ret (h : EV X z e es s d s1) : SR X z (.Return (some e) pos :: rest) es s (.rt d s1) := fun σ H en at_ D q =>
  ⟨_, pss_cons (ps_ret wE_ok) wB_never, h σ H en at_ _ fun v H1 e1 a1 v1 => q v H1 e1 a1 v1⟩
theorem sr_retN : SR X z (.Return none pos :: rest) es s (.rt .none s) := fun σ H en at_ D q =>
  ⟨_, pss_cons ps_retN wB_never, q _ H (.refl H) at_ .non⟩
theorem sr_asg (i : Nat) {x : Str} (hN : X.N.Nodup) (h : EV X z e es s d s1) (k : SR X z rest (es.set i (.val d)) s1 o) (hi : X.N[i]? = some x := by rfl) (hx : Loc X.env.scope x := by first | exact Or.inl rfl | exact Or.inr rfl)
    (hs : swapsWith e (some (.Name x p)) pos.line X.env = pure false := by rfl) (hf : X.fn x = true ∨ X.env.scope.names.lookup x = some .local := by first | exact .inl rfl | exact .inr rfl) : SR X z (.Assign [.Name x p] e pos :: rest) es s o := fun σ H en at_ D q =>
  ⟨_, pss_cons (ps_set hN hi hx wE_ok hs hf) wB_ok, h σ H en at_ _ fun v H1 e1 a1 v1 => k _ H1 ((en.mono e1).set i (.val v1)) a1 D (q.mono e1)⟩
theorem sr_expr (h : EV X z e es s d s1) (k : SR X z rest es s1 o) (hs : swapsWith e none pos.line X.env = pure false := by rfl) : SR X z (.Expr e pos :: rest) es s o := fun σ H en at_ D q =>
  ⟨_, pss_cons (ps_expr wE_ok hs) wB_ok, h σ H en at_ _ fun v H1 e1 a1 v1 => k _ H1 (en.mono e1) a1 D (q.mono e1)⟩
/-- x, y = e1, e2 -/
theorem sr_par (i j : Nat) {x y : Str} {kt k2 : Nat} (hc : X.calm = true) (hN : X.N.Nodup) (h : ED X z [a, b] es s [d1, d2] s1) (k : SR X z rest ((es.set i (.val d1)).set j (.val d2)) s1 o)
    (hi : X.N[i]? = some x := by rfl) (hj : X.N[j]? = some y := by rfl) (hij : i ≠ j := by decide) (hx : X.env.scope.names.lookup x = some .local := by rfl) (hy : X.env.scope.names.lookup y = some .local := by rfl)
    (hw : swappedStores [.Tuple [.Name x p1, .Name y p2] kt p3] (.Tuple [a, b] k2 p4) X.env = pure (some [x, y]) := by rfl) (hs : swapsWithSole [.Tuple [.Name x p1, .Name y p2] kt p3] (.Tuple [a, b] k2 p4) pos.line X.env = pure false := by rfl) :
    SR X z (.Assign [.Tuple [.Name x p1, .Name y p2] kt p3] (.Tuple [a, b] k2 p4) pos :: rest) es s o := fun σ H en at_ D q =>
  ⟨_, pss_cons (ps_par hc hN hi hj hij hx hy wA_ok hw hs) wB_ok, h σ H en at_ _ fun vs H1 e1 a1 v1 => by
    cases v1 with
    | cons h1 r =>
      cases r with
      | cons h2 r =>
        cases r
        exact ⟨_, _, rfl, k _ H1 (((en.mono e1).set i (.val h1)).set j (.val h2)) a1 D (q.mono e1)⟩⟩
/-- x, y = e, e a tuple -/
theorem sr_unp2 (i j : Nat) {x y : Str} {kt : Nat} (hc : X.calm = true) (hN : X.N.Nodup) (h : EV X z e es s (.tuple [d1, d2]) s1) (k : SR X z rest ((es.set i (.val d1)).set j (.val d2)) s1 o)
    (hi : X.N[i]? = some x := by rfl) (hj : X.N[j]? = some y := by rfl) (hx : Loc X.env.scope x := by first | exact Or.inl rfl | exact Or.inr rfl) (hy : Loc X.env.scope y := by first | exact Or.inl rfl | exact Or.inr rfl)
    (fx : X.fn x = true ∨ X.env.scope.names.lookup x = some .local := by first | exact .inl rfl | exact .inr rfl) (fy : X.fn y = true ∨ X.env.scope.names.lookup y = some .local := by first | exact .inl rfl | exact .inr rfl)
    (hs : swapsWithSole [.Tuple [.Name x p1, .Name y p2] kt p3] e pos.line X.env = pure false := by rfl) (hw : swappedStores [.Tuple [.Name x p1, .Name y p2] kt p3] e X.env = pure none := by rfl) 
    (hn : (assignEach [.Name x p1, .Name y p2] X.env).length = 2 := by rfl) (hst : (assignEach [.Name x p1, .Name y p2] X.env).findIdx? (·.1) = none := by rfl)
    (h1 : (assignEach (.Name x p1 :: [.Name y p2]) X.env).map (·.2) = assign (.Name x p1) X.env :: (assignEach [.Name y p2] X.env).map (·.2) := by rfl) (h2 : (assignEach (.Name y p2 :: []) X.env).map (·.2) = assign (.Name y p2) X.env :: (assignEach [] X.env).map (·.2) := by rfl) :
    SR X z (.Assign [.Tuple [.Name x p1, .Name y p2] kt p3] e pos :: rest) es s o := fun σ H en at_ D q =>
  ⟨_, pss_cons (ps_asg wE_ok (pg_tup hc (pgs_cons (pg_name hN hi hx fx) (pgs_cons (pg_name hN hj hy fy) pgs_nil h2) h1) hn hst) hs hw) wB_ok, h σ H en at_ _ fun v H1 e1 a1 v1 => by
    cases v1 with
    | tup n e r =>
      cases r with
      | cons v1 r =>
        cases r with
        | cons v2 r =>
          cases r
          exact ⟨_, _, rfl, .inl (.inl e), rfl, _, _, rfl, _, _, rfl, rfl, k _ H1 (((en.mono e1).set i (.val v1)).set j (.val v2)) a1 D (q.mono e1)⟩⟩
theorem sr_unp3 (i j l : Nat) {x y w : Str} {kt : Nat} {d3 : PyData} {p5 : Pos} (hc : X.calm = true) (hN : X.N.Nodup) (h : EV X z e es s (.tuple [d1, d2, d3]) s1) (k : SR X z rest (((es.set i (.val d1)).set j (.val d2)).set l (.val d3)) s1 o)
    (hi : X.N[i]? = some x := by rfl) (hj : X.N[j]? = some y := by rfl) (hl : X.N[l]? = some w := by rfl) (hx : Loc X.env.scope x := by first | exact Or.inl rfl | exact Or.inr rfl) (hy : Loc X.env.scope y := by first | exact Or.inl rfl | exact Or.inr rfl) (hw' : Loc X.env.scope w := by first | exact Or.inl rfl | exact Or.inr rfl)
    (fx : X.fn x = true ∨ X.env.scope.names.lookup x = some .local := by first | exact .inl rfl | exact .inr rfl) (fy : X.fn y = true ∨ X.env.scope.names.lookup y = some .local := by first | exact .inl rfl | exact .inr rfl) (fw : X.fn w = true ∨ X.env.scope.names.lookup w = some .local := by first | exact .inl rfl | exact .inr rfl)
    (hs : swapsWithSole [.Tuple [.Name x p1, .Name y p2, .Name w p5] kt p3] e pos.line X.env = pure false := by rfl) (hw : swappedStores [.Tuple [.Name x p1, .Name y p2, .Name w p5] kt p3] e X.env = pure none := by rfl) 
    (hn : (assignEach [.Name x p1, .Name y p2, .Name w p5] X.env).length = 3 := by rfl) (hst : (assignEach [.Name x p1, .Name y p2, .Name w p5] X.env).findIdx? (·.1) = none := by rfl)
    (h1 : (assignEach (.Name x p1 :: [.Name y p2, .Name w p5]) X.env).map (·.2) = assign (.Name x p1) X.env :: (assignEach [.Name y p2, .Name w p5] X.env).map (·.2) := by rfl) (h2 : (assignEach (.Name y p2 :: [.Name w p5]) X.env).map (·.2) = assign (.Name y p2) X.env :: (assignEach [.Name w p5] X.env).map (·.2) := by rfl)
    (h3 : (assignEach (.Name w p5 :: []) X.env).map (·.2) = assign (.Name w p5) X.env :: (assignEach [] X.env).map (·.2) := by rfl) :
    SR X z (.Assign [.Tuple [.Name x p1, .Name y p2, .Name w p5] kt p3] e pos :: rest) es s o := fun σ H en at_ D q =>
  ⟨_, pss_cons (ps_asg wE_ok (pg_tup hc (pgs_cons (pg_name hN hi hx fx) (pgs_cons (pg_name hN hj hy fy) (pgs_cons (pg_name hN hl hw' fw) pgs_nil h3) h2) h1) hn hst) hs hw) wB_ok, h σ H en at_ _ fun v H1 e1 a1 v1 => by
    cases v1 with
    | tup n e r =>
      cases r with
      | cons v1 r =>
        cases r with
        | cons v2 r =>
          cases r with
          | cons v3 r =>
            cases r
            exact ⟨_, _, rfl, .inl (.inl e), rfl, _, _, rfl, _, _, rfl, _, _, rfl, rfl, k _ H1 ((((en.mono e1).set i (.val v1)).set j (.val v2)).set l (.val v3)) a1 D (q.mono e1)⟩⟩
theorem sr_unp4 (i j l m : Nat) {x y w u : Str} {kt : Nat} {d3 d4 : PyData} {p5 p6 : Pos} (hc : X.calm = true) (hN : X.N.Nodup) (h : EV X z e es s (.tuple [d1, d2, d3, d4]) s1) (k : SR X z rest ((((es.set i (.val d1)).set j (.val d2)).set l (.val d3)).set m (.val d4)) s1 o)
    (hi : X.N[i]? = some x := by rfl) (hj : X.N[j]? = some y := by rfl) (hl : X.N[l]? = some w := by rfl) (hm : X.N[m]? = some u := by rfl) (hx : Loc X.env.scope x := by first | exact Or.inl rfl | exact Or.inr rfl) (hy : Loc X.env.scope y := by first | exact Or.inl rfl | exact Or.inr rfl) (hw' : Loc X.env.scope w := by first | exact Or.inl rfl | exact Or.inr rfl) (hu : Loc X.env.scope u := by first | exact Or.inl rfl | exact Or.inr rfl)
    (fx : X.fn x = true ∨ X.env.scope.names.lookup x = some .local := by first | exact .inl rfl | exact .inr rfl) (fy : X.fn y = true ∨ X.env.scope.names.lookup y = some .local := by first | exact .inl rfl | exact .inr rfl) (fw : X.fn w = true ∨ X.env.scope.names.lookup w = some .local := by first | exact .inl rfl | exact .inr rfl) (fu : X.fn u = true ∨ X.env.scope.names.lookup u = some .local := by first | exact .inl rfl | exact .inr rfl)
    (hs : swapsWithSole [.Tuple [.Name x p1, .Name y p2, .Name w p5, .Name u p6] kt p3] e pos.line X.env = pure false := by rfl) (hw : swappedStores [.Tuple [.Name x p1, .Name y p2, .Name w p5, .Name u p6] kt p3] e X.env = pure none := by rfl) 
    (hn : (assignEach [.Name x p1, .Name y p2, .Name w p5, .Name u p6] X.env).length = 4 := by rfl) (hst : (assignEach [.Name x p1, .Name y p2, .Name w p5, .Name u p6] X.env).findIdx? (·.1) = none := by rfl)
    (h1 : (assignEach (.Name x p1 :: [.Name y p2, .Name w p5, .Name u p6]) X.env).map (·.2) = assign (.Name x p1) X.env :: (assignEach [.Name y p2, .Name w p5, .Name u p6] X.env).map (·.2) := by rfl) (h2 : (assignEach (.Name y p2 :: [.Name w p5, .Name u p6]) X.env).map (·.2) = assign (.Name y p2) X.env :: (assignEach [.Name w p5, .Name u p6] X.env).map (·.2) := by rfl)
    (h3 : (assignEach (.Name w p5 :: [.Name u p6]) X.env).map (·.2) = assign (.Name w p5) X.env :: (assignEach [.Name u p6] X.env).map (·.2) := by rfl) (h4 : (assignEach (.Name u p6 :: []) X.env).map (·.2) = assign (.Name u p6) X.env :: (assignEach [] X.env).map (·.2) := by rfl) :
    SR X z (.Assign [.Tuple [.Name x p1, .Name y p2, .Name w p5, .Name u p6] kt p3] e pos :: rest) es s o := fun σ H en at_ D q =>
  ⟨_, pss_cons (ps_asg wE_ok (pg_tup hc (pgs_cons (pg_name hN hi hx fx) (pgs_cons (pg_name hN hj hy fy) (pgs_cons (pg_name hN hl hw' fw) (pgs_cons (pg_name hN hm hu fu) pgs_nil h4) h3) h2) h1) hn hst) hs hw) wB_ok, h σ H en at_ _ fun v H1 e1 a1 v1 => by
    cases v1 with
    | tup n e r =>
      cases r with
      | cons v1 r =>
        cases r with
        | cons v2 r =>
          cases r with
          | cons v3 r =>
            cases r with
            | cons v4 r =>
              cases r
              exact ⟨_, _, rfl, .inl (.inl e), rfl, _, _, rfl, _, _, rfl, _, _, rfl, _, _, rfl, rfl, k _ H1 (((((en.mono e1).set i (.val v1)).set j (.val v2)).set l (.val v3)).set m (.val v4)) a1 D (q.mono e1)⟩⟩
/-- if: the branch returns | goes on -/
theorem sr_ifT (hc : ET X z c es s true s1) (h : SR X z body es s1 (.rt d s2)) : SR X z (.If c body els pos :: rest) es s (.rt d s2) := fun σ H en at_ D q =>
  ⟨_, pss_cons (ps_if wT_ok wB_ok wB_never) wB_never, hc σ H en at_ _ fun H1 e1 a1 => iteT (h σ H1 (en.mono e1) a1 _ fun v H2 e2 a2 v2 => q v H2 (e1.trans e2) a2 v2)⟩
theorem sr_ifTn (hc : ET X z c es s true s1) (h : SR X z body es s1 (.nx es2 s2)) (k : SR X z rest es2 s2 o) : SR X z (.If c body els pos :: rest) es s o := fun σ H en at_ D q =>
  ⟨_, pss_cons (ps_if wT_ok wB_ok wB_never) wB_ok, hc σ H en at_ _ fun H1 e1 a1 => iteT (h σ H1 (en.mono e1) a1 _ fun σ' H2 e2 a2 n2 => k σ' H2 n2 a2 D (q.mono (e1.trans e2)))⟩
theorem sr_ifF (hc : ET X z c es s false s1) (k : SR X z rest es s1 o) : SR X z (.If c body [] pos :: rest) es s o := fun σ H en at_ D q =>
  ⟨_, pss_cons (ps_if wT_ok wB_never pss_nil) wB_ok, hc σ H en at_ _ fun H1 e1 a1 => iteF (k σ H1 (en.mono e1) a1 D (q.mono e1))⟩
theorem sr_elF (hc : ET X z c es s false s1) (h : SR X z els es s1 (.rt d s2)) : SR X z (.If c body els pos :: rest) es s (.rt d s2) := fun σ H en at_ D q =>
  ⟨_, pss_cons (ps_if wT_ok wB_never wB_ok) wB_never, hc σ H en at_ _ fun H1 e1 a1 => iteF (h σ H1 (en.mono e1) a1 _ fun v H2 e2 a2 v2 => q v H2 (e1.trans e2) a2 v2)⟩
theorem sr_elFn (hc : ET X z c es s false s1) (h : SR X z els es s1 (.nx es2 s2)) (k : SR X z rest es2 s2 o) : SR X z (.If c body els pos :: rest) es s o := fun σ H en at_ D q =>
  ⟨_, pss_cons (ps_if wT_ok wB_never wB_ok) wB_ok, hc σ H en at_ _ fun H1 e1 a1 => iteF (h σ H1 (en.mono e1) a1 _ fun σ' H2 e2 a2 n2 => k σ' H2 n2 a2 D (q.mono (e1.trans e2)))⟩
/-- the state's list read and written by place -/
def comp (s : S) : Nat → Int
  | 0 => s.1
  | 1 => s.2.1
  | _ => s.2.2
def putc (s : S) (k : Nat) (i : Int) : S := match k with
  | 0 => (i, s.2.1, s.2.2)
  | 1 => (s.1, i, s.2.2)
  | _ => (s.1, s.2.1, i)
theorem ev_dice (i k : Nat) {x : Str} {j} (hk : k < 3 := by decide) (h : es[i]? = some .dice := by rfl) (hN : X.N[i]? = some x := by rfl) (hv : Vis X.env.scope x := by first | exact Or.inl rfl | exact Or.inr (Or.inl rfl) | exact Or.inr (Or.inr rfl))
    (hd : (x == ("__debug__" : Str)) = false := by decide) (hcd : (x == ("__classdict__" : Str)) = false := by decide) : EV X z (.Subscript (.Name x p) (.Constant (.int (k : Int)) j p2) pos) es s (.int (comp s k)) s :=
  .mk (pe_ix ix_list (pe_var hN hv hd hcd) pe_int (by intro _ _; rfl)) fun σ H en at_ Q q => by
    obtain ⟨a, e1, e2⟩ := en.getD h
    refine ⟨_, e1, a, _, (k : Int), .int (comp s k), rfl, rfl, .inl (.inl (at_.d a e2)), ?_, q _ H (.refl H) at_ (.int _)⟩
    match k, hk with
    | 0, _ => exact atI_nat (j := 0) rfl
    | 1, _ => exact atI_nat (j := 1) rfl
    | 2, _ => exact atI_nat (j := 2) rfl
theorem sr_put (i k : Nat) {x : Str} {j} {n : Int} (h : EV X z e es s (.int n) s1) (kk : SR X z rest es (putc s1 k n) o) (hk : k < 3 := by decide) (hi : es[i]? = some .dice := by rfl) (hN : X.N[i]? = some x := by rfl) (hv : Vis X.env.scope x := by first | exact Or.inl rfl | exact Or.inr (Or.inl rfl) | exact Or.inr (Or.inr rfl))
    (hd : (x == ("__debug__" : Str)) = false := by decide) (hcd : (x == ("__classdict__" : Str)) = false := by decide)
    (hs : swapsWithSole [.Subscript (.Name x p) (.Constant (.int (k : Int)) j p2) p3] e pos.line X.env = pure false := by rfl) (hw : swappedStores [.Subscript (.Name x p) (.Constant (.int (k : Int)) j p2) p3] e X.env = pure none := by rfl) :
    SR X z (.Assign [.Subscript (.Name x p) (.Constant (.int (k : Int)) j p2) p3] e pos :: rest) es s o := fun σ H en at_ D q =>
  ⟨_, pss_cons (ps_asg wE_ok (pg_sub (pe_var hN hv hd hcd) pe_int set_list) hs hw) wB_ok, h σ H en at_ _ fun v H1 e1 a1 v1 => by
    cases v1
    obtain ⟨a, k1, k2⟩ := en.getD hi
    have hE : Ez z H1 (upd H1 a (dv (putc s1 k n))) := .set k2
    have go : wB X rest D σ (upd H1 a (dv (putc s1 k n))) := kk σ _ ((en.mono e1).mono hE) (a1.set k2) D (q.mono (e1.trans hE))
    refine ⟨_, k1, a, _, (k : Int), k, rfl, rfl, a1.d a k2, ?_, ?_⟩
    · match k, hk with
      | 0, _ => rfl
      | 1, _ => rfl
      | 2, _ => rfl
    · match k, hk, go with
      | 0, _, go => exact go
      | 1, _, go => exact go
      | 2, _, go => exact go⟩

/-! ### loops -/
theorem sr_for1 (l : Nat) {x : Str} {n : Int} (hp : PassesOwn (model X.prog X.w) X.A X.env X.xe) (hc : X.calm = true) (hN : X.N.Nodup) (hm : X.mg "range" = none) (h : ED X z [a] es s [.int n] s1) (hn : n < 2 ^ 60) (hn0 : -(2 ^ 60) < n) (E : Nat → List Sl) (T : Nat → S) (h0 : Le es (E 0)) (t0 : T 0 = s1)
    (hb : ∀ i : Nat, (i : Int) < n → SR X z body ((E i).set l (.val (.int (i : Int)))) (T i) (.nx (E (i + 1)) (T (i + 1)))) (k : SR X z rest (E n.toNat) (T n.toNat) o)
    (hi : X.N[l]? = some x := by rfl) (hx : Loc X.env.scope x := by first | exact Or.inl rfl | exact Or.inr rfl) (hg : Gl X "range" := by rfl) (hs : starEach [a] X.env = [(false, eval a X.env)] := by rfl)
    (hf : X.fn x = true ∨ X.env.scope.names.lookup x = some .local := by first | exact .inl rfl | exact .inr rfl) (hfo : ∀ x, foldedSetIterable (.Call (.Name "range" p2) [a] [] p3) X.env x = pure x := by intro _; rfl) :
    SR X z (.For (.Name x p) (.Call (.Name "range" p2) [a] [] p3) body [] pos :: rest) es s o := fun σ H en at_ D q =>
  ⟨_, pss_cons (ps_for hp hc (pi_range1 hg hm wA_ok hs) (pg_name hN hi hx hf) wB_ok hfo) wB_ok, h σ H en at_ _ fun vs H1 e1 a1 v1 => by
    cases v1 with
    | cons v1 r =>
      cases r
      cases v1
      refine ⟨n, rfl, by omega, by omega, for_range (lo := 0) (n := n.toNat) (fun i σ' H' => Ez z H H' ∧ At z H' (T i) ∧ En z H' σ' (E i)) ⟨e1, t0 ▸ a1, (en.mono e1).le h0⟩ (fun i σ' H' hi w => ?_) fun σ' H' w => k σ' H' w.2.2 w.2.1 D (q.mono w.1)⟩
      have e0 : (0 : Int) + (i : Int) = (i : Int) := Int.zero_add _
      show wB X body _ (σ'.set l (some (.int ((0 : Int) + (i : Int))))) H'
      rw [e0]
      exact hb i (by omega) _ H' (w.2.2.set l (.val (.int _))) w.2.1 _ fun σ2 H2 e2 a2 n2 => ⟨w.1.trans e2, a2, n2⟩⟩
theorem sr_for2 (l : Nat) {x : Str} {lo n : Int} (hp : PassesOwn (model X.prog X.w) X.A X.env X.xe) (hc : X.calm = true) (hN : X.N.Nodup) (hm : X.mg "range" = none) (h : ED X z [a, b] es s [.int lo, .int n] s1) (hl : -(2 ^ 60) < lo ∧ lo < 2 ^ 60) (hn : n < 2 ^ 60) (hn0 : -(2 ^ 60) < n) (E : Nat → List Sl) (T : Nat → S) (h0 : Le es (E 0)) (t0 : T 0 = s1)
    (hb : ∀ i : Nat, lo + (i : Int) < n → SR X z body ((E i).set l (.val (.int (lo + (i : Int))))) (T i) (.nx (E (i + 1)) (T (i + 1)))) (k : SR X z rest (E (n - lo).toNat) (T (n - lo).toNat) o)
    (hi : X.N[l]? = some x := by rfl) (hx : Loc X.env.scope x := by first | exact Or.inl rfl | exact Or.inr rfl) (hg : Gl X "range" := by rfl) (hs : starEach [a, b] X.env = [(false, eval a X.env), (false, eval b X.env)] := by rfl) (hs2 : starEach [b] X.env = [(false, eval b X.env)] := by rfl)
    (hf : X.fn x = true ∨ X.env.scope.names.lookup x = some .local := by first | exact .inl rfl | exact .inr rfl) (hfo : ∀ x, foldedSetIterable (.Call (.Name "range" p2) [a, b] [] p3) X.env x = pure x := by intro _; rfl) :
    SR X z (.For (.Name x p) (.Call (.Name "range" p2) [a, b] [] p3) body [] pos :: rest) es s o := fun σ H en at_ D q =>
  ⟨_, pss_cons (ps_for hp hc (pi_range2 hg hm wA_ok hs hs2) (pg_name hN hi hx hf) wB_ok hfo) wB_ok, h σ H en at_ _ fun vs H1 e1 a1 v1 => by
    cases v1 with
    | cons v1 r =>
      cases v1
      cases r with
      | cons v1 r =>
        cases v1
        cases r
        refine ⟨lo, n, rfl, by omega, for_range (lo := lo) (n := (n - lo).toNat) (fun i σ' H' => Ez z H H' ∧ At z H' (T i) ∧ En z H' σ' (E i)) ⟨e1, t0 ▸ a1, (en.mono e1).le h0⟩ (fun i σ' H' hi w => ?_) fun σ' H' w => k σ' H' w.2.2 w.2.1 D (q.mono w.1)⟩
        exact hb i (by omega) _ H' (w.2.2.set l (.val (.int _))) w.2.1 _ fun σ2 H2 e2 a2 n2 => ⟨w.1.trans e2, a2, n2⟩⟩
theorem sr_while (hp : PassesOwn (model X.prog X.w) X.A X.env X.xe) (E : Nat → List Sl) (T : Nat → S) (n : Nat) (h0 : Le es (E 0)) (t0 : T 0 = s) (hc : ∀ i, i < n → ET X z c (E i) (T i) true (T i)) (hb : ∀ i, i < n → SR X z body (E i) (T i) (.nx (E (i + 1)) (T (i + 1))))
    (hz : ET X z c (E n) (T n) false (T n)) (k : SR X z rest (E n) (T n) o) : SR X z (.While c body [] pos :: rest) es s o := fun σ H en at_ D q =>
  ⟨_, pss_cons (ps_while hp wT_ok wB_ok) wB_ok, fun m σ' H' => ∃ i, i ≤ n ∧ m = n - i ∧ Ez z H H' ∧ At z H' (T i) ∧ En z H' σ' (E i), ⟨n, 0, Nat.zero_le _, rfl, .refl H, t0 ▸ at_, en.le h0⟩, fun m σ' H' w => by
    obtain ⟨i, hi, rfl, e1, a1, n1⟩ := w
    by_cases hl : i < n
    · refine hc i hl σ' H' n1 a1 _ fun H1 e2 a2 => iteT ⟨fun σ2 H2 => Ez z H H2 ∧ At z H2 (T (i + 1)) ∧ En z H2 σ2 (E (i + 1)), fun σ2 H2 w => ⟨n - (i + 1), by omega, i + 1, hl, rfl, w.1, w.2.1, w.2.2⟩, ?_⟩
      exact hb i hl σ' H1 (n1.mono e2) a2 _ fun σ2 H2 e3 a3 n3 => ⟨(e1.trans e2).trans e3, a3, n3⟩
    · have : i = n := by omega
      subst this
      exact hz σ' H' n1 a1 _ fun H1 e2 a2 => iteF (k σ' H1 (n1.mono e2) a2 D (q.mono (e1.trans e2)))⟩
end

/-! ### 5. a def by its block -/
section
variable {P : Program} {w : World} {K : PySem.W.Frag} {mg : Str → Option Value} {base : Heap}
/-- what stands around a def's body -/
structure Ctx (X : Cx) (k : Nat) (N : List Str) : Prop where
  nd : X.N.Nodup
  calm : X.calm = true
  hp : PassesOwn (model X.prog X.w) X.A X.env X.xe
  hr : Room k X.A
  hu : X.A.units + 64 < cLine
theorem okD {x qual : Str} {st : Stmt} {f : Addr} {fd : FuncData} {N ps : List Str} {k : Nat} {R : Rel} (F : Fun K x qual st f fd) (Sc : FnScope N ps (defScope st)) (hl : ∀ as s d s', R as s d s' → as.length = ps.length)
    (hb : ∀ cdv A outer s0 H0 E, Ctx (cxOf CX0 P w K mg base N qual (defScope st) f cdv A outer s0 H0 E).nox k N → ∀ z as s d s', R as s d s' → SR (cxOf CX0 P w K mg base N qual (defScope st) f cdv A outer s0 H0 E).nox z (defBody st) (as ++ List.replicate (N.length - as.length) .un) s (.rt d s')) :
    FnOk P w K mg base CX0 (k + 1) f fd ps (spD R) := by
  refine F.ok Sc (fun vs H Q E h => ?_) (fun cdv A outer s0 H0 vs Q E hr h => ?_)
  · obtain ⟨z, as, s, d, s', hR, en, _⟩ := h
    have := en.length
    rw [List.length_map] at this
    rw [this]
    exact hl _ _ _ _ hR
  · obtain ⟨z, as, s, d, s', hR, en, at_, q⟩ := h
    have e1 : vs.length = as.length := by
      have := en.length
      rwa [List.length_map] at this
    have C : Ctx (cxOf CX0 P w K mg base N qual (defScope st) f cdv A outer s0 H0 E).nox k N := ⟨Sc.nd, rfl, PassesOwn.never, hr, hr.units⟩
    have g := hb cdv A outer s0 H0 E C z as s d s' hR (L2.start N vs) H0 (by
      unfold L2.start
      rw [e1]
      exact en.app (.uns _)) at_ { nx := fun _ H' => Q .non H', rt := Q } (fun v H' e a n => q v H' e a n)
    exact ⟨_, wB_ok, g⟩
theorem dn_of {x qual : Str} {st : Stmt} {f : Addr} {fd : FuncData} {ps : List Str} {k : Nat} {R : Rel} (F : Fun K x qual st f fd) (O : FnOk P w K mg base CX0 k f fd ps (spD R)) (hm : mg x = some (.ref f)) (hb : Binds K fd ps []) : Dn P w K mg base k x R := ⟨f, fd, ps, O, hm, F.kp, hb⟩
end

/-! ### 6. more -/
section
variable {X : Cx} {z : Z} {es es1 es2 fs : List Sl} {s s1 s2 s' : S} {a b c e : Expr} {xs : List Expr} {pos p p1 p2 p3 p4 : Pos} {d d1 d2 : PyData} {ds : List PyData} {as : List Sl} {o : Out} {st : Stmt} {rest body els : List Stmt}
theorem et_notT (h : ET X z a es s false s1) : ET X z (.UnaryOp .Not a pos) es s true s1 := et_not h
theorem et_notF (h : ET X z a es s true s1) : ET X z (.UnaryOp .Not a pos) es s false s1 := et_not h
theorem pl_int {i : Int} : Pl (.int i) := ⟨rfl, rfl⟩
theorem et_eqI {i j : Int} (hu : X.A.units + 64 < cLine) (ha : EV X z a es s (.int i) s1) (hb : EV X z b es s1 (.int j) s2) : ET X z (.Compare a [.Eq] [b] pos) es s (decide (i = j)) s2 :=
  ET.is (et_eq hu pl_int pl_int ha hb) rfl
theorem et_neI {i j : Int} (hu : X.A.units + 64 < cLine) (ha : EV X z a es s (.int i) s1) (hb : EV X z b es s1 (.int j) s2) : ET X z (.Compare a [.NotEq] [b] pos) es s (!decide (i = j)) s2 :=
  ET.is (et_ne hu pl_int pl_int ha hb) rfl
theorem ev_eqI {i j : Int} (hu : X.A.units + 64 < cLine) (ha : EV X z a es s (.int i) s1) (hb : EV X z b es s1 (.int j) s2) : EV X z (.Compare a [.Eq] [b] pos) es s (.bool (decide (i = j))) s2 :=
  EV.is (ev_eq hu pl_int pl_int ha hb) rfl
end
section
variable {P : Program} {w : World} {K : PySem.W.Frag} {mg : Str → Option Value} {base : Heap}
/-- a def whose block ends without a return -/
theorem okN {x qual : Str} {st : Stmt} {f : Addr} {fd : FuncData} {N ps : List Str} {k : Nat} {R : Rel} (F : Fun K x qual st f fd) (Sc : FnScope N ps (defScope st)) (hl : ∀ as s d s', R as s d s' → as.length = ps.length)
    (hb : ∀ cdv A outer s0 H0 E, Ctx (cxOf CX0 P w K mg base N qual (defScope st) f cdv A outer s0 H0 E).nox k N → ∀ z as s d s', R as s d s' → d = .none ∧ ∃ es', SR (cxOf CX0 P w K mg base N qual (defScope st) f cdv A outer s0 H0 E).nox z (defBody st) (as ++ List.replicate (N.length - as.length) .un) s (.nx es' s')) :
    FnOk P w K mg base CX0 (k + 1) f fd ps (spD R) := by
  refine F.ok Sc (fun vs H Q E h => ?_) (fun cdv A outer s0 H0 vs Q E hr h => ?_)
  · obtain ⟨z, as, s, d, s', hR, en, _⟩ := h
    have := en.length
    rw [List.length_map] at this
    rw [this]
    exact hl _ _ _ _ hR
  · obtain ⟨z, as, s, d, s', hR, en, at_, q⟩ := h
    have e1 : vs.length = as.length := by
      have := en.length
      rwa [List.length_map] at this
    have C : Ctx (cxOf CX0 P w K mg base N qual (defScope st) f cdv A outer s0 H0 E).nox k N := ⟨Sc.nd, rfl, PassesOwn.never, hr, hr.units⟩
    obtain ⟨rfl, es', hb'⟩ := hb cdv A outer s0 H0 E C z as s d s' hR
    have g := hb' (L2.start N vs) H0 (by
      unfold L2.start
      rw [e1]
      exact en.app (.uns _)) at_ { nx := fun _ H' => Q .non H', rt := Q } (fun σ' H' e a n => q .non H' e a .non)
    exact ⟨_, wB_ok, g⟩
end

/-! ### 7. while by a word; isqrt, comb; texts -/
section
variable {X : Cx} {z : Z} {es es1 es2 fs : List Sl} {s s1 s2 s' : S} {a b c e : Expr} {xs : List Expr} {pos p p1 p2 p3 p4 apos : Pos} {d d1 d2 : PyData} {ds : List PyData} {as : List Sl} {o : Out} {st : Stmt} {rest body els : List Stmt}
theorem sr_whileW (hp : PassesOwn (model X.prog X.w) X.A X.env X.xe) (W : Nat → List Sl → S → Prop) {m0 : Nat} (h0 : W m0 es s)
    (hs : ∀ m es s, W m es s → (ET X z c es s false s ∧ SR X z rest es s o) ∨ (ET X z c es s true s ∧ ∃ es' s' m', m' < m ∧ W m' es' s' ∧ SR X z body es s (.nx es' s'))) : SR X z (.While c body [] pos :: rest) es s o := fun σ H en at_ D q =>
  ⟨_, pss_cons (ps_while hp wT_ok wB_ok) wB_ok, fun m σ' H' => ∃ es' s', W m es' s' ∧ Ez z H H' ∧ At z H' s' ∧ En z H' σ' es', ⟨m0, es, s, h0, .refl H, at_, en⟩, fun m σ' H' w => by
    obtain ⟨es', s', w1, e1, a1, n1⟩ := w
    rcases hs m es' s' w1 with ⟨h1, h2⟩ | ⟨h1, es2, s2, m', hl, w2, h2⟩
    · exact h1 σ' H' n1 a1 _ fun H1 e2 a2 => iteF (h2 σ' H1 (n1.mono e2) a2 D (q.mono (e1.trans e2)))
    · refine h1 σ' H' n1 a1 _ fun H1 e2 a2 => iteT ⟨fun σ2 H2 => Ez z H H2 ∧ At z H2 s2 ∧ En z H2 σ2 es2, fun σ2 H2 w => ⟨m', hl, es2, s2, w2, w.1, w.2.1, w.2.2⟩, ?_⟩
      exact h2 σ' H1 (n1.mono e2) a2 _ fun σ2 H2 e3 a3 n3 => ⟨(e1.trans e2).trans e3, a3, n3⟩⟩
def rSqrt : List V → Hp → VK → Prop := fun vs H Q => ∃ n : Nat, vs = [.int (n : Int)] ∧ n.log2 < 13000 ∧ Q (.int ((Float64.isqrt n : Nat) : Int)) H
theorem cr_isqrt : CallR X (.builtin "math.isqrt") rSqrt := by
  intro pins s σ H vs us Q I r h
  obtain ⟨n, rfl, hn, q⟩ := h
  obtain ⟨u, rfl, t, rfl⟩ := vals1 r
  have g := PySem.W.mg_run_isqrt (n : Int) t (by omega) (by rw [Int.toNat_natCast]; omega) (by rw [Int.toNat_natCast]; omega)
  exact call_function_meets PySem.W.MGF.kind_isqrt PySem.W.MGF.plain_isqrt PySem.W.MGF.entry_isqrt (PySem.W.MGF.args_isqrt _) g.meets ⟨.int _, H, I.tok _, ⟨_, by rw [Int.toNat_natCast]⟩, q⟩
theorem rb_sqrt {i : Int} (h0 : 0 ≤ i) (h : i.natAbs.log2 < 13000) : RB z s rSqrt [.int i] (.int ((Float64.isqrt i.toNat : Nat) : Int)) := fun vs H at_ h Q q => by
  cases h with
  | cons h r =>
    cases r
    cases h
    exact ⟨i.toNat, by rw [Int.toNat_of_nonneg h0], by rw [show i.toNat = i.natAbs by omega]; assumption, q _ H (.refl H) at_ (.int _)⟩
theorem combEntry : entryFor table "math.comb" = some Builtin.«math.comb» := entryFor_of_tree (by kernel_rfl)
theorem combKind : builtinKind "math.comb" = none := by kernel_rfl
theorem combPlain : plainId "math.comb" = true := by decide +kernel
theorem combArgs (x y : Value) : argsOk "math.comb" ⟨[x, y], []⟩ := by unfold argsOk; kernel_rfl
theorem combOver (n : Int) (t : Tok) (k : Int) (u : Tok) (h0 : ¬ n < 0) (h1 : ¬ k < 0) (h2 : k > n) : Gives (Builtin.«math.comb» ⟨[.int n t, .int k u], []⟩) (.int 0) :=
  .of_wp fun M A E s Q h => by
    obtain ⟨hp, g, d, tk, os⟩ := s
    wp_walk
    exact ⟨_, rfl, h⟩
theorem combRun (n : Int) (t : Tok) (k : Int) (u : Tok) (h0 : ¬ n < 0) (h1 : ¬ k < 0) (h2 : ¬ k > n) (h3 : ¬ min k (n - k) > Builtin.Math.maxSsize) (h4 : ¬ min k (n - k) > Builtin.Math.manyFactors) (h5 : ¬ min k (n - k) > 9000)
    (hsz : (Builtin.Math.fallingProduct n (min k (n - k)).toNat / Builtin.Math.fallingProduct (min k (n - k)) (min k (n - k)).toNat).natAbs.log2 < bitsLine) :
    Gives (Builtin.«math.comb» ⟨[.int n t, .int k u], []⟩) (.int (Builtin.Math.fallingProduct n (min k (n - k)).toNat / Builtin.Math.fallingProduct (min k (n - k)) (min k (n - k)).toNat)) :=
  .of_wp fun M A E s Q h => by
    obtain ⟨hp, g, d, tk, os⟩ := s
    wp_walk
    (try (refine wpAny_ite_false (decide_eq_false (Nat.not_le.mpr hsz)) ?_; wp_walk))
    exact ⟨_, rfl, h⟩
end
def combV (n k : Int) : Int := if k > n then 0 else Builtin.Math.fallingProduct n (min k (n - k)).toNat / Builtin.Math.fallingProduct (min k (n - k)) (min k (n - k)).toNat
def rComb : List V → Hp → VK → Prop := fun vs H Q => ∃ n k : Int, vs = [.int n, .int k] ∧ 0 ≤ n ∧ n ≤ 1000 ∧ 0 ≤ k ∧ k ≤ 1000 ∧ (combV n k).natAbs.log2 < bitsLine ∧ Q (.int (combV n k)) H
section
variable {X : Cx} {z : Z} {es es1 es2 fs : List Sl} {s s1 s2 s' : S} {a b c e f : Expr} {xs : List Expr} {pos p p1 p2 p3 p4 apos : Pos} {d d1 d2 : PyData} {ds : List PyData} {as : List Sl} {o : Out} {st : Stmt} {rest body els : List Stmt}
theorem cr_comb : CallR X (.builtin "math.comb") rComb := by
  intro pins s σ H vs us Q I r h
  obtain ⟨n, k, rfl, n0, n1, k0, k1, hz, q⟩ := h
  obtain ⟨t, u, rfl⟩ := Vals.int2 r
  have hm : Builtin.Math.maxSsize > 100000 := by decide
  have hf : (9000 : Int) < Builtin.Math.manyFactors := by decide
  unfold combV at hz q
  by_cases hk : k > n
  · rw [if_pos hk] at q
    exact call_function_meets combKind combPlain combEntry (combArgs _ _) (combOver n t k u (by omega) (by omega) hk).meets ⟨.int _, H, I.tok _, ⟨_, rfl⟩, q⟩
  · rw [if_neg hk] at hz q
    exact call_function_meets combKind combPlain combEntry (combArgs _ _) (combRun n t k u (by omega) (by omega) hk (by omega) (by omega) (by omega) hz).meets ⟨.int _, H, I.tok _, ⟨_, rfl⟩, q⟩
theorem rb_comb {n k : Int} (n0 : 0 ≤ n) (n1 : n ≤ 1000) (k0 : 0 ≤ k) (k1 : k ≤ 1000) (hz : (combV n k).natAbs.log2 < bitsLine) : RB z s rComb [.int n, .int k] (.int (combV n k)) := fun vs H at_ h Q q => by
  cases h with
  | cons h r =>
    cases h
    cases r with
    | cons h r =>
      cases h
      cases r
      exact ⟨n, k, rfl, n0, n1, k0, k1, hz, q _ H (.refl H) at_ (.int _)⟩
/-- a method of a text -/
def RM (z : Z) (s : S) (r : V → List V → Hp → VK → Prop) (x : Str) (ds : List PyData) (d : PyData) : Prop := ∀ vs H, At z H s → DaAll z H vs ds → ∀ Q : VK, (∀ v H2, Ez z H H2 → At z H2 s → Da z H2 v d → Q v H2) → r (.str x) vs H Q
theorem ev_m0 {id : String} {name x : Str} {r : V → List V → Hp → VK → Prop} (slot : Slot "str" name id) (ty : typeOf (.builtin id) = pure (.type "method_descriptor")) (rule : MtR X id r) (hr : RM z s1 r x [] d) (ho : EV X z a es s (.str x) s1)
    (hbase : attributeBase a name X.env (eval a X.env) = eval a X.env := by rfl) (hline : (apos.endLine == pos.line) = true := by rfl) : EV X z (.Call (.Attribute a name apos) [] [] pos) es s d s1 :=
  .mk (pe_m0 slot ty rule wE_ok hbase hline) fun σ H en at_ Q q => ho σ H en at_ _ fun v H1 e1 a1 v1 => by
    cases v1
    exact ⟨⟨x, rfl⟩, hr [] H1 a1 .nil Q fun v H2 e2 a2 v2 => q v H2 (e1.trans e2) a2 v2⟩
theorem ev_m1 {id : String} {name x : Str} {r : V → List V → Hp → VK → Prop} (slot : Slot "str" name id) (ty : typeOf (.builtin id) = pure (.type "method_descriptor")) (rule : MtR X id r) (hr : RM z s2 r x [d1] d) (ho : EV X z a es s (.str x) s1) (he : EV X z e es s1 d1 s2)
    (hs : starEach [e] X.env = [(false, eval e X.env)] := by rfl) (hbase : attributeBase a name X.env (eval a X.env) = eval a X.env := by rfl) (hline : (apos.endLine == pos.line) = true := by rfl) : EV X z (.Call (.Attribute a name apos) [e] [] pos) es s d s2 :=
  .mk (pe_m1 slot ty rule wE_ok wE_ok hs hbase hline) fun σ H en at_ Q q => ho σ H en at_ _ fun v H1 e1 a1 v1 => by
    cases v1
    refine ⟨⟨x, rfl⟩, he σ H1 (en.mono e1) a1 _ fun y H2 e2 a2 y2 => ?_⟩
    exact hr [y] H2 a2 (.cons y2 .nil) Q fun v H3 e3 a3 v3 => q v H3 ((e1.trans e2).trans e3) a3 v3
/-- the text of an int -/
def itx (i : Int) : Str := Str.ofString (toString i)
theorem ev_fmtI {i : Int} (hz : i.natAbs.log2 < 1920) (h : EV X z e es s (.int i) s1) : EV X z (.FormattedValue e (-1) none pos) es s (.str (itx i)) s1 := .mk (pe_fmt wE_ok) fun σ H en at_ Q q => h σ H en at_ _ fun v H1 e1 a1 v1 => by
  cases v1
  exact .inr ⟨i, rfl, hz, q _ H1 e1 a1 (.str _)⟩
theorem ev_fstr1 (h : EV X z e es s d s1) : EV X z (.JoinedStr [e] pos) es s d s1 := .mk (pe_joined1 wE_ok) fun σ H en at_ Q q => h σ H en at_ Q q
theorem ev_fstr3 {x y w : Str} (hl : x.length + y.length + w.length ≤ 100000) (ha : EV X z a es s (.str x) s) (hb : EV X z b es s (.str y) s) (hc : EV X z c es s (.str w) s) : EV X z (.JoinedStr [a, b, c] pos) es s (.str (x ++ y ++ w)) s :=
  .mk (pe_joined (.cons wE_ok (.cons wE_ok (.cons wE_ok .nil)))) fun σ H en at_ Q q => ha σ H en at_ _ fun v H1 e1 a1 v1 => by
    have hL : (100000 : Nat) ≤ sizeLine := by decide
    have e0 : ∀ t : Str, Str.empty ++ t = t := fun t => TL.ext_tl (by
      rw [TL.tl_append]
      rfl)
    cases v1
    refine ⟨x, rfl, by rw [e0]; omega, hb σ H1 (en.mono e1) a1 _ fun v H2 e2 a2 v2 => ?_⟩
    cases v2
    refine ⟨y, rfl, by rw [e0, Str.length_append]; omega, hc σ H2 (en.mono (e1.trans e2)) a2 _ fun v H3 e3 a3 v3 => ?_⟩
    cases v3
    refine ⟨w, rfl, by rw [e0, Str.length_append, Str.length_append]; omega, ?_⟩
    rw [e0]
    exact q _ H3 ((e1.trans e2).trans e3) a3 (.str _)
theorem rb_str {i : Int} (hz : i.natAbs.log2 < 1920) : RB z s (fun xs H Q => ∃ i : Int, xs = [.int i] ∧ i.natAbs.log2 < 1920 ∧ Q (.str (toString i)) H) [.int i] (.str (itx i)) := fun vs H at_ h Q q => by
  cases h with
  | cons h r =>
    cases r
    cases h
    exact ⟨i, rfl, hz, q _ H (.refl H) at_ (.str _)⟩
theorem rb_intS {x : Str} {n : Int} (h : PySem.intText? x = some n) (hl : x.length ≤ 640) : RB z s (fun xs H Q => ∃ a n, xs = [.str a] ∧ PySem.intText? a = some n ∧ a.length ≤ 640 ∧ Q (.int n) H) [.str x] (.int n) := fun vs H at_ k Q q => by
  cases k with
  | cons k r =>
    cases r
    cases k
    exact ⟨x, n, rfl, h, hl, q _ H (.refl H) at_ (.int _)⟩
end
/-- a loop's body -/
def loopB (st : Option Stmt) : List Stmt := match st with
  | some (Stmt.While _ b _ _) => b
  | some (Stmt.For _ _ b _ _) => b
  | _ => []
section
variable {X : Cx} {z : Z} {es : List Sl} {s s1 s2 : S} {a b : Expr} {pos : Pos}
/-- * with a small left factor -/
theorem ev_mulL {i j : Int} (hc : -(2 ^ 64) < i ∧ i < 2 ^ 64) (ha : EV X z a es s (.int i) s1) (hb : EV X z b es s1 (.int j) s2) : EV X z (.BinOp a .Mult b pos) es s (.int (i * j)) s2 := ev_opR (f := binaryOp .Mult) op_mul (rd_I (.inl hc) fun _ => .int _) ha hb
end
end DL


set_option Elab.async false
set_option linter.all false
set_option maxRecDepth 100000
namespace K2
open PySem PySem.Spec PyProof.Rows L2 DL
variable [TabT]
def top (i : Nat) : Stmt := PySem.Challenge.pw_thirdcounts_k02_errors_of_numbers.main.body.getD i (.Pass ⟨0, 0, 0, 0⟩)
/-! ### what the built-in classes say of data -/
def isW : PyData → Bool
  | .int _ => true
  | _ => false
theorem k_int (v : PyData) : kitB (tyD v) "int" = some (match v with | .int _ => true | .bool _ => true | _ => false) := by
  match v with
  | .none => exact (by decide +kernel : kitB "NoneType" "int" = some false)
  | .bool _ => exact (by decide +kernel : kitB "bool" "int" = some true)
  | .int _ => exact (by decide +kernel : kitB "int" "int" = some true)
  | .str _ => exact (by decide +kernel : kitB "str" "int" = some false)
  | .list _ => exact (by decide +kernel : kitB "list" "int" = some false)
  | .tuple _ => exact (by decide +kernel : kitB "tuple" "int" = some false)
  | .dict _ => exact (by decide +kernel : kitB "dict" "int" = some false)
theorem k_bool (v : PyData) : kitB (tyD v) "bool" = some (match v with | .bool _ => true | _ => false) := by
  match v with
  | .none => exact (by decide +kernel : kitB "NoneType" "bool" = some false)
  | .bool _ => exact (by decide +kernel : kitB "bool" "bool" = some true)
  | .int _ => exact (by decide +kernel : kitB "int" "bool" = some false)
  | .str _ => exact (by decide +kernel : kitB "str" "bool" = some false)
  | .list _ => exact (by decide +kernel : kitB "list" "bool" = some false)
  | .tuple _ => exact (by decide +kernel : kitB "tuple" "bool" = some false)
  | .dict _ => exact (by decide +kernel : kitB "dict" "bool" = some false)
theorem k_tuple (v : PyData) : kitB (tyD v) "tuple" = some (match v with | .tuple _ => true | _ => false) := by
  match v with
  | .none => exact (by decide +kernel : kitB "NoneType" "tuple" = some false)
  | .bool _ => exact (by decide +kernel : kitB "bool" "tuple" = some false)
  | .int _ => exact (by decide +kernel : kitB "int" "tuple" = some false)
  | .str _ => exact (by decide +kernel : kitB "str" "tuple" = some false)
  | .list _ => exact (by decide +kernel : kitB "list" "tuple" = some false)
  | .tuple _ => exact (by decide +kernel : kitB "tuple" "tuple" = some true)
  | .dict _ => exact (by decide +kernel : kitB "dict" "tuple" = some false)
theorem k_str (v : PyData) : kitB (tyD v) "str" = some (match v with | .str _ => true | _ => false) := by
  match v with
  | .none => exact (by decide +kernel : kitB "NoneType" "str" = some false)
  | .bool _ => exact (by decide +kernel : kitB "bool" "str" = some false)
  | .int _ => exact (by decide +kernel : kitB "int" "str" = some false)
  | .str _ => exact (by decide +kernel : kitB "str" "str" = some true)
  | .list _ => exact (by decide +kernel : kitB "list" "str" = some false)
  | .tuple _ => exact (by decide +kernel : kitB "tuple" "str" = some false)
  | .dict _ => exact (by decide +kernel : kitB "dict" "str" = some false)
/-- what the top has bound -/
structure Top (mg : Str → Option Value) : Prop where
  isi : mg "isinstance" = none
  int : mg "int" = none
  bool : mg "bool" = none
  str : mg "str" = none
  tuple : mg "tuple" = none
  len : mg "len" = none
  abs : mg "abs" = none
  range : mg "range" = none
  all : mg "all" = none
  long : ∃ t, mg "_TOO_LONG" = some (.int (10 ^ 60) t)
  gcd : mg "gcd" = some (.builtin "math.gcd")
section
variable {P : Program} {w : World} {K : PySem.W.Frag} {mg : Str → Option Value} {base : Heap} {f : Addr} {fd : FuncData}
abbrev sWhole : Stmt := top 12
theorem scWhole : FnScope ["value"] ["value"] (defScope sWhole) := ⟨rfl, rfl, rfl, by decide +kernel, rfl, by decide +kernel, by decide +kernel⟩
def rWhole : Rel := fun as s d s' => ∃ v, as = [.val v] ∧ d = .bool (isW v) ∧ s' = s
theorem ok_whole (F : Fun K "is_whole" "is_whole" sWhole f fd) (T : Top mg) : FnOk P w K mg base CX0 1 f fd ["value"] (spD rWhole) := by
  refine okD F scWhole (by rintro _ _ _ _ ⟨v, rfl, _⟩; rfl) fun cdv A outer s0 H0 E C z as s₁ d s h => ?_
  obtain ⟨v, rfl, rfl, rfl⟩ := h
  refine sr_ret (EV.is (ev_and (ev_isi T.isi T.int (ev_var 0) (k_int v)) fun _ => ev_b1 (ev_not (ev_isi T.isi T.bool (ev_var 0) (k_bool v)))) ?_)
  cases v <;> rfl
abbrev sBetween : Stmt := top 13
theorem scBetween : FnScope ["value", "low", "high"] ["value", "low", "high"] (defScope sBetween) := ⟨rfl, rfl, rfl, by decide +kernel, rfl, by decide +kernel, by decide +kernel⟩
def btw (l h : Int) : PyData → Bool
  | .int i => decide (l ≤ i) && decide (i ≤ h)
  | _ => false
def rBetween : Rel := fun as s d s' => ∃ v l h, as = [.val v, .val (.int l), .val (.int h)] ∧ d = .bool (btw l h v) ∧ s' = s
theorem ok_between (F : Fun K "is_between" "is_between" sBetween f fd) (G : Dn P w K mg base 1 "is_whole" rWhole) : FnOk P w K mg base CX0 2 f fd ["value", "low", "high"] (spD rBetween) := by
  refine okD F scBetween (by rintro _ _ _ _ ⟨v, l, h, rfl, _⟩; rfl) fun cdv A outer s0 H0 E C z as s₁ d s h => ?_
  obtain ⟨v, l, h, rfl, rfl, rfl⟩ := h
  refine sr_ret ?_
  match v with
  | .int i => exact ev_andT (ev_call G C.hr (ea_cons (ev_var 0) ea_nil) ⟨_, rfl, rfl, rfl⟩) (ev_b1 (et_chain (s3 := s) (ev_var 1) (ev_var 0) (ev_var 2)))
  | .none => exact ev_andF (ev_call G C.hr (ea_cons (ev_var 0) ea_nil) ⟨_, rfl, rfl, rfl⟩)
  | .bool _ => exact ev_andF (ev_call G C.hr (ea_cons (ev_var 0) ea_nil) ⟨_, rfl, rfl, rfl⟩)
  | .str _ => exact ev_andF (ev_call G C.hr (ea_cons (ev_var 0) ea_nil) ⟨_, rfl, rfl, rfl⟩)
  | .list _ => exact ev_andF (ev_call G C.hr (ea_cons (ev_var 0) ea_nil) ⟨_, rfl, rfl, rfl⟩)
  | .tuple _ => exact ev_andF (ev_call G C.hr (ea_cons (ev_var 0) ea_nil) ⟨_, rfl, rfl, rfl⟩)
  | .dict _ => exact ev_andF (ev_call G C.hr (ea_cons (ev_var 0) ea_nil) ⟨_, rfl, rfl, rfl⟩)
abbrev sInteger : Stmt := top 14
theorem scInteger : FnScope ["value"] ["value"] (defScope sInteger) := ⟨rfl, rfl, rfl, by decide +kernel, rfl, by decide +kernel, by decide +kernel⟩
def intg : PyData → Bool
  | .int i => decide (-(10 ^ 60) < i) && decide (i < 10 ^ 60)
  | _ => false
def rInteger : Rel := fun as s d s' => ∃ v, as = [.val v] ∧ d = .bool (intg v) ∧ s' = s
theorem ok_integer (F : Fun K "is_integer" "is_integer" sInteger f fd) (T : Top mg) (G : Dn P w K mg base 1 "is_whole" rWhole) : FnOk P w K mg base CX0 2 f fd ["value"] (spD rInteger) := by
  refine okD F scInteger (by rintro _ _ _ _ ⟨v, rfl, _⟩; rfl) fun cdv A outer s0 H0 E C z as s₁ d s h => ?_
  obtain ⟨v, rfl, rfl, rfl⟩ := h
  obtain ⟨tl, hl⟩ := T.long
  refine sr_ret ?_
  match v with
  | .int i => exact ev_andT (ev_call G C.hr (ea_cons (ev_var 0) ea_nil) ⟨_, rfl, rfl, rfl⟩) (ev_b1 (et_chainLt (ev_neg (ev_glob rfl hl ⟨tl, rfl⟩)) (ev_var 0) (ev_glob rfl hl ⟨tl, rfl⟩)))
  | .none => exact ev_andF (ev_call G C.hr (ea_cons (ev_var 0) ea_nil) ⟨_, rfl, rfl, rfl⟩)
  | .bool _ => exact ev_andF (ev_call G C.hr (ea_cons (ev_var 0) ea_nil) ⟨_, rfl, rfl, rfl⟩)
  | .str _ => exact ev_andF (ev_call G C.hr (ea_cons (ev_var 0) ea_nil) ⟨_, rfl, rfl, rfl⟩)
  | .list _ => exact ev_andF (ev_call G C.hr (ea_cons (ev_var 0) ea_nil) ⟨_, rfl, rfl, rfl⟩)
  | .tuple _ => exact ev_andF (ev_call G C.hr (ea_cons (ev_var 0) ea_nil) ⟨_, rfl, rfl, rfl⟩)
  | .dict _ => exact ev_andF (ev_call G C.hr (ea_cons (ev_var 0) ea_nil) ⟨_, rfl, rfl, rfl⟩)
abbrev sFrac : Stmt := top 15
theorem scFrac : FnScope ["value", "top", "bottom"] ["value"] (defScope sFrac) := ⟨rfl, rfl, rfl, by decide +kernel, rfl, by decide +kernel, by decide +kernel⟩
def fr2 (t b : PyData) : Bool := match t, b with
  | .int t, .int b => decide (1 ≤ b) && decide (((Nat.gcd t.natAbs b.natAbs : Nat) : Int) = 1)
  | _, _ => false
def frac : PyData → Bool
  | .tuple [t, b] => fr2 t b
  | _ => false
def rFrac : Rel := fun as s d s' => ∃ v, as = [.val v] ∧ d = .bool (frac v) ∧ s' = s
theorem isW_int {v : PyData} (h : isW v = true) : ∃ i, v = .int i := by
  cases v <;> first | exact ⟨_, rfl⟩ | cases h
theorem isW_not {v : PyData} (h : isW v = false) : ∀ i, v ≠ .int i := fun i e => by
  subst e
  cases h
theorem fr2_l {t b : PyData} (h : isW t = false) : fr2 t b = false := by
  cases t <;> first | rfl | cases h
theorem fr2_r {t b : PyData} (h : isW b = false) : fr2 t b = false := by
  cases t <;> cases b <;> first | rfl | cases h
theorem ok_frac (F : Fun K "is_fraction" "is_fraction" sFrac f fd) (T : Top mg) (G : Dn P w K mg base 1 "is_whole" rWhole) : FnOk P w K mg base CX0 2 f fd ["value"] (spD rFrac) := by
  refine okD F scFrac (by rintro _ _ _ _ ⟨v, rfl, _⟩; rfl) fun cdv A outer s0 H0 E C z as s₁ d s h => ?_
  obtain ⟨v, rfl, rfl, rfl⟩ := h
  have bad : (∀ xs, v ≠ .tuple xs) → SR (cxOf CX0 P w K mg base ["value", "top", "bottom"] "is_fraction" (defScope sFrac) f cdv A outer s0 H0 E).nox z (defBody sFrac) [.val v, .un, .un] s (.rt (.bool false) s) := fun hv =>
    sr_ifT (et_w (ew_orT (et_notT (et_val (ev_isi T.isi T.tuple (ev_var 0) (by rw [k_tuple]; cases v <;> first | rfl | exact absurd rfl (hv _))))))) (sr_ret ev_bl)
  have odd : ∀ xs, xs.length ≠ 2 → SR (cxOf CX0 P w K mg base ["value", "top", "bottom"] "is_fraction" (defScope sFrac) f cdv A outer s0 H0 E).nox z (defBody sFrac) [.val (.tuple xs), .un, .un] s (.rt (.bool false) s) := fun xs hx => by
    refine sr_ifT ?_ (sr_ret ev_bl)
    refine et_w (ew_orF (et_notF (et_val (ev_isi T.isi T.tuple (ev_var 0) (k_tuple (.tuple xs))))) (ew_or1 ?_))
    exact ET.is (et_neI C.hu (ev_bltn call_len rb_lenT T.len (ed_cons (ev_var 0) ed_nil)) ev_int) (by simp; omega)
  match v, bad with
  | .int i, bad => exact bad (fun _ h => by cases h)
  | .none, bad => exact bad (fun _ h => by cases h)
  | .bool _, bad => exact bad (fun _ h => by cases h)
  | .str _, bad => exact bad (fun _ h => by cases h)
  | .list _, bad => exact bad (fun _ h => by cases h)
  | .dict _, bad => exact bad (fun _ h => by cases h)
  | .tuple [], _ => exact odd _ (by simp)
  | .tuple [_], _ => exact odd _ (by simp)
  | .tuple (_ :: _ :: _ :: _), _ => exact odd _ (by simp)
  | .tuple [t, b], _ =>
    refine sr_ifF (et_w (ew_orF (et_notF (et_val (ev_isi T.isi T.tuple (ev_var 0) (k_tuple (.tuple [t, b]))))) (ew_or1 (ET.is (et_neI C.hu (ev_bltn call_len rb_lenT T.len (ed_cons (ev_var 0) ed_nil)) ev_int) rfl)))) ?_
    refine sr_unp2 1 2 C.calm C.nd (ev_var 0) ?_
    refine sr_ret ?_
    show EV _ _ _ _ _ (.bool (fr2 t b)) _
    cases ht : isW t with
    | false =>
      rw [fr2_l ht]
      exact ev_andF (ev_call G C.hr (ea_cons (ev_var 1) ea_nil) ⟨_, rfl, by rw [ht], rfl⟩)
    | true =>
      refine ev_andT (ev_call G C.hr (ea_cons (ev_var 1) ea_nil) ⟨_, rfl, by rw [ht], rfl⟩) ?_
      cases hb : isW b with
      | false =>
        rw [fr2_r hb]
        exact ev_andF (ev_call G C.hr (ea_cons (ev_var 2) ea_nil) ⟨_, rfl, by rw [hb], rfl⟩)
      | true =>
        refine ev_andT (ev_call G C.hr (ea_cons (ev_var 2) ea_nil) ⟨_, rfl, by rw [hb], rfl⟩) ?_
        obtain ⟨t, rfl⟩ := isW_int ht
        obtain ⟨b, rfl⟩ := isW_int hb
        exact ev_and (ev_ge (ev_var 2) ev_int) fun _ => ev_b1 (ev_eqI C.hu (ev_bfun cr_gcd rb_gcd T.gcd (ed_cons (ev_var 1) (ed_cons (ev_var 2) ed_nil))) ev_int)
end
end K2


set_option Elab.async false
set_option linter.all false
set_option maxRecDepth 100000
namespace K2
open PySem PySem.Spec PyProof.Rows L2 DL
variable [TabT]
/-! ### numbers -/
def num (v : PyData) : Bool := intg v || frac v
/-- v is the number t / b -/
inductive Nm : PyData → Int → Int → Prop
  | int {t : Int} : -(10 ^ 60) < t → t < 10 ^ 60 → Nm (.int t) t 1
  | fr {t b : Int} : 1 ≤ b → Nat.gcd t.natAbs b.natAbs = 1 → Nm (.tuple [.int t, .int b]) t b
theorem Nm.num {v : PyData} {t b : Int} (h : Nm v t b) : num v = true := by
  cases h with
  | int h1 h2 =>
    have : intg (.int t) = true := by
      simp only [intg, Bool.and_eq_true, decide_eq_true_eq]
      exact ⟨h1, h2⟩
    simp [K2.num, this]
  | fr h1 h2 =>
    have : frac (.tuple [.int t, .int b]) = true := by simp [frac, fr2, h1, h2]
    simp [K2.num, this]
theorem Nm.pos {v : PyData} {t b : Int} (h : Nm v t b) : 1 ≤ b := by
  cases h with
  | int h1 h2 => decide
  | fr h1 h2 => exact h1
theorem Nm.cop {v : PyData} {t b : Int} (h : Nm v t b) : Nat.gcd t.natAbs b.natAbs = 1 := by
  cases h with
  | int h1 h2 => simp
  | fr h1 h2 => exact h2
/-- of at most so many bits -/
def Bd (n : Nat) (t : Int) : Prop := t.natAbs < 2 ^ n
theorem Bd.mono {n m : Nat} {t : Int} (h : Bd n t) (k : n ≤ m) : Bd m t := Nat.lt_of_lt_of_le h (Nat.pow_le_pow_right (by decide) k)
theorem Bd.mul {n m : Nat} {t u : Int} (h : Bd n t) (k : Bd m u) : Bd (n + m) (t * u) := wide_lt h k
theorem Bd.add {n : Nat} {t u : Int} (h : Bd n t) (k : Bd n u) : Bd (n + 1) (t + u) := by
  unfold Bd at *
  have : (2 : Nat) ^ (n + 1) = 2 ^ n + 2 ^ n := by rw [Nat.pow_succ]; omega
  omega
theorem Bd.neg {n : Nat} {t : Int} (h : Bd n t) : Bd n (-t) := by
  unfold Bd at *
  omega
theorem Bd.sub {n : Nat} {t u : Int} (h : Bd n t) (k : Bd n u) : Bd (n + 1) (t - u) := by
  rw [Int.sub_eq_add_neg]
  exact h.add k.neg
theorem Bd.cmul {n m : Nat} {t u : Int} (h : Bd n t) (k : Bd m u) (hn : 0 < n := by decide) (hm : 0 < m := by decide) (hs : n + m ≤ 1000000 := by decide) : CMulW t u := wide_mul h k hn hm hs
theorem Bd.cdiv {n : Nat} {t u : Int} (h : Bd n u) (h0 : u ≠ 0) (hn : 0 < n := by decide) (hs : n ≤ 9000 := by decide) : CDivZ t u := ⟨h0, Nat.lt_of_lt_of_le (PySem.Flt.log2_lt_of hn h) hs⟩
/-- the quotient in lowest terms -/
def gq (t b : Int) : Int := if b < 0 then -((Nat.gcd t.natAbs b.natAbs : Nat) : Int) else ((Nat.gcd t.natAbs b.natAbs : Nat) : Int)
def frT (t b : Int) : Int := t.fdiv (gq t b)
def frB (t b : Int) : Int := b.fdiv (gq t b)
def frD (t b : Int) : PyData := .tuple [.int (frT t b), .int (frB t b)]
theorem gq_ne {t b : Int} (h : b ≠ 0) : gq t b ≠ 0 := by
  have : 0 < Nat.gcd t.natAbs b.natAbs := Nat.gcd_pos_of_pos_right _ (by omega)
  unfold gq
  split <;> omega
theorem gq_bd {n : Nat} {t b : Int} (h : b ≠ 0) (k : Bd n b) : Bd n (gq t b) := by
  have h1 : Nat.gcd t.natAbs b.natAbs ≤ b.natAbs := Nat.gcd_le_right _ (by omega)
  have h2 : (gq t b).natAbs = Nat.gcd t.natAbs b.natAbs := by
    unfold gq
    split <;> omega
  unfold Bd at *
  omega
section
variable {P : Program} {w : World} {K : PySem.W.Frag} {mg : Str → Option Value} {base : Heap} {f : Addr} {fd : FuncData}
abbrev sNumber : Stmt := top 16
theorem scNumber : FnScope ["value"] ["value"] (defScope sNumber) := ⟨rfl, rfl, rfl, by decide +kernel, rfl, by decide +kernel, by decide +kernel⟩
def rNumber : Rel := fun as s d s' => ∃ v, as = [.val v] ∧ d = .bool (num v) ∧ s' = s
theorem ok_number (F : Fun K "is_number" "is_number" sNumber f fd) (G1 : Dn P w K mg base 2 "is_integer" rInteger) (G2 : Dn P w K mg base 2 "is_fraction" rFrac) : FnOk P w K mg base CX0 3 f fd ["value"] (spD rNumber) := by
  refine okD F scNumber (by rintro _ _ _ _ ⟨v, rfl, _⟩; rfl) fun cdv A outer s0 H0 E C z as s₁ d s h => ?_
  obtain ⟨v, rfl, rfl, rfl⟩ := h
  refine sr_ret (ev_or (ev_call G1 C.hr (ea_cons (ev_var 0) ea_nil) ⟨_, rfl, rfl, rfl⟩) fun _ => ev_b1 (ev_call G2 C.hr (ea_cons (ev_var 0) ea_nil) ⟨_, rfl, rfl, rfl⟩))
abbrev sNeed : Stmt := top 17
theorem scNeed : FnScope ["value"] ["value"] (defScope sNeed) := ⟨rfl, rfl, rfl, by decide +kernel, rfl, by decide +kernel, by decide +kernel⟩
def rNeed : Rel := fun as s d s' => ∃ v, as = [.val v] ∧ num v = true ∧ d = .none ∧ s' = s
theorem ok_need (F : Fun K "need_number" "need_number" sNeed f fd) (G : Dn P w K mg base 3 "is_number" rNumber) : FnOk P w K mg base CX0 4 f fd ["value"] (spD rNeed) := by
  refine okN F scNeed (by rintro _ _ _ _ ⟨v, rfl, _⟩; rfl) fun cdv A outer s0 H0 E C z as s₁ d s h => ?_
  obtain ⟨v, rfl, hv, rfl, rfl⟩ := h
  refine ⟨rfl, _, sr_ifF (et_notF (et_val (ev_call G C.hr (ea_cons (ev_var 0) ea_nil) ⟨_, rfl, by rw [hv], rfl⟩))) sr_nil⟩
abbrev sPair : Stmt := top 18
theorem scPair : FnScope ["number"] ["number"] (defScope sPair) := ⟨rfl, rfl, rfl, by decide +kernel, rfl, by decide +kernel, by decide +kernel⟩
def rPair : Rel := fun as s d s' => ∃ v t b, as = [.val v] ∧ Nm v t b ∧ d = .tuple [.int t, .int b] ∧ s' = s
theorem ok_pair (F : Fun K "as_pair" "as_pair" sPair f fd) (T : Top mg) : FnOk P w K mg base CX0 1 f fd ["number"] (spD rPair) := by
  refine okD F scPair (by rintro _ _ _ _ ⟨v, t, b, rfl, _⟩; rfl) fun cdv A outer s0 H0 E C z as s₁ d s h => ?_
  obtain ⟨v, t, b, rfl, hv, rfl, rfl⟩ := h
  cases hv with
  | int h1 h2 =>
    refine sr_ifF (et_val (ev_isi T.isi T.tuple (ev_var 0) (k_tuple (.int t)))) ?_
    exact sr_ret (ev_tup (ed_cons (ev_var 0) (ed_cons ev_int ed_nil)))
  | fr h1 h2 =>
    refine sr_ifT (et_val (ev_isi T.isi T.tuple (ev_var 0) (k_tuple (.tuple [.int t, .int b])))) ?_
    exact sr_ret (ev_var 0)
abbrev sQuot : Stmt := top 19
theorem scQuot : FnScope ["top", "bottom", "divisor"] ["top", "bottom"] (defScope sQuot) := ⟨rfl, rfl, rfl, by decide +kernel, rfl, by decide +kernel, by decide +kernel⟩
def rQuot : Rel := fun as s d s' => ∃ t b, as = [.val (.int t), .val (.int b)] ∧ b ≠ 0 ∧ Bd 9000 b ∧ d = frD t b ∧ s' = s
theorem ok_quot (F : Fun K "fraction" "fraction" sQuot f fd) (T : Top mg) (G : Dn P w K mg base 1 "is_whole" rWhole) : FnOk P w K mg base CX0 2 f fd ["top", "bottom"] (spD rQuot) := by
  refine okD F scQuot (by rintro _ _ _ _ ⟨v, t, rfl, _⟩; rfl) fun cdv A outer s0 H0 E C z as s₁ d s h => ?_
  obtain ⟨t, b, rfl, hb, hB, rfl, rfl⟩ := h
  refine sr_ifF (et_notF (et_val (ev_call G C.hr (ea_cons (ev_var 0) ea_nil) ⟨_, rfl, rfl, rfl⟩))) ?_
  refine sr_ifF (et_w (ew_orF (et_notF (et_val (ev_call G C.hr (ea_cons (ev_var 1) ea_nil) ⟨_, rfl, rfl, rfl⟩))) (ew_or1 (ET.is (et_eqI C.hu (ev_var 1) ev_int) (by simp [hb]))))) ?_
  refine sr_asg 2 C.nd (ev_bfun cr_gcd rb_gcd T.gcd (ed_cons (ev_var 0) (ed_cons (ev_var 1) ed_nil))) ?_
  have fin : SR (cxOf CX0 P w K mg base ["top", "bottom", "divisor"] "fraction" (defScope sQuot) f cdv A outer s0 H0 E).nox z ((defBody sQuot).drop 4) [.val (.int t), .val (.int b), .val (.int (gq t b))] s (.rt (frD t b) s) := by
    refine sr_ret (ev_tup (ed_cons (ev_div ?_ (ev_var 0) (ev_var 2)) (ed_cons (ev_div ?_ (ev_var 1) (ev_var 2)) ed_nil)))
    · exact (gq_bd hb hB).cdiv (gq_ne hb)
    · exact (gq_bd hb hB).cdiv (gq_ne hb)
  by_cases h0 : b < 0
  · refine sr_ifTn (ET.is (et_lt (ev_var 1) ev_int) (decide_eq_true h0)) (sr_asg 2 C.nd (ev_neg (ev_var 2)) sr_nil) ?_
    have e : gq t b = -((Nat.gcd t.natAbs b.natAbs : Nat) : Int) := if_pos h0
    rw [e] at fin
    exact fin
  · refine sr_ifF (ET.is (et_lt (ev_var 1) ev_int) (decide_eq_false h0)) ?_
    have e : gq t b = ((Nat.gcd t.natAbs b.natAbs : Nat) : Int) := if_neg h0
    rw [e] at fin
    exact fin
abbrev sParts : Stmt := top 20
theorem scParts : FnScope ["one", "other"] ["one", "other"] (defScope sParts) := ⟨rfl, rfl, rfl, by decide +kernel, rfl, by decide +kernel, by decide +kernel⟩
def rParts : Rel := fun as s d s' => ∃ v w t b o u, as = [.val v, .val w] ∧ Nm v t b ∧ Nm w o u ∧ d = .tuple [.int t, .int b, .int o, .int u] ∧ s' = s
theorem ok_parts (F : Fun K "_parts" "_parts" sParts f fd) (G1 : Dn P w K mg base 4 "need_number" rNeed) (G2 : Dn P w K mg base 1 "as_pair" rPair) : FnOk P w K mg base CX0 5 f fd ["one", "other"] (spD rParts) := by
  refine okD F scParts (by rintro _ _ _ _ ⟨v, w, t, b, o, u, rfl, _⟩; rfl) fun cdv A outer s0 H0 E C z as s₁ d s h => ?_
  obtain ⟨v, w, t, b, o, u, rfl, hv, hw, rfl, rfl⟩ := h
  refine sr_expr (ev_call G1 C.hr (ea_cons (ev_var 0) ea_nil) ⟨_, rfl, hv.num, rfl, rfl⟩) ?_
  refine sr_expr (ev_call G1 C.hr (ea_cons (ev_var 1) ea_nil) ⟨_, rfl, hw.num, rfl, rfl⟩) ?_
  exact sr_ret (ev_catT (ds := [.int t, .int b]) (fs := [.int o, .int u]) (by simp) (by simp) (by simp) (ev_call G2 (C.hr.mono (by decide)) (ea_cons (ev_var 0) ea_nil) ⟨_, _, _, rfl, hv, rfl, rfl⟩) (ev_call G2 (C.hr.mono (by decide)) (ea_cons (ev_var 1) ea_nil) ⟨_, _, _, rfl, hw, rfl, rfl⟩))
/-- two numbers of at most 3000 bits -/
structure Two (v w : PyData) (t b o u : Int) : Prop where
  v : Nm v t b
  w : Nm w o u
  t : Bd 3000 t
  b : Bd 3000 b
  o : Bd 3000 o
  u : Bd 3000 u
def N4 : List Str := ["one", "other", "top", "bottom", "over", "under"]
abbrev sAdded : Stmt := top 21
theorem scAdded : FnScope ["one", "other", "top", "bottom", "over", "under"] ["one", "other"] (defScope sAdded) := ⟨rfl, rfl, rfl, by decide +kernel, rfl, by decide +kernel, by decide +kernel⟩
def rAdded : Rel := fun as s d s' => ∃ v w t b o u, as = [.val v, .val w] ∧ Two v w t b o u ∧ d = frD (t * u + o * b) (b * u) ∧ s' = s
theorem mul_ne {b u : Int} (hb : 1 ≤ b) (hu : 1 ≤ u) : b * u ≠ 0 := Int.mul_ne_zero (by omega) (by omega)
theorem ok_added (F : Fun K "added" "added" sAdded f fd) (G1 : Dn P w K mg base 5 "_parts" rParts) (G2 : Dn P w K mg base 2 "fraction" rQuot) : FnOk P w K mg base CX0 6 f fd ["one", "other"] (spD rAdded) := by
  refine okD F scAdded (by rintro _ _ _ _ ⟨v, w, t, b, o, u, rfl, _⟩; rfl) fun cdv A outer s0 H0 E C z as s₁ d s h => ?_
  obtain ⟨v, w, t, b, o, u, rfl, B, rfl, rfl⟩ := h
  refine sr_unp4 2 3 4 5 C.calm C.nd (ev_call G1 C.hr (ea_cons (ev_var 0) (ea_cons (ev_var 1) ea_nil)) ⟨_, _, _, _, _, _, rfl, B.v, B.w, rfl, rfl⟩) ?_
  exact sr_ret (ev_call G2 (C.hr.mono (by decide)) (ea_cons (ev_add (ev_mul (B.t.cmul B.u) (ev_var 2) (ev_var 5)) (ev_mul (B.o.cmul B.b) (ev_var 4) (ev_var 3))) (ea_cons (ev_mul (B.b.cmul B.u) (ev_var 3) (ev_var 5)) ea_nil)) ⟨_, _, rfl, mul_ne B.v.pos B.w.pos, (B.b.mul B.u).mono (by decide), rfl, rfl⟩)
abbrev sLess : Stmt := top 22
theorem scLess : FnScope ["one", "other", "top", "bottom", "over", "under"] ["one", "other"] (defScope sLess) := ⟨rfl, rfl, rfl, by decide +kernel, rfl, by decide +kernel, by decide +kernel⟩
def rLess : Rel := fun as s d s' => ∃ v w t b o u, as = [.val v, .val w] ∧ Two v w t b o u ∧ d = frD (t * u - o * b) (b * u) ∧ s' = s
theorem ok_less (F : Fun K "less" "less" sLess f fd) (G1 : Dn P w K mg base 5 "_parts" rParts) (G2 : Dn P w K mg base 2 "fraction" rQuot) : FnOk P w K mg base CX0 6 f fd ["one", "other"] (spD rLess) := by
  refine okD F scLess (by rintro _ _ _ _ ⟨v, w, t, b, o, u, rfl, _⟩; rfl) fun cdv A outer s0 H0 E C z as s₁ d s h => ?_
  obtain ⟨v, w, t, b, o, u, rfl, B, rfl, rfl⟩ := h
  refine sr_unp4 2 3 4 5 C.calm C.nd (ev_call G1 C.hr (ea_cons (ev_var 0) (ea_cons (ev_var 1) ea_nil)) ⟨_, _, _, _, _, _, rfl, B.v, B.w, rfl, rfl⟩) ?_
  exact sr_ret (ev_call G2 (C.hr.mono (by decide)) (ea_cons (ev_sub (ev_mul (B.t.cmul B.u) (ev_var 2) (ev_var 5)) (ev_mul (B.o.cmul B.b) (ev_var 4) (ev_var 3))) (ea_cons (ev_mul (B.b.cmul B.u) (ev_var 3) (ev_var 5)) ea_nil)) ⟨_, _, rfl, mul_ne B.v.pos B.w.pos, (B.b.mul B.u).mono (by decide), rfl, rfl⟩)
abbrev sMult : Stmt := top 23
theorem scMult : FnScope ["one", "other", "top", "bottom", "over", "under"] ["one", "other"] (defScope sMult) := ⟨rfl, rfl, rfl, by decide +kernel, rfl, by decide +kernel, by decide +kernel⟩
def rMult : Rel := fun as s d s' => ∃ v w t b o u, as = [.val v, .val w] ∧ Two v w t b o u ∧ d = frD (t * o) (b * u) ∧ s' = s
theorem ok_mult (F : Fun K "multiplied" "multiplied" sMult f fd) (G1 : Dn P w K mg base 5 "_parts" rParts) (G2 : Dn P w K mg base 2 "fraction" rQuot) : FnOk P w K mg base CX0 6 f fd ["one", "other"] (spD rMult) := by
  refine okD F scMult (by rintro _ _ _ _ ⟨v, w, t, b, o, u, rfl, _⟩; rfl) fun cdv A outer s0 H0 E C z as s₁ d s h => ?_
  obtain ⟨v, w, t, b, o, u, rfl, B, rfl, rfl⟩ := h
  refine sr_unp4 2 3 4 5 C.calm C.nd (ev_call G1 C.hr (ea_cons (ev_var 0) (ea_cons (ev_var 1) ea_nil)) ⟨_, _, _, _, _, _, rfl, B.v, B.w, rfl, rfl⟩) ?_
  exact sr_ret (ev_call G2 (C.hr.mono (by decide)) (ea_cons (ev_mul (B.t.cmul B.o) (ev_var 2) (ev_var 4)) (ea_cons (ev_mul (B.b.cmul B.u) (ev_var 3) (ev_var 5)) ea_nil)) ⟨_, _, rfl, mul_ne B.v.pos B.w.pos, (B.b.mul B.u).mono (by decide), rfl, rfl⟩)
abbrev sDivd : Stmt := top 24
theorem scDivd : FnScope ["one", "other", "top", "bottom", "over", "under"] ["one", "other"] (defScope sDivd) := ⟨rfl, rfl, rfl, by decide +kernel, rfl, by decide +kernel, by decide +kernel⟩
def rDivd : Rel := fun as s d s' => ∃ v w t b o u, as = [.val v, .val w] ∧ Two v w t b o u ∧ o ≠ 0 ∧ d = frD (t * u) (b * o) ∧ s' = s
theorem ok_divd (F : Fun K "divided" "divided" sDivd f fd) (G1 : Dn P w K mg base 5 "_parts" rParts) (G2 : Dn P w K mg base 2 "fraction" rQuot) : FnOk P w K mg base CX0 6 f fd ["one", "other"] (spD rDivd) := by
  refine okD F scDivd (by rintro _ _ _ _ ⟨v, w, t, b, o, u, rfl, _⟩; rfl) fun cdv A outer s0 H0 E C z as s₁ d s h => ?_
  obtain ⟨v, w, t, b, o, u, rfl, B, ho, rfl, rfl⟩ := h
  have hb := B.v.pos
  refine sr_unp4 2 3 4 5 C.calm C.nd (ev_call G1 C.hr (ea_cons (ev_var 0) (ea_cons (ev_var 1) ea_nil)) ⟨_, _, _, _, _, _, rfl, B.v, B.w, rfl, rfl⟩) ?_
  refine sr_ifF (ET.is (et_eqI C.hu (ev_var 4) ev_int) (decide_eq_false ho)) ?_
  exact sr_ret (ev_call G2 (C.hr.mono (by decide)) (ea_cons (ev_mul (B.t.cmul B.u) (ev_var 2) (ev_var 5)) (ea_cons (ev_mul (B.b.cmul B.o) (ev_var 3) (ev_var 4)) ea_nil)) ⟨_, _, rfl, Int.mul_ne_zero (by omega) ho, (B.b.mul B.o).mono (by decide), rfl, rfl⟩)
abbrev sComp : Stmt := top 25
theorem scComp : FnScope ["one", "other", "top"] ["one", "other"] (defScope sComp) := ⟨rfl, rfl, rfl, by decide +kernel, rfl, by decide +kernel, by decide +kernel⟩
def sgn (i : Int) : Int := if i < 0 then -1 else if 0 < i then 1 else 0
def rComp : Rel := fun as s d s' => ∃ v w t b o u, as = [.val v, .val w] ∧ Two v w t b o u ∧ d = .int (sgn (frT (t * u - o * b) (b * u))) ∧ s' = s
theorem ok_comp (F : Fun K "compared" "compared" sComp f fd) (G1 : Dn P w K mg base 6 "less" rLess) : FnOk P w K mg base CX0 7 f fd ["one", "other"] (spD rComp) := by
  refine okD F scComp (by rintro _ _ _ _ ⟨v, w, t, b, o, u, rfl, _⟩; rfl) fun cdv A outer s0 H0 E C z as s₁ d s h => ?_
  obtain ⟨v, w, t, b, o, u, rfl, B, rfl, rfl⟩ := h
  refine sr_asg 2 C.nd (ev_ixT (i := 0) (ev_call G1 C.hr (ea_cons (ev_var 0) (ea_cons (ev_var 1) ea_nil)) ⟨_, _, _, _, _, _, rfl, B, rfl, rfl⟩) ev_int (atI_nat (j := 0) rfl)) ?_
  generalize frT (t * u - o * b) (b * u) = i
  unfold sgn
  by_cases h1 : i < 0
  · rw [if_pos h1]
    exact sr_ifT (ET.is (et_lt (ev_var 2) ev_int) (decide_eq_true h1)) (sr_ret (ev_neg ev_int))
  · rw [if_neg h1]
    refine sr_ifF (ET.is (et_lt (ev_var 2) ev_int) (decide_eq_false h1)) ?_
    by_cases h2 : 0 < i
    · rw [if_pos h2]
      exact sr_ifT (ET.is (et_gt (ev_var 2) ev_int) (decide_eq_true h2)) (sr_ret ev_int)
    · rw [if_neg h2]
      exact sr_ifF (ET.is (et_gt (ev_var 2) ev_int) (decide_eq_false h2)) (sr_ret ev_int)
end
end K2


set_option Elab.async false
set_option linter.all false
set_option maxRecDepth 100000
namespace K2
open PySem PySem.Spec PyProof.Rows L2 DL
variable [TabT]
/-! ### powers -/
theorem bd_pow {w : Int} {n : Nat} (h : Bd n w) (a : Nat) : Bd (n * a + 1) (w ^ a) := by
  unfold Bd at *
  rw [Int.natAbs_pow]
  have h1 : w.natAbs ^ a ≤ (2 ^ n) ^ a := Nat.pow_le_pow_left (Nat.le_of_lt h) a
  rw [← Nat.pow_mul] at h1
  have h2 : (2 : Nat) ^ (n * a) < 2 ^ (n * a + 1) := Nat.pow_lt_pow_right (by decide) (by omega)
  omega
theorem bd_pow8 {w : Int} (h : Bd 3000 w) {a : Nat} (ha : a ≤ 8) : Bd 24001 (w ^ a) := (bd_pow h a).mono (by omega)
structure Top2 (mg : Str → Option Value) : Prop where
  raised : ∃ t, mg "MAX_RAISED" = some (.int 1000 t)
  chosen : ∃ t, mg "MAX_CHOSEN" = some (.int 1000 t)
  text : ∃ t, mg "MAX_TEXT" = some (.int 400 t)
  isqrt : mg "isqrt" = some (.builtin "math.isqrt")
  comb : mg "comb" = some (.builtin "math.comb")
/-- the product of 1 to n -/
def fct : Nat → Int
  | 0 => 1
  | n + 1 => fct n * ((n : Int) + 1)
theorem fct_bd : ∀ n : Nat, n ≤ 1000 → Bd (10 * n + 1) (fct n)
  | 0, _ => by
    unfold Bd fct
    decide
  | n + 1, h => by
    have ih := fct_bd n (by omega)
    have h1 : Bd 10 ((n : Int) + 1) := by
      unfold Bd
      have : ((n : Int) + 1).natAbs = n + 1 := by omega
      rw [this]
      show n + 1 < 1024
      omega
    have := ih.mul h1
    rw [show 10 * (n + 1) + 1 = 10 * n + 1 + 10 by omega]
    exact this
theorem fct_pos : ∀ n : Nat, 0 < fct n
  | 0 => by decide
  | n + 1 => Int.mul_pos (fct_pos n) (by omega)
section
variable {P : Program} {w : World} {K : PySem.W.Frag} {mg : Str → Option Value} {base : Heap} {f : Addr} {fd : FuncData}
abbrev sRaised : Stmt := top 26
theorem scRaised : FnScope ["whole", "many", "product", "square", "left"] ["whole", "many"] (defScope sRaised) := ⟨rfl, rfl, rfl, by decide +kernel, rfl, by decide +kernel, by decide +kernel⟩
def rRaised : Rel := fun as s d s' => ∃ (x : Int) (m : Nat), as = [.val (.int x), .val (.int (m : Int))] ∧ m ≤ 8 ∧ Bd 3000 x ∧ d = .int (x ^ m) ∧ s' = s
theorem ok_raised (F : Fun K "raised" "raised" sRaised f fd) : FnOk P w K mg base CX0 1 f fd ["whole", "many"] (spD rRaised) := by
  refine okD F scRaised (by rintro _ _ _ _ ⟨x, m, rfl, _⟩; rfl) fun cdv A outer s0 H0 E C z as s₁ d s h => ?_
  obtain ⟨x, m, rfl, hm, hx, rfl, rfl⟩ := h
  refine sr_asg 2 C.nd ev_int (sr_asg 3 C.nd (ev_var 0) (sr_asg 4 C.nd (ev_var 1) ?_))
  refine sr_whileW C.hp (fun l es s' => s' = s ∧ ∃ (a b : Nat) (q : Sl), es = [.val (.int x), .val (.int (m : Int)), .val (.int (x ^ a)), q, .val (.int (l : Int))] ∧ a + b * l = m ∧ (0 < l → q = .val (.int (x ^ b)) ∧ 0 < b)) (m0 := m)
    ⟨rfl, 0, 1, .val (.int x), by rw [Int.pow_zero]; rfl, by omega, fun _ => ⟨by rw [Int.pow_one], by decide⟩⟩ ?_
  rintro l es s' ⟨rfl, a, b, q, rfl, hs, hq⟩
  by_cases hl : 0 < l
  · right
    obtain ⟨rfl, hb⟩ := hq hl
    have bl : b ≤ b * l := Nat.le_mul_of_pos_right _ hl
    have h2 : ((l : Int)).fmod 2 = ((l % 2 : Nat) : Int) := by
      rw [Int.fmod_eq_emod_of_nonneg _ (by decide)]
      rfl
    have h3 : ((l : Int)).fdiv 2 = ((l / 2 : Nat) : Int) := by
      rw [Int.fdiv_eq_ediv_of_nonneg _ (by decide)]
      rfl
    refine ⟨ET.is (et_gt (ev_var 4) ev_int) (decide_eq_true (by omega)), ?_⟩
    -- the product's step
    obtain ⟨a', ha', step⟩ : ∃ a' : Nat, a' + (b + b) * (l / 2) = m ∧ ∀ o, SR (cxOf CX0 P w K mg base ["whole", "many", "product", "square", "left"] "raised" (defScope sRaised) f cdv A outer s0 H0 E).nox z ((loopB (defBody sRaised)[3]?).drop 1) [.val (.int x), .val (.int (m : Int)), .val (.int (x ^ a')), .val (.int (x ^ b)), .val (.int (l : Int))] s' o →
        SR (cxOf CX0 P w K mg base ["whole", "many", "product", "square", "left"] "raised" (defScope sRaised) f cdv A outer s0 H0 E).nox z (loopB (defBody sRaised)[3]?) [.val (.int x), .val (.int (m : Int)), .val (.int (x ^ a)), .val (.int (x ^ b)), .val (.int (l : Int))] s' o := by
      by_cases ho : l % 2 = 1
      · refine ⟨a + b, ?_, fun o k => ?_⟩
        · have e1 : l = 2 * (l / 2) + 1 := by omega
          have e2 : b * l = b * (2 * (l / 2)) + b := by
            conv => lhs; rw [e1]
            rw [Nat.mul_add, Nat.mul_one]
          have e3 : b * (2 * (l / 2)) = (b + b) * (l / 2) := by rw [← Nat.mul_assoc, Nat.mul_two]
          omega
        · have e4 : b + a ≤ 8 := by omega
          refine sr_ifTn (ET.is (et_eqI C.hu (ev_mod (by decide) (ev_var 4) ev_int) ev_int) (decide_eq_true (by rw [h2, ho]; rfl))) (sr_asg 2 C.nd (ev_mul ((bd_pow8 hx (a := a) (by omega)).cmul (bd_pow8 hx (a := b) (by omega))) (ev_var 2) (ev_var 3)) sr_nil) ?_
          rw [← Int.pow_add]
          exact k
      · refine ⟨a, ?_, fun o k => ?_⟩
        · have e1 : l = 2 * (l / 2) := by omega
          have e2 : b * l = b * (2 * (l / 2)) := congrArg (b * ·) e1
          have e3 : b * (2 * (l / 2)) = (b + b) * (l / 2) := by rw [← Nat.mul_assoc, Nat.mul_two]
          omega
        · exact sr_ifF (ET.is (et_eqI C.hu (ev_mod (by decide) (ev_var 4) ev_int) ev_int) (decide_eq_false (by rw [h2]; omega))) k
    by_cases hh : 0 < l / 2
    · refine ⟨[.val (.int x), .val (.int (m : Int)), .val (.int (x ^ a')), .val (.int (x ^ (b + b))), .val (.int ((l / 2 : Nat) : Int))], s', l / 2, by omega, ⟨rfl, a', b + b, _, rfl, ha', fun _ => ⟨rfl, by omega⟩⟩, step _ ?_⟩
      have e5 : (b + b) ≤ (b + b) * (l / 2) := Nat.le_mul_of_pos_right _ hh
      refine sr_asg 4 C.nd (ev_div ⟨by decide, by decide⟩ (ev_var 4) ev_int) ?_
      rw [h3]
      refine sr_ifTn (ET.is (et_gt (ev_var 4) ev_int) (decide_eq_true (by omega))) (sr_asg 3 C.nd (ev_mul ((bd_pow8 hx (a := b) (by omega)).cmul (bd_pow8 hx (a := b) (by omega))) (ev_var 3) (ev_var 3)) sr_nil) ?_
      rw [← Int.pow_add]
      exact sr_nil
    · refine ⟨[.val (.int x), .val (.int (m : Int)), .val (.int (x ^ a')), .val (.int (x ^ b)), .val (.int ((l / 2 : Nat) : Int))], s', l / 2, by omega, ⟨rfl, a', b + b, _, rfl, ha', fun h => absurd h hh⟩, step _ ?_⟩
      refine sr_asg 4 C.nd (ev_div ⟨by decide, by decide⟩ (ev_var 4) ev_int) ?_
      rw [h3]
      refine sr_ifF (ET.is (et_gt (ev_var 4) ev_int) (decide_eq_false (by omega))) ?_
      exact sr_nil
  · left
    have e0 : l = 0 := by omega
    subst e0
    have ea : a = m := by omega
    subst ea
    exact ⟨ET.is (et_gt (ev_var 4) ev_int) (decide_eq_false (by decide)), sr_ret (ev_var 2)⟩
abbrev sPower : Stmt := top 27
theorem scPower : FnScope ["number", "many", "top", "bottom"] ["number", "many"] (defScope sPower) := ⟨rfl, rfl, rfl, by decide +kernel, rfl, by decide +kernel, by decide +kernel⟩
/-- what power_of gives -/
def pwD (t b m : Int) : PyData :=
  if 0 ≤ m then .tuple [.int (t ^ m.toNat), .int (b ^ m.toNat)]
  else if t < 0 then .tuple [.int ((-b) ^ (-m).toNat), .int ((-t) ^ (-m).toNat)] else .tuple [.int (b ^ (-m).toNat), .int (t ^ (-m).toNat)]
def rPower : Rel := fun as s d s' => ∃ v t b m, as = [.val v, .val (.int m)] ∧ Nm v t b ∧ Bd 3000 t ∧ Bd 3000 b ∧ -8 ≤ m ∧ m ≤ 8 ∧ (m < 0 → t ≠ 0) ∧ d = pwD t b m ∧ s' = s
theorem ok_power (F : Fun K "power_of" "power_of" sPower f fd) (T : Top2 mg) (G1 : Dn P w K mg base 4 "need_number" rNeed) (G2 : Dn P w K mg base 2 "is_between" rBetween) (G3 : Dn P w K mg base 1 "as_pair" rPair) (G4 : Dn P w K mg base 1 "raised" rRaised) : FnOk P w K mg base CX0 5 f fd ["number", "many"] (spD rPower) := by
  refine okD F scPower (by rintro _ _ _ _ ⟨v, t, b, m, rfl, _⟩; rfl) fun cdv A outer s0 H0 E C z as s₁ d s h => ?_
  obtain ⟨v, t, b, m, rfl, hv, ht, hb, m0, m1, mt, rfl, rfl⟩ := h
  obtain ⟨tr, hr⟩ := T.raised
  refine sr_expr (ev_call G1 C.hr (ea_cons (ev_var 0) ea_nil) ⟨_, rfl, hv.num, rfl, rfl⟩) ?_
  refine sr_ifF (et_notF (et_val (ev_call G2 (C.hr.mono (by decide)) (ea_cons (ev_var 1) (ea_cons (ev_neg (ev_glob rfl hr ⟨tr, rfl⟩)) (ea_cons (ev_glob rfl hr ⟨tr, rfl⟩) ea_nil))) ⟨_, _, _, rfl, ?_, rfl⟩))) ?_
  · simp only [btw]
    rw [decide_eq_true (by omega : (-1000 : Int) ≤ m), decide_eq_true (by omega : m ≤ 1000)]
    rfl
  refine sr_unp2 2 3 C.calm C.nd (ev_call G3 (C.hr.mono (by decide)) (ea_cons (ev_var 0) ea_nil) ⟨_, _, _, rfl, hv, rfl, rfl⟩) ?_
  unfold pwD
  by_cases h0 : 0 ≤ m
  · rw [if_pos h0]
    refine sr_ifT (ET.is (et_ge (ev_var 1) ev_int) (decide_eq_true h0)) (sr_ret (ev_tup (ed_cons (ev_call G4 (C.hr.mono (by decide)) (ea_cons (ev_var 2) (ea_cons (ev_var 1) ea_nil)) ⟨t, m.toNat, by rw [Int.toNat_of_nonneg h0], by omega, ht, rfl, rfl⟩) (ed_cons (ev_call G4 (C.hr.mono (by decide)) (ea_cons (ev_var 3) (ea_cons (ev_var 1) ea_nil)) ⟨b, m.toNat, by rw [Int.toNat_of_nonneg h0], by omega, hb, rfl, rfl⟩) ed_nil))))
  · rw [if_neg h0]
    have hn : 0 ≤ -m := by omega
    have t0 := mt (by omega)
    refine sr_ifF (ET.is (et_ge (ev_var 1) ev_int) (decide_eq_false h0)) ?_
    refine sr_ifF (ET.is (et_eqI C.hu (ev_var 2) ev_int) (decide_eq_false t0)) ?_
    by_cases h1 : t < 0
    · rw [if_pos h1]
      refine sr_ifT (ET.is (et_lt (ev_var 2) ev_int) (decide_eq_true h1)) (sr_ret (ev_tup (ed_cons (ev_call G4 (C.hr.mono (by decide)) (ea_cons (ev_neg (ev_var 3)) (ea_cons (ev_neg (ev_var 1)) ea_nil)) ⟨-b, (-m).toNat, by rw [Int.toNat_of_nonneg hn], by omega, hb.neg, rfl, rfl⟩) (ed_cons (ev_call G4 (C.hr.mono (by decide)) (ea_cons (ev_neg (ev_var 2)) (ea_cons (ev_neg (ev_var 1)) ea_nil)) ⟨-t, (-m).toNat, by rw [Int.toNat_of_nonneg hn], by omega, ht.neg, rfl, rfl⟩) ed_nil))))
    · rw [if_neg h1]
      refine sr_ifF (ET.is (et_lt (ev_var 2) ev_int) (decide_eq_false h1)) (sr_ret (ev_tup (ed_cons (ev_call G4 (C.hr.mono (by decide)) (ea_cons (ev_var 3) (ea_cons (ev_neg (ev_var 1)) ea_nil)) ⟨b, (-m).toNat, by rw [Int.toNat_of_nonneg hn], by omega, hb, rfl, rfl⟩) (ed_cons (ev_call G4 (C.hr.mono (by decide)) (ea_cons (ev_var 2) (ea_cons (ev_neg (ev_var 1)) ea_nil)) ⟨t, (-m).toNat, by rw [Int.toNat_of_nonneg hn], by omega, ht, rfl, rfl⟩) ed_nil))))
abbrev sRoot : Stmt := top 28
theorem scRoot : FnScope ["number", "top", "bottom", "over", "under"] ["number"] (defScope sRoot) := ⟨rfl, rfl, rfl, by decide +kernel, rfl, by decide +kernel, by decide +kernel⟩
def sqI (t : Int) : Int := ((Float64.isqrt t.toNat : Nat) : Int)
def rtD (t b : Int) : PyData := if t < 0 then .none else if sqI t * sqI t = t ∧ sqI b * sqI b = b then .tuple [.int (sqI t), .int (sqI b)] else .none
def rRoot : Rel := fun as s d s' => ∃ v t b, as = [.val v] ∧ Nm v t b ∧ Bd 6000 t ∧ Bd 6000 b ∧ d = rtD t b ∧ s' = s
theorem sq_le (n : Nat) : Float64.isqrt n ≤ n := by
  have h := (PySem.Float64.isqrt_spec n).1
  exact Nat.le_trans (Nat.le_mul_self _) h
theorem sq_bd {t : Int} {n : Nat} (h0 : 0 ≤ t) (h : Bd n t) : Bd n (sqI t) := by
  have := sq_le t.toNat
  unfold Bd sqI at *
  omega
theorem ok_root (F : Fun K "root_of" "root_of" sRoot f fd) (T : Top2 mg) (G1 : Dn P w K mg base 4 "need_number" rNeed) (G3 : Dn P w K mg base 1 "as_pair" rPair) : FnOk P w K mg base CX0 5 f fd ["number"] (spD rRoot) := by
  refine okD F scRoot (by rintro _ _ _ _ ⟨v, t, b, rfl, _⟩; rfl) fun cdv A outer s0 H0 E C z as s₁ d s h => ?_
  obtain ⟨v, t, b, rfl, hv, ht, hb, rfl, rfl⟩ := h
  have b1 := hv.pos
  refine sr_expr (ev_call G1 C.hr (ea_cons (ev_var 0) ea_nil) ⟨_, rfl, hv.num, rfl, rfl⟩) ?_
  refine sr_unp2 1 2 C.calm C.nd (ev_call G3 (C.hr.mono (by decide)) (ea_cons (ev_var 0) ea_nil) ⟨_, _, _, rfl, hv, rfl, rfl⟩) ?_
  unfold rtD
  by_cases h0 : t < 0
  · rw [if_pos h0]
    exact sr_ifT (ET.is (et_lt (ev_var 1) ev_int) (decide_eq_true h0)) (sr_ret ev_non)
  · rw [if_neg h0]
    have lg : ∀ {x : Int}, Bd 6000 x → x.natAbs.log2 < 13000 := fun h => Nat.lt_of_lt_of_le (PySem.Flt.log2_lt_of (by decide) h) (by decide)
    have B1 : Bd 6000 (sqI t) := sq_bd (by omega) ht
    have B2 : Bd 6000 (sqI b) := sq_bd (by omega) hb
    refine sr_ifF (ET.is (et_lt (ev_var 1) ev_int) (decide_eq_false h0)) ?_
    refine sr_par 3 4 C.calm C.nd (ed_cons (ev_bfun cr_isqrt (rb_sqrt (by omega) (lg ht)) T.isqrt (ed_cons (ev_var 1) ed_nil)) (ed_cons (ev_bfun cr_isqrt (rb_sqrt (by omega) (lg hb)) T.isqrt (ed_cons (ev_var 2) ed_nil)) ed_nil)) ?_
    have X1 : CMulW (sqI t) (sqI t) := B1.cmul B1
    have X2 : CMulW (sqI b) (sqI b) := B2.cmul B2
    by_cases h1 : sqI t * sqI t = t
    · by_cases h2 : sqI b * sqI b = b
      · rw [if_pos ⟨h1, h2⟩]
        exact sr_ifF (et_w (ew_orF (ET.is (et_neI C.hu (ev_mul X1 (ev_var 3) (ev_var 3)) (ev_var 1)) (by simp [h1])) (ew_or1 (ET.is (et_neI C.hu (ev_mul X2 (ev_var 4) (ev_var 4)) (ev_var 2)) (by simp [h2]))))) (sr_ret (ev_tup (ed_cons (ev_var 3) (ed_cons (ev_var 4) ed_nil))))
      · rw [if_neg (fun h => h2 h.2)]
        exact sr_ifT (et_w (ew_orF (ET.is (et_neI C.hu (ev_mul X1 (ev_var 3) (ev_var 3)) (ev_var 1)) (by simp [h1])) (ew_or1 (ET.is (et_neI C.hu (ev_mul X2 (ev_var 4) (ev_var 4)) (ev_var 2)) (by simp [h2]))))) (sr_ret ev_non)
    · rw [if_neg (fun h => h1 h.1)]
      exact sr_ifT (et_w (ew_orT (ET.is (et_neI C.hu (ev_mul X1 (ev_var 3) (ev_var 3)) (ev_var 1)) (by simp [h1])))) (sr_ret ev_non)
abbrev sFloor : Stmt := top 29
theorem scFloor : FnScope ["number", "top", "bottom"] ["number"] (defScope sFloor) := ⟨rfl, rfl, rfl, by decide +kernel, rfl, by decide +kernel, by decide +kernel⟩
def rFloor : Rel := fun as s d s' => ∃ v t b, as = [.val v] ∧ Nm v t b ∧ Bd 3000 b ∧ d = .int (t / b) ∧ s' = s
theorem ok_floor (F : Fun K "floor_of" "floor_of" sFloor f fd) (G1 : Dn P w K mg base 4 "need_number" rNeed) (G3 : Dn P w K mg base 1 "as_pair" rPair) : FnOk P w K mg base CX0 5 f fd ["number"] (spD rFloor) := by
  refine okD F scFloor (by rintro _ _ _ _ ⟨v, t, b, rfl, _⟩; rfl) fun cdv A outer s0 H0 E C z as s₁ d s h => ?_
  obtain ⟨v, t, b, rfl, hv, hb, rfl, rfl⟩ := h
  have b1 := hv.pos
  refine sr_expr (ev_call G1 C.hr (ea_cons (ev_var 0) ea_nil) ⟨_, rfl, hv.num, rfl, rfl⟩) ?_
  refine sr_unp2 1 2 C.calm C.nd (ev_call G3 (C.hr.mono (by decide)) (ea_cons (ev_var 0) ea_nil) ⟨_, _, _, rfl, hv, rfl, rfl⟩) ?_
  exact sr_ret (EV.is (ev_div (hb.cdiv (by omega)) (ev_var 1) (ev_var 2)) (by rw [Int.fdiv_eq_ediv_of_nonneg _ (by omega)]))
abbrev sFact : Stmt := top 30
theorem scFact : FnScope ["number", "product", "factor"] ["number"] (defScope sFact) := ⟨rfl, rfl, rfl, by decide +kernel, rfl, by decide +kernel, by decide +kernel⟩
def rFact : Rel := fun as s d s' => ∃ n : Nat, as = [.val (.int (n : Int))] ∧ n ≤ 1000 ∧ d = .int (fct n) ∧ s' = s
theorem fct_last (n : Nat) : fct (((n : Int) + 1 - 2).toNat + 1) = fct n := by
  match n with
  | 0 => decide
  | n + 1 => congr 1; omega
theorem fct_step (i : Nat) : fct (i + 1) * (2 + (i : Int)) = fct (i + 1 + 1) := by
  show _ = fct (i + 1) * (((i + 1 : Nat) : Int) + 1)
  congr 1
  omega
theorem ok_fact (F : Fun K "factorial" "factorial" sFact f fd) (TT : Top mg) (T : Top2 mg) (G2 : Dn P w K mg base 2 "is_between" rBetween) : FnOk P w K mg base CX0 3 f fd ["number"] (spD rFact) := by
  refine okD F scFact (by rintro _ _ _ _ ⟨n, rfl, _⟩; rfl) fun cdv A outer s0 H0 E C z as s₁ d s h => ?_
  obtain ⟨n, rfl, hn, rfl, rfl⟩ := h
  obtain ⟨tc, hc⟩ := T.chosen
  refine sr_ifF (et_notF (et_val (ev_call G2 C.hr (ea_cons (ev_var 0) (ea_cons ev_int (ea_cons (ev_glob rfl hc ⟨tc, rfl⟩) ea_nil))) ⟨_, _, _, rfl, ?_, rfl⟩))) ?_
  · simp only [btw]
    rw [decide_eq_true (by omega : (0 : Int) ≤ (n : Int)), decide_eq_true (by omega : (n : Int) ≤ 1000)]
    rfl
  refine sr_asg 1 C.nd ev_int ?_
  refine sr_for2 2 C.hp C.calm C.nd TT.range (ed_cons ev_int (ed_cons (ev_add (ev_var 0) ev_int) ed_nil)) (by decide) (by omega) (by omega) (fun i => [.val (.int (n : Int)), .val (.int (fct (i + 1))), .un]) (fun _ => s) (.same (.same (.un .nil))) rfl (fun i hi => ?_) ?_
  · have hB : CMulW (fct (i + 1)) (2 + (i : Int)) := by
      have h1 := fct_bd (i + 1) (by omega)
      have h2 : Bd 20 (2 + (i : Int)) := by
        unfold Bd
        have : (2 + (i : Int)).natAbs = i + 2 := by omega
        rw [this]
        show i + 2 < 1048576
        omega
      exact (h1.mono (show 10 * (i + 1) + 1 ≤ 20000 by omega)).cmul h2
    refine sr_asg 1 C.nd (ev_mul hB (ev_var 1) (ev_var 2)) ?_
    rw [fct_step]
    exact sr_le sr_nil (.same (.same (.un .nil)))
  · show SR _ _ _ [.val (.int (n : Int)), .val (.int (fct (((n : Int) + 1 - 2).toNat + 1))), .un] _ _
    rw [fct_last]
    exact sr_ret (ev_var 1)
abbrev sBinom : Stmt := top 31
theorem scBinom : FnScope ["top", "low"] ["top", "low"] (defScope sBinom) := ⟨rfl, rfl, rfl, by decide +kernel, rfl, by decide +kernel, by decide +kernel⟩
def rBinom : Rel := fun as s d s' => ∃ n k : Int, as = [.val (.int n), .val (.int k)] ∧ 0 ≤ n ∧ n ≤ 1000 ∧ 0 ≤ k ∧ k ≤ 1000 ∧ (combV n k).natAbs.log2 < bitsLine ∧ d = .int (combV n k) ∧ s' = s
theorem ok_binom (F : Fun K "binomial" "binomial" sBinom f fd) (T : Top2 mg) (G2 : Dn P w K mg base 2 "is_between" rBetween) : FnOk P w K mg base CX0 3 f fd ["top", "low"] (spD rBinom) := by
  refine okD F scBinom (by rintro _ _ _ _ ⟨n, k, rfl, _⟩; rfl) fun cdv A outer s0 H0 E C z as s₁ d s h => ?_
  obtain ⟨n, k, rfl, n0, n1, k0, k1, hz, rfl, rfl⟩ := h
  obtain ⟨tc, hc⟩ := T.chosen
  have bt : ∀ {x : Int}, 0 ≤ x → x ≤ 1000 → PyData.bool true = .bool (btw 0 1000 (.int x)) := fun a b => by
    simp only [btw]
    rw [decide_eq_true a, decide_eq_true b]
    rfl
  refine sr_ifF (et_notF (et_val (ev_call G2 C.hr (ea_cons (ev_var 0) (ea_cons ev_int (ea_cons (ev_glob rfl hc ⟨tc, rfl⟩) ea_nil))) ⟨_, _, _, rfl, bt n0 n1, rfl⟩))) ?_
  refine sr_ifF (et_notF (et_val (ev_call G2 C.hr (ea_cons (ev_var 1) (ea_cons ev_int (ea_cons (ev_glob rfl hc ⟨tc, rfl⟩) ea_nil))) ⟨_, _, _, rfl, bt k0 k1, rfl⟩))) ?_
  exact sr_ret (ev_bfun cr_comb (rb_comb n0 n1 k0 k1 hz) T.comb (ed_cons (ev_var 0) (ed_cons (ev_var 1) ed_nil)))
end
end K2


set_option Elab.async false
set_option linter.all false
set_option maxRecDepth 100000
namespace K2
open PySem PySem.Spec PyProof.Rows L2 DL
variable [TabT]
/-! ### texts of numbers -/
def slash : Str := "/"
def dash : Str := "-"
def ntx (t b : Int) : Str := if b = 1 then itx t else itx t ++ slash ++ itx b
theorem itx_nat (n : Nat) : TL.tl (itx (n : Int)) = TL.numL n := TL.tl_num n
theorem itx_neg (n : Nat) (h : 0 < n) : TL.tl (itx (-(n : Int))) = 45 :: TL.numL n := by
  obtain ⟨m, rfl⟩ : ∃ m, n = m + 1 := ⟨n - 1, by omega⟩
  have e : itx (-((m + 1 : Nat) : Int)) = Str.ofString ("-" ++ toString (m + 1)) := rfl
  have g := itx_nat (m + 1)
  have e2 : itx ((m + 1 : Nat) : Int) = Str.ofString (toString (m + 1)) := rfl
  rw [e2, TL.tl_ofString] at g
  rw [e, TL.tl_ofString, String.toList_append, List.map_append, g]
  rfl
theorem numL_bd {n k : Nat} (h : n < 2 ^ (3 * k)) (hk : 0 < k) : (TL.numL n).length ≤ k := by
  refine TL.numL_len hk (Nat.lt_of_lt_of_le h ?_)
  rw [Nat.pow_mul]
  exact Nat.pow_le_pow_left (by decide) k
theorem itx_len {i : Int} {k : Nat} (h : Bd (3 * k) i) (hk : 0 < k) : (itx i).length ≤ k + 1 := by
  rw [TL.len_tl]
  by_cases h0 : 0 ≤ i
  · obtain ⟨n, rfl⟩ := Int.eq_ofNat_of_zero_le h0
    rw [itx_nat]
    have := numL_bd (n := n) (k := k) h hk
    omega
  · obtain ⟨n, e, hn⟩ : ∃ n : Nat, i = -(n : Int) ∧ 0 < n := ⟨i.natAbs, by omega, by omega⟩
    subst e
    rw [itx_neg n hn, List.length_cons]
    have : n < 2 ^ (3 * k) := by
      unfold Bd at h
      rwa [Int.natAbs_neg] at h
    have := numL_bd this hk
    omega
theorem ntx_len {t b : Int} {k : Nat} (ht : Bd (3 * k) t) (hb : Bd (3 * k) b) (hk : 0 < k) : (ntx t b).length ≤ 2 * k + 3 := by
  have h1 := itx_len ht hk
  have h2 := itx_len hb hk
  have e : slash.length = 1 := by decide
  unfold ntx
  split
  · omega
  · rw [Str.length_append, Str.length_append, e]
    omega
theorem sub45 (x : Str) : Builtin.Str.subAt x dash 0 = decide ((TL.tl x).take 1 = [45]) := by
  unfold Builtin.Str.subAt
  have e1 : dash.length = 1 := by decide
  have e2 : dash.cps = #[45] := by decide
  rw [e1, e2]
  rw [Bool.eq_iff_iff, beq_iff_eq, decide_eq_true_eq, ← Array.toList_inj, Array.toList_extract]
  exact Iff.rfl
theorem starts45 (x : Str) : Txt.startswith x dash = decide ((TL.tl x).take 1 = [45]) := by
  unfold Txt.startswith
  rw [sub45]
  have e1 : dash.length = 1 := by decide
  rw [e1, Nat.zero_add, TL.len_tl]
  cases h : TL.tl x with
  | nil => rfl
  | cons c r => simp
theorem remove45 (x : Str) : TL.tl (Txt.removeprefix x dash) = if (TL.tl x).take 1 = [45] then (TL.tl x).drop 1 else TL.tl x := by
  unfold Txt.removeprefix
  rw [sub45]
  by_cases h : (TL.tl x).take 1 = [45]
  · rw [decide_eq_true h, if_pos h, if_pos rfl]
    have e1 : dash.length = 1 := by decide
    unfold Txt.affix
    rw [e1]
    have hl : x.length = (TL.tl x).length := TL.len_tl x
    have hp : 0 < (TL.tl x).length := by
      cases e : TL.tl x with
      | nil =>
        rw [e] at h
        cases h
      | cons c r => simp
    show TL.tl (if (x.length - 1 == x.length) = true then x else Builtin.Str.strSub x 1 x.length) = _
    rw [if_neg (by rw [beq_iff_eq]; omega), TL.tl_strSub_end]
  · rw [decide_eq_false h, if_neg h, if_neg Bool.false_ne_true]
    rfl
/-! ### digits -/
def DigS (x : Str) : Prop := NumText.AllDigits (TL.tl x) ∧ TL.tl x ≠ []
theorem dig_ok : ∀ c : Nat, c < 10 → Unicode.isDigit (48 + c) = true := by decide +kernel
theorem DigS.ascii {x : Str} (h : DigS x) : Txt.isascii x = true := by
  unfold Txt.isascii
  rw [Array.all_eq_true']
  intro c hc
  have := h.1 c (Array.mem_toList_iff.mpr hc)
  exact decide_eq_true (by omega)
theorem DigS.digit {x : Str} (h : DigS x) : Txt.isdigit x = true := by
  unfold Txt.isdigit
  have h1 : x.length > 0 := by
    rw [TL.len_tl]
    exact List.length_pos_iff.mpr h.2
  rw [decide_eq_true h1, Bool.true_and, Array.all_eq_true']
  intro c hc
  have := h.1 c (Array.mem_toList_iff.mpr hc)
  have e := dig_ok (c - 48) (by omega)
  rwa [show 48 + (c - 48) = c by omega] at e
theorem dig_nat (n : Nat) : DigS (itx (n : Int)) := by
  unfold DigS
  rw [itx_nat]
  exact ⟨TL.numL_digits n, TL.numL_ne n⟩
theorem int_nat {n k : Nat} (h : n < 2 ^ (3 * k)) (hk : 0 < k) (h4 : k ≤ 4000) : PySem.intText? (itx (n : Int)) = some (n : Int) := TL.int_num (by have := numL_bd h hk; omega)
/-- the quotient of two integers in lowest terms is the pair itself -/
theorem frD_cop {t b : Int} (hb : 1 ≤ b) (h : Nat.gcd t.natAbs b.natAbs = 1) : frD t b = .tuple [.int t, .int b] := by
  have e : gq t b = 1 := by
    unfold gq
    rw [if_neg (by omega), h]
    rfl
  unfold frD frT frB
  rw [e, Int.fdiv_one, Int.fdiv_one]
section
variable {P : Program} {w : World} {K : PySem.W.Frag} {mg : Str → Option Value} {base : Heap} {f : Addr} {fd : FuncData}
abbrev sNText : Stmt := top 32
theorem scNText : FnScope ["number", "top", "bottom"] ["number"] (defScope sNText) := ⟨rfl, rfl, rfl, by decide +kernel, rfl, by decide +kernel, by decide +kernel⟩
def rNText : Rel := fun as s d s' => ∃ v t b, as = [.val v] ∧ Nm v t b ∧ Bd 1500 t ∧ Bd 1500 b ∧ d = .str (ntx t b) ∧ s' = s
theorem bd_log {i : Int} (h : Bd 1500 i) : i.natAbs.log2 < 1920 := Nat.lt_of_lt_of_le (PySem.Flt.log2_lt_of (by decide) h) (by decide)
theorem ok_ntext (F : Fun K "number_text" "number_text" sNText f fd) (G1 : Dn P w K mg base 4 "need_number" rNeed) (G3 : Dn P w K mg base 1 "as_pair" rPair) : FnOk P w K mg base CX0 5 f fd ["number"] (spD rNText) := by
  refine okD F scNText (by rintro _ _ _ _ ⟨v, t, b, rfl, _⟩; rfl) fun cdv A outer s0 H0 E C z as s₁ d s h => ?_
  obtain ⟨v, t, b, rfl, hv, ht, hb, rfl, rfl⟩ := h
  have b1 := hv.pos
  refine sr_expr (ev_call G1 C.hr (ea_cons (ev_var 0) ea_nil) ⟨_, rfl, hv.num, rfl, rfl⟩) ?_
  refine sr_unp2 1 2 C.calm C.nd (ev_call G3 (C.hr.mono (by decide)) (ea_cons (ev_var 0) ea_nil) ⟨_, _, _, rfl, hv, rfl, rfl⟩) ?_
  unfold ntx
  by_cases h0 : b = 1
  · rw [if_pos h0]
    exact sr_ifT (ET.is (et_eqI C.hu (ev_var 2) ev_int) (decide_eq_true h0)) (sr_ret (ev_fstr1 (ev_fmtI (bd_log ht) (ev_var 1))))
  · rw [if_neg h0]
    have h1 := itx_len (k := 500) ht (by decide)
    have h2 := itx_len (k := 500) hb (by decide)
    have e : slash.length = 1 := by decide
    exact sr_ifF (ET.is (et_eqI C.hu (ev_var 2) ev_int) (decide_eq_false h0)) (sr_ret (ev_fstr3 (by omega) (ev_fmtI (bd_log ht) (ev_var 1)) ev_str (ev_fmtI (bd_log hb) (ev_var 2))))
abbrev sDigs : Stmt := top 33
theorem scDigs : FnScope ["text"] ["text"] (defScope sDigs) := ⟨rfl, rfl, rfl, by decide +kernel, rfl, by decide +kernel, by decide +kernel⟩
def rDigs : Rel := fun as s d s' => ∃ x, as = [.val (.str x)] ∧ DigS x ∧ d = .bool true ∧ s' = s
theorem ok_digs (F : Fun K "_digits_only" "_digits_only" sDigs f fd) : FnOk P w K mg base CX0 1 f fd ["text"] (spD rDigs) := by
  refine okD F scDigs (by rintro _ _ _ _ ⟨x, rfl, _⟩; rfl) fun cdv A outer s0 H0 E C z as s₁ d s h => ?_
  obtain ⟨x, rfl, hx, rfl, rfl⟩ := h
  refine sr_ret (ev_andT (ev_m0 (x := x) PySem.F.slot_str_isascii PySem.F.type_str_isascii mt_isascii (fun vs H at_ r Q q => ?_) (ev_var 0)) (ev_b1 (ev_m0 (x := x) PySem.F.slot_str_isdigit PySem.F.type_str_isdigit mt_isdigit (fun vs H at_ r Q q => ?_) (ev_var 0))))
  · cases r
    exact ⟨x, rfl, rfl, trivial, by rw [hx.ascii]; exact q _ H (.refl H) at_ (.bl _)⟩
  · cases r
    exact ⟨x, rfl, rfl, trivial, by rw [hx.digit]; exact q _ H (.refl H) at_ (.bl _)⟩
abbrev sNOf : Stmt := top 34
theorem scNOf : FnScope ["text", "size", "number", "over", "slash", "under"] ["text"] (defScope sNOf) := ⟨rfl, rfl, rfl, by decide +kernel, rfl, by decide +kernel, by decide +kernel⟩
def rNOf : Rel := fun as s d s' => ∃ t b, as = [.val (.str (ntx t b))] ∧ 1 ≤ b ∧ Nat.gcd t.natAbs b.natAbs = 1 ∧ Bd 450 t ∧ Bd 450 b ∧ d = .tuple [.int t, .int b] ∧ s' = s
theorem pl_str {x : Str} (h : ∀ c ∈ TL.tl x, c < 128) : Pl (.str x) := by
  have e : PyData.strOk x = true := by
    unfold PyData.strOk
    rw [Array.all_eq_true']
    intro c hc
    have := h c (Array.mem_toList_iff.mpr hc)
    exact decide_eq_true (by omega)
  refine ⟨rfl, ?_⟩
  show (PyData.strOk x && _) = true
  rw [e]
  rfl
theorem numL_small (n : Nat) : ∀ c ∈ TL.numL n, c < 128 := fun c hc => by
  have := TL.numL_digits n c hc
  omega
theorem itx_small (i : Int) : ∀ c ∈ TL.tl (itx i), c < 128 := by
  by_cases h0 : 0 ≤ i
  · obtain ⟨n, rfl⟩ := Int.eq_ofNat_of_zero_le h0
    rw [itx_nat]
    exact numL_small n
  · obtain ⟨n, e, hn⟩ : ∃ n : Nat, i = -(n : Int) ∧ 0 < n := ⟨i.natAbs, by omega, by omega⟩
    subst e
    rw [itx_neg n hn]
    intro c hc
    rcases List.mem_cons.mp hc with e | hc
    · omega
    · exact numL_small n c hc
theorem ntx_small (t b : Int) : ∀ c ∈ TL.tl (ntx t b), c < 128 := by
  unfold ntx
  split
  · exact itx_small t
  · rw [TL.tl_append, TL.tl_append]
    intro c hc
    rcases List.mem_append.mp hc with hc | hc
    · rcases List.mem_append.mp hc with hc | hc
      · exact itx_small t c hc
      · have e : TL.tl slash = [47] := rfl
        rw [e] at hc
        have := List.mem_singleton.mp hc
        omega
    · exact itx_small b c hc
/-- the parts of such a text -/
theorem parts_of {t b : Int} (hb : 1 ≤ b) : TL.tl (Txt.removeprefix (ntx t b) dash) = TL.tl (ntx (t.natAbs : Int) b) ∧ Txt.startswith (ntx t b) dash = decide (t < 0) := by
  have hd : ∀ n, (TL.numL n).take 1 ≠ [45] := fun n h => by
    have : (45 : Nat) ∈ TL.numL n := List.mem_of_mem_take (i := 1) (by rw [h]; simp)
    exact TL.numL_free (n := n) (s := 45) (.inl (by decide)) this
  have hd2 : ∀ (n : Nat) (l : List Nat), (TL.numL n ++ l).take 1 ≠ [45] := fun n l h => by
    have hne := TL.numL_ne n
    cases e : TL.numL n with
    | nil => exact hne e
    | cons c r =>
      rw [e] at h
      exact hd n (by rw [e]; simpa using h)
  rw [remove45, starts45]
  have key : TL.tl (ntx t b) = (if t < 0 then [45] else []) ++ TL.tl (ntx (t.natAbs : Int) b) := by
    have one : TL.tl (itx t) = (if t < 0 then [45] else []) ++ TL.tl (itx (t.natAbs : Int)) := by
      by_cases h0 : t < 0
      · rw [if_pos h0, itx_nat]
        have := itx_neg t.natAbs (by omega)
        rw [show -((t.natAbs : Nat) : Int) = t by omega] at this
        exact this
      · rw [if_neg h0, show ((t.natAbs : Nat) : Int) = t by omega]
        rfl
    unfold ntx
    split
    · exact one
    · rw [TL.tl_append, TL.tl_append, TL.tl_append, TL.tl_append, one, List.append_assoc, List.append_assoc, List.append_assoc]
  have nod : (TL.tl (ntx (t.natAbs : Int) b)).take 1 ≠ [45] := by
    unfold ntx
    split
    · rw [itx_nat]
      exact hd _
    · rw [TL.tl_append, TL.tl_append, itx_nat, List.append_assoc]
      exact hd2 _ _
  rw [key]
  by_cases h0 : t < 0
  · rw [if_pos h0, decide_eq_true h0]
    refine ⟨?_, decide_eq_true rfl⟩
    rw [if_pos (show List.take 1 ([45] ++ TL.tl (ntx (t.natAbs : Int) b)) = [45] from rfl)]
    rfl
  · rw [if_neg h0, decide_eq_false h0, List.nil_append]
    exact ⟨if_neg nod, decide_eq_false nod⟩
theorem part_of {n : Nat} {b : Int} (hb : 1 ≤ b) : Txt.partition (ntx (n : Int) b) slash = if b = 1 then (itx (n : Int), Str.empty, Str.empty) else (itx (n : Int), slash, itx b) := by
  have hs : TL.tl slash = [47] := rfl
  have hf : 47 ∉ TL.tl (itx (n : Int)) := by
    rw [itx_nat]
    exact TL.numL_free (.inl (by decide))
  unfold ntx
  split
  · rw [TL.partition_none hs hf]
  · rw [TL.partition_app hs hf]
theorem ok_nof (F : Fun K "number_of_text" "number_of_text" sNOf f fd) (TT : Top mg) (T : Top2 mg) (G1 : Dn P w K mg base 1 "_digits_only" rDigs) (G2 : Dn P w K mg base 2 "fraction" rQuot) (G3 : Dn P w K mg base 6 "multiplied" rMult) (G4 : Dn P w K mg base 5 "number_text" rNText) : FnOk P w K mg base CX0 7 f fd ["text"] (spD rNOf) := by
  refine okD F scNOf (by rintro _ _ _ _ ⟨t, b, rfl, _⟩; rfl) fun cdv A outer s0 H0 E C z as s₁ d s h => ?_
  obtain ⟨t, b, rfl, b1, hc, ht, hb, rfl, rfl⟩ := h
  obtain ⟨tx, hx⟩ := T.text
  have hl := ntx_len (k := 150) ht hb (by decide)
  have hL : (100000 : Nat) ≤ sizeLine := by decide
  have hz : (ntx t b).length ≤ sizeLine := by omega
  -- not a text, too long
  refine sr_ifF (et_w (ew_orF (et_notF (et_val (ev_isi TT.isi TT.str (ev_var 0) (k_str (.str (ntx t b)))))) (ew_or1 (ET.is (et_gt (ev_bltn call_len (rb_lenS hz) TT.len (ed_cons (ev_var 0) ed_nil)) (ev_glob rfl hx ⟨tx, rfl⟩)) (decide_eq_false (by omega)))))) ?_
  obtain ⟨p1, p2⟩ := parts_of (t := t) b1
  have e1 : Txt.removeprefix (ntx t b) dash = ntx (t.natAbs : Int) b := TL.ext_tl p1
  have hA : Bd 450 ((t.natAbs : Nat) : Int) := by
    unfold Bd at *
    omega
  have hl2 := ntx_len (k := 150) hA hb (by decide)
  have rp : ∀ {s : S}, RM z s (fun x xs H Q => ∃ a b, x = .str a ∧ xs = [.str b] ∧ a.length ≤ sizeLine ∧ Q (.str (Txt.removeprefix a b)) H) (ntx t b) [.str dash] (.str (ntx (t.natAbs : Int) b)) := fun {s} vs H at_ r Q q => by
    cases r with
    | cons r1 r =>
      cases r
      cases r1
      exact ⟨_, _, rfl, rfl, hz, by rw [e1]; exact q _ H (.refl H) at_ (.str _)⟩
  have rpart : ∀ {s : S}, RM z s (fun x xs H Q => ∃ a b, x = .str a ∧ xs = [.str b] ∧ (b.length == 0) = false ∧ a.length ≤ sizeLine ∧ ∀ p, H p = none → Q (.ref p) (upd H p (.tup [.str (Txt.partition a b).1, .str (Txt.partition a b).2.1, .str (Txt.partition a b).2.2])))
      (ntx (t.natAbs : Int) b) [.str slash] (.tuple [.str (itx (t.natAbs : Int)), .str (if b = 1 then Str.empty else slash), .str (if b = 1 then Str.empty else itx b)]) := fun {s} vs H at_ r Q q => by
    cases r with
    | cons r1 r =>
      cases r
      cases r1
      refine ⟨_, _, rfl, rfl, by decide, by omega, fun p hp => q _ _ (.new hp) (at_.new hp) (.tup (at_.fresh hp) upd_same ?_)⟩
      rw [part_of b1]
      by_cases h0 : b = 1
      · rw [if_pos h0, if_pos h0, if_pos h0]
        exact .cons (.str _) (.cons (.str _) (.cons (.str _) .nil))
      · rw [if_neg h0, if_neg h0, if_neg h0]
        exact .cons (.str _) (.cons (.str _) (.cons (.str _) .nil))
  refine sr_unp3 3 4 5 C.calm C.nd (ev_m1 (x := ntx (t.natAbs : Int) b) PySem.F.slot_str_partition PySem.F.type_str_partition mt_partition rpart (ev_m1 (x := ntx t b) PySem.F.slot_str_removeprefix PySem.F.type_str_removeprefix mt_removeprefix rp (ev_var 0) ev_str) ev_str) ?_
  obtain ⟨nb, rfl⟩ : ∃ nb : Nat, b = (nb : Int) := ⟨b.toNat, by omega⟩
  -- the lower part
  have tail : ∀ q : Sl, SR (cxOf CX0 P w K mg base ["text", "size", "number", "over", "slash", "under"] "number_of_text" (defScope sNOf) f cdv A outer s0 H0 E).nox z ((defBody sNOf).drop 3)
      [.val (.str (ntx t (nb : Int))), .un, .un, .val (.str (itx (t.natAbs : Int))), q, .val (.str (itx (nb : Int)))] s (.rt (.tuple [.int t, .int (nb : Int)]) s) := fun q => by
    have i1 := int_nat (n := t.natAbs) (k := 150) ht (by decide) (by decide)
    have i2 := int_nat (n := nb) (k := 150) (by unfold Bd at hb; simpa using hb) (by decide) (by decide)
    have l1 := itx_len (k := 150) hA (by decide)
    have l2 := itx_len (k := 150) hb (by decide)
    refine sr_ifF (et_w (ew_orF (et_notF (et_val (ev_call G1 (C.hr.mono (by decide)) (ea_cons (ev_var 3) ea_nil) ⟨_, rfl, dig_nat _, rfl, rfl⟩))) (ew_orF (et_notF (et_val (ev_call G1 (C.hr.mono (by decide)) (ea_cons (ev_var 5) ea_nil) ⟨_, rfl, dig_nat _, rfl, rfl⟩)))
      (ew_or1 (ET.is (et_eqI C.hu (ev_bty call_int_str (rb_intS i2 (by omega)) TT.int (ed_cons (ev_var 5) ed_nil)) ev_int) (decide_eq_false (by omega))))))) ?_
    have ga : Nat.gcd ((t.natAbs : Nat) : Int).natAbs ((nb : Nat) : Int).natAbs = 1 := hc
    refine sr_asg 1 C.nd (EV.is (ev_call G2 (C.hr.mono (by decide)) (ea_cons (ev_bty call_int_str (rb_intS i1 (by omega)) TT.int (ed_cons (ev_var 3) ed_nil)) (ea_cons (ev_bty call_int_str (rb_intS i2 (by omega)) TT.int (ed_cons (ev_var 5) ed_nil)) ea_nil)) ⟨_, _, rfl, by omega, hb.mono (by decide), rfl, rfl⟩) (frD_cop b1 ga)) ?_
    have rs : ∀ {s : S}, RM z s (fun x xs H Q => ∃ a b, x = .str a ∧ xs = [.str b] ∧ Q (.bl (Txt.startswith a b)) H) (ntx t (nb : Int)) [.str dash] (.bool (decide (t < 0))) := fun {s} vs H at_ r Q q => by
      cases r with
      | cons r1 r =>
        cases r
        cases r1
        exact ⟨_, _, rfl, rfl, by rw [p2]; exact q _ H (.refl H) at_ (.bl _)⟩
    have hs : ET (cxOf CX0 P w K mg base ["text", "size", "number", "over", "slash", "under"] "number_of_text" (defScope sNOf) f cdv A outer s0 H0 E).nox z (match (defBody sNOf)[5]? with | some (Stmt.Assign _ (Expr.IfExp c _ _ _) _) => c | _ => .Constant .none 0 ⟨0, 0, 0, 0⟩) [.val (.str (ntx t (nb : Int))), .val (.tuple [.int (t.natAbs : Int), .int (nb : Int)]), .un, .val (.str (itx (t.natAbs : Int))), q, .val (.str (itx (nb : Int)))] s (decide (t < 0)) s :=
      et_val (ev_m1 (x := ntx t (nb : Int)) PySem.F.slot_str_startswith PySem.F.type_str_startswith mt_startswith rs (ev_var 0) ev_str)
    refine sr_asg (d := .tuple [.int t, .int (nb : Int)]) (s1 := s) 2 C.nd ?_ ?_
    · by_cases h0 : t < 0
      · rw [decide_eq_true h0] at hs
        refine ev_ifT hs (EV.is (ev_call G3 (C.hr.mono (by decide)) (ea_cons (ev_var 1) (ea_cons (ev_neg ev_int) ea_nil)) ⟨_, _, (t.natAbs : Int), (nb : Int), -1, 1, rfl, ⟨.fr b1 ga, .int (by decide) (by decide), hA.mono (by decide), hb.mono (by decide), by unfold Bd; decide, by unfold Bd; decide⟩, rfl, rfl⟩) ?_)
        have e1 : (t.natAbs : Int) * -1 = t := by omega
        rw [e1, Int.mul_one]
        exact frD_cop b1 hc
      · rw [decide_eq_false h0] at hs
        have e1 : (t.natAbs : Int) = t := by omega
        refine ev_ifF hs ?_
        exact EV.is (ev_var 1) (by rw [e1])
    · refine sr_ifF (ET.is (et_ne C.hu (pl_str (ntx_small _ _)) (pl_str (ntx_small _ _)) (ev_call G4 (C.hr.mono (by decide)) (ea_cons (ev_var 2) ea_nil) ⟨_, _, _, rfl, .fr b1 hc, ht.mono (by decide), hb.mono (by decide), rfl, rfl⟩) (ev_var 0)) ?_) (sr_ret (ev_var 2))
      show (!(ntx t (nb : Int) == ntx t (nb : Int))) = false
      simp
  by_cases h0 : (nb : Int) = 1
  · have e : PyData.str (if (nb : Int) = 1 then Str.empty else slash) = .str Str.empty := by rw [if_pos h0]
    rw [e]
    refine sr_ifTn (ET.is (et_eq C.hu (pl_str (x := Str.empty) (by decide)) (pl_str (x := Str.empty) (by decide)) (ev_var 4) ev_str) rfl) (sr_asg 5 C.nd ev_str sr_nil) ?_
    have t1 := tail (.val (.str Str.empty))
    have e2 : itx (nb : Int) = ("1" : Str) := by rw [h0]; rfl
    rw [e2] at t1
    exact t1
  · rw [if_neg h0, if_neg h0]
    exact sr_ifF (ET.is (et_eq C.hu (pl_str (x := slash) (by decide)) (pl_str (x := Str.empty) (by decide)) (ev_var 4) ev_str) (by decide)) (tail _)
end
end K2


set_option Elab.async false
set_option linter.all false
set_option maxRecDepth 100000
namespace DL
open PySem PySem.Spec PyProof.Rows L2
variable [TabT]
/-! ### 8. list comprehensions -/
def Z.add (z : Z) (D : Addr) (o : HO) : Z := ⟨z.dice, (D, o) :: z.vol⟩
theorem Fz.of_add {z : Z} {D a : Addr} {o : HO} (h : Fz (z.add D o) a) : Fz z a ∧ a ≠ D := ⟨⟨h.1, fun u hu => h.2 u (List.mem_cons_of_mem _ hu)⟩, fun e => h.2 o (by rw [e]; exact List.mem_cons_self ..)⟩
theorem Fz.to_add {z : Z} {D a : Addr} {o : HO} (h : Fz z a) (n : a ≠ D) : Fz (z.add D o) a := ⟨h.1, fun u hu => by
  rcases List.mem_cons.mp hu with e | e
  · exact n (congrArg Prod.fst e)
  · exact h.2 u e⟩
mutual
theorem Da.re {z z' : Z} {H H' : Hp} (k : ∀ a o, Fz z a → H a = some o → Fz z' a ∧ H' a = some o) : ∀ {v : V} {d : PyData}, Da z H v d → Da z' H' v d
  | _, _, .non => .non
  | _, _, .bl b => .bl b
  | _, _, .int i => .int i
  | _, _, .str x => .str x
  | _, _, .dct n h => .dct (k _ _ n h).1 (k _ _ n h).2
  | _, _, .lst n h r => .lst (k _ _ n h).1 (k _ _ n h).2 (DaAll.re k r)
  | _, _, .tup n h r => .tup (k _ _ n h).1 (k _ _ n h).2 (DaAll.re k r)
theorem DaAll.re {z z' : Z} {H H' : Hp} (k : ∀ a o, Fz z a → H a = some o → Fz z' a ∧ H' a = some o) : ∀ {vs : List V} {ds : List PyData}, DaAll z H vs ds → DaAll z' H' vs ds
  | _, _, .nil => .nil
  | _, _, .cons h r => .cons (Da.re k h) (DaAll.re k r)
end
theorem XR.re {z z' : Z} {H H' : Hp} {cls : Value} {dx : Option Addr} (k : ∀ a o, Fz z a → H a = some o → Fz z' a ∧ H' a = some o) : ∀ {x : XD}, XR z H cls dx x → XR z' H' cls dx x
  | .pl _, h => h
  | .wf _ _ _, ⟨h1, p, v, h2, n, h3, h4⟩ => ⟨h1, p, v, h2, (k p _ n h3).1, (k p _ n h3).2, h4.re k⟩
theorem En.re {z z' : Z} {H H' : Hp} (hd : z'.dice = z.dice) (hv : ∀ q ∈ z.vol, q ∈ z'.vol) (k : ∀ a o, Fz z a → H a = some o → Fz z' a ∧ H' a = some o) : ∀ {σ : L2.St} {es : List Sl}, En z H σ es → En z' H' σ es
  | _, _, .nil => .nil
  | _, _, .cons h r => .cons (by
      cases h with
      | un => exact .un
      | val d => exact .val (d.re k)
      | dice e => exact .dice (hd.trans e)
      | raw => exact .raw
      | own m q => exact .own (hv _ m) (q.re k)
      | exc q => exact .exc (q.re k)) (En.re hd hv k r)
section
variable {X : Cx} {z : Z} {es : List Sl} {s s1 : S} {iter elt cond : Expr} {ds : List PyData}
/-- the turns of a comprehension over anything that walks, with any target -/
theorem lc_all {te : TE} {tt : TT} {g : TG} {ws : List Nat} {n : Nat} {J : It} {G : Hp → Prop} {Y : Nat → Hp → V → Hp → Prop} (wk : Walk J n G Y) {σ : L2.St} {H1 : Hp} {D : Addr} (T U : Nat → S) (a1 : At z H1 (T 0)) (hD : H1 D = none) (esT : Nat → List Sl)
    (hG : ∀ H', Ez z H1 H' → G H') (turn : ∀ (i : Nat) (x : V) (H' H2 : Hp) (o : HO), i < n → Ez z H1 H' → Y i H' x H2 → At (z.add D o) H' (T i) → ∀ Q : L2.St → Hp → Prop, (∀ σ2 H3, wipe σ2 ws = wipe σ ws → Ez (z.add D o) H' H3 → At (z.add D o) H3 (T i) → En (z.add D o) H3 σ2 (esT i) → Q σ2 H3) → g x (wipe σ ws) H2 Q) (hl : n ≤ 100000) (kb : Nat → Bool) (A : Nat → List PyData) (hA0 : A 0 = [])
    (Ht : ∀ (z' : Z) (i : Nat), i < n → ∀ σ H, En z' H σ (esT i) → At z' H (T i) → ∀ Q : Bool → Hp → Prop, (∀ H2, Ez z' H H2 → At z' H2 (U i) → Q (kb i) H2) → tt σ H Q)
    (He : ∀ (z' : Z) (i : Nat), i < n → kb i = true → ∃ y, A (i + 1) = A i ++ [y] ∧ ∀ σ H, En z' H σ (esT i) → At z' H (U i) → ∀ Q : VK, (∀ v H2, Ez z' H H2 → At z' H2 (T (i + 1)) → Da z' H2 v y → Q v H2) → te σ H Q)
    (hn : ∀ (i : Nat), i < n → kb i = false → A (i + 1) = A i ∧ T (i + 1) = U i) {Qd : Hp → Prop} (hQ : ∀ H', Ez z H1 H' → At z H' (T n) → Da z H' (.ref D) (.list (A n)) → Qd H') :
    ∃ W : Nat → Nat → Hp → Prop, (∃ m, W 0 m (upd H1 D (.lst []))) ∧ ∀ i m H, W i m H → (J.stop i H ∧ Qd H) ∨ (J.go i H ∧ ∃ Nx : Hp → Prop, (∀ H', Nx H' → ∃ m', m' < m ∧ W (i + 1) m' H') ∧ ∀ x H', J.yld i H x H' → g x (wipe σ ws) H' fun σ2 H2 => wipe σ2 ws = wipe σ ws ∧ tt σ2 H2 fun b H3 =>
        if b = true then te σ2 H3 fun y H4 => ∃ acc, H4 D = some (.lst acc) ∧ acc.length < sizeLine ∧ Nx (upd H4 D (.lst (acc ++ [y]))) else Nx H3) := by
  have lA : ∀ i, i ≤ n → (A i).length ≤ i := by
    intro i
    induction i with
    | zero => intro _; rw [hA0]; exact Nat.le_refl _
    | succ i ih =>
      intro hi
      cases hk : kb i with
      | true =>
        obtain ⟨y, hy, _⟩ := He z i (by omega) hk
        rw [hy, List.length_append]
        have := ih (by omega)
        simp
        omega
      | false =>
        rw [(hn i (by omega) hk).1]
        have := ih (by omega)
        omega
  have reach : ∀ {H' : Hp} {o : HO}, Ez z H1 H' → ∀ (b : Addr) (u : HO), Fz z b → H1 b = some u → Fz (z.add D o) b ∧ H' b = some u := fun e b u fb hb => ⟨fb.to_add (ne_of_none hb hD), e b u fb hb⟩
  have up : ∀ {H' H2 : Hp} {o : HO}, Ez z H1 H' → Ez (z.add D o) H' H2 → Ez z H1 H2 := fun e e2 b u fb hb => e2 b u (fb.to_add (ne_of_none hb hD)) (e b u fb hb)
  refine lc_it wk (fun i H' => Ez z H1 H' ∧ ∃ acc, H' D = some (.lst acc) ∧ At (z.add D (.lst acc)) H' (T i) ∧ DaAll (z.add D (.lst acc)) H' acc (A i)) ?_ (fun i H' _ w => hG H' w.1) ?_ ?_
  · refine ⟨.new hD, [], upd_same, ⟨?_, ?_, ?_, tabs_new a1.t hD⟩, ?_⟩
    · intro b hb
      rw [upd_ne (ne_of_none (a1.d b hb) hD)]
      exact a1.d b hb
    · intro p hp
      rcases List.mem_cons.mp hp with e | e
      · rw [e]
        exact upd_same
      · rw [upd_ne (ne_of_none (a1.v p e) hD)]
        exact a1.v p e
    · intro p hp
      rcases List.mem_cons.mp hp with e | e
      · refine ⟨fun e2 => ?_, [], by rw [e]⟩
        rw [e] at e2
        have := a1.d D e2
        rw [this] at hD
        cases hD
      · exact a1.n p e
    · rw [hA0]
      exact .nil
  · intro i x H0 H' hi w hy
    obtain ⟨e2, acc, hDa, a2, rA⟩ := w
    refine turn i x H0 H' (.lst acc) hi e2 hy a2 _ fun σ2 H5 hw e5 a5 en2 => ⟨hw, ?_⟩
    refine Ht _ i hi _ H5 en2 a5 _ fun H3 e30 a3 => ?_
    have e3 := e5.trans e30
    have hD3 : H3 D = some (.lst acc) := a3.v (D, .lst acc) (List.mem_cons_self ..)
    cases hk : kb i with
    | false =>
      obtain ⟨n1, n2⟩ := hn i hi hk
      refine iteF ⟨up e2 e3, acc, hD3, by rw [n2]; exact a3, by rw [n1]; exact rA.mono e3⟩
    | true =>
      obtain ⟨y, hy, go⟩ := He (z.add D (.lst acc)) i hi hk
      refine iteT (go _ H3 (en2.mono e30) a3 _ fun v H4 e4 a4 v4 => ?_)
      have hD4 : H4 D = some (.lst acc) := a4.v (D, .lst acc) (List.mem_cons_self ..)
      have rA4 := (rA.mono e3).mono e4
      have la := rA4.length
      have := lA i (by omega)
      have far : ∀ (b : Addr) (u : HO), Fz (z.add D (.lst acc)) b → H4 b = some u → Fz (z.add D (.lst (acc ++ [v]))) b ∧ upd H4 D (.lst (acc ++ [v])) b = some u := fun b u fb hb => by
        obtain ⟨f1, f2⟩ := fb.of_add
        exact ⟨f1.to_add f2, by rw [upd_ne f2]; exact hb⟩
      refine ⟨acc, hD4, Nat.lt_of_lt_of_le (show acc.length < 100001 by omega) (by decide), ?_, acc ++ [v], upd_same, ⟨?_, ?_, ?_, tabs_upd a4.t hD4⟩, ?_⟩
      · intro b u fb hb
        rw [upd_ne (ne_of_none hb hD)]
        exact up (up e2 e3) e4 b u fb hb
      · intro b hb
        rw [upd_ne (fun e => (a4.n (D, .lst acc) (List.mem_cons_self ..)).1 (by rw [← e]; exact hb))]
        exact a4.d b hb
      · intro p hp
        rcases List.mem_cons.mp hp with e | e
        · rw [e]
          exact upd_same
        · have h1 := a1.v p e
          rw [upd_ne (ne_of_none h1 hD)]
          exact a4.v p (List.mem_cons_of_mem _ e)
      · intro p hp
        rcases List.mem_cons.mp hp with e | e
        · rw [e]
          exact ⟨(a4.n (D, .lst acc) (List.mem_cons_self ..)).1, _, rfl⟩
        · exact a4.n p (List.mem_cons_of_mem _ e)
      · rw [hy]
        exact (rA4.re far).app (.cons (v4.re far) .nil)
  · intro H' w
    obtain ⟨e2, acc, hDa, a2, rA⟩ := w
    have fD : Fz z D := a1.fresh hD
    exact hQ H' e2 ⟨a2.d, fun p hp => a2.v p (List.mem_cons_of_mem _ hp), fun p hp => a2.n p (List.mem_cons_of_mem _ hp), a2.t⟩ (.lst fD hDa (rA.re fun b u fb hb => ⟨fb.of_add.1, hb⟩))
/-- the same with a name as the target, over what leaves the heap alone -/
theorem lc_gen {te : TE} {tt : TT} {j n : Nat} {J : It} {G : Hp → Prop} {Y : Nat → Hp → V → Hp → Prop} (wk : Walk J n G Y) {σ : L2.St} {H1 : Hp} {D : Addr} (T U : Nat → S) (en1 : En z H1 σ es) (a1 : At z H1 (T 0)) (hD : H1 D = none) (items : Nat → PyData)
    (hG : ∀ H', Ez z H1 H' → G H') (hY : ∀ i x H' H2, i < n → Y i H' x H2 → H2 = H' ∧ Da z H1 x (items i)) (hl : n ≤ 100000) (kb : Nat → Bool) (A : Nat → List PyData) (hA0 : A 0 = [])
    (Ht : ∀ (z' : Z) (i : Nat), i < n → ∀ σ H, En z' H σ (es.set j (.val (items i))) → At z' H (T i) → ∀ Q : Bool → Hp → Prop, (∀ H2, Ez z' H H2 → At z' H2 (U i) → Q (kb i) H2) → tt σ H Q)
    (He : ∀ (z' : Z) (i : Nat), i < n → kb i = true → ∃ y, A (i + 1) = A i ++ [y] ∧ ∀ σ H, En z' H σ (es.set j (.val (items i))) → At z' H (U i) → ∀ Q : VK, (∀ v H2, Ez z' H H2 → At z' H2 (T (i + 1)) → Da z' H2 v y → Q v H2) → te σ H Q)
    (hn : ∀ (i : Nat), i < n → kb i = false → A (i + 1) = A i ∧ T (i + 1) = U i) {Qd : Hp → Prop} (hQ : ∀ H', Ez z H1 H' → At z H' (T n) → Da z H' (.ref D) (.list (A n)) → Qd H') :
    ∃ W : Nat → Nat → Hp → Prop, (∃ m, W 0 m (upd H1 D (.lst []))) ∧ ∀ i m H, W i m H → (J.stop i H ∧ Qd H) ∨ (J.go i H ∧ ∃ Nx : Hp → Prop, (∀ H', Nx H' → ∃ m', m' < m ∧ W (i + 1) m' H') ∧ ∀ x H', J.yld i H x H' → gName j x (wipe σ [j]) H' fun σ2 H2 => wipe σ2 [j] = wipe σ [j] ∧ tt σ2 H2 fun b H3 =>
        if b = true then te σ2 H3 fun y H4 => ∃ acc, H4 D = some (.lst acc) ∧ acc.length < sizeLine ∧ Nx (upd H4 D (.lst (acc ++ [y]))) else Nx H3) := by
  refine lc_all (g := gName j) (ws := [j]) wk T U a1 hD (fun i => es.set j (.val (items i))) hG (fun i x H' H2 o hi e2 hy a2 Q q => ?_) hl kb A hA0 Ht He hn hQ
  obtain ⟨rfl, hxd⟩ := hY i x H' H2 hi hy
  have reach : ∀ (b : Addr) (u : HO), Fz z b → H1 b = some u → Fz (z.add D o) b ∧ H2 b = some u := fun b u fb hb => ⟨fb.to_add (ne_of_none hb hD), e2 b u fb hb⟩
  have es2 : (wipe σ [j]).set j (some x) = σ.set j (some x) := by
    show (σ.set j none).set j (some x) = _
    rw [List.set_set]
  show Q ((wipe σ [j]).set j (some x)) H2
  rw [es2]
  have en0 : En (z.add D o) H2 σ es := En.re (z := z) (z' := z.add D o) rfl (fun q h => List.mem_cons_of_mem _ h) reach en1
  exact q _ H2 (by
    show (σ.set j (some x)).set j none = σ.set j none
    rw [List.set_set]) (.refl _) a2 (en0.set j (.val (hxd.re reach)))
/-- the same with two names as the target, each turn's pair being at hand as a tuple -/
theorem lc_two {te : TE} {tt : TT} {K : PySem.W.Frag} {j k n : Nat} {J : It} {G : Hp → Prop} {Y : Nat → Hp → V → Hp → Prop} (wk : Walk J n G Y) {σ : L2.St} {H1 : Hp} {D : Addr} (T U : Nat → S) (en1 : En z H1 σ es) (a1 : At z H1 (T 0)) (hD : H1 D = none) (hjk : j ≠ k) (items other : Nat → PyData)
    (hG : ∀ H', Ez z H1 H' → G H') (hY : ∀ i x H' H2, i < n → Ez z H1 H' → Y i H' x H2 → ∃ t u v, x = .ref t ∧ SqT K H2 t [u, v] ∧ (H2 = H' ∨ (H' t = none ∧ H2 = upd H' t (.tup [u, v]))) ∧ Da z H1 u (items i) ∧ Da z H1 v (other i)) (hl : n ≤ 100000) (kb : Nat → Bool) (A : Nat → List PyData) (hA0 : A 0 = [])
    (Ht : ∀ (z' : Z) (i : Nat), i < n → ∀ σ H, En z' H σ ((es.set j (.val (items i))).set k (.val (other i))) → At z' H (T i) → ∀ Q : Bool → Hp → Prop, (∀ H2, Ez z' H H2 → At z' H2 (U i) → Q (kb i) H2) → tt σ H Q)
    (He : ∀ (z' : Z) (i : Nat), i < n → kb i = true → ∃ y, A (i + 1) = A i ++ [y] ∧ ∀ σ H, En z' H σ ((es.set j (.val (items i))).set k (.val (other i))) → At z' H (U i) → ∀ Q : VK, (∀ v H2, Ez z' H H2 → At z' H2 (T (i + 1)) → Da z' H2 v y → Q v H2) → te σ H Q)
    (hn : ∀ (i : Nat), i < n → kb i = false → A (i + 1) = A i ∧ T (i + 1) = U i) {Qd : Hp → Prop} (hQ : ∀ H', Ez z H1 H' → At z H' (T n) → Da z H' (.ref D) (.list (A n)) → Qd H') :
    ∃ W : Nat → Nat → Hp → Prop, (∃ m, W 0 m (upd H1 D (.lst []))) ∧ ∀ i m H, W i m H → (J.stop i H ∧ Qd H) ∨ (J.go i H ∧ ∃ Nx : Hp → Prop, (∀ H', Nx H' → ∃ m', m' < m ∧ W (i + 1) m' H') ∧ ∀ x H', J.yld i H x H' → gTup K 2 (gCons (gName j) (gCons (gName k) gNil)) x (wipe σ [j, k]) H' fun σ2 H2 => wipe σ2 [j, k] = wipe σ [j, k] ∧ tt σ2 H2 fun b H3 =>
        if b = true then te σ2 H3 fun y H4 => ∃ acc, H4 D = some (.lst acc) ∧ acc.length < sizeLine ∧ Nx (upd H4 D (.lst (acc ++ [y]))) else Nx H3) := by
  refine lc_all (g := gTup K 2 (gCons (gName j) (gCons (gName k) gNil))) (ws := [j, k]) wk T U a1 hD (fun i => (es.set j (.val (items i))).set k (.val (other i))) hG (fun i x H' H2 o hi e2 hy a2 Q q => ?_) hl kb A hA0 Ht He hn hQ
  obtain ⟨t, u, v, rfl, ht, hH, hu, hv⟩ := hY i x H' H2 hi e2 hy
  have e3 : Ez (z.add D o) H' H2 := by
    rcases hH with rfl | ⟨nt, rfl⟩
    · exact .refl _
    · exact .new nt
  have a3 : At (z.add D o) H2 (T i) := by
    rcases hH with rfl | ⟨nt, rfl⟩
    · exact a2
    · exact a2.new nt
  have reach : ∀ (b : Addr) (w : HO), Fz z b → H1 b = some w → Fz (z.add D o) b ∧ H2 b = some w := fun b w fb hb => by
    have f := fb.to_add (o := o) (ne_of_none hb hD)
    exact ⟨f, e3 b w f (e2 b w fb hb)⟩
  have w0 : wipe σ [j, k] = (σ.set k none).set j none := rfl
  have es2 : ((wipe σ [j, k]).set j (some u)).set k (some v) = (σ.set j (some u)).set k (some v) := by
    rw [w0, List.set_set, List.set_comm _ _ hjk, List.set_set, List.set_comm _ _ hjk.symm]
  refine ⟨t, [u, v], rfl, ht, rfl, u, [v], rfl, v, [], rfl, rfl, ?_⟩
  rw [es2]
  have en0 : En (z.add D o) H2 σ es := En.re (z := z) (z' := z.add D o) rfl (fun q h => List.mem_cons_of_mem _ h) reach en1
  refine q _ H2 ?_ e3 a3 ((en0.set j (.val (hu.re reach))).set k (.val (hv.re reach)))
  show (((σ.set j (some u)).set k (some v)).set k none).set j none = (σ.set k none).set j none
  rw [List.set_set, List.set_comm _ _ hjk, List.set_set, List.set_comm _ _ hjk.symm]
theorem lc_read {te : TE} {tt : TT} {j : Nat} (hit : EV X z iter es s (.list ds) s1) (hl : ds.length ≤ 100000) (kb : Nat → Bool) (A : Nat → List PyData) (T U : Nat → S) (hA0 : A 0 = []) (t0 : T 0 = s1)
    (Ht : ∀ (z' : Z) (i : Nat) d, ds[i]? = some d → ∀ σ H, En z' H σ (es.set j (.val d)) → At z' H (T i) → ∀ Q : Bool → Hp → Prop, (∀ H2, Ez z' H H2 → At z' H2 (U i) → Q (kb i) H2) → tt σ H Q)
    (He : ∀ (z' : Z) (i : Nat) d, ds[i]? = some d → kb i = true → ∃ y, A (i + 1) = A i ++ [y] ∧ ∀ σ H, En z' H σ (es.set j (.val d)) → At z' H (U i) → ∀ Q : VK, (∀ v H2, Ez z' H H2 → At z' H2 (T (i + 1)) → Da z' H2 v y → Q v H2) → te σ H Q)
    (hn : ∀ (i : Nat) d, ds[i]? = some d → kb i = false → A (i + 1) = A i ∧ T (i + 1) = U i) :
    ∀ σ H, En z H σ es → At z H s → ∀ Q : VK, (∀ v H2, Ez z H H2 → At z H2 (T ds.length) → Da z H2 v (.list (A ds.length)) → Q v H2) → tLc (iList X.K (wE X iter)) (gName j) tt te [j] σ H Q := fun σ H en at_ Q q => by
  refine hit σ H en at_ _ fun v H1 e1 a1 v1 => ?_
  cases v1 with
  | @lst a xs _ fa ha r =>
    have hx : xs.length = ds.length := r.length
    have g : ∀ i, i < xs.length → ds[i]? = some (ds.getD i .none) := fun i hi => by
      rw [List.getD_eq_getElem?_getD, List.getElem?_eq_getElem (by omega)]
      rfl
    refine ⟨a, rfl, ⟨xs, .inl (.inl ha)⟩, fun D hD => ?_⟩
    refine lc_gen (walk_list (K := X.K) (a := a) (xs := xs)) T U (en.mono e1) (t0 ▸ a1) hD (fun i => ds.getD i .none) (fun H' e => .inl (.inl (e a _ fa ha))) (fun i x H' H2 hi hy => ⟨hy.1, ?_⟩) (by omega) kb A hA0 (fun z' i hi => Ht z' i _ (g i hi)) (fun z' i hi => He z' i _ (g i hi)) (fun i hi => hn i _ (g i hi)) (fun H' e a2 d2 => ?_)
    · obtain ⟨d, hd, hv⟩ := r.getV i x hy.2
      have := g i hi
      rw [hd] at this
      rw [← Option.some.inj this]
      exact hv
    · rw [hx] at a2 d2
      exact q _ H' (e1.trans e) a2 d2
/-- over the signs of a text -/
theorem lc_readS {te : TE} {tt : TT} {j : Nat} {t : Str} (hit : EV X z iter es s (.str t) s1) (hl : t.cps.size ≤ 100000) (kb : Nat → Bool) (A : Nat → List PyData) (T U : Nat → S) (hA0 : A 0 = []) (t0 : T 0 = s1)
    (Ht : ∀ (z' : Z) (i c : Nat), t.cps[i]? = some c → ∀ σ H, En z' H σ (es.set j (.val (.str ⟨#[c]⟩))) → At z' H (T i) → ∀ Q : Bool → Hp → Prop, (∀ H2, Ez z' H H2 → At z' H2 (U i) → Q (kb i) H2) → tt σ H Q)
    (He : ∀ (z' : Z) (i c : Nat), t.cps[i]? = some c → kb i = true → ∃ y, A (i + 1) = A i ++ [y] ∧ ∀ σ H, En z' H σ (es.set j (.val (.str ⟨#[c]⟩))) → At z' H (U i) → ∀ Q : VK, (∀ v H2, Ez z' H H2 → At z' H2 (T (i + 1)) → Da z' H2 v y → Q v H2) → te σ H Q)
    (hn : ∀ (i c : Nat), t.cps[i]? = some c → kb i = false → A (i + 1) = A i ∧ T (i + 1) = U i) :
    ∀ σ H, En z H σ es → At z H s → ∀ Q : VK, (∀ v H2, Ez z H H2 → At z H2 (T t.cps.size) → Da z H2 v (.list (A t.cps.size)) → Q v H2) → tLc (iStr (wE X iter)) (gName j) tt te [j] σ H Q := fun σ H en at_ Q q => by
  refine hit σ H en at_ _ fun v H1 e1 a1 v1 => ?_
  cases v1
  have g : ∀ i, i < t.cps.size → t.cps[i]? = some (t.cps.getD i 0) := fun i hi => by
    rw [Array.getD_eq_getD_getElem?, Array.getElem?_eq_getElem hi]
    rfl
  refine ⟨t, rfl, fun D hD => ?_⟩
  refine lc_gen (walk_str (z := t)) T U (en.mono e1) (t0 ▸ a1) hD (fun i => .str ⟨#[t.cps.getD i 0]⟩) (fun H' e => trivial) (fun i x H' H2 hi hy => ⟨hy.1, ?_⟩) hl kb A hA0 (fun z' i hi => Ht z' i _ (g i hi)) (fun z' i hi => He z' i _ (g i hi)) (fun i hi => hn i _ (g i hi)) (fun H' e a2 d2 => q _ H' (e1.trans e) a2 d2)
  obtain ⟨c, hc, rfl⟩ := hy.2
  have := g i hi
  rw [hc] at this
  rw [← Option.some.inj this]
  exact .str _
/-- in the block of a comprehension -/
abbrev Blk (X : Cx) (scope : Scope) (p : Cx → Prop) : Prop := ∀ (s0 : Shared) (H0 : Hp) (C : Addr) (cl : List (Str × Addr)) (fp : List Addr), p (X.blk s0 H0 scope (compEnvC scope cl C X.env) fp)
def tEl (X : Cx) (scope : Scope) (elt : Expr) : TE := fun σ H Q => ∀ (s0 : Shared) (H0 : Hp) (C : Addr) (cl : List (Str × Addr)) (fp : List Addr), wE (X.blk s0 H0 scope (compEnvC scope cl C X.env) fp) elt σ H Q
def tTs (X : Cx) (scope : Scope) (cond : Expr) : TT := fun σ H Q => ∀ (s0 : Shared) (H0 : Hp) (C : Addr) (cl : List (Str × Addr)) (fp : List Addr), wT (X.blk s0 H0 scope (compEnvC scope cl C X.env) fp) cond σ H Q
theorem tEl_ok {scope : Scope} (s0 : Shared) (H0 : Hp) (C : Addr) (cl : List (Str × Addr)) (fp : List Addr) : PE (X.blk s0 H0 scope (compEnvC scope cl C X.env) fp) elt (tEl X scope elt) := ⟨fun pins s σ H Q I h => wE_ok.run pins s σ H Q I (h s0 H0 C cl fp)⟩
theorem tTs_ok {scope : Scope} (s0 : Shared) (H0 : Hp) (C : Addr) (cl : List (Str × Addr)) (fp : List Addr) : PTs (X.blk s0 H0 scope (compEnvC scope cl C X.env) fp) [cond] (tTs X scope cond) := pts_one ⟨fun pins s σ H Q I h => wT_ok.run pins s σ H Q I (h s0 H0 C cl fp)⟩
theorem ev_lcIf {j : Nat} {x : Str} {scope : Scope} {p pos : Pos} (hc : X.calm = true) (hN : X.N.Nodup) (hit : EV X z iter es s (.list ds) s1) (hl : ds.length ≤ 100000) (kb : Nat → Bool) (A : Nat → List PyData) (T U : Nat → S) (hA0 : A 0 = []) (t0 : T 0 = s1)
    (hB : BlkOk X.N X.env.scope scope [(x, j)]) (hg : ∀ (s : Shared) (H : Hp) (C : Addr) (cl : List (Str × Addr)) (fp : List Addr), PG (X.blk s H scope (compEnvC scope cl C X.env) fp) (.Name x p) (gName j))
    (Ht : ∀ (z' : Z) (i : Nat) d, ds[i]? = some d → Blk X scope fun Y => ET Y z' cond (es.set j (.val d)) (T i) (kb i) (U i))
    (He : ∀ (i : Nat) d, ds[i]? = some d → kb i = true → ∃ y, A (i + 1) = A i ++ [y] ∧ ∀ z' : Z, Blk X scope fun Y => EV Y z' elt (es.set j (.val d)) (U i) y (T (i + 1)))
    (hn : ∀ (i : Nat) d, ds[i]? = some d → kb i = false → A (i + 1) = A i ∧ T (i + 1) = U i) (hs : ∀ x, foldedSetIterable iter X.env x = pure x := by intro _; rfl) :
    EV X z (.ListComp elt [{ target := .Name x p, iter := iter, ifs := [cond], is_async := 0 }] scope pos) es s (.list (A ds.length)) (T ds.length) :=
  .mk (pe_lc (own := [(x, j)]) hc hN (pi_list wE_ok) hB hg tTs_ok tEl_ok hs)
    (lc_read hit hl kb A T U hA0 t0 (fun z' i d hd σ H en at_ Q q s0 H0 C cl fp => Ht z' i d hd s0 H0 C cl fp σ H en at_ Q q)
      (fun z' i d hd hk => by
        obtain ⟨y, hy, go⟩ := He i d hd hk
        exact ⟨y, hy, fun σ H en at_ Q q s0 H0 C cl fp => go z' s0 H0 C cl fp σ H en at_ Q q⟩) hn)
/-- y = [.. if ..] -/
theorem sr_lcIf {j k : Nat} {x y : Str} {scope : Scope} {p py pos spos : Pos} {rest : List Stmt} {o : Out} (hc : X.calm = true) (hN : X.N.Nodup) (hit : EV X z iter es s (.list ds) s1) (hl : ds.length ≤ 100000) (kb : Nat → Bool) (A : Nat → List PyData) (T U : Nat → S) (hA0 : A 0 = []) (t0 : T 0 = s1)
    (hB : BlkOk X.N X.env.scope scope [(x, j)]) (hg : ∀ (s : Shared) (H : Hp) (C : Addr) (cl : List (Str × Addr)) (fp : List Addr), PG (X.blk s H scope (compEnvC scope cl C X.env) fp) (.Name x p) (gName j))
    (Ht : ∀ (z' : Z) (i : Nat) d, ds[i]? = some d → Blk X scope fun Y => ET Y z' cond (es.set j (.val d)) (T i) (kb i) (U i))
    (He : ∀ (i : Nat) d, ds[i]? = some d → kb i = true → ∃ y, A (i + 1) = A i ++ [y] ∧ ∀ z' : Z, Blk X scope fun Y => EV Y z' elt (es.set j (.val d)) (U i) y (T (i + 1)))
    (hn : ∀ (i : Nat) d, ds[i]? = some d → kb i = false → A (i + 1) = A i ∧ T (i + 1) = U i) (kk : SR X z rest (es.set k (.val (.list (A ds.length)))) (T ds.length) o)
    (hi : X.N[k]? = some y := by rfl) (hy : List.lookup y X.env.scope.names = some NameKind.local := by rfl)
    (hsw : swapsWith (.ListComp elt [{ target := .Name x p, iter := iter, ifs := [cond], is_async := 0 }] scope pos) (some (.Name y py)) spos.line X.env = pure true := by exact sw_true rfl rfl rfl (by decide +kernel)) (hs : ∀ x, foldedSetIterable iter X.env x = pure x := by intro _; rfl) :
    SR X z (.Assign [.Name y py] (.ListComp elt [{ target := .Name x p, iter := iter, ifs := [cond], is_async := 0 }] scope pos) spos :: rest) es s o := fun σ H en at_ D q =>
  ⟨_, pss_cons (ps_setLc (i := k) (own := [(x, j)]) hc hN hi hy hsw (pi_list wE_ok) hB hg tTs_ok tEl_ok hs) wB_ok, by
    show tLc (iList X.K (wE X iter)) (gName j) (tTs X scope cond) (tEl X scope elt) [j] σ H (fun v H1 => wB X rest D (σ.set k (some v)) H1)
    exact lc_read hit hl kb A T U hA0 t0 (fun z' i d hd σ H en at_ Q q s0 H0 C cl fp => Ht z' i d hd s0 H0 C cl fp σ H en at_ Q q)
      (fun z' i d hd hk => by
        obtain ⟨y, hy, go⟩ := He i d hd hk
        exact ⟨y, hy, fun σ H en at_ Q q s0 H0 C cl fp => go z' s0 H0 C cl fp σ H en at_ Q q⟩) hn σ H en at_ _ fun v H2 e2 a2 v2 => kk _ H2 ((en.mono e2).set k (.val v2)) a2 D (q.mono e2)⟩
theorem ev_lcStr {j : Nat} {t : Str} {x : Str} {scope : Scope} {p pos : Pos} (hc : X.calm = true) (hN : X.N.Nodup) (hit : EV X z iter es s (.str t) s) (hl : t.cps.size ≤ 100000) (f : Nat → PyData)
    (hB : BlkOk X.N X.env.scope scope [(x, j)]) (hg : ∀ (s : Shared) (H : Hp) (C : Addr) (cl : List (Str × Addr)) (fp : List Addr), PG (X.blk s H scope (compEnvC scope cl C X.env) fp) (.Name x p) (gName j))
    (He : ∀ (c : Nat), ∀ z' : Z, Blk X scope fun Y => EV Y z' elt (es.set j (.val (.str ⟨#[c]⟩))) s (f c) s) (hs : ∀ x, foldedSetIterable iter X.env x = pure x := by intro _; rfl) :
    EV X z (.ListComp elt [{ target := .Name x p, iter := iter, ifs := [], is_async := 0 }] scope pos) es s (.list (t.cps.toList.map f)) s :=
  .mk (pe_lc (own := [(x, j)]) hc hN (pi_str wE_ok) hB hg (fun _ _ _ _ _ => pts_nil) tEl_ok hs) (by
    have g := lc_readS (X := X) (te := tEl X scope elt) (tt := tYes) (j := j) hit hl (fun _ => true) (fun i => (t.cps.toList.take i).map f) (fun _ => s) (fun _ => s) rfl rfl (fun z' i c hc σ H en at_ Q q => q H (.refl H) at_)
      (fun z' i c hc _ => ⟨f c, by rw [List.take_add_one, List.map_append, Array.getElem?_toList, hc]; rfl, fun σ H en at_ Q q s0 H0 C cl fp => He c z' s0 H0 C cl fp σ H en at_ Q q⟩) (fun i c _ h => by cases h)
    rw [show (t.cps.toList.take t.cps.size) = t.cps.toList from List.take_of_length_le (by simp)] at g
    exact g)
theorem rb_all {bs : List Bool} {K : PySem.W.Frag} : RB z s (rAll K) [.list (bs.map .bool)] (.bool (bs.all id)) := fun vs H at_ h Q q => by
  cases h with
  | cons h r =>
    cases r
    cases h with
    | lst n e r =>
      have : ∀ {xs : List V} {bs : List Bool}, DaAll z H xs (bs.map .bool) → xs = bs.map V.bl := by
        intro xs bs
        induction bs generalizing xs with
        | nil => intro h; cases h; rfl
        | cons b bs ih =>
          intro h
          cases h with
          | cons h r =>
            cases h
            rw [ih r]
            rfl
      rw [this r] at e
      exact ⟨_, bs, rfl, .inl (.inl e), q _ H (.refl H) at_ (.bl _)⟩
end
end DL


set_option Elab.async false
set_option linter.all false
set_option maxRecDepth 100000
namespace DL
open PySem PySem.Spec PyProof.Rows L2
variable [TabT]
/-! ### 9. lists of a def's own, written in place -/
theorem En.slot {z : Z} {H : Hp} : ∀ {σ : L2.St} {es : List Sl}, En z H σ es → ∀ {i : Nat} {e : Sl}, es[i]? = some e → ∃ x, σ[i]? = some x ∧ SlR z H x e
  | _, _, .nil, i, e, h => by simp at h
  | _, _, .cons h r, 0, e, q => by
    cases Option.some.inj q
    exact ⟨_, rfl, h⟩
  | _, _, .cons h r, i + 1, e, q => En.slot r (i := i) q
theorem En.by_slots {z : Z} {H : Hp} : ∀ {σ : List (Option V)} {es : List Sl}, σ.length = es.length → (∀ (i : Nat) (x : Option V) (e : Sl), σ[i]? = some x → es[i]? = some e → SlR z H x e) → En z H σ es
  | [], [], _, _ => .nil
  | [], _ :: _, h, _ => by simp at h
  | _ :: _, [], h, _ => by simp at h
  | x :: σ, e :: es, h, k => .cons (k 0 x e rfl rfl) (En.by_slots (by simpa using h) fun i x e h1 h2 => k (i + 1) x e h1 h2)
def Z.own (z : Z) (vol : List (Addr × HO)) : Z := ⟨z.dice, vol ++ z.vol⟩
/-- how a def's run stands: z: what its caller holds; Hc: the heap at its entry; vol: its own lists -/
structure OI (z : Z) (Hc H : Hp) (vol : List (Addr × HO)) (σ : L2.St) (es : List Sl) (s : S) : Prop where
  new : ∀ q ∈ vol, Hc q.1 = none
  nd : (vol.map (·.1)).Nodup
  base : ∀ q ∈ z.vol, Hc q.1 ≠ none
  at_ : At (z.own vol) H s
  en : En (z.own vol) H σ es
  ez : Ez z Hc H
  far : ∀ (i : Nat) (ds : List PyData) (p : Addr), es[i]? = some (Sl.own ds) → σ[i]? = some (some (V.ref p)) → Hc p = none
  two : ∀ (i j : Nat) (ds ds' : List PyData) (p : Addr), i ≠ j → es[i]? = some (Sl.own ds) → es[j]? = some (Sl.own ds') → σ[i]? = some (some (V.ref p)) → σ[j]? ≠ some (some (V.ref p))
theorem Fz.of_own {z : Z} {vol : List (Addr × HO)} {a : Addr} (h : Fz (z.own vol) a) : Fz z a ∧ ∀ o, (a, o) ∉ vol := ⟨⟨h.1, fun o m => h.2 o (List.mem_append_right _ m)⟩, fun o m => h.2 o (List.mem_append_left _ m)⟩
theorem Fz.to_own {z : Z} {vol : List (Addr × HO)} {a : Addr} (h : Fz z a) (n : ∀ o, (a, o) ∉ vol) : Fz (z.own vol) a := ⟨h.1, fun o m => by
  rcases List.mem_append.mp m with m | m
  · exact n o m
  · exact h.2 o m⟩
section
variable {z : Z} {Hc H H' : Hp} {vol : List (Addr × HO)} {σ : L2.St} {es : List Sl} {s s' : S}
/-- what was there at the entry is none of the def's own lists -/
theorem OI.old (I : OI z Hc H vol σ es s) {a : Addr} {o : HO} (h : Hc a = some o) : ∀ u, (a, u) ∉ vol := fun u m => by
  rw [I.new _ m] at h
  cases h
theorem OI.ezc (I : OI z Hc H vol σ es s) (e : Ez (z.own vol) H H') : Ez z Hc H' := fun a o f h => e a o (f.to_own (I.old h)) (I.ez a o f h)
theorem OI.atz (I : OI z Hc H vol σ es s) (a : At (z.own vol) H' s') : At z H' s' := ⟨a.d, fun p m => a.v p (List.mem_append_right _ m), fun p m => a.n p (List.mem_append_right _ m), a.t⟩
/-- an expression's run, that changes no list of its own -/
theorem OI.step (I : OI z Hc H vol σ es s) (e : Ez (z.own vol) H H') (a : At (z.own vol) H' s') : OI z Hc H' vol σ es s' := ⟨I.new, I.nd, I.base, a, I.en.mono e, I.ezc e, I.far, I.two⟩
end
/-- how a block ends -/
def MO (z : Z) (Hc : Hp) (D : Ends) : Out → Prop
  | .nx es s => ∀ vol σ' H', OI z Hc H' vol σ' es s → D.nx σ' H'
  | .rt d s => ∀ v H', Ez z Hc H' → At z H' s → Da z H' v d → D.rt v H'
  | .ex W _ x s => ∀ cls dx σ' H', Ez z Hc H' → At z H' s → XR z H' cls dx x → W cls dx σ' H'
/-- a block that may hold lists of its own -/
def SO (X : Cx) (st : List Stmt) (es : List Sl) (s : S) (o : Out) : Prop := ∀ (z : Z) (Hc H : Hp) vol σ, OI z Hc H vol σ es s → ∀ D : Ends, MO z Hc D o → wB X st D σ H
section
variable {X : Cx} {es es1 es2 fs : List Sl} {s s1 s2 s' : S} {a b c e : Expr} {xs : List Expr} {pos p p1 p2 p3 p4 apos : Pos} {d d1 d2 : PyData} {ds : List PyData} {o : Out} {st : Stmt} {rest body els : List Stmt}
theorem so_nil : SO X [] es s (.nx es s) := fun z Hc H vol σ I D q => ⟨_, pss_nil, q vol σ H I⟩
theorem so_ret (h : ∀ z, EV X z e es s d s1) : SO X (.Return (some e) pos :: rest) es s (.rt d s1) := fun z Hc H vol σ I D q =>
  ⟨_, pss_cons (ps_ret wE_ok) wB_never, h _ σ H I.en I.at_ _ fun v H1 e1 a1 v1 => q v H1 (I.ezc e1) (I.atz a1) (v1.re fun a o f h => ⟨f.of_own.1, h⟩)⟩
/-- a list of one's own is handed back -/
theorem so_retO (i : Nat) {x : Str} (h : es[i]? = some (.own ds) := by rfl) (hN : X.N[i]? = some x := by rfl) (hv : Vis X.env.scope x := by first | exact Or.inl rfl | exact Or.inr (Or.inl rfl) | exact Or.inr (Or.inr rfl)) (hd : (x == ("__debug__" : Str)) = false := by decide) (hcd : (x == ("__classdict__" : Str)) = false := by decide) :
    SO X (.Return (some (.Name x p)) pos :: rest) es s (.rt (.list ds) s) := fun z Hc H vol σ I D q => by
  obtain ⟨y, hy, r⟩ := I.en.slot h
  cases r with
  | @own a vs _ m k =>
    have hc := I.far i ds a h hy
    have ha : H a = some (.lst vs) := I.at_.v _ m
    have f : Fz z a := ⟨⟨fun e => (I.at_.n _ m).1 e, I.at_.tab_far (I.at_.v _ m)⟩, fun o mo => I.base _ mo hc⟩
    exact ⟨_, pss_cons (ps_ret (pe_var hN hv hd hcd)) wB_never, _, hy, q _ H I.ez (I.atz I.at_) (.lst f ha (k.re fun b u fb hb => ⟨fb.of_own.1, hb⟩))⟩
theorem OI.set {z : Z} {Hc H H' : Hp} {vol : List (Addr × HO)} {σ : L2.St} (I : OI z Hc H vol σ es s) (e : Ez (z.own vol) H H') (a : At (z.own vol) H' s1) (i : Nat) {v : V} (hv : Da (z.own vol) H' v d) : OI z Hc H' vol (σ.set i (some v)) (es.set i (.val d)) s1 := by
  refine ⟨I.new, I.nd, I.base, a, (I.en.mono e).set i (.val hv), I.ezc e, fun j ds p h1 h2 => ?_, fun j k ds ds' p n h1 h2 h3 => ?_⟩
  · by_cases hj : i = j
    · subst hj
      have : (es.set i (Sl.val d))[i]? = some (.val d) ∨ (es.set i (Sl.val d))[i]? = none := by
        by_cases hl : i < es.length
        · left; rw [List.getElem?_set_self hl]
        · right; rw [List.getElem?_eq_none (by rw [List.length_set]; omega)]
      rcases this with e | e <;> rw [e] at h1 <;> cases h1
    · rw [List.getElem?_set_ne hj] at h1 h2
      exact I.far j ds p h1 h2
  · have ne : ∀ {m : Nat} {ds : List PyData}, (es.set i (Sl.val d))[m]? = some (.own ds) → i ≠ m := fun {m ds} h e => by
      subst e
      by_cases hl : i < es.length
      · rw [List.getElem?_set_self hl] at h
        cases h
      · rw [List.getElem?_eq_none (by rw [List.length_set]; omega)] at h
        cases h
    have nj := ne h1
    have nk := ne h2
    rw [List.getElem?_set_ne nj] at h1 h3
    rw [List.getElem?_set_ne nk] at h2 ⊢
    exact I.two j k ds ds' p n h1 h2 h3
theorem so_asg (i : Nat) {x : Str} (hN : X.N.Nodup) (h : ∀ z, EV X z e es s d s1) (k : SO X rest (es.set i (.val d)) s1 o) (hi : X.N[i]? = some x := by rfl) (hx : Loc X.env.scope x := by first | exact Or.inl rfl | exact Or.inr rfl)
    (hs : swapsWith e (some (.Name x p)) pos.line X.env = pure false := by rfl) (hf : X.fn x = true ∨ X.env.scope.names.lookup x = some .local := by first | exact .inl rfl | exact .inr rfl) : SO X (.Assign [.Name x p] e pos :: rest) es s o := fun z Hc H vol σ I D q =>
  ⟨_, pss_cons (ps_set hN hi hx wE_ok hs hf) wB_ok, h _ σ H I.en I.at_ _ fun v H1 e1 a1 v1 => k z Hc H1 vol _ (I.set e1 a1 i v1) D q⟩
/-- a block that leaves the own lists alone, by the rules of part 4 -/
theorem so_of (h : ∀ z, SR X z body es s (.rt d s1)) : SO X body es s (.rt d s1) := fun z Hc H vol σ I D q =>
  h _ σ H I.en I.at_ D fun v H1 e1 a1 v1 => q v H1 (I.ezc e1) (I.atz a1) (v1.re fun a o f h => ⟨f.of_own.1, h⟩)
theorem so_ifT (hc : ∀ z, ET X z c es s true s1) (h : SO X body es s1 (.rt d s2)) : SO X (.If c body els pos :: rest) es s (.rt d s2) := fun z Hc H vol σ I D q =>
  ⟨_, pss_cons (ps_if wT_ok wB_ok wB_never) wB_never, hc _ σ H I.en I.at_ _ fun H1 e1 a1 => iteT (h z Hc H1 vol σ (I.step e1 a1) _ q)⟩
theorem so_ifTn (hc : ∀ z, ET X z c es s true s1) (h : SO X body es s1 (.nx es2 s2)) (k : SO X rest es2 s2 o) : SO X (.If c body els pos :: rest) es s o := fun z Hc H vol σ I D q =>
  ⟨_, pss_cons (ps_if wT_ok wB_ok wB_never) wB_ok, hc _ σ H I.en I.at_ _ fun H1 e1 a1 => iteT (h z Hc H1 vol σ (I.step e1 a1) _ fun vol' σ' H' I' => k z Hc H' vol' σ' I' D q)⟩
theorem so_ifF (hc : ∀ z, ET X z c es s false s1) (k : SO X rest es s1 o) : SO X (.If c body [] pos :: rest) es s o := fun z Hc H vol σ I D q =>
  ⟨_, pss_cons (ps_if wT_ok wB_never pss_nil) wB_ok, hc _ σ H I.en I.at_ _ fun H1 e1 a1 => iteF (k z Hc H1 vol σ (I.step e1 a1) D q)⟩
theorem so_elFn (hc : ∀ z, ET X z c es s false s1) (h : SO X els es s1 (.nx es2 s2)) (k : SO X rest es2 s2 o) : SO X (.If c body els pos :: rest) es s o := fun z Hc H vol σ I D q =>
  ⟨_, pss_cons (ps_if wT_ok wB_never wB_ok) wB_ok, hc _ σ H I.en I.at_ _ fun H1 e1 a1 => iteF (h z Hc H1 vol σ (I.step e1 a1) _ fun vol' σ' H' I' => k z Hc H' vol' σ' I' D q)⟩
theorem so_expr (h : ∀ z, EV X z e es s d s1) (k : SO X rest es s1 o) (hs : swapsWith e none pos.line X.env = pure false := by rfl) : SO X (.Expr e pos :: rest) es s o := fun z Hc H vol σ I D q =>
  ⟨_, pss_cons (ps_expr wE_ok hs) wB_ok, h _ σ H I.en I.at_ _ fun v H1 e1 a1 v1 => k z Hc H1 vol σ (I.step e1 a1) D q⟩
/-! a new list, not yet known to anybody -/
def EN (X : Cx) (z : Z) (e : Expr) (es : List Sl) (s : S) (ds : List PyData) (s' : S) : Prop := ∀ σ H, En z H σ es → At z H s → ∀ Q : VK, (∀ p vs H1, Ez z H H1 → At z H1 s' → H1 p = none → DaAll z H1 vs ds → Q (.ref p) (upd H1 p (.lst vs))) → wE X e σ H Q
theorem en_lst {z : Z} (h : ED X z xs es s ds s') (hl : ds.length ≤ 100000 := by exact Nat.le_of_ble_eq_true rfl) : EN X z (.List xs pos) es s ds s' := fun σ H en at_ Q q => ⟨_, pe_lst wA_ok,
  h σ H en at_ _ fun vs H1 e1 a1 v1 => ⟨by rw [v1.length]; exact Nat.le_trans hl (by decide), fun p hp => q p vs H1 e1 a1 hp v1⟩⟩
theorem so_new (i : Nat) {x : Str} (hN : X.N.Nodup) (h : ∀ z, EN X z e es s ds s1) (k : SO X rest (es.set i (.own ds)) s1 o) (hi : X.N[i]? = some x := by rfl) (hx : Loc X.env.scope x := by first | exact Or.inl rfl | exact Or.inr rfl)
    (hs : swapsWith e (some (.Name x p)) pos.line X.env = pure false := by rfl) (hf : X.fn x = true ∨ X.env.scope.names.lookup x = some .local := by first | exact .inl rfl | exact .inr rfl) : SO X (.Assign [.Name x p] e pos :: rest) es s o := fun z Hc H vol σ I D q =>
  ⟨_, pss_cons (ps_set hN hi hx wE_ok hs hf) wB_ok, h _ σ H I.en I.at_ _ fun a vs H1 e1 a1 ha r => k z Hc _ ((a, .lst vs) :: vol) _ (by
    have nc : Hc a = none := by
      cases hh : Hc a with
      | none => rfl
      | some u =>
        have f : Fz (z.own vol) a := a1.fresh ha
        rw [I.ezc e1 a u f.of_own.1 hh] at ha
        cases ha
    have fa := a1.fresh ha
    have e2 : Ez (z.own vol) H1 (upd H1 a (.lst vs)) := .new ha
    have re : ∀ (b : Addr) (u : HO), Fz (z.own vol) b → H1 b = some u → Fz (z.own ((a, .lst vs) :: vol)) b ∧ upd H1 a (.lst vs) b = some u := fun b u fb hb => by
      have nb := ne_of_none hb ha
      refine ⟨⟨fb.1, fun o m => ?_⟩, by rw [upd_ne nb]; exact hb⟩
      rcases List.mem_cons.mp m with e | m
      · exact nb (congrArg Prod.fst e)
      · exact fb.2 o m
    have notin : ∀ u, (a, u) ∉ vol := fun u m => fa.2 u (List.mem_append_left _ m)
    refine ⟨?_, ?_, I.base, ⟨?_, ?_, ?_, tabs_new a1.t ha⟩, ?_, (I.ezc e1).trans (.new ha), ?_, ?_⟩
    · intro q hq
      rcases List.mem_cons.mp hq with e | m
      · rw [e]
        exact nc
      · exact I.new q m
    · show ((a :: vol.map (·.1)) : List Addr).Nodup
      refine List.nodup_cons.mpr ⟨fun m => ?_, I.nd⟩
      obtain ⟨q, hq, e⟩ := List.mem_map.mp m
      exact notin q.2 (by rw [← e]; exact hq)
    · intro b hb
      have := a1.d b hb
      rw [upd_ne (ne_of_none this ha)]
      exact this
    · intro q hq
      rcases List.mem_cons.mp hq with e | m
      · rw [e]
        exact upd_same
      · have := a1.v q m
        rw [upd_ne (ne_of_none this ha)]
        exact this
    · intro q hq
      rcases List.mem_cons.mp hq with e | m
      · rw [e]
        exact ⟨fa.1.1, _, rfl⟩
      · exact a1.n q m
    · exact (En.re (z := z.own vol) (z' := z.own ((a, .lst vs) :: vol)) rfl (fun q m => List.mem_cons_of_mem _ m) re (I.en.mono e1)).set i (.own (List.mem_cons_self ..) (r.re re))
    · intro j ds' b h1 h2
      by_cases hj : i = j
      · subst hj
        by_cases hl : i < σ.length
        · rw [List.getElem?_set_self hl] at h2
          cases h2
          exact nc
        · rw [List.getElem?_eq_none (by rw [List.length_set]; omega)] at h2
          cases h2
      · rw [List.getElem?_set_ne hj] at h1 h2
        exact I.far j ds' b h1 h2
    · intro j l ds1 ds2 b n h1 h2 h3 h4
      have own_ne : ∀ {m : Nat} {ds' : List PyData}, i ≠ m → (es.set i (Sl.own ds))[m]? = some (.own ds') → (σ.set i (some (.ref a)))[m]? = some (some (.ref b)) → b ≠ a := fun {m ds'} hm g1 g2 e => by
        rw [List.getElem?_set_ne hm] at g1 g2
        subst e
        obtain ⟨y, hy, r⟩ := I.en.slot g1
        rw [g2] at hy
        cases hy
        cases r with
        | own mm _ =>
          have := a1.v _ mm
          rw [show H1 b = _ from this] at ha
          cases ha
      have self : ∀ {m : Nat}, i = m → (σ.set i (some (.ref a)))[m]? = some (some (.ref b)) → b = a := fun {m} hm g => by
        subst hm
        by_cases hl : i < σ.length
        · rw [List.getElem?_set_self hl] at g
          cases g
          rfl
        · rw [List.getElem?_eq_none (by rw [List.length_set]; omega)] at g
          cases g
      by_cases hj : i = j
      · exact own_ne (fun e => n (hj.symm.trans e)) h2 h4 (self hj h3)
      · by_cases hl : i = l
        · exact own_ne hj h1 h3 (self hl h4)
        · rw [List.getElem?_set_ne hj] at h1 h3
          rw [List.getElem?_set_ne hl] at h2 h4
          exact I.two j l ds1 ds2 b n h1 h2 h3 h4) D q⟩
/-- the list in slot i changed in place -/
theorem OI.write {z : Z} {Hc H H' : Hp} {vol : List (Addr × HO)} {σ : L2.St} {a : Addr} {vs vs' : List V} {ds' : List PyData} {i : Nat} (I : OI z Hc H vol σ es s) (h : es[i]? = some (.own ds)) (hy : σ[i]? = some (some (.ref a))) (m : (a, HO.lst vs) ∈ (z.own vol).vol)
    (e1 : Ez (z.own vol) H H') (a1 : At (z.own vol) H' s1) (r : DaAll (z.own vol) H' vs' ds') : ∃ vol', OI z Hc (upd H' a (.lst vs')) vol' σ (es.set i (.own ds')) s1 := by
  have hc := I.far i ds a h hy
  have mv : (a, HO.lst vs) ∈ vol := by
    rcases List.mem_append.mp m with m | m
    · exact m
    · exact absurd hc (I.base _ m)
  have nz : ∀ q ∈ z.vol, q.1 ≠ a := fun q hq e => I.base q hq (by rw [e]; exact hc)
  let g : Addr × HO → Addr × HO := fun q => if q.1 = a then (a, .lst vs') else q
  have g1 : ∀ q, (g q).1 = q.1 := fun q => by
    show (if q.1 = a then (a, HO.lst vs') else q).1 = q.1
    by_cases e : q.1 = a
    · rw [if_pos e, e]
    · rw [if_neg e]
  have gm : vol.map (fun q => (g q).1) = vol.map (·.1) := by
    congr 1
    funext q
    exact g1 q
  have keep : ∀ {q : Addr × HO}, q.1 ≠ a → g q = q := fun {q} hn => if_neg hn
  have re : ∀ (b : Addr) (u : HO), Fz (z.own vol) b → H' b = some u → Fz (z.own (vol.map g)) b ∧ upd H' a (.lst vs') b = some u := fun b u fb hb => by
    have nb : b ≠ a := fun e => fb.2 (.lst vs) (by rw [e]; exact List.mem_append_left _ mv)
    refine ⟨⟨fb.1, fun o mo => ?_⟩, by rw [upd_ne nb]; exact hb⟩
    rcases List.mem_append.mp mo with mo | mo
    · obtain ⟨q, hq, e⟩ := List.mem_map.mp mo
      have q1 : q.1 = b := by rw [← g1 q, e]
      have : g q = q := keep (by rw [q1]; exact nb)
      rw [this] at e
      exact fb.2 o (List.mem_append_left _ (by rw [← e]; exact hq))
    · exact fb.2 o (List.mem_append_right _ mo)
  refine ⟨vol.map g, ⟨?_, ?_, I.base, ⟨?_, ?_, ?_, tabs_upd a1.t (a1.v _ m)⟩, ?_, ?_, ?_, ?_⟩⟩
  · intro q hq
    obtain ⟨q0, h0, e⟩ := List.mem_map.mp hq
    rw [← e, g1]
    exact I.new q0 h0
  · rw [List.map_map]
    show (vol.map fun q => (g q).1).Nodup
    rw [gm]
    exact I.nd
  · intro b hb
    rw [upd_ne (fun e => (a1.n _ m).1 (by rw [← e]; exact hb))]
    exact a1.d b hb
  · intro q hq
    rcases List.mem_append.mp hq with mo | mo
    · obtain ⟨q0, h0, e⟩ := List.mem_map.mp mo
      by_cases hn : q0.1 = a
      · have : g q0 = (a, .lst vs') := if_pos hn
        rw [← e, this]
        exact upd_same
      · rw [← e, keep hn, upd_ne hn]
        exact a1.v q0 (List.mem_append_left _ h0)
    · rw [upd_ne (nz q mo)]
      exact a1.v q (List.mem_append_right _ mo)
  · intro q hq
    rcases List.mem_append.mp hq with mo | mo
    · obtain ⟨q0, h0, e⟩ := List.mem_map.mp mo
      rw [← e, g1]
      refine ⟨(a1.n q0 (List.mem_append_left _ h0)).1, ?_⟩
      by_cases hn : q0.1 = a
      · exact ⟨vs', by rw [show g q0 = (a, .lst vs') from if_pos hn]⟩
      · rw [keep hn]
        exact (a1.n q0 (List.mem_append_left _ h0)).2
    · exact a1.n q (List.mem_append_right _ mo)
  · have en1 := I.en.mono e1
    have ma : (a, HO.lst vs') ∈ vol.map g := List.mem_map.mpr ⟨_, mv, if_pos rfl⟩
    refine En.by_slots (by rw [List.length_set, en1.length]) fun j x e hx he => ?_
    by_cases hj : i = j
    · subst hj
      have hl : i < es.length := (List.getElem?_eq_some_iff.mp h).1
      rw [List.getElem?_set_self hl] at he
      cases he
      rw [hy] at hx
      cases hx
      exact .own (List.mem_append_left _ ma) (r.re re)
    · rw [List.getElem?_set_ne hj] at he
      obtain ⟨y, hy2, rr⟩ := en1.slot he
      rw [hx] at hy2
      cases hy2
      cases rr with
      | un => exact .un
      | val d => exact .val (d.re re)
      | dice e => exact .dice e
      | raw => exact .raw
      | exc q => exact .exc (q.re re)
      | @own b ws es' mm k =>
        have nb : b ≠ a := fun e => I.two i j _ _ a hj h he hy (by rw [← e]; exact hx)
        refine .own ?_ (k.re re)
        rcases List.mem_append.mp mm with mm | mm
        · exact List.mem_append_left _ (List.mem_map.mpr ⟨_, mm, keep nb⟩)
        · exact List.mem_append_right _ mm
  · intro b u fb hb
    have nb : b ≠ a := fun e => by
      rw [e, hc] at hb
      cases hb
    rw [upd_ne nb]
    exact I.ezc e1 b u fb hb
  · intro j ds2 b h1 h2
    by_cases hj : i = j
    · subst hj
      rw [hy] at h2
      cases h2
      exact hc
    · rw [List.getElem?_set_ne hj] at h1
      exact I.far j ds2 b h1 h2
  · intro j l ds1 ds2 b n h1 h2 h3
    have back : ∀ {m : Nat} {ds2 : List PyData}, (es.set i (Sl.own ds'))[m]? = some (.own ds2) → ∃ ds3, es[m]? = some (.own ds3) := fun {m ds2} hm => by
      by_cases e : i = m
      · subst e
        exact ⟨ds, h⟩
      · rw [List.getElem?_set_ne e] at hm
        exact ⟨_, hm⟩
    obtain ⟨d3, h1'⟩ := back h1
    obtain ⟨d4, h2'⟩ := back h2
    exact I.two j l d3 d4 b n h1' h2' h3
end
end DL


set_option Elab.async false
set_option linter.all false
set_option maxRecDepth 100000
namespace DL
open PySem PySem.Spec PyProof.Rows L2
variable [TabT]
/-! ### 10. comprehensions without a test -/
section
variable {X : Cx} {z : Z} {es es1 es2 : List Sl} {s s1 s2 : S} {iter elt cond a b e : Expr} {ds fs : List PyData} {d d1 d2 : PyData} {o : Out} {rest body els : List Stmt} {pos p p1 p2 p3 p4 : Pos}
abbrev PgIn (X : Cx) (scope : Scope) (t : Expr) (g : TG) : Prop := ∀ (s : Shared) (H : Hp) (C : Addr) (cl : List (Str × Addr)) (fp : List Addr), PG (X.blk s H scope (compEnvC scope cl C X.env) fp) t g
theorem take_succ {ds : List PyData} {f : PyData → PyData} {i : Nat} {d : PyData} (h : ds[i]? = some d) : (ds.take (i + 1)).map f = (ds.take i).map f ++ [f d] := by
  rw [List.take_add_one, h, List.map_append]
  rfl
/-- [e for x in a list] -/
theorem ev_lcF {j : Nat} {x : Str} {scope : Scope} (hc : X.calm = true) (hN : X.N.Nodup) (f : PyData → PyData) (hit : EV X z iter es s (.list ds) s) (hl : ds.length ≤ 100000) (hB : BlkOk X.N X.env.scope scope [(x, j)]) (hg : PgIn X scope (.Name x p) (gName j))
    (He : ∀ d ∈ ds, ∀ z' : Z, Blk X scope fun Y => EV Y z' elt (es.set j (.val d)) s (f d) s) (hs : ∀ x, foldedSetIterable iter X.env x = pure x := by intro _; rfl) :
    EV X z (.ListComp elt [{ target := .Name x p, iter := iter, ifs := [], is_async := 0 }] scope pos) es s (.list (ds.map f)) s :=
  .mk (pe_lc (own := [(x, j)]) hc hN (pi_list wE_ok) hB hg (fun _ _ _ _ _ => pts_nil) tEl_ok hs) (by
    have g := lc_read (X := X) (te := tEl X scope elt) (tt := tYes) (j := j) hit hl (fun _ => true) (fun i => (ds.take i).map f) (fun _ => s) (fun _ => s) rfl rfl (fun z' i d hd σ H en at_ Q q => q H (.refl H) at_)
      (fun z' i d hd _ => ⟨f d, take_succ hd, fun σ H en at_ Q q s0 H0 C cl fp => He d (List.mem_of_getElem? hd) z' s0 H0 C cl fp σ H en at_ Q q⟩) (fun i d _ h => by cases h)
    rw [List.take_length] at g
    exact g)
/-- [e for x in a tuple] -/
theorem ev_lcFT {j : Nat} {x : Str} {scope : Scope} (hc : X.calm = true) (hN : X.N.Nodup) (f : PyData → PyData) (hit : EV X z iter es s (.tuple ds) s) (hl : ds.length ≤ 100000) (hB : BlkOk X.N X.env.scope scope [(x, j)]) (hg : PgIn X scope (.Name x p) (gName j))
    (He : ∀ d ∈ ds, ∀ z' : Z, Blk X scope fun Y => EV Y z' elt (es.set j (.val d)) s (f d) s) (hs : ∀ x, foldedSetIterable iter X.env x = pure x := by intro _; rfl) :
    EV X z (.ListComp elt [{ target := .Name x p, iter := iter, ifs := [], is_async := 0 }] scope pos) es s (.list (ds.map f)) s :=
  .mk (pe_lc (own := [(x, j)]) hc hN (pi_tup wE_ok) hB hg (fun _ _ _ _ _ => pts_nil) tEl_ok hs) fun σ H en at_ Q q => by
    refine hit σ H en at_ _ fun v H1 e1 a1 v1 => ?_
    cases v1 with
    | @tup a xs _ fa ha r =>
      have hx : xs.length = ds.length := r.length
      have g : ∀ i, i < xs.length → ds[i]? = some (ds.getD i .none) := fun i hi => by
        rw [List.getD_eq_getElem?_getD, List.getElem?_eq_getElem (by omega)]
        rfl
      refine ⟨a, rfl, ⟨xs, .inl (.inl ha)⟩, fun D hD => ?_⟩
      refine lc_gen (walk_tup (K := X.K) (a := a) (xs := xs)) (fun _ => s) (fun _ => s) (en.mono e1) a1 hD (fun i => ds.getD i .none) (fun H' e => .inl (.inl (e a _ fa ha))) (fun i x H' H2 hi hy => ⟨hy.1, ?_⟩) (by omega) (fun _ => true) (fun i => (ds.take i).map f) rfl (fun z' i hi σ H en at_ Q q => q H (.refl H) at_)
        (fun z' i hi _ => ⟨f (ds.getD i .none), take_succ (g i hi), fun σ H en at_ Q q s0 H0 C cl fp => He _ (List.mem_of_getElem? (g i hi)) z' s0 H0 C cl fp σ H en at_ Q q⟩) (fun i _ h => by cases h) (fun H' e a2 d2 => ?_)
      · obtain ⟨d, hd, hv⟩ := r.getV i x hy.2
        have := g i hi
        rw [hd] at this
        rw [← Option.some.inj this]
        exact hv
      · rw [hx, List.take_length] at d2
        exact q _ H' (e1.trans e) a2 d2
/-- [e for x in range(n)], the state going along -/
theorem ev_lcFR {j : Nat} {x : Str} {scope : Scope} {n : Nat} (hc : X.calm = true) (hN : X.N.Nodup) (hm : X.mg "range" = none) (f : Nat → PyData) (T : Nat → S) (hit : ED X z [a] es s [.int (n : Int)] s1) (t0 : T 0 = s1) (hl : n ≤ 100000) (hB : BlkOk X.N X.env.scope scope [(x, j)]) (hg : PgIn X scope (.Name x p) (gName j))
    (He : ∀ i : Nat, i < n → ∀ z' : Z, Blk X scope fun Y => EV Y z' elt (es.set j (.val (.int (i : Int)))) (T i) (f i) (T (i + 1))) (hgl : Gl X "range" := by rfl) (hst : starEach [a] X.env = [(false, eval a X.env)] := by rfl) (hs : ∀ x, foldedSetIterable (.Call (.Name "range" p1) [a] [] p2) X.env x = pure x := by intro _; rfl) :
    EV X z (.ListComp elt [{ target := .Name x p, iter := .Call (.Name "range" p1) [a] [] p2, ifs := [], is_async := 0 }] scope pos) es s (.list ((List.range n).map f)) (T n) :=
  .mk (pe_lc (own := [(x, j)]) hc hN (pi_range1 hgl hm wA_ok hst) hB hg (fun _ _ _ _ _ => pts_nil) tEl_ok hs) fun σ H en at_ Q q => by
    refine hit σ H en at_ _ fun vs H1 e1 a1 v1 => ?_
    cases v1 with
    | cons h r =>
      cases r
      cases h
      refine ⟨(n : Int), rfl, by omega, by omega, fun D hD => ?_⟩
      rw [Int.toNat_natCast]
      refine lc_gen (walk_range (lo := 0) (n := n)) T T (en.mono e1) (t0 ▸ a1) hD (fun i => .int (i : Int)) (fun H' e => trivial) (fun i x H' H2 hi hy => ⟨hy.1, ?_⟩) hl (fun _ => true) (fun i => (List.range i).map f) rfl (fun z' i hi σ H en at_ Q q => q H (.refl H) at_)
        (fun z' i hi _ => ⟨f i, by rw [List.range_succ, List.map_append]; rfl, fun σ H en at_ Q q s0 H0 C cl fp => He i hi z' s0 H0 C cl fp σ H en at_ Q q⟩) (fun i _ h => by cases h) (fun H' e a2 d2 => q _ H' (e1.trans e) a2 d2)
      rw [hy.2]
      show Da z H1 (.int (0 + (i : Int))) _
      rw [Int.zero_add]
      exact .int _
/-- [e for x, y in a list of pairs] -/
theorem ev_lcP {j k : Nat} {x y : Str} {scope : Scope} {kt : Nat} (hc : X.calm = true) (hN : X.N.Nodup) (hjk : j ≠ k) (ps : List (PyData × PyData)) (f : PyData × PyData → PyData) (hit : EV X z iter es s (.list (ps.map fun q => .tuple [q.1, q.2])) s) (hl : ps.length ≤ 100000) (hB : BlkOk X.N X.env.scope scope [(x, j), (y, k)])
    (hg : PgIn X scope (.Tuple [.Name x p, .Name y p1] kt p2) (gTup X.K 2 (gCons (gName j) (gCons (gName k) gNil))))
    (He : ∀ q ∈ ps, ∀ z' : Z, Blk X scope fun Y => EV Y z' elt ((es.set j (.val q.1)).set k (.val q.2)) s (f q) s) (hs : ∀ x, foldedSetIterable iter X.env x = pure x := by intro _; rfl) :
    EV X z (.ListComp elt [{ target := .Tuple [.Name x p, .Name y p1] kt p2, iter := iter, ifs := [], is_async := 0 }] scope pos) es s (.list (ps.map f)) s :=
  .mk (pe_lc (own := [(x, j), (y, k)]) hc hN (pi_list wE_ok) hB hg (fun _ _ _ _ _ => pts_nil) tEl_ok hs) fun σ H en at_ Q q => by
    refine hit σ H en at_ _ fun v H1 e1 a1 v1 => ?_
    cases v1 with
    | @lst a xs _ fa ha r =>
      have hx : xs.length = ps.length := by rw [r.length, List.length_map]
      have g : ∀ i, i < xs.length → ps[i]? = some (ps.getD i (.none, .none)) := fun i hi => by
        rw [List.getD_eq_getElem?_getD, List.getElem?_eq_getElem (by omega)]
        rfl
      refine ⟨a, rfl, ⟨xs, .inl (.inl ha)⟩, fun D hD => ?_⟩
      refine lc_two (K := X.K) (walk_list (K := X.K) (a := a) (xs := xs)) (fun _ => s) (fun _ => s) (en.mono e1) a1 hD hjk (fun i => (ps.getD i (.none, .none)).1) (fun i => (ps.getD i (.none, .none)).2) (fun H' e => .inl (.inl (e a _ fa ha))) (fun i x H' H2 hi eH hy => ?_) (by omega) (fun _ => true) (fun i => (ps.take i).map f) rfl
        (fun z' i hi σ H en at_ Q q => q H (.refl H) at_) (fun z' i hi _ => ⟨f (ps.getD i (.none, .none)), by rw [List.take_add_one, g i hi, List.map_append]; rfl, fun σ H en at_ Q q s0 H0 C cl fp => He _ (List.mem_of_getElem? (g i hi)) z' s0 H0 C cl fp σ H en at_ Q q⟩) (fun i _ h => by cases h) (fun H' e a2 d2 => ?_)
      · obtain ⟨d, hd, hv⟩ := r.getV i x hy.2
        rw [List.getElem?_map, g i hi] at hd
        have e0 : PyData.tuple [(ps.getD i (.none, .none)).1, (ps.getD i (.none, .none)).2] = d := Option.some.inj hd
        subst e0
        cases hv with
        | @tup t us _ ft ht rt =>
          cases rt with
          | cons h1 rt =>
            cases rt with
            | cons h2 rt =>
              cases rt
              exact ⟨t, _, _, rfl, .inl (.inl (by rw [hy.1]; exact eH t _ ft ht)), .inl hy.1, h1, h2⟩
      · rw [hx, List.take_length] at d2
        exact q _ H' (e1.trans e) a2 d2
/-- [e for x, y in zip(a, b)], two lists of one length -/
theorem ev_lcZ {j k : Nat} {x y : Str} {scope : Scope} {kt : Nat} (hc : X.calm = true) (hN : X.N.Nodup) (hm : X.mg "zip" = none) (hjk : j ≠ k) (f : PyData → PyData → PyData) (hit : ED X z [a, b] es s [.list ds, .list fs] s) (hlen : ds.length = fs.length) (hl : ds.length ≤ 100000) (hB : BlkOk X.N X.env.scope scope [(x, j), (y, k)])
    (hg : PgIn X scope (.Tuple [.Name x p, .Name y p1] kt p2) (gTup X.K 2 (gCons (gName j) (gCons (gName k) gNil))))
    (He : ∀ (i : Nat) (d1 d2 : PyData), ds[i]? = some d1 → fs[i]? = some d2 → ∀ z' : Z, Blk X scope fun Y => EV Y z' elt ((es.set j (.val d1)).set k (.val d2)) s (f d1 d2) s) (hgl : Gl X "zip" := by rfl) (hst : starEach [a, b] X.env = (false, eval a X.env) :: starEach [b] X.env := by rfl) (hpl : (backTo p4 (starEach [b] X.env)).any (·.1) = false := by rfl)
    (hs : ∀ x, foldedSetIterable (.Call (.Name "zip" p3) [a, b] [] p4) X.env x = pure x := by intro _; rfl) :
    EV X z (.ListComp elt [{ target := .Tuple [.Name x p, .Name y p1] kt p2, iter := .Call (.Name "zip" p3) [a, b] [] p4, ifs := [], is_async := 0 }] scope pos) es s (.list (List.zipWith f ds fs)) s :=
  .mk (pe_lc (own := [(x, j), (y, k)]) hc hN (pi_zip hgl hm wA_ok hst hpl) hB hg (fun _ _ _ _ _ => pts_nil) tEl_ok hs) fun σ H en at_ Q q => by
    refine hit σ H en at_ _ fun vs H1 e1 a1 v1 => ?_
    cases v1 with
    | cons h1 r =>
      cases r with
      | cons h2 r =>
        cases r
        cases h1 with
        | @lst a1' xs _ fa ha r1 =>
          cases h2 with
          | @lst b1' ys _ fb hb r2 =>
            have hx : xs.length = ds.length := r1.length
            have hy : ys.length = fs.length := r2.length
            have g1 : ∀ i, i < ds.length → ds[i]? = some (ds.getD i .none) := fun i hi => by
              rw [List.getD_eq_getElem?_getD, List.getElem?_eq_getElem hi]
              rfl
            have g2 : ∀ i, i < ds.length → fs[i]? = some (fs.getD i .none) := fun i hi => by
              rw [List.getD_eq_getElem?_getD, List.getElem?_eq_getElem (by omega)]
              rfl
            have zl : (List.zipWith f ds fs).length = ds.length := by rw [List.length_zipWith]; omega
            refine ⟨a1', b1', xs, ys, rfl, .inl (.inl ha), .inl (.inl hb), fun D hD => ?_⟩
            refine lc_two (K := X.K) (walk_zip (K := X.K) (a := a1') (b := b1') (xs := xs) (ys := ys) (n := ds.length) (by omega)) (fun _ => s) (fun _ => s) (en.mono e1) a1 hD hjk (fun i => ds.getD i .none) (fun i => fs.getD i .none) (fun H' e => ⟨.inl (.inl (e _ _ fa ha)), .inl (.inl (e _ _ fb hb))⟩) (fun i x H' H2 hi eH hY => ?_) hl (fun _ => true) (fun i => (List.zipWith f ds fs).take i) rfl
              (fun z' i hi σ H en at_ Q q => q H (.refl H) at_) (fun z' i hi _ => ⟨f (ds.getD i .none) (fs.getD i .none), by
                rw [List.take_add_one, List.getElem?_zipWith, g1 i hi, g2 i hi]
                rfl, fun σ H en at_ Q q s0 H0 C cl fp => He i _ _ (g1 i hi) (g2 i hi) z' s0 H0 C cl fp σ H en at_ Q q⟩) (fun i _ h => by cases h) (fun H' e a2 d2 => ?_)
            · obtain ⟨T, u, v, rfl, nT, rfl, hu, hv⟩ := hY
              obtain ⟨d, hd, hdu⟩ := r1.getV i u hu
              obtain ⟨d', hd', hdv⟩ := r2.getV i v hv
              rw [g1 i hi] at hd
              rw [g2 i hi] at hd'
              exact ⟨T, u, v, rfl, .inl (.inl upd_same), .inr ⟨nT, rfl⟩, by rw [Option.some.inj hd]; exact hdu, by rw [Option.some.inj hd']; exact hdv⟩
            · have : (List.zipWith f ds fs).take ds.length = List.zipWith f ds fs := List.take_of_length_le (by omega)
              rw [this] at d2
              exact q _ H' (e1.trans e) a2 d2
/-- [e for i, x in enumerate(a list)] -/
theorem ev_lcE {j k : Nat} {x y : Str} {scope : Scope} {kt : Nat} (hc : X.calm = true) (hN : X.N.Nodup) (hm : X.mg "enumerate" = none) (hjk : j ≠ k) (f : Nat → PyData → PyData) (hit : ED X z [a] es s [.list ds] s) (hl : ds.length ≤ 100000) (hB : BlkOk X.N X.env.scope scope [(x, j), (y, k)])
    (hg : PgIn X scope (.Tuple [.Name x p, .Name y p1] kt p2) (gTup X.K 2 (gCons (gName j) (gCons (gName k) gNil))))
    (He : ∀ (i : Nat) d, ds[i]? = some d → ∀ z' : Z, Blk X scope fun Y => EV Y z' elt ((es.set j (.val (.int (i : Int)))).set k (.val d)) s (f i d) s) (hgl : Gl X "enumerate" := by rfl) (hst : starEach [a] X.env = [(false, eval a X.env)] := by rfl)
    (hs : ∀ x, foldedSetIterable (.Call (.Name "enumerate" p3) [a] [] p4) X.env x = pure x := by intro _; rfl) :
    EV X z (.ListComp elt [{ target := .Tuple [.Name x p, .Name y p1] kt p2, iter := .Call (.Name "enumerate" p3) [a] [] p4, ifs := [], is_async := 0 }] scope pos) es s (.list (ds.mapIdx f)) s :=
  .mk (pe_lc (own := [(x, j), (y, k)]) hc hN (pi_enum hgl hm wA_ok hst) hB hg (fun _ _ _ _ _ => pts_nil) tEl_ok hs) fun σ H en at_ Q q => by
    refine hit σ H en at_ _ fun vs H1 e1 a1 v1 => ?_
    cases v1 with
    | cons h1 r =>
      cases r
      cases h1 with
      | @lst a1' xs _ fa ha r1 =>
        have hx : xs.length = ds.length := r1.length
        have g1 : ∀ i, i < xs.length → ds[i]? = some (ds.getD i .none) := fun i hi => by
          rw [List.getD_eq_getElem?_getD, List.getElem?_eq_getElem (by omega)]
          rfl
        refine ⟨a1', xs, rfl, .inl (.inl ha), fun D hD => ?_⟩
        refine lc_two (K := X.K) (walk_enum (K := X.K) (a := a1') (xs := xs)) (fun _ => s) (fun _ => s) (en.mono e1) a1 hD hjk (fun i => .int (i : Int)) (fun i => ds.getD i .none) (fun H' e => .inl (.inl (e _ _ fa ha))) (fun i x H' H2 hi eH hY => ?_) (by omega) (fun _ => true) (fun i => (ds.mapIdx f).take i) rfl
          (fun z' i hi σ H en at_ Q q => q H (.refl H) at_) (fun z' i hi _ => ⟨f i (ds.getD i .none), by
            rw [List.take_add_one, List.getElem?_mapIdx, g1 i hi]
            rfl, fun σ H en at_ Q q s0 H0 C cl fp => He i _ (g1 i hi) z' s0 H0 C cl fp σ H en at_ Q q⟩) (fun i _ h => by cases h) (fun H' e a2 d2 => ?_)
        · obtain ⟨T, u, v, rfl, nT, rfl, hu, hv⟩ := hY
          cases hu
          obtain ⟨d, hd, hdv⟩ := r1.getV i v hv
          rw [g1 i hi] at hd
          exact ⟨T, _, v, rfl, .inl (.inl upd_same), .inr ⟨nT, rfl⟩, .int _, by rw [Option.some.inj hd]; exact hdv⟩
        · have : (ds.mapIdx f).take xs.length = ds.mapIdx f := List.take_of_length_le (by rw [List.length_mapIdx]; omega)
          rw [this] at d2
          exact q _ H' (e1.trans e) a2 d2
end
end DL


set_option Elab.async false
set_option linter.all false
set_option maxRecDepth 100000
namespace DL
open PySem PySem.Spec PyProof.Rows L2
variable [TabT]
/-! ### 11. slices, repeats, tuples of lists; loops over lists -/
section
variable {X : Cx} {z : Z} {es es1 es2 : List Sl} {s s1 s2 s3 : S} {iter elt cond a b e : Expr} {ds fs : List PyData} {d d1 d2 : PyData} {o : Out} {rest body els : List Stmt} {pos p p1 p2 p3 p4 : Pos}
theorem DaAll.take {H : Hp} : ∀ {vs : List V} {ds : List PyData}, DaAll z H vs ds → ∀ n : Nat, DaAll z H (vs.take n) (ds.take n)
  | _, _, .nil, n => by simp only [List.take_nil]; exact .nil
  | _, _, .cons h r, 0 => .nil
  | _, _, .cons h r, n + 1 => .cons h (DaAll.take r n)
theorem DaAll.drop {H : Hp} : ∀ {vs : List V} {ds : List PyData}, DaAll z H vs ds → ∀ n : Nat, DaAll z H (vs.drop n) (ds.drop n)
  | _, _, .nil, n => by simp only [List.drop_nil]; exact .nil
  | _, _, .cons h r, 0 => .cons h r
  | _, _, .cons h r, n + 1 => DaAll.drop r n
theorem DaAll.rev {H : Hp} : ∀ {vs : List V} {ds : List PyData}, DaAll z H vs ds → DaAll z H vs.reverse ds.reverse
  | _, _, .nil => .nil
  | _, _, .cons h r => by
    rw [List.reverse_cons, List.reverse_cons]
    exact (DaAll.rev r).app (.cons h .nil)
theorem DaAll.rep {H : Hp} {vs : List V} {ds : List PyData} (h : DaAll z H vs ds) : ∀ n : Nat, DaAll z H (List.replicate n vs).flatten (List.replicate n ds).flatten
  | 0 => .nil
  | n + 1 => by
    rw [List.replicate_succ, List.replicate_succ, List.flatten_cons, List.flatten_cons]
    exact h.app (DaAll.rep h n)
/-- what a slice picks -/
def cutD (ds : List PyData) (lo hi : Option Int) : List PyData := (ds.drop (HT.sIx ds.length 0 lo)).take (HT.sIx ds.length ds.length hi - HT.sIx ds.length 0 lo)
theorem DaAll.cut {H : Hp} {vs : List V} {ds : List PyData} (h : DaAll z H vs ds) (lo hi : Option Int) : DaAll z H (cutV vs lo hi) (cutD ds lo hi) := by
  unfold cutV cutD
  rw [h.length]
  exact (h.drop _).take _
/-- xs[:n], xs[n:] of a list -/
theorem ev_slTo {i : Int} (ha : EV X z a es s (.list ds) s1) (hb : EV X z b es s1 (.int i) s2) : EV X z (.Subscript a (.Slice none (some b) none p) pos) es s (.list (cutD ds none (some i))) s2 :=
  .mk (pe_slice sl_list wE_ok po_none (po_some wE_ok)) fun σ H en at_ Q q => ha σ H en at_ _ fun v H1 e1 a1 v1 => hb σ H1 (en.mono e1) a1 _ fun u H2 e2 a2 v2 => by
    cases v2
    cases v1 with
    | lst n e r => exact ⟨i, rfl, _, _, rfl, .inl (.inl (e2 _ _ n e)), fun p hp => q _ _ ((e1.trans e2).trans (.new hp)) (a2.new hp) (.lst (a2.fresh hp) upd_same (((r.cut none (some i)).mono e2).mono (.new hp)))⟩
theorem ev_slFrom {i : Int} (ha : EV X z a es s (.list ds) s1) (hb : EV X z b es s1 (.int i) s2) : EV X z (.Subscript a (.Slice (some b) none none p) pos) es s (.list (cutD ds (some i) none)) s2 :=
  .mk (pe_slice sl_list wE_ok (po_some wE_ok) po_none) fun σ H en at_ Q q => ha σ H en at_ _ fun v H1 e1 a1 v1 => hb σ H1 (en.mono e1) a1 _ fun u H2 e2 a2 v2 => by
    cases v2
    cases v1 with
    | lst n e r => exact ⟨i, rfl, _, _, rfl, .inl (.inl (e2 _ _ n e)), fun p hp => q _ _ ((e1.trans e2).trans (.new hp)) (a2.new hp) (.lst (a2.fresh hp) upd_same (((r.cut (some i) none).mono e2).mono (.new hp)))⟩
theorem ev_rev {k : Nat} (ha : EV X z a es s (.list ds) s1) : EV X z (.Subscript a (.Slice none none (some (.UnaryOp .USub (.Constant (.int 1) k p1) p2)) p3) pos) es s (.list ds.reverse) s1 :=
  .mk (pe_revL wE_ok) fun σ H en at_ Q q => ha σ H en at_ _ fun v H1 e1 a1 v1 => by
    cases v1 with
    | lst n e r => exact ⟨_, _, rfl, .inl (.inl e), fun p hp => q _ _ (e1.trans (.new hp)) (a1.new hp) (.lst (a1.fresh hp) upd_same (r.rev.mono (.new hp)))⟩
/-- [..] * n -/
theorem ev_rep {n : Int} (hn : n < 100000) (hn0 : -100000 < n) (hl : ds.length * n.toNat ≤ 100000) (ha : EV X z a es s (.list ds) s1) (hb : EV X z b es s1 (.int n) s2) : EV X z (.BinOp a .Mult b pos) es s (.list (List.replicate n.toNat ds).flatten) s2 :=
  ev_opR (f := binaryOp .Mult) op_rep (fun u v H at_ hu hv Q q => by
    cases hv
    cases hu with
    | lst n1 e1 r1 =>
      exact ⟨_, n, _, rfl, rfl, e1, by omega, by omega, by rw [r1.length]; exact Nat.le_trans hl (by decide), fun p hp => q _ _ (.new hp) (at_.new hp) (.lst (at_.fresh hp) upd_same ((r1.rep n.toNat).mono (.new hp)))⟩) ha hb
/-- tuple(a list), list(a tuple), list(a list) -/
theorem rb_tuple {K : PySem.W.Frag} : RB z s (fun xs H Q => ∃ p ys, xs = [.ref p] ∧ ((SqL K H p ys ∧ ∀ l, H l = none → Q (.ref l) (upd H l (.tup ys))) ∨ (SqT K H p ys ∧ Q (.ref p) H))) [.list ds] (.tuple ds) := fun vs H at_ h Q q => by
  cases h with
  | cons h r =>
    cases r
    cases h with
    | lst n e r => exact ⟨_, _, rfl, .inl ⟨.inl (.inl e), fun l hl => q _ _ (.new hl) (at_.new hl) (.tup (at_.fresh hl) upd_same (r.mono (.new hl)))⟩⟩
theorem rb_listT {K : PySem.W.Frag} : RB z s (fun xs H Q => ∃ p ys, xs = [.ref p] ∧ (SqL K H p ys ∨ SqT K H p ys) ∧ ∀ l, H l = none → Q (.ref l) (upd H l (.lst ys))) [.tuple ds] (.list ds) := fun vs H at_ h Q q => by
  cases h with
  | cons h r =>
    cases r
    cases h with
    | tup n e r => exact ⟨_, _, rfl, .inr (.inl (.inl e)), fun l hl => q _ _ (.new hl) (at_.new hl) (.lst (at_.fresh hl) upd_same (r.mono (.new hl)))⟩
theorem rb_listL {K : PySem.W.Frag} : RB z s (fun xs H Q => ∃ p ys, xs = [.ref p] ∧ (SqL K H p ys ∨ SqT K H p ys) ∧ ∀ l, H l = none → Q (.ref l) (upd H l (.lst ys))) [.list ds] (.list ds) := fun vs H at_ h Q q => by
  cases h with
  | cons h r =>
    cases r
    cases h with
    | lst n e r => exact ⟨_, _, rfl, .inl (.inl (.inl e)), fun l hl => q _ _ (.new hl) (at_.new hl) (.lst (at_.fresh hl) upd_same (r.mono (.new hl)))⟩
/-- for x in a list -/
theorem sr_forL (l : Nat) {x : Str} (hp : PassesOwn (model X.prog X.w) X.A X.env X.xe) (hc : X.calm = true) (hN : X.N.Nodup) (h : EV X z iter es s (.list ds) s1) (E : Nat → List Sl) (T : Nat → S) (h0 : Le es (E 0)) (t0 : T 0 = s1)
    (hb : ∀ (i : Nat) d, ds[i]? = some d → SR X z body ((E i).set l (.val d)) (T i) (.nx (E (i + 1)) (T (i + 1)))) (k : SR X z rest (E ds.length) (T ds.length) o)
    (hi : X.N[l]? = some x := by rfl) (hx : Loc X.env.scope x := by first | exact Or.inl rfl | exact Or.inr rfl) (hf : X.fn x = true ∨ X.env.scope.names.lookup x = some .local := by first | exact .inl rfl | exact .inr rfl) (hfo : ∀ x, foldedSetIterable iter X.env x = pure x := by intro _; rfl) :
    SR X z (.For (.Name x p) iter body [] pos :: rest) es s o := fun σ H en at_ D q =>
  ⟨_, pss_cons (ps_for hp hc (pi_list wE_ok) (pg_name hN hi hx hf) wB_ok hfo) wB_ok, h σ H en at_ _ fun v H1 e1 a1 v1 => by
    cases v1 with
    | @lst a xs _ fa ha r =>
      have hx : xs.length = ds.length := r.length
      refine ⟨a, rfl, ⟨xs, .inl (.inl ha)⟩, for_list (xs := xs) (fun i σ' H' => Ez z H1 H' ∧ At z H' (T i) ∧ En z H' σ' (E i)) ⟨.refl _, t0 ▸ a1, (en.mono e1).le h0⟩ (fun i σ' H' _ w => .inl (.inl (w.1 a _ fa ha))) (fun i x σ' H' hi w => ?_) fun σ' H' w => ?_⟩
      · obtain ⟨d, hd, hv⟩ := r.getV i x hi
        exact hb i d hd _ H' (w.2.2.set l (.val (hv.mono w.1))) w.2.1 _ fun σ2 H2 e2 a2 n2 => ⟨w.1.trans e2, a2, n2⟩
      · rw [hx] at w
        exact k σ' H' w.2.2 w.2.1 D (q.mono (e1.trans w.1))⟩
/-- for x, y in a list of pairs -/
theorem sr_forP (l m : Nat) {x y : Str} {kt : Nat} (hp : PassesOwn (model X.prog X.w) X.A X.env X.xe) (hc : X.calm = true) (hN : X.N.Nodup) (ps : List (PyData × PyData)) (h : EV X z iter es s (.list (ps.map fun q => .tuple [q.1, q.2])) s1) (E : Nat → List Sl) (T : Nat → S) (h0 : Le es (E 0)) (t0 : T 0 = s1)
    (hb : ∀ (i : Nat) q, ps[i]? = some q → SR X z body (((E i).set l (.val q.1)).set m (.val q.2)) (T i) (.nx (E (i + 1)) (T (i + 1)))) (k : SR X z rest (E ps.length) (T ps.length) o)
    (hg : PG X (.Tuple [.Name x p1, .Name y p2] kt p3) (gTup X.K 2 (gCons (gName l) (gCons (gName m) gNil)))) (hfo : ∀ x, foldedSetIterable iter X.env x = pure x := by intro _; rfl) :
    SR X z (.For (.Tuple [.Name x p1, .Name y p2] kt p3) iter body [] pos :: rest) es s o := fun σ H en at_ D q =>
  ⟨_, pss_cons (ps_for hp hc (pi_list wE_ok) hg wB_ok hfo) wB_ok, h σ H en at_ _ fun v H1 e1 a1 v1 => by
    cases v1 with
    | @lst a xs _ fa ha r =>
      have hx : xs.length = ps.length := by rw [r.length, List.length_map]
      refine ⟨a, rfl, ⟨xs, .inl (.inl ha)⟩, for_list (xs := xs) (fun i σ' H' => Ez z H1 H' ∧ At z H' (T i) ∧ En z H' σ' (E i)) ⟨.refl _, t0 ▸ a1, (en.mono e1).le h0⟩ (fun i σ' H' _ w => .inl (.inl (w.1 a _ fa ha))) (fun i x σ' H' hi w => ?_) fun σ' H' w => ?_⟩
      · obtain ⟨d, hd, hv⟩ := r.getV i x hi
        rw [List.getElem?_map] at hd
        cases hq : ps[i]? with
        | none =>
          rw [hq] at hd
          cases hd
        | some pq =>
          rw [hq] at hd
          cases Option.some.inj hd
          cases hv with
          | @tup t us _ ft ht rt =>
            cases rt with
            | cons h1 rt =>
              cases rt with
              | cons h2 rt =>
                cases rt
                refine ⟨t, _, rfl, .inl (.inl (w.1 t _ ft ht)), rfl, _, _, rfl, _, _, rfl, rfl, ?_⟩
                exact hb i pq hq _ H' ((w.2.2.set l (.val (h1.mono w.1))).set m (.val (h2.mono w.1))) w.2.1 _ fun σ2 H2 e2 a2 n2 => ⟨w.1.trans e2, a2, n2⟩
      · rw [hx] at w
        exact k σ' H' w.2.2 w.2.1 D (q.mono (e1.trans w.1))⟩
/-! ### lists of one's own: read -/
theorem ev_lenO (i : Nat) {x y : Str} (hm : X.mg y = none) (h : es[i]? = some (.own ds) := by rfl) (hN : X.N[i]? = some x := by rfl) (hvi : Vis X.env.scope x := by first | exact Or.inl rfl | exact Or.inr (Or.inl rfl) | exact Or.inr (Or.inr rfl)) (hd : (x == ("__debug__" : Str)) = false := by decide) (hcd : (x == ("__classdict__" : Str)) = false := by decide)
    (hv : bootBuiltins y = some (.builtin "len") := by decide +kernel) (hg : Gl X y := by rfl) (hn : y ≠ "__name__" := by decide) (hdb : (y == ("__debug__" : Str)) = false := by decide) (hs : starEach [.Name x p] X.env = (false, eval (.Name x p) X.env) :: starEach [] X.env := by rfl) (hpl : (backTo pos (starEach [] X.env)).any (·.1) = false := by rfl) :
    EV X z (.Call (.Name y p1) [.Name x p] [] pos) es s (.int ds.length) s :=
  .mk (pe_callB call_len hg hm hv (pa_cons (pe_var hN hvi hd hcd) pa_nil hs) hn hdb hs hpl) fun σ H en at_ Q q => by
    obtain ⟨y, hy, r⟩ := en.slot h
    cases r with
    | @own a vs _ m k => exact ⟨_, hy, _, ds.length, rfl, .inl ⟨vs, .inl (.inl (at_.v _ m)), k.length.symm⟩, q _ H (.refl H) at_ (.int _)⟩
theorem ev_ixO (i : Nat) {x : Str} {j : Int} (hb : EV X z b es s (.int j) s1) (ha : atI ds j = some d) (h : es[i]? = some (.own ds) := by rfl) (hN : X.N[i]? = some x := by rfl) (hvi : Vis X.env.scope x := by first | exact Or.inl rfl | exact Or.inr (Or.inl rfl) | exact Or.inr (Or.inr rfl)) (hd : (x == ("__debug__" : Str)) = false := by decide) (hcd : (x == ("__classdict__" : Str)) = false := by decide)
    (hs : PlainIx b := by intro _ _; rfl) : EV X z (.Subscript (.Name x p) b pos) es s d s1 :=
  .mk (pe_ix ix_list (pe_var hN hvi hd hcd) wE_ok hs) fun σ H en at_ Q q => by
    obtain ⟨y, hy, r⟩ := en.slot h
    cases r with
    | @own a vs _ m k =>
      refine ⟨_, hy, hb σ H en at_ _ fun u H2 e2 a2 v2 => ?_⟩
      cases v2
      obtain ⟨v, k1, k2⟩ := atI_rel (k.mono e2) ha
      exact ⟨a, vs, j, v, rfl, rfl, .inl (.inl (a2.v _ m)), k1, q _ H2 e2 a2 k2⟩
/-- own != e, own == e -/
theorem et_neO (i : Nat) {x : Str} (hu : X.A.units + 64 < cLine) (p1' : Pl (.list ds)) (p2' : Pl d) (hb : EV X z b es s d s1) (h : es[i]? = some (.own ds) := by rfl) (hN : X.N[i]? = some x := by rfl) (hvi : Vis X.env.scope x := by first | exact Or.inl rfl | exact Or.inr (Or.inl rfl) | exact Or.inr (Or.inr rfl)) (hd : (x == ("__debug__" : Str)) = false := by decide) (hcd : (x == ("__classdict__" : Str)) = false := by decide) :
    ET X z (.Compare (.Name x p) [.NotEq] [b] pos) es s (!PyData.eqv (.list ds) d) s1 := fun σ H en at_ Q q => ⟨_, pt_cmpR (op_neD hu) (pe_var hN hvi hd hcd) wE_ok (nomark _), by
    obtain ⟨y, hy, r⟩ := en.slot h
    cases r with
    | @own a vs _ m k =>
      refine ⟨_, hy, hb σ H en at_ _ fun u H2 e2 a2 v2 => ?_⟩
      exact ⟨_, d, .lst (.inl (.inl (a2.v _ m))) ((k.mono e2).dp p1'.1), v2.dp p2'.1, p1'.2, p2'.2, _, rfl, q H2 e2 a2⟩⟩
/-- tuple(own) -/
theorem ev_tupO (i : Nat) {x y : Str} (hm : X.mg y = none) (h : es[i]? = some (.own ds) := by rfl) (hN : X.N[i]? = some x := by rfl) (hvi : Vis X.env.scope x := by first | exact Or.inl rfl | exact Or.inr (Or.inl rfl) | exact Or.inr (Or.inr rfl)) (hd : (x == ("__debug__" : Str)) = false := by decide) (hcd : (x == ("__classdict__" : Str)) = false := by decide)
    (hv : bootBuiltins y = some (.type "tuple") := by decide +kernel) (hg : Gl X y := by rfl) (hn : y ≠ "__name__" := by decide) (hdb : (y == ("__debug__" : Str)) = false := by decide) (hs : starEach [.Name x p] X.env = (false, eval (.Name x p) X.env) :: starEach [] X.env := by rfl) (hpl : (backTo pos (starEach [] X.env)).any (·.1) = false := by rfl) :
    EV X z (.Call (.Name y p1) [.Name x p] [] pos) es s (.tuple ds) s :=
  .mk (pe_callTy call_tuple_of hg hm hv (pa_cons (pe_var hN hvi hd hcd) pa_nil hs) hn hdb hs hpl) fun σ H en at_ Q q => by
    obtain ⟨y, hy, r⟩ := en.slot h
    cases r with
    | @own a vs _ m k => exact ⟨_, hy, a, vs, rfl, .inl ⟨.inl (.inl (at_.v _ m)), fun l hl => q _ _ (.new hl) (at_.new hl) (.tup (at_.fresh hl) upd_same (k.mono (.new hl)))⟩⟩
end
/-! ### lists of one's own: written -/
section
variable {X : Cx} {es es1 es2 : List Sl} {s s1 s2 s3 : S} {cond a b e : Expr} {ds fs : List PyData} {d d1 d2 : PyData} {o : Out} {rest body els : List Stmt} {pos p p1 p2 p3 p4 apos cpos : Pos}
/-- xs[j] = e -/
theorem so_set (i : Nat) {x : Str} {j : Nat} (h : ∀ z, EV X z e es s d s1) (hb : ∀ z, EV X z b es s1 (.int (j : Int)) s2) (hj : j < ds.length) (hg : PG X (.Subscript (.Name x p) b p3) (gSub (tVar i) (wE X b) rSetL)) (kk : SO X rest (es.set i (.own (ds.set j d))) s2 o) (ho : es[i]? = some (.own ds) := by rfl)
    (hs : swapsWithSole [.Subscript (.Name x p) b p3] e pos.line X.env = pure false := by rfl) (hw : swappedStores [.Subscript (.Name x p) b p3] e X.env = pure none := by rfl) :
    SO X (.Assign [.Subscript (.Name x p) b p3] e pos :: rest) es s o := fun z Hc H vol σ I D q =>
  ⟨_, pss_cons (ps_asg wE_ok hg hs hw) wB_ok, h _ σ H I.en I.at_ _ fun v H1 e1 a1 v1 => by
    obtain ⟨y, hy, r⟩ := I.en.slot ho
    cases r with
    | @own a vs _ m k =>
      refine ⟨_, hy, hb _ σ H1 (I.en.mono e1) a1 _ fun u H2 e2 a2 v2 => ?_⟩
      cases v2
      have kl : vs.length = ds.length := k.length
      have r2 : DaAll (z.own vol) H2 (vs.set j v) (ds.set j d) := by
        have k2 := k.mono (e1.trans e2)
        have w2 := v1.mono e2
        clear I kk
        revert j
        intro j hb hj
        have gen : ∀ (vs : List V) (ds : List PyData) (j : Nat), DaAll (z.own vol) H2 vs ds → DaAll (z.own vol) H2 (vs.set j v) (ds.set j d) := by
          intro vs
          induction vs with
          | nil => intro ds j h; cases h; exact .nil
          | cons x vs ih =>
            intro ds j h
            cases h with
            | cons h1 h2 =>
              cases j with
              | zero => exact .cons w2 h2
              | succ j => exact .cons h1 (ih _ j h2)
        exact gen vs ds j k2
      obtain ⟨vol', I'⟩ := I.write ho hy m (e1.trans e2) a2 r2
      exact ⟨a, vs, (j : Int), j, rfl, rfl, a2.v _ m, (by unfold ixN; rw [if_pos (by omega), if_pos (by omega)]; simp), kk z Hc _ vol' σ I' D q⟩⟩
/-- xs.append(e) -/
theorem so_app (i : Nat) {x : Str} (h : ∀ z, EV X z e es s d s1) (hl : ds.length < 100000) (kk : SO X rest (es.set i (.own (ds ++ [d]))) s1 o) (ho : es[i]? = some (.own ds) := by rfl) (hN : X.N[i]? = some x := by rfl) (hv : Vis X.env.scope x := by first | exact Or.inl rfl | exact Or.inr (Or.inl rfl) | exact Or.inr (Or.inr rfl))
    (hd : (x == ("__debug__" : Str)) = false := by decide) (hcd : (x == ("__classdict__" : Str)) = false := by decide) (hbase : attributeBase (.Name x p) "append" X.env (eval (.Name x p) X.env) = eval (.Name x p) X.env := by rfl)
    (hfew : ((backTo cpos (starEach (e :: []) X.env)).all (fun x => !x.1) && (backToKw cpos (keywordEach [] X.env)).all (fun x => x.1.isSome) && decide ((e :: []).length + ([] : List Keyword).length + (if ([] : List Keyword).isEmpty then 0 else 1) < 30)) = true := by rfl)
    (hline : (apos.endLine == cpos.line) = true := by rfl) (hse : starEach (e :: []) X.env = (false, eval e X.env) :: starEach [] X.env := by rfl) (hpl : (backTo cpos (starEach [] X.env)).any (·.1) = false := by rfl) (hs : swapsWith (.Call (.Attribute (.Name x p) "append" apos) [e] [] cpos) none pos.line X.env = pure false := by rfl) :
    SO X (.Expr (.Call (.Attribute (.Name x p) "append" apos) [e] [] cpos) pos :: rest) es s o := fun z Hc H vol σ I D q =>
  ⟨_, pss_cons (ps_expr (pe_bm PySem.F.plainAttrs_list PySem.F.slot_list_append PySem.F.type_list_append mt_append (pe_var hN hv hd hcd) (pa_cons wE_ok pa_nil hse) hbase hfew hline hse hpl) hs) wB_ok, by
    obtain ⟨y, hy, r⟩ := I.en.slot ho
    cases r with
    | @own a vs _ m k =>
      refine ⟨_, hy, .inl ⟨rfl, vs, .inl (.inl (I.at_.v _ m))⟩, h _ σ H I.en I.at_ _ fun v H1 e1 a1 v1 => ?_⟩
      obtain ⟨vol', I'⟩ := I.write ho hy m e1 a1 ((k.mono e1).app (.cons v1 .nil))
      exact ⟨a, vs, v, rfl, rfl, a1.v _ m, by rw [k.length]; exact Nat.lt_of_lt_of_le hl (by decide), kk z Hc _ vol' σ I' D q⟩⟩
/-- xs.pop() -/
theorem so_pop (i : Nat) {x : Str} (hl : ds ≠ []) (kk : SO X rest (es.set i (.own ds.dropLast)) s o) (ho : es[i]? = some (.own ds) := by rfl) (hN : X.N[i]? = some x := by rfl) (hv : Vis X.env.scope x := by first | exact Or.inl rfl | exact Or.inr (Or.inl rfl) | exact Or.inr (Or.inr rfl))
    (hd : (x == ("__debug__" : Str)) = false := by decide) (hcd : (x == ("__classdict__" : Str)) = false := by decide) (hbase : attributeBase (.Name x p) "pop" X.env (eval (.Name x p) X.env) = eval (.Name x p) X.env := by rfl) (hline : (apos.endLine == cpos.line) = true := by rfl) (hs : swapsWith (.Call (.Attribute (.Name x p) "pop" apos) [] [] cpos) none pos.line X.env = pure false := by rfl) :
    SO X (.Expr (.Call (.Attribute (.Name x p) "pop" apos) [] [] cpos) pos :: rest) es s o := fun z Hc H vol σ I D q =>
  ⟨_, pss_cons (ps_expr (pe_bm0 PySem.F.plainAttrs_list PySem.F.slot_list_pop PySem.F.type_list_pop mt_pop (pe_var hN hv hd hcd) hbase hline) hs) wB_ok, by
    obtain ⟨y, hy, r⟩ := I.en.slot ho
    cases r with
    | @own a vs _ m k =>
      have kl : vs.length = ds.length := k.length
      have hp : 0 < vs.length := by
        rw [kl]
        exact List.length_pos_iff.mpr hl
      have r2 : DaAll (z.own vol) H vs.dropLast ds.dropLast := by
        rw [List.dropLast_eq_take, List.dropLast_eq_take, kl]
        exact k.take _
      obtain ⟨vol', I'⟩ := I.write ho hy m (.refl H) I.at_ r2
      exact ⟨_, hy, .inl ⟨rfl, vs, .inl (.inl (I.at_.v _ m))⟩, a, vs, vs[vs.length - 1], rfl, rfl, I.at_.v _ m, List.getElem?_eq_getElem (by omega), kk z Hc _ vol' σ I' D q⟩⟩
/-- while, by a word of what the slots hold -/
theorem so_whileW (hp : PassesOwn (model X.prog X.w) X.A X.env X.xe) (W : Nat → List Sl → S → Prop) {m0 : Nat} (h0 : W m0 es s)
    (hs : ∀ m es s, W m es s → ((∀ z, ET X z cond es s false s) ∧ SO X rest es s o) ∨ ((∀ z, ET X z cond es s true s) ∧ ∃ es' s' m', m' < m ∧ W m' es' s' ∧ SO X body es s (.nx es' s'))) : SO X (.While cond body [] pos :: rest) es s o := fun z Hc H vol σ I D q =>
  ⟨_, pss_cons (ps_while hp wT_ok wB_ok) wB_ok, fun m σ' H' => ∃ es' s' vol', W m es' s' ∧ OI z Hc H' vol' σ' es' s', ⟨m0, es, s, vol, h0, I⟩, fun m σ' H' w => by
    obtain ⟨es', s', vol', w1, I1⟩ := w
    rcases hs m es' s' w1 with ⟨h1, h2⟩ | ⟨h1, es2, s2, m', hl, w2, h2⟩
    · exact h1 _ σ' H' I1.en I1.at_ _ fun H1 e2 a2 => iteF (h2 z Hc H1 vol' σ' (I1.step e2 a2) D q)
    · refine h1 _ σ' H' I1.en I1.at_ _ fun H1 e2 a2 => iteT ⟨fun σ2 H2 => ∃ vol2, OI z Hc H2 vol2 σ2 es2 s2, fun σ2 H2 ⟨vol2, I2⟩ => ⟨m', hl, es2, s2, vol2, w2, I2⟩, ?_⟩
      exact h2 z Hc H1 vol' σ' (I1.step e2 a2) _ fun vol2 σ2 H2 I2 => ⟨vol2, I2⟩⟩
end
section
variable {P : Program} {w : World} {K : PySem.W.Frag} {mg : Str → Option Value} {base : Heap}
/-- a def that may hold lists of its own -/
theorem okO {x qual : Str} {st : Stmt} {f : Addr} {fd : FuncData} {N ps : List Str} {k : Nat} {R : Rel} (F : Fun K x qual st f fd) (Sc : FnScope N ps (defScope st)) (hl : ∀ as s d s', R as s d s' → as.length = ps.length) (hno : ∀ as s d s', R as s d s' → ∀ ds, Sl.own ds ∉ as)
    (hb : ∀ cdv A outer s0 H0 E, Ctx (cxOf CX0 P w K mg base N qual (defScope st) f cdv A outer s0 H0 E).nox k N → ∀ as s d s', R as s d s' → SO (cxOf CX0 P w K mg base N qual (defScope st) f cdv A outer s0 H0 E).nox (defBody st) (as ++ List.replicate (N.length - as.length) .un) s (.rt d s')) :
    FnOk P w K mg base CX0 (k + 1) f fd ps (spD R) := by
  refine F.ok Sc (fun vs H Q E h => ?_) (fun cdv A outer s0 H0 vs Q E hr h => ?_)
  · obtain ⟨z, as, s, d, s', hR, en, _⟩ := h
    have := en.length
    rw [List.length_map] at this
    rw [this]
    exact hl _ _ _ _ hR
  · obtain ⟨z, as, s, d, s', hR, en, at_, q⟩ := h
    have e1 : vs.length = as.length := by
      have := en.length
      rwa [List.length_map] at this
    have C : Ctx (cxOf CX0 P w K mg base N qual (defScope st) f cdv A outer s0 H0 E).nox k N := ⟨Sc.nd, rfl, PassesOwn.never, hr, hr.units⟩
    have none_own : ∀ (i : Nat) (ds : List PyData), (as ++ List.replicate (N.length - as.length) Sl.un)[i]? ≠ some (.own ds) := fun i ds h => by
      have m := List.mem_of_getElem? h
      rcases List.mem_append.mp m with m | m
      · exact hno _ _ _ _ hR ds m
      · have := List.eq_of_mem_replicate m
        cases this
    have zo : z.own [] = z := rfl
    have g := hb cdv A outer s0 H0 E C as s d s' hR z H0 H0 [] (L2.start N vs) ⟨fun q h => (by cases h), List.nodup_nil, fun p hp => (by rw [at_.v p hp]; exact fun h => by cases h), at_, by
      unfold L2.start
      rw [e1]
      exact en.app (.uns _), .refl H0, fun i ds p h => absurd h (none_own i ds), fun i j ds ds' p _ h => absurd h (none_own i ds)⟩ { nx := fun _ H' => Q .non H', rt := Q } (fun v H' e a n => q v H' e a n)
    exact ⟨_, wB_ok, g⟩
end
end DL


set_option Elab.async false
set_option linter.all false
set_option maxRecDepth 100000
namespace DL
open PySem PySem.Spec PyProof.Rows L2
variable [TabT]
/-! ### 12. math.lcm; enumerate over a tuple -/
def rLcm : List V → Hp → VK → Prop := fun vs H Q => ∃ a b : Int, vs = [.int a, .int b] ∧ a.natAbs < 2 ^ 3000 ∧ b.natAbs < 2 ^ 3000 ∧ Q (.int ((Nat.lcm a.natAbs b.natAbs : Nat) : Int)) H
section
variable {X : Cx}
theorem cr_lcm : CallR X (.builtin "math.lcm") rLcm := by
  intro pins s σ H vs us Q I r h
  obtain ⟨a, b, rfl, ha, hb, q⟩ := h
  obtain ⟨t, u, rfl⟩ := Vals.int2 r
  have h1 : (max 1 a.natAbs).log2 ≤ 2999 := PySem.W.mg_log (by rcases Nat.le_total 1 a.natAbs with h | h <;> simp only [Nat.max_eq_right h, Nat.max_eq_left h] <;> first | exact ha | exact Nat.lt_of_lt_of_le (by decide) (Nat.pow_le_pow_right (by decide : 0 < 2) (by decide : 1 ≤ 3000)))
  have h2 : (max a.natAbs b.natAbs).log2 ≤ 2999 := PySem.W.mg_log (by rcases Nat.le_total a.natAbs b.natAbs with h | h <;> simp only [Nat.max_eq_right h, Nat.max_eq_left h] <;> assumption)
  have e : (Nat.lcm 1 a.natAbs) = a.natAbs := PySem.W.mc_lcm_one _
  have hs : ((((Nat.lcm 1 a.natAbs).lcm b.natAbs : Nat) : Int)).natAbs.log2 < bitsLine := by
    have hl : (((Nat.lcm 1 a.natAbs).lcm b.natAbs : Nat) : Int).natAbs < 2 ^ (5999 + 1) := by
      rw [e, Int.natAbs_natCast]
      have h3 : a.natAbs.lcm b.natAbs ≤ a.natAbs * b.natAbs := PySem.W.mc_lcm_le _ _
      have h4 : a.natAbs * b.natAbs < 2 ^ 3000 * 2 ^ 3000 := Nat.lt_of_le_of_lt (Nat.mul_le_mul_right _ (Nat.le_of_lt ha)) (Nat.mul_lt_mul_of_pos_left hb (Nat.pow_pos (by decide)))
      rw [← Nat.pow_add] at h4
      exact Nat.lt_of_le_of_lt h3 h4
    exact Nat.lt_of_le_of_lt (PySem.W.mg_log hl) (by decide)
  have g := (PySem.W.mg_run_lcm a t b u (by omega) (by omega) hs).meets
  rw [e] at g
  exact call_function_meets PySem.W.MGF.kind_lcm PySem.W.MGF.plain_lcm PySem.W.MGF.entry_lcm (PySem.W.MGF.args_lcm _ _) g ⟨.int _, H, I.tok _, ⟨_, rfl⟩, q⟩
theorem rb_lcm {z : Z} {s : S} {i j : Int} (hi : i.natAbs < 2 ^ 3000) (hj : j.natAbs < 2 ^ 3000) : RB z s rLcm [.int i, .int j] (.int (Nat.lcm i.natAbs j.natAbs : Nat)) := fun vs H at_ h Q q => by
  cases h with
  | cons h r =>
    cases h
    cases r with
    | cons h r =>
      cases h
      cases r
      exact ⟨i, j, rfl, hi, hj, q _ H (.refl H) at_ (.int _)⟩
end
/-- the two objects that enumerate(t) makes -/
abbrev itO (t : Addr) : Obj := { cls := .type "tuple_iterator", data := .fields #[.ref t, .int 0 0] }
abbrev enO (i : Addr) : Obj := { cls := .type "enumerate", data := .fields #[.none, .bool false, .ref i, rawInt 0, .none, .none] }
section
variable {prog : Program} {w : World} {A : Around} {E : Value → Shared → Prop} {s : Shared}
theorem enum_newT (t : Addr) (o : Obj) (items : Array Value) (n : Nat) (ho : o.cls = .type "tuple") (hd : o.data = .seq items n) :
    PySem.Meets (Builtin.«enumerate.__new__» ⟨[.type "enumerate", .ref t], []⟩) fun _ R s => s.heap.get? t = some o ∧ R (.ok (.ret (.ref (s.heap.push (itO t)).objs.size))) { s with heap := (s.heap.push (itO t)).push (enO s.heap.objs.size) } :=
  .of_wp fun prog w A R s h => by
    obtain ⟨hp, g, dr, tk, os⟩ := s
    obtain ⟨cls, dct, data, sl⟩ := o
    replace ho : cls = .type "tuple" := ho
    replace hd : data = .seq items n := hd
    subst ho hd
    have isT : Heap.IsTuple (Shared.heap ⟨hp, g, dr, tk, os⟩) t items := ⟨_, h.1, rfl, n, rfl⟩
    have hsub := sub_enumerate
    wp_walk using AutoSeq1.wpAny_loadPart' h.1
    refine wpAny_stack_any fun st => wpAny_pure ?_
    split
    case' h_1 c _ _ _ _ _ => cases (c == Value.type "enumerate")
    all_goals
      wp_walk using AutoSeq1.wpAny_loadPart' h.1, wpAny_pyIter_tuple isT
      exact ⟨_, rfl, h.2⟩
theorem call_enumT {t : Addr} {items : Array Value} {Q : Value → Shared → Prop} (hT : s.heap.IsTuple t items)
    (k : ∀ h', h' = (s.heap.push (itO t)).push (enO s.heap.objs.size) → Q (.ref (s.heap.objs.size + 1)) { s with heap := h' }) : wpAny (model prog w) A (call (.type "enumerate") [.ref t]) Q E s := by
  obtain ⟨o, ho, hc, n, hd⟩ := hT
  have sz : (s.heap.push (itO t)).objs.size = s.heap.objs.size + 1 := Heap.size_push ..
  refine callType_new F.called_enumerate (by decide) (F.typeCall_enumerate_1 _) (F.newCall_enumerate_1 _) (fun obj => F.args_object_init_2 obj _) F.entry_enumerate_new (enum_newT t o items n hc hd) ⟨ho, ?_⟩
  refine ⟨⟨_, Heap.get?_push_size (s.heap.push (itO t)) rfl, rfl⟩, ?_⟩
  have := k _ rfl
  rw [← sz] at this
  exact this
theorem enum_endT {e it t : Addr} {i : Nat} {items : Array Value} {old : Value} {Q : Option Value → Shared → Prop} (hh : A.handled = none)
    (he : IsEnum s.heap e it ((i : Nat) : Int) old) (hit : s.heap.IsTupleIter it t i) (ht : s.heap.IsTuple t items) (hx : items[i]? = none)
    (hQ : ∀ h', Heap.ExtBut it s.heap h' → Q none { s with heap := h' }) (hne : t ≠ it) (hl : i = items.size) : wpAny (model prog w) A (pyNext (.ref e)) Q E s := by
  subst hl
  exact wpAny_pyNext_enum_endD (Draws.tuple (A := A.in1) hh it t hne items) he ⟨hit, ht⟩ hQ
end
def IteT (K : PySem.W.Frag) (a : Addr) : It where
  go i H := ∃ (xs : List V) (x : V), SqT K H a xs ∧ xs[i]? = some x
  yld i H v H' := ∃ T x, v = .ref T ∧ H T = none ∧ H' = upd H T (.tup [.int (i : Nat), x]) ∧ ∀ xs, SqT K H a xs → xs[i]? = some x
  stop i H := ∃ xs : List V, SqT K H a xs ∧ xs.length = i
/-- where the enumerate object e, over the iterator at it, over the tuple at a, stands after i turns -/
structure EnT (a e it : Addr) (i : Nat) (h : Heap) : Prop where
  en : ∃ old, IsEnum h e it ((i : Nat) : Int) old
  tu : h.IsTupleIter it a i
  ne : e ≠ it
theorem EnT.far {a e it : Addr} {i : Nat} {h : Heap} {items : Array Value} (S : EnT a e it i h) (T : h.IsTuple a items) : a ≠ e ∧ a ≠ it := by
  obtain ⟨o, ho, hc, _⟩ := T
  obtain ⟨⟨old, he⟩, ⟨o2, h2, c2, _⟩, _⟩ := S
  constructor
  · rintro rfl
    rw [show h.get? a = _ from he] at ho
    cases ho
    injection hc with hc
    exact absurd hc (by decide)
  · rintro rfl
    rw [h2] at ho
    cases ho
    rw [c2] at hc
    injection hc with hc
    exact absurd hc (by decide)
theorem turn_enumT {P : Program} {w : World} {K : PySem.W.Frag} {elts : List Expr} {kk : Nat} {tpos : Pos} (a e it : Addr) : Turn P w K (.Tuple elts kk tpos) (IteT K a) [e, it] e (EnT a e it) := by
  have two : ∀ {b : Addr} {p : Addr → Prop}, p e → p it → b ∈ [e, it] → p b := fun h1 h2 hb => by
    rcases List.mem_cons.mp hb with rfl | hb
    · exact h1
    · rw [List.mem_singleton.mp hb]
      exact h2
  refine ⟨List.mem_cons_self .., fun i h S b => ?_, fun i h h' S k => ⟨S.en.imp fun _ q => k e (List.mem_cons_self ..) _ q, S.tu.at fun o q => k it (List.mem_cons_of_mem _ (List.mem_singleton.mpr rfl)) o q, S.ne⟩, ?_, ?_, fun A i s Q E S q => ?_⟩
  · refine two (p := fun b => ∃ o, h.get? b = some o ∧ ∀ v : Option Value, o.data ≠ Data.cell v) ?_ ?_
    · obtain ⟨old, q⟩ := S.en
      exact ⟨_, q, fun v x => nomatch x⟩
    · obtain ⟨o, q, _, d⟩ := S.tu
      exact ⟨o, q, fun v x => by rw [d] at x; cases x⟩
  · rintro X rfl rfl rfl calm i pins s σ H E I free S ⟨xs, x, hxs, hx⟩
    obtain ⟨its, rv, p, _⟩ := I.tuple hxs
    obtain ⟨u, hu, ru⟩ := rv.get hx
    obtain ⟨old, he⟩ := S.en
    obtain ⟨n1, n2⟩ := S.far p
    have gu : its.toArray[i]? = some u := by simpa using hu
    have lt : i < its.toArray.size := (Array.getElem?_eq_some_iff.mp gu).1
    have old_lt : ∀ b ∈ [e, it], b < s.heap.objs.size := fun b => two (p := fun b => b < s.heap.objs.size) (Heap.lt_size he) (by
      obtain ⟨o, q, _⟩ := S.tu
      exact Heap.lt_size q)
    refine wpAny_pyNext_enum_itemD (Draws.tuple (A := X.A.in1) (I.ok.hd calm) it a n2 its.toArray) he ⟨S.tu, p⟩ lt S.ne (fun m => ?_) fun v h1 tk hv out st made _ kept => ?_
    · rcases List.mem_cons.mp m with q | m
      · exact S.ne q
      · exact n1 (List.mem_singleton.mp m).symm
    rw [gu] at hv
    obtain rfl : u = v := Option.some.inj hv
    refine ⟨_, rfl, wpAny_letOwnedTupleGo_enum (s := { s with heap := h1, toks := tk + 1 }) out fun h2 en2 but => ?_⟩
    have made2 : h2.get? s.heap.objs.size = some { cls := .type "tuple", data := .seq #[.int i tk, u] } := by
      rw [but.2 _ (Nat.ne_of_gt (old_lt e (List.mem_cons_self ..)))]
      exact made
    refine ⟨.ref s.heap.objs.size, upd H s.heap.objs.size (.tup [.int (i : Nat), x]), ?_, rfl, ⟨_, x, rfl, I.hok.fresh (Nat.le_refl _), rfl, fun ys hy => by rw [I.tuple_inj hy hxs]; exact hx⟩, ⟨⟨u, ?_⟩, st.1.at fun o q => (but.2 it S.ne.symm).trans q, S.ne⟩, fun b hb => ?_⟩
    · refine I.turnedNew (ch := [e, it]) (fun b ob hb q => ?_) free (Nat.le_refl _) ⟨by show 2 ≤ sizeLine; decide, [.int i tk, u], .cons ⟨_, rfl⟩ (.cons ru .nil), ⟨_, made2, rfl, _, rfl⟩⟩
      have b1 : b ≠ e := fun z => hb (by simp [z])
      have b2 : b ≠ it := fun z => hb (by simp [z])
      rw [but.2 b b1]
      exact kept b ob b1 b2 q
    · rw [show ((i + 1 : Nat) : Int) = (i : Int) + 1 by omega]
      exact en2
    · rw [upd_ne (Nat.ne_of_lt (old_lt b hb))]
      exact (free b hb).1
  · rintro X rfl rfl rfl calm i pins s σ H E I free S ⟨xs, hxs, hl⟩
    obtain ⟨its, rv, p, _⟩ := I.tuple hxs
    obtain ⟨old, he⟩ := S.en
    have hl2 := rv.length
    obtain ⟨f0, f1, f2, f3, f4, f5⟩ := free it (List.mem_cons_of_mem _ (List.mem_singleton.mpr rfl))
    refine enum_endT (I.ok.hd calm) he S.tu p (by simp; omega) (fun h' eb => ⟨rfl, I.turned (t' := s.toks) (fun b o hb q => eb b o hb q) f0 f1 f3 f4 f5⟩) (S.far p).2 (by simp; omega)
  · obtain ⟨old, he⟩ := S.en
    exact wpAny_pyIter_enum he q
def iEnumT (K : PySem.W.Frag) (ta : TA) : TI := fun σ H R => ta σ H fun vs H1 => ∃ a xs, vs = [.ref a] ∧ SqT K H1 a xs ∧ R (IteT K a) H1
theorem pi_enumT {X : Cx} {e : Expr} {ta : TA} {p pos tpos : Pos} {elts : List Expr} {kk : Nat} (hg : Gl X "enumerate") (hm : X.mg "enumerate" = none) (ha : PA X [e] ta) (hs : starEach [e] X.env = [(false, eval e X.env)] := by rfl) : PI X (.Tuple elts kk tpos) (.Call (.Name "enumerate" p) [e] [] pos) (iEnumT X.K ta) :=
  ⟨fun pins s σ H R I h => by
    refine Call_ (ld_blt I hg hm boot_enumerate (PyProof.Rows.callWith_type1 (thn (ha.run pos pins s σ H _ I h) fun us s1 ⟨vs, H1, I1, rel, a, xs, hvs, hxs, q⟩ => ?_) hs rfl))
    subst hvs
    cases rel with
    | cons r0 r1 =>
      cases r1
      cases r0
      obtain ⟨its, _, p', _⟩ := I1.tuple hxs
      have z1 : (s1.heap.push (itO a)).objs.size = s1.heap.objs.size + 1 := Heap.size_push ..
      refine call_enumT p' fun h' eq => ?_
      subst eq
      have he : IsEnum ((s1.heap.push (itO a)).push (enO s1.heap.objs.size)) (s1.heap.objs.size + 1) s1.heap.objs.size 0 .none := by
        rw [← z1]
        exact Heap.get?_push_size (s1.heap.push (itO a)) rfl
      refine wpAny_pyIter_enum he ⟨s1.heap.objs.size + 1, [s1.heap.objs.size + 1, s1.heap.objs.size], _, _, H1, rfl, I1.kept (t' := s1.toks) fun b o x => Heap.get?_push_of_some _ (Heap.get?_push_of_some _ x), turn_enumT a _ _, ⟨⟨.none, he⟩, ⟨_, Heap.get?_push_of_some _ (Heap.get?_push_size _ rfl), rfl, rfl⟩, Nat.succ_ne_self _⟩, fun b hb => ?_, q⟩
      have ge : s1.heap.objs.size ≤ b := by
        rcases List.mem_cons.mp hb with rfl | hb
        · exact Nat.le_succ _
        · rw [List.mem_singleton.mp hb]
          exact Nat.le_refl _
      exact I1.fpOk ge (I1.hok.fresh ge)⟩
theorem walk_enumT {K : PySem.W.Frag} {a : Addr} {xs : List V} : Walk (IteT K a) xs.length (fun H => SqT K H a xs) (YPair (fun i => some (.int (i : Nat))) (fun i => xs[i]?)) where
  goes i _ hi q := ⟨xs, xs[i], q, by simp [hi]⟩
  stops _ q := ⟨xs, q, rfl⟩
  yields i H v H' _ q y := by
    obtain ⟨T, x, h1, h2, h3, h4⟩ := y
    exact ⟨T, .int (i : Nat), x, h1, h2, h3, rfl, h4 xs q⟩
end DL


set_option Elab.async false
set_option linter.all false
set_option maxRecDepth 100000
namespace DL
open PySem PySem.Spec PyProof.Rows L2
variable [TabT]
section
variable {X : Cx} {z : Z} {es es1 es2 fs : List Sl} {s s1 s2 s3 : S} {iter elt cond a b e : Expr} {ds fs' : List PyData} {d d1 d2 : PyData} {o : Out} {rest body els : List Stmt} {pos p p1 p2 p3 p4 : Pos} {xs : List Expr}
/-! ### in a tuple; cuts, sums, repeats of tuples; sums of lists; backwards -/
def rInT (K : PySem.W.Frag) : R2 := fun x y H Q => ∃ d ds, Dp K H x d ∧ Dp K H y (.tuple ds) ∧ SeqAt.shaped d = true ∧ SeqAt.shaped (.tuple ds) = true ∧ Q (.bl (ds.any fun z => PyData.eqv z d)) H
theorem op_inT (hu : X.A.units + 65 < cLine) : OpR X (compareOp .In) (rInT X.K) := by
  intro pins s σ H x y v u Q I rx ry h
  obtain ⟨d, ds, hd, he, sd, se, q⟩ := h
  obtain ⟨as, r1⟩ := Dp.reads I d x v hd rx
  obtain ⟨bs, r2⟩ := Dp.reads I (.tuple ds) y u he ry
  exact SeqAt.in_tuple_reads r2 r1 (SeqAt.canLay_of_shaped se) (SeqAt.canLay_of_shaped sd) (room_in_shaped sd hu) ⟨.bl _, H, I, rfl, q⟩
theorem rd_inT {K : PySem.W.Frag} (h1 : Pl d) (h2 : Pl (.tuple ds)) : RD z s (rInT K) d (.tuple ds) (.bool (ds.any fun z => PyData.eqv z d)) := fun x y H at_ hx hy Q q =>
  ⟨d, ds, hx.dp h1.1, hy.dp h2.1, h1.2, h2.2, q _ H (.refl H) at_ (.bl _)⟩
theorem et_inT (hu : X.A.units + 65 < cLine) (h1 : Pl d) (h2 : Pl (.tuple ds)) (ha : EV X z a es s d s1) (hb : EV X z b es s1 (.tuple ds) s2) (hm : behindInMarks .In b = false := by rfl) : ET X z (.Compare a [.In] [b] pos) es s (ds.any fun z => PyData.eqv z d) s2 :=
  et_cmpR (op_inT hu) (rd_inT h1 h2) ha hb hm
/-- own[j] in (..) -/
theorem cutD_length {lo hi : Option Int} : (cutD ds lo hi).length ≤ ds.length := by
  unfold cutD
  rw [List.length_take, List.length_drop]
  omega
theorem whole_cut {lo hi : Option Int} (h : HT.sIx ds.length 0 lo = 0 ∧ HT.sIx ds.length ds.length hi = ds.length) : cutD ds lo hi = ds := by
  unfold cutD
  rw [h.1, h.2, List.drop_zero, Nat.sub_zero, List.take_length]
theorem rs_tup {K : PySem.W.Frag} {H : Hp} {v : V} {lo hi : Option Int} (hv : Da z H v (.tuple ds)) (at_ : At z H s) {Q : VK} (q : ∀ v H2, Ez z H H2 → At z H2 s → Da z H2 v (.tuple (cutD ds lo hi)) → Q v H2) : rSlA K v lo hi H Q := by
  cases hv with
  | @tup a xs _ fa ha r =>
    refine ⟨a, xs, rfl, .inl (.inl ha), fun w => ?_, fun w p hp => ?_⟩
    · rw [r.length] at w
      exact q _ H (.refl H) at_ (by rw [whole_cut w]; exact .tup fa ha r)
    · exact q _ _ (.new hp) (at_.new hp) (.tup (at_.fresh hp) upd_same ((r.cut lo hi).mono (.new hp)))
/-- t[:n], t[n:] -/
theorem ev_slToT {i : Int} (ha : EV X z a es s (.tuple ds) s1) (hb : EV X z b es s1 (.int i) s2) : EV X z (.Subscript a (.Slice none (some b) none p) pos) es s (.tuple (cutD ds none (some i))) s2 :=
  .mk (pe_slice sl_tupA wE_ok po_none (po_some wE_ok)) fun σ H en at_ Q q => ha σ H en at_ _ fun v H1 e1 a1 v1 => hb σ H1 (en.mono e1) a1 _ fun u H2 e2 a2 v2 => by
    cases v2
    exact ⟨i, rfl, rs_tup (v1.mono e2) a2 fun v H3 e3 a3 v3 => q v H3 ((e1.trans e2).trans e3) a3 v3⟩
theorem ev_slFromT {i : Int} (ha : EV X z a es s (.tuple ds) s1) (hb : EV X z b es s1 (.int i) s2) : EV X z (.Subscript a (.Slice (some b) none none p) pos) es s (.tuple (cutD ds (some i) none)) s2 :=
  .mk (pe_slice sl_tupA wE_ok (po_some wE_ok) po_none) fun σ H en at_ Q q => ha σ H en at_ _ fun v H1 e1 a1 v1 => hb σ H1 (en.mono e1) a1 _ fun u H2 e2 a2 v2 => by
    cases v2
    exact ⟨i, rfl, rs_tup (v1.mono e2) a2 fun v H3 e3 a3 v3 => q v H3 ((e1.trans e2).trans e3) a3 v3⟩
/-- t + u -/
theorem ev_catA (hl : ds.length + fs'.length ≤ 100000) (ha : EV X z a es s (.tuple ds) s1) (hb : EV X z b es s1 (.tuple fs') s2) : EV X z (.BinOp a .Add b pos) es s (.tuple (ds ++ fs')) s2 :=
  ev_opR (f := binaryOp .Add) op_catA (fun u v H at_ hu hv Q q => by
    cases hu with
    | tup n1 e1 r1 =>
      cases hv with
      | tup n2 e2 r2 =>
        have l1 := r1.length
        have l2 := r2.length
        refine ⟨_, _, _, _, rfl, rfl, .inl (.inl e1), .inl (.inl e2), ?_, fun w => ?_, fun _ w => ?_, fun _ _ p hp => ?_⟩
        · rw [l1, l2]
          exact Nat.le_trans hl (by decide)
        · subst w
          cases r1
          exact q _ H (.refl H) at_ (.tup n2 e2 r2)
        · subst w
          cases r2
          exact q _ H (.refl H) at_ (by rw [List.append_nil]; exact .tup n1 e1 r1)
        · exact q _ _ (.new hp) (at_.new hp) (.tup (at_.fresh hp) upd_same ((r1.app r2).mono (.new hp)))) ha hb
/-- (..) * n -/
theorem ev_repT {n : Int} (h0 : ds ≠ []) (h2 : 2 ≤ n) (hn : n ≤ 1000) (hl : ds.length ≤ 1000) (ha : EV X z a es s (.tuple ds) s1) (hb : EV X z b es s1 (.int n) s2) : EV X z (.BinOp a .Mult b pos) es s (.tuple (List.replicate n.toNat ds).flatten) s2 :=
  ev_opR (f := binaryOp .Mult) op_repT (fun u v H at_ hu hv Q q => by
    cases hv
    cases hu with
    | tup n1 e1 r1 =>
      exact ⟨_, n, _, rfl, rfl, .inl (.inl e1), fun w => h0 (by subst w; cases r1; rfl), h2, hn, by rw [r1.length]; exact hl, fun p hp => q _ _ (.new hp) (at_.new hp) (.tup (at_.fresh hp) upd_same ((r1.rep n.toNat).mono (.new hp)))⟩) ha hb
/-- l + m, lists -/
theorem ev_catL (hl : ds.length + fs'.length ≤ 100000) (ha : EV X z a es s (.list ds) s1) (hb : EV X z b es s1 (.list fs') s2) : EV X z (.BinOp a .Add b pos) es s (.list (ds ++ fs')) s2 :=
  ev_opR (f := binaryOp .Add) op_cat (fun u v H at_ hu hv Q q => by
    cases hu with
    | lst n1 e1 r1 =>
      cases hv with
      | lst n2 e2 r2 =>
        exact ⟨_, _, _, _, rfl, rfl, e1, e2, by rw [r1.length, r2.length]; exact Nat.le_trans hl (by decide), fun p hp => q _ _ (.new hp) (at_.new hp) (.lst (at_.fresh hp) upd_same ((r1.app r2).mono (.new hp)))⟩) ha hb
end
/-- t[::-1] -/
theorem fm_congr {α β : Type} {f g : α → Option β} : ∀ {l : List α}, (∀ x ∈ l, f x = g x) → l.filterMap f = l.filterMap g
  | [], _ => rfl
  | x :: l, h => by
    rw [List.filterMap_cons, List.filterMap_cons, h x (List.mem_cons_self ..), fm_congr fun y hy => h y (List.mem_cons_of_mem _ hy)]
theorem places_rev (n : Nat) : Builtin.Slice.slicePlaces ((n : Int) - 1) (-1) (-1) = n := by
  unfold Builtin.Slice.slicePlaces
  simp only [show ¬ ((-1 : Int) > 0) by decide, if_false, Int.neg_neg, Int.ediv_one]
  split <;> omega
theorem adjust_rev (n : Nat) : Builtin.Slice.sliceAdjust none none (-1) (n : Int) = ((n : Int) - 1, -1) := by
  unfold Builtin.Slice.sliceAdjust
  first
    | rfl
    | simp
theorem pick_rev (xs : Array Value) : ((List.range xs.size).filterMap fun (m : Nat) => xs[((xs.size : Int) - 1 + (m : Int) * (-1)).toNat]?).toArray = xs.toList.reverse.toArray := by
  have h := PySem.W.krv_pick xs
  unfold slicePick at h
  rw [PySem.W.krv_bounds] at h
  have h : ((sliceRange ((xs.size : Int) - 1) (-1) (-1)).filterMap (xs[·]?)).toArray = xs.toList.reverse.toArray := h
  rw [PySem.W.krv_sliceRange, List.filterMap_map] at h
  rw [← h]
  congr 1
  refine fm_congr fun m hm => ?_
  have hm := List.mem_range.mp hm
  show xs[((xs.size : Int) - 1 + (m : Int) * (-1)).toNat]? = xs[xs.size - 1 - m]?
  rw [show ((xs.size : Int) - 1 + (m : Int) * (-1)).toNat = xs.size - 1 - m by omega]
section
variable {prog : Program} {w : World} {A : Around} {E : Value → Shared → Prop} {s : Shared}
/-- a tuple cut by any slice that is applied as (lo, step, n), step not 1: the picked items, in a new tuple -/
theorem tup_slice {t sl : Addr} {items : Array Value} {lo step : Int} {n : Nat} {Q : Value → Shared → Prop} (ht : IsTup s.heap t items) (isl : s.TypeIs (.ref sl) "slice") (st : (step == 1) = false) (few : n ≤ sizeLine)
    (app : ∀ {B : Around} {Q : Int × Int × Nat → Shared → Prop} {E : Value → Shared → Prop}, Q (lo, step, n) s → wpAny (model prog w) B (Builtin.Slice.sliceApplied (.ref sl) (pure (items.size : Int))) Q E s)
    (h : Q (.ref s.heap.objs.size) { s with heap := s.heap.push { cls := .type "tuple", data := .seq ((List.range n).filterMap fun m : Nat => items[(lo + (m : Int) * step).toNat]?).toArray } }) : wpAny (model prog w) A (getItem (.ref t) (.ref sl)) Q E s := by
  have fit : sizeOk (.seq ((List.range n).filterMap fun m : Nat => items[(lo + (m : Int) * step).toNat]?).toArray) := by
    have l1 := List.length_filterMap_le (fun m : Nat => items[(lo + (m : Int) * step).toNat]?) (List.range n)
    rw [List.length_range] at l1
    exact Nat.le_trans (by rw [List.size_toArray]; exact l1) few
  unfold getItem
  try with_reducible refine wpAny_holding ?_
  first | refine wpAny_bind (wpAny_pure ?_) | skip
  refine wpAny_bind (wpAny_sequenceKey ht.typeIs (by decide) (wpAny_bind (wpAny_callSpecial?_slot (name := Str.ofString "__getitem__") ht.typeIs PyProof.Rows.slot_tuple_getitem (wpAny_call_entry PyProof.Rows.slot_tuple_getitem ht.typeIs entry_tuple_getitem ?_ (args_tuple_getitem _ _)))))
  refine (wpAny_bind (m := Builtin.Tuple.tupleItemsOf (.ref t)) (tupleItemsOf_ ht (wpAny_bind (wpAny_typeOf isl ?_))))
  rw [if_pos (by decide)]
  refine wpAny_bind (app ?_)
  show wpAny _ _ (if (lo == 0 && step == 1 && n == items.size) = true then _ else _) _ _ s
  rw [st, Bool.and_false, Bool.false_and, if_neg Bool.false_ne_true]
  first
    | exact wpAny_bind (m := Builtin.Tuple.tupleExact _) (wpAny_newObj_type (wpAny_pure ⟨_, rfl, wpAny_pure h⟩) fit)
    | exact wpAny_bind (m := Builtin.Tuple.tupleExact _) (wpAny_newObj_type (wpAny_bind (wpAny_pure (wpAny_pure ⟨_, rfl, wpAny_pure h⟩))) fit)
    | exact wpAny_bind (wpAny_bind (m := Builtin.Tuple.tupleExact _) (wpAny_newObj_type (wpAny_pure (wpAny_pure ⟨_, rfl, wpAny_pure h⟩)) fit))
/-- [::-1] as it is applied -/
theorem app_rev {sl : Addr} {vl vu vs : Value} {n : Nat} {Q : Int × Int × Nat → Shared → Prop} (hs : s.heap.IsSliceOf sl vl vu vs) (pl : IsPart vl none) (pu : IsPart vu none) (ps : IsPart vs (some (-1))) (h : Q ((n : Int) - 1, -1, n) s) : wpAny (model prog w) A (Builtin.Slice.sliceApplied (.ref sl) (pure (n : Int))) Q E s := by
  obtain ⟨o, ho, _, hd⟩ := hs
  unfold Builtin.Slice.sliceApplied Builtin.Slice.sliceFields
  refine wpAny_bind (wpAny_bind (wpAny_field ho hd (x := vl) rfl (wpAny_bind (wpAny_field ho hd (x := vu) rfl (wpAny_bind (wpAny_field ho hd (x := vs) rfl (wpAny_pure (wpAny_bind (HT.slicePart_ ps ?_)))))))))
  show wpAny _ _ (if ((-1 : Int) == 0) = true then _ else _) _ _ s
  rw [if_neg (by decide)]
  refine wpAny_bind (HT.slicePart_ pl (wpAny_bind (HT.slicePart_ pu (wpAny_bind (wpAny_pure ?_)))))
  show wpAny _ _ (match Builtin.Slice.sliceAdjust none none (-1) (n : Int) with | (lo, hi) => pure (lo, (-1 : Int), Builtin.Slice.slicePlaces lo hi (-1))) _ _ s
  rw [adjust_rev]
  show wpAny _ _ (pure ((n : Int) - 1, (-1 : Int), Builtin.Slice.slicePlaces ((n : Int) - 1) (-1) (-1))) _ _ s
  rw [places_rev]
  exact wpAny_pure h
end
section
variable {X : Cx}
def tRevT (K : PySem.W.Frag) (te : TE) : TE := fun σ H Q => te σ H fun x H1 => ∃ a xs, x = .ref a ∧ SqT K H1 a xs ∧ ∀ p, H1 p = none → Q (.ref p) (upd H1 p (.tup xs.reverse))
/-- a part of a slice that leaves the heap alone -/
theorem part_keep {pins : List (Addr × Obj)} {s : Shared} {σ : L2.St} {H : Hp} {o : Option Expr} {t : TO} {c : Option Int} {Q : Value → Shared → Prop} (p : PO X o t) (I : Inv X pins σ H s) (h : t σ H fun d H' => d = c ∧ H' = H) (k : ∀ v s', Inv X pins σ H s' → IsPart v c → Q v s') : wpAny (model X.prog X.w) X.A (evalPart o X.env) Q X.xe s :=
  thn (p.run pins s σ H _ I h) fun v s' ⟨d, H', I', ip, e1, e2⟩ => by
    subst e1 e2
    exact k v s' I' ip
theorem pe_revT {e : Expr} {te : TE} {k : Nat} {p1 p2 p3 pos : Pos} (he : PE X e te) : PE X (.Subscript e (.Slice none none (some (.UnaryOp .USub (.Constant (.int 1) k p1) p2)) p3) pos) (tRevT X.K te) := by
  constructor
  intro pins s σ H Q I h
  refine Subscript_ (thn (he.run pins s σ H _ I h) fun v s1 got => ?_)
  obtain ⟨x, H1, I1, rel, a, xs, rfl, hxs, q⟩ := got
  cases rel
  refine wpAny_Slice (part_keep po_none I1 ⟨rfl, rfl⟩ fun vl s2 I2 pl => part_keep po_none I2 ⟨rfl, rfl⟩ fun vu s3 I3 pu => part_keep (c := some (-1)) (po_some (pe_un un_neg pe_int)) I3 ⟨1, rfl, -1, rfl, rfl, rfl⟩ fun vs s4 I4 ps => ?_)
  have J : Inv X pins σ H1 { s4 with heap := s4.heap.push { cls := .type "slice", data := .fields #[vl, vu, vs] } } := I4.kept (t' := s4.toks) fun b o z => Heap.get?_push_of_some _ z
  obtain ⟨its, rv, isT, few⟩ := J.tuple hxs
  have ln := rv.length
  show wpAny (model X.prog X.w) X.A (subscriptTail e (.Slice none none (some (.UnaryOp .USub (.Constant (.int 1) k p1) p2)) p3) (.ref a) (.ref s4.heap.objs.size)) (EP X pins σ Q) X.xe _
  refine tail_any (ops := [.ref a, .ref s4.heap.objs.size]) isT.typeIs PyProof.Rows.slot_tuple_getitem.lookup ?_ (by with_unfolding_all rfl)
  refine tup_slice isT ⟨_, Heap.get?_push_size _ rfl, rfl⟩ (by decide) (n := its.toArray.size) (by rw [List.size_toArray]; omega) (fun {B Q E} z => app_rev (Heap.IsSliceOf.new _ vl vu vs) pl pu ps z) ?_
  rw [pick_rev]
  refine ⟨.ref _, _, J.laid (t' := s4.toks) (o := .tup xs.reverse) (fun b o z => Heap.get?_push_of_some _ z) (Nat.le_refl _) ⟨by rw [List.length_reverse]; exact few, _, rv.reverse, IsTup.new _ _⟩, rfl, q _ (J.hok.fresh (Nat.le_refl _))⟩
theorem ev_revT {z : Z} {es : List Sl} {s s1 : S} {a : Expr} {ds : List PyData} {k : Nat} {p1 p2 p3 pos : Pos} (ha : EV X z a es s (.tuple ds) s1) : EV X z (.Subscript a (.Slice none none (some (.UnaryOp .USub (.Constant (.int 1) k p1) p2)) p3) pos) es s (.tuple ds.reverse) s1 :=
  .mk (pe_revT wE_ok) fun σ H en at_ Q q => ha σ H en at_ _ fun v H1 e1 a1 v1 => by
    cases v1 with
    | tup n e r => exact ⟨_, _, rfl, .inl (.inl e), fun p hp => q _ _ (e1.trans (.new hp)) (a1.new hp) (.tup (a1.fresh hp) upd_same (r.rev.mono (.new hp)))⟩
end

/-! ### loops and new lists where own lists are written -/
def cutH (H : Hp) (vol : List (Addr × HO)) : Hp := fun b => if b ∈ vol.map (·.1) then none else H b
theorem cutH_in {H : Hp} {vol : List (Addr × HO)} {b : Addr} (h : b ∈ vol.map (·.1)) : cutH H vol b = none := if_pos h
theorem cutH_out {H : Hp} {vol : List (Addr × HO)} {b : Addr} (h : b ∉ vol.map (·.1)) : cutH H vol b = H b := if_neg h
theorem not_in {vol : List (Addr × HO)} {b : Addr} (h : ∀ o, (b, o) ∉ vol) : b ∉ vol.map (·.1) := fun m => by
  obtain ⟨q, hq, e⟩ := List.mem_map.mp m
  exact h q.2 (by rw [← e]; exact hq)
section
variable {z : Z} {Hc H H' : Hp} {vol : List (Addr × HO)} {σ : L2.St} {es : List Sl} {s s' : S}
/-- from the middle of a run on, as if it began here -/
theorem OI.reb (I : OI z Hc H vol σ es s) : OI z (cutH H vol) H vol σ es s ∧ ∀ H' vol' σ' es' s', OI z (cutH H vol) H' vol' σ' es' s' → OI z Hc H' vol' σ' es' s' := by
  have zin : ∀ q ∈ z.vol, q.1 ∉ vol.map (·.1) := fun q hq m => by
    obtain ⟨r, hr, e⟩ := List.mem_map.mp m
    exact I.base q hq (by rw [← e]; exact I.new r hr)
  have up : Ez z Hc (cutH H vol) := fun a o f h => by
    rw [cutH_out (not_in (I.old h))]
    exact I.ez a o f h
  have back : ∀ b, cutH H vol b = none → Hc b = none := fun b hb => by
    cases hc : Hc b with
    | none => rfl
    | some o =>
      by_cases hf : Fz z b
      · rw [up b o hf hc] at hb
        cases hb
      · exfalso
        have nin : b ∉ vol.map (·.1) := not_in (I.old hc)
        rw [cutH_out nin] at hb
        by_cases hd : z.dice = some b
        · rw [I.at_.d b hd] at hb
          cases hb
        · apply hf
          refine ⟨⟨hd, fun q hq => ?_⟩, fun u hu => ?_⟩
          · obtain ⟨ps, e, _⟩ := I.at_.t _ hq
            have e : H b = some (.tbl ps) := e
            rw [e] at hb
            cases hb
          rw [show H b = some u from I.at_.v (b, u) (List.mem_append_right _ hu)] at hb
          cases hb
  refine ⟨⟨fun q hq => cutH_in (List.mem_map.mpr ⟨q, hq, rfl⟩), I.nd, fun q hq e => ?_, I.at_, I.en, fun a o f h => ?_, fun i ds p h1 h2 => ?_, I.two⟩, fun H' vol' σ' es' s' J => ⟨fun q hq => back _ (J.new q hq), J.nd, I.base, J.at_, J.en, up.trans J.ez, fun i ds p h1 h2 => back _ (J.far i ds p h1 h2), J.two⟩⟩
  · rw [cutH_out (zin q hq)] at e
    rw [show H q.1 = some q.2 from I.at_.v q (List.mem_append_right _ hq)] at e
    cases e
  · by_cases m : a ∈ vol.map (·.1)
    · rw [cutH_in m] at h
      cases h
    · rwa [cutH_out m] at h
  · obtain ⟨y, hy, r⟩ := I.en.slot h1
    rw [h2] at hy
    cases hy
    cases r with
    | own m _ =>
      rcases List.mem_append.mp m with m | m
      · exact cutH_in (List.mem_map.mpr ⟨_, m, rfl⟩)
      · exact absurd (I.far i ds p h1 h2) (I.base _ m)
theorem OI.le {fs : List Sl} (I : OI z Hc H vol σ es s) (l : Le es fs) : OI z Hc H vol σ fs s := by
  have own : ∀ {es fs : List Sl}, Le es fs → ∀ {i : Nat} {ds : List PyData}, fs[i]? = some (.own ds) → es[i]? = some (.own ds) := by
    intro es fs l
    induction l with
    | nil => intro i ds h; simp at h
    | same l ih =>
      intro i ds h
      cases i with
      | zero => exact h
      | succ i => exact ih h
    | un l ih =>
      intro i ds h
      cases i with
      | zero => cases (Option.some.inj h)
      | succ i => exact ih h
  exact ⟨I.new, I.nd, I.base, I.at_, I.en.le l, I.ez, fun i ds p h1 h2 => I.far i ds p (own l h1) h2, fun i j ds ds' p n h1 h2 h3 => I.two i j ds ds' p n (own l h1) (own l h2) h3⟩
/-- data that stood when the loop began -/
theorem OI.still {vol' : List (Addr × HO)} {σ' : L2.St} {es' : List Sl} (J : OI z (cutH H vol) H' vol' σ' es' s') {v : V} {d : PyData} (h : Da (z.own vol) H v d) : Da (z.own vol') H' v d := h.re fun a o f hb => by
  have ha : cutH H vol a = some o := by
    rw [cutH_out (not_in f.of_own.2)]
    exact hb
  exact ⟨f.of_own.1.to_own (J.old ha), J.ez a o f.of_own.1 ha⟩
theorem OI.stillH {vol' : List (Addr × HO)} {σ' : L2.St} {es' : List Sl} (J : OI z (cutH H vol) H' vol' σ' es' s') {a : Addr} {o : HO} (f : Fz (z.own vol) a) (hb : H a = some o) : H' a = some o := by
  have ha : cutH H vol a = some o := by
    rw [cutH_out (not_in f.of_own.2)]
    exact hb
  exact J.ez a o f.of_own.1 ha
end
section
variable {X : Cx} {es es1 es2 : List Sl} {s s1 s2 : S} {iter cond a b e : Expr} {ds : List PyData} {d : PyData} {o : Out} {rest body els : List Stmt} {pos p p1 p2 p3 p4 p5 : Pos}
theorem so_pre {fs : List Sl} (l : Le es fs) (h : SO X body fs s o) : SO X body es s o := fun z Hc H vol σ I D q => h z Hc H vol σ (I.le l) D q
theorem so_le (h : SO X body es s (.nx es1 s1)) (l : Le es1 es2) : SO X body es s (.nx es2 s1) := fun z Hc H vol σ I D q => h z Hc H vol σ I D fun vol' σ' H' J => q vol' σ' H' (J.le l)
/-- for i, x in enumerate(..) -/
theorem so_forE (l m : Nat) {x y : Str} {kt : Nat} (hp : PassesOwn (model X.prog X.w) X.A X.env X.xe) (hc : X.calm = true) (hm : X.mg "enumerate" = none) (h : ∀ z, ED X z [a] es s [.list ds] s1) (E : Nat → List Sl) (T : Nat → S) (h0 : Le es (E 0)) (t0 : T 0 = s1)
    (hb : ∀ (i : Nat) d, ds[i]? = some d → SO X body (((E i).set l (.val (.int (i : Int)))).set m (.val d)) (T i) (.nx (E (i + 1)) (T (i + 1)))) (k : SO X rest (E ds.length) (T ds.length) o)
    (hg : PG X (.Tuple [.Name x p1, .Name y p2] kt p3) (gTup X.K 2 (gCons (gName l) (gCons (gName m) gNil)))) (hgl : Gl X "enumerate" := by rfl) (hst : starEach [a] X.env = [(false, eval a X.env)] := by rfl) (hfo : ∀ x, foldedSetIterable (.Call (.Name "enumerate" p4) [a] [] p5) X.env x = pure x := by intro _; rfl) :
    SO X (.For (.Tuple [.Name x p1, .Name y p2] kt p3) (.Call (.Name "enumerate" p4) [a] [] p5) body [] pos :: rest) es s o := fun z Hc H vol σ I D q =>
  ⟨_, pss_cons (ps_for hp hc (pi_enum hgl hm wA_ok hst) hg wB_ok hfo) wB_ok, h _ σ H I.en I.at_ _ fun vs H1 e1 a1 v1 => by
    cases v1 with
    | cons h1 r =>
      cases r
      cases h1 with
      | @lst a0 xs _ fa ha r1 =>
        have hx : xs.length = ds.length := r1.length
        obtain ⟨I2, back⟩ := (I.step e1 a1).reb
        subst t0
        refine ⟨a0, xs, rfl, .inl (.inl ha), for_it (walk_enum (K := X.K) (a := a0) (xs := xs)) (fun i σ' H' => ∃ vol', OI z (cutH H1 vol) H' vol' σ' (E i) (T i)) ⟨vol, I2.le h0⟩ (fun i σ' H' _ w => ?_) (fun i v σ' H' H2 hi w hY => ?_) fun σ' H' w => ?_⟩
        · obtain ⟨vol', w⟩ := w
          exact .inl (.inl (w.stillH fa ha))
        · obtain ⟨vol', w⟩ := w
          obtain ⟨t, u, v', rfl, nt, rfl, hu, hv⟩ := hY
          cases hu
          obtain ⟨d, hd, hv'⟩ := r1.getV i v' hv
          have w1 := w.step (Ez.new (o := .tup [.int (i : Int), v']) nt) (w.at_.new nt)
          have w2 := (w1.set (.refl _) w1.at_ l (.int (i : Int))).set (.refl _) w1.at_ m ((w.still hv').mono (.new nt))
          exact ⟨t, _, rfl, .inl (.inl upd_same), rfl, _, _, rfl, _, _, rfl, rfl, hb i d hd z _ _ vol' _ w2 _ fun vol3 σ3 H3 I3 => ⟨vol3, I3⟩⟩
        · obtain ⟨vol', w⟩ := w
          rw [hx] at w
          exact k z Hc H' vol' σ' (back _ _ _ _ _ w) D q⟩
/-- for i, x in enumerate(..) -/
theorem so_forET (l m : Nat) {x y : Str} {kt : Nat} (hp : PassesOwn (model X.prog X.w) X.A X.env X.xe) (hc : X.calm = true) (hm : X.mg "enumerate" = none) (h : ∀ z, ED X z [a] es s [.tuple ds] s1) (E : Nat → List Sl) (T : Nat → S) (h0 : Le es (E 0)) (t0 : T 0 = s1)
    (hb : ∀ (i : Nat) d, ds[i]? = some d → SO X body (((E i).set l (.val (.int (i : Int)))).set m (.val d)) (T i) (.nx (E (i + 1)) (T (i + 1)))) (k : SO X rest (E ds.length) (T ds.length) o)
    (hg : PG X (.Tuple [.Name x p1, .Name y p2] kt p3) (gTup X.K 2 (gCons (gName l) (gCons (gName m) gNil)))) (hgl : Gl X "enumerate" := by rfl) (hst : starEach [a] X.env = [(false, eval a X.env)] := by rfl) (hfo : ∀ x, foldedSetIterable (.Call (.Name "enumerate" p4) [a] [] p5) X.env x = pure x := by intro _; rfl) :
    SO X (.For (.Tuple [.Name x p1, .Name y p2] kt p3) (.Call (.Name "enumerate" p4) [a] [] p5) body [] pos :: rest) es s o := fun z Hc H vol σ I D q =>
  ⟨_, pss_cons (ps_for hp hc (pi_enumT hgl hm wA_ok hst) hg wB_ok hfo) wB_ok, h _ σ H I.en I.at_ _ fun vs H1 e1 a1 v1 => by
    cases v1 with
    | cons h1 r =>
      cases r
      cases h1 with
      | @tup a0 xs _ fa ha r1 =>
        have hx : xs.length = ds.length := r1.length
        obtain ⟨I2, back⟩ := (I.step e1 a1).reb
        subst t0
        refine ⟨a0, xs, rfl, .inl (.inl ha), for_it (walk_enumT (K := X.K) (a := a0) (xs := xs)) (fun i σ' H' => ∃ vol', OI z (cutH H1 vol) H' vol' σ' (E i) (T i)) ⟨vol, I2.le h0⟩ (fun i σ' H' _ w => ?_) (fun i v σ' H' H2 hi w hY => ?_) fun σ' H' w => ?_⟩
        · obtain ⟨vol', w⟩ := w
          exact .inl (.inl (w.stillH fa ha))
        · obtain ⟨vol', w⟩ := w
          obtain ⟨t, u, v', rfl, nt, rfl, hu, hv⟩ := hY
          cases hu
          obtain ⟨d, hd, hv'⟩ := r1.getV i v' hv
          have w1 := w.step (Ez.new (o := .tup [.int (i : Int), v']) nt) (w.at_.new nt)
          have w2 := (w1.set (.refl _) w1.at_ l (.int (i : Int))).set (.refl _) w1.at_ m ((w.still hv').mono (.new nt))
          exact ⟨t, _, rfl, .inl (.inl upd_same), rfl, _, _, rfl, _, _, rfl, rfl, hb i d hd z _ _ vol' _ w2 _ fun vol3 σ3 H3 I3 => ⟨vol3, I3⟩⟩
        · obtain ⟨vol', w⟩ := w
          rw [hx] at w
          exact k z Hc H' vol' σ' (back _ _ _ _ _ w) D q⟩
/-! new lists -/
theorem en_rep {z : Z} {n : Int} (hn : n < 100000) (hn0 : -100000 < n) (hl : ds.length * n.toNat ≤ 100000) (ha : EV X z a es s (.list ds) s1) (hb : EV X z b es s1 (.int n) s2) : EN X z (.BinOp a .Mult b pos) es s (List.replicate n.toNat ds).flatten s2 := fun σ H en at_ Q q =>
  ⟨_, pe_op op_rep wE_ok wE_ok, ha σ H en at_ _ fun u H1 e1 a1 v1 => hb σ H1 (en.mono e1) a1 _ fun w H2 e2 a2 v2 => by
    cases v2
    have v1 := v1.mono e2
    cases v1 with
    | lst n1 h1 r1 => exact ⟨_, n, _, rfl, rfl, h1, by omega, by omega, by rw [r1.length]; exact Nat.le_trans hl (by decide), fun p hp => q p _ H2 (e1.trans e2) a2 hp (r1.rep n.toNat)⟩⟩
theorem en_list {z : Z} {x : Str} (hm : X.mg x = none) (h : ED X z [a] es s [d] s1) (hd : d = .list ds ∨ d = .tuple ds) (hv : bootBuiltins x = some (.type "list") := by decide +kernel) (hg : Gl X x := by rfl) (hn : x ≠ "__name__" := by decide) (hdb : (x == ("__debug__" : Str)) = false := by decide) (hs : starEach [a] X.env = (false, eval a X.env) :: starEach [] X.env := by rfl) (hpl : (backTo pos (starEach [] X.env)).any (·.1) = false := by rfl) :
    EN X z (.Call (.Name x p1) [a] [] pos) es s ds s1 := fun σ H en at_ Q q =>
  ⟨_, pe_callTy call_list_of hg hm hv wA_ok hn hdb hs hpl, h σ H en at_ _ fun vs H1 e1 a1 v1 => by
    cases v1 with
    | cons h1 r =>
      cases r
      rcases hd with rfl | rfl
      · cases h1 with
        | lst n e r => exact ⟨_, _, rfl, .inl (.inl (.inl e)), fun l hl => q l _ H1 e1 a1 hl r⟩
      · cases h1 with
        | tup n e r => exact ⟨_, _, rfl, .inr (.inl (.inl e)), fun l hl => q l _ H1 e1 a1 hl r⟩⟩
/-- the new list p in slot i -/
theorem OI.fresh {z : Z} {Hc H H1 : Hp} {vol : List (Addr × HO)} {σ : L2.St} (I : OI z Hc H vol σ es s) (i : Nat) {a : Addr} {vs : List V} (e1 : Ez (z.own vol) H H1) (a1 : At (z.own vol) H1 s1) (ha : H1 a = none) {H2 : Hp} (e2 : Ez (z.own vol) H1 H2) (a2 : At ((z.own vol).add a (.lst vs)) H2 s2) (r : DaAll ((z.own vol).add a (.lst vs)) H2 vs ds) :
    OI z Hc H2 ((a, .lst vs) :: vol) (σ.set i (some (.ref a))) (es.set i (.own ds)) s2 := by
  have nc : Hc a = none := by
    cases hh : Hc a with
    | none => rfl
    | some u =>
      have f : Fz (z.own vol) a := a1.fresh ha
      rw [I.ezc e1 a u f.of_own.1 hh] at ha
      cases ha
  have fa := a1.fresh ha
  have re : ∀ (b : Addr) (u : HO), Fz (z.own vol) b → H1 b = some u → Fz (z.own ((a, .lst vs) :: vol)) b ∧ H2 b = some u := fun b u fb hb => by
    have nb := ne_of_none hb ha
    refine ⟨⟨fb.1, fun o m => ?_⟩, e2 b u fb hb⟩
    rcases List.mem_cons.mp m with e | m
    · exact nb (congrArg Prod.fst e)
    · exact fb.2 o m
  have notin : ∀ u, (a, u) ∉ vol := fun u m => fa.2 u (List.mem_append_left _ m)
  refine ⟨?_, ?_, I.base, a2, ?_, (fun b u f h => e2 b u (f.to_own (I.old h)) (I.ezc e1 b u f h)), ?_, ?_⟩
  · intro q hq
    rcases List.mem_cons.mp hq with e | m
    · rw [e]
      exact nc
    · exact I.new q m
  · show ((a :: vol.map (·.1)) : List Addr).Nodup
    refine List.nodup_cons.mpr ⟨fun m => ?_, I.nd⟩
    obtain ⟨q, hq, e⟩ := List.mem_map.mp m
    exact notin q.2 (by rw [← e]; exact hq)
  · exact (En.re (z := z.own vol) (z' := z.own ((a, .lst vs) :: vol)) rfl (fun q m => List.mem_cons_of_mem _ m) re (I.en.mono e1)).set i (.own (List.mem_cons_self ..) r)
  · intro j ds' b h1 h2
    by_cases hj : i = j
    · subst hj
      by_cases hl : i < σ.length
      · rw [List.getElem?_set_self hl] at h2
        cases h2
        exact nc
      · rw [List.getElem?_eq_none (by rw [List.length_set]; omega)] at h2
        cases h2
    · rw [List.getElem?_set_ne hj] at h1 h2
      exact I.far j ds' b h1 h2
  · intro j l ds1 ds2 b n h1 h2 h3 h4
    have own_ne : ∀ {m : Nat} {ds' : List PyData}, i ≠ m → (es.set i (Sl.own ds))[m]? = some (.own ds') → (σ.set i (some (.ref a)))[m]? = some (some (.ref b)) → b ≠ a := fun {m ds'} hm g1 g2 e => by
      rw [List.getElem?_set_ne hm] at g1 g2
      subst e
      obtain ⟨y, hy, r⟩ := I.en.slot g1
      rw [g2] at hy
      cases hy
      cases r with
      | own mm _ =>
        have := a1.v _ mm
        rw [show H1 b = _ from this] at ha
        cases ha
    have self : ∀ {m : Nat}, i = m → (σ.set i (some (.ref a)))[m]? = some (some (.ref b)) → b = a := fun {m} hm g => by
      subst hm
      by_cases hl : i < σ.length
      · rw [List.getElem?_set_self hl] at g
        cases g
        rfl
      · rw [List.getElem?_eq_none (by rw [List.length_set]; omega)] at g
        cases g
    by_cases hj : i = j
    · exact own_ne (fun e => n (hj.symm.trans e)) h2 h4 (self hj h3)
    · by_cases hl : i = l
      · exact own_ne hj h1 h3 (self hl h4)
      · rw [List.getElem?_set_ne hj] at h1 h3
        rw [List.getElem?_set_ne hl] at h2 h4
        exact I.two j l ds1 ds2 b n h1 h2 h3 h4
end
section
variable {z : Z} {X : Cx} {es : List Sl} {s s1 : S} {iter elt cond a : Expr} {ds : List PyData} {o : Out} {rest : List Stmt} {pos p p1 p2 p3 p4 : Pos}
/-- the turns of a comprehension over anything that walks, with any target -/
theorem lc_allO {te : TE} {tt : TT} {g : TG} {ws : List Nat} {n : Nat} {J : It} {G : Hp → Prop} {Y : Nat → Hp → V → Hp → Prop} (wk : Walk J n G Y) {σ : L2.St} {H1 : Hp} {D : Addr} (T U : Nat → S) (a1 : At z H1 (T 0)) (hD : H1 D = none) (esT : Nat → List Sl)
    (hG : ∀ H', Ez z H1 H' → G H') (turn : ∀ (i : Nat) (x : V) (H' H2 : Hp) (o : HO), i < n → Ez z H1 H' → Y i H' x H2 → At (z.add D o) H' (T i) → ∀ Q : L2.St → Hp → Prop, (∀ σ2 H3, wipe σ2 ws = wipe σ ws → Ez (z.add D o) H' H3 → At (z.add D o) H3 (T i) → En (z.add D o) H3 σ2 (esT i) → Q σ2 H3) → g x (wipe σ ws) H2 Q) (hl : n ≤ 100000) (kb : Nat → Bool) (A : Nat → List PyData) (hA0 : A 0 = [])
    (Ht : ∀ (z' : Z) (i : Nat), i < n → ∀ σ H, En z' H σ (esT i) → At z' H (T i) → ∀ Q : Bool → Hp → Prop, (∀ H2, Ez z' H H2 → At z' H2 (U i) → Q (kb i) H2) → tt σ H Q)
    (He : ∀ (z' : Z) (i : Nat), i < n → kb i = true → ∃ y, A (i + 1) = A i ++ [y] ∧ ∀ σ H, En z' H σ (esT i) → At z' H (U i) → ∀ Q : VK, (∀ v H2, Ez z' H H2 → At z' H2 (T (i + 1)) → Da z' H2 v y → Q v H2) → te σ H Q)
    (hn : ∀ (i : Nat), i < n → kb i = false → A (i + 1) = A i ∧ T (i + 1) = U i) {Qd : Hp → Prop} (hQ : ∀ H' acc, Ez z H1 H' → H' D = some (.lst acc) → At (z.add D (.lst acc)) H' (T n) → DaAll (z.add D (.lst acc)) H' acc (A n) → Qd H') :
    ∃ W : Nat → Nat → Hp → Prop, (∃ m, W 0 m (upd H1 D (.lst []))) ∧ ∀ i m H, W i m H → (J.stop i H ∧ Qd H) ∨ (J.go i H ∧ ∃ Nx : Hp → Prop, (∀ H', Nx H' → ∃ m', m' < m ∧ W (i + 1) m' H') ∧ ∀ x H', J.yld i H x H' → g x (wipe σ ws) H' fun σ2 H2 => wipe σ2 ws = wipe σ ws ∧ tt σ2 H2 fun b H3 =>
        if b = true then te σ2 H3 fun y H4 => ∃ acc, H4 D = some (.lst acc) ∧ acc.length < sizeLine ∧ Nx (upd H4 D (.lst (acc ++ [y]))) else Nx H3) := by
  have lA : ∀ i, i ≤ n → (A i).length ≤ i := by
    intro i
    induction i with
    | zero => intro _; rw [hA0]; exact Nat.le_refl _
    | succ i ih =>
      intro hi
      cases hk : kb i with
      | true =>
        obtain ⟨y, hy, _⟩ := He z i (by omega) hk
        rw [hy, List.length_append]
        have := ih (by omega)
        simp
        omega
      | false =>
        rw [(hn i (by omega) hk).1]
        have := ih (by omega)
        omega
  have reach : ∀ {H' : Hp} {o : HO}, Ez z H1 H' → ∀ (b : Addr) (u : HO), Fz z b → H1 b = some u → Fz (z.add D o) b ∧ H' b = some u := fun e b u fb hb => ⟨fb.to_add (ne_of_none hb hD), e b u fb hb⟩
  have up : ∀ {H' H2 : Hp} {o : HO}, Ez z H1 H' → Ez (z.add D o) H' H2 → Ez z H1 H2 := fun e e2 b u fb hb => e2 b u (fb.to_add (ne_of_none hb hD)) (e b u fb hb)
  refine lc_it wk (fun i H' => Ez z H1 H' ∧ ∃ acc, H' D = some (.lst acc) ∧ At (z.add D (.lst acc)) H' (T i) ∧ DaAll (z.add D (.lst acc)) H' acc (A i)) ?_ (fun i H' _ w => hG H' w.1) ?_ ?_
  · refine ⟨.new hD, [], upd_same, ⟨?_, ?_, ?_, tabs_new a1.t hD⟩, ?_⟩
    · intro b hb
      rw [upd_ne (ne_of_none (a1.d b hb) hD)]
      exact a1.d b hb
    · intro p hp
      rcases List.mem_cons.mp hp with e | e
      · rw [e]
        exact upd_same
      · rw [upd_ne (ne_of_none (a1.v p e) hD)]
        exact a1.v p e
    · intro p hp
      rcases List.mem_cons.mp hp with e | e
      · refine ⟨fun e2 => ?_, [], by rw [e]⟩
        rw [e] at e2
        have := a1.d D e2
        rw [this] at hD
        cases hD
      · exact a1.n p e
    · rw [hA0]
      exact .nil
  · intro i x H0 H' hi w hy
    obtain ⟨e2, acc, hDa, a2, rA⟩ := w
    refine turn i x H0 H' (.lst acc) hi e2 hy a2 _ fun σ2 H5 hw e5 a5 en2 => ⟨hw, ?_⟩
    refine Ht _ i hi _ H5 en2 a5 _ fun H3 e30 a3 => ?_
    have e3 := e5.trans e30
    have hD3 : H3 D = some (.lst acc) := a3.v (D, .lst acc) (List.mem_cons_self ..)
    cases hk : kb i with
    | false =>
      obtain ⟨n1, n2⟩ := hn i hi hk
      refine iteF ⟨up e2 e3, acc, hD3, by rw [n2]; exact a3, by rw [n1]; exact rA.mono e3⟩
    | true =>
      obtain ⟨y, hy, go⟩ := He (z.add D (.lst acc)) i hi hk
      refine iteT (go _ H3 (en2.mono e30) a3 _ fun v H4 e4 a4 v4 => ?_)
      have hD4 : H4 D = some (.lst acc) := a4.v (D, .lst acc) (List.mem_cons_self ..)
      have rA4 := (rA.mono e3).mono e4
      have la := rA4.length
      have := lA i (by omega)
      have far : ∀ (b : Addr) (u : HO), Fz (z.add D (.lst acc)) b → H4 b = some u → Fz (z.add D (.lst (acc ++ [v]))) b ∧ upd H4 D (.lst (acc ++ [v])) b = some u := fun b u fb hb => by
        obtain ⟨f1, f2⟩ := fb.of_add
        exact ⟨f1.to_add f2, by rw [upd_ne f2]; exact hb⟩
      refine ⟨acc, hD4, Nat.lt_of_lt_of_le (show acc.length < 100001 by omega) (by decide), ?_, acc ++ [v], upd_same, ⟨?_, ?_, ?_, tabs_upd a4.t hD4⟩, ?_⟩
      · intro b u fb hb
        rw [upd_ne (ne_of_none hb hD)]
        exact up (up e2 e3) e4 b u fb hb
      · intro b hb
        rw [upd_ne (fun e => (a4.n (D, .lst acc) (List.mem_cons_self ..)).1 (by rw [← e]; exact hb))]
        exact a4.d b hb
      · intro p hp
        rcases List.mem_cons.mp hp with e | e
        · rw [e]
          exact upd_same
        · have h1 := a1.v p e
          rw [upd_ne (ne_of_none h1 hD)]
          exact a4.v p (List.mem_cons_of_mem _ e)
      · intro p hp
        rcases List.mem_cons.mp hp with e | e
        · rw [e]
          exact ⟨(a4.n (D, .lst acc) (List.mem_cons_self ..)).1, _, rfl⟩
        · exact a4.n p (List.mem_cons_of_mem _ e)
      · rw [hy]
        exact (rA4.re far).app (.cons (v4.re far) .nil)
  · intro H' w
    obtain ⟨e2, acc, hDa, a2, rA⟩ := w
    exact hQ H' acc e2 hDa a2 rA

/-- y = [e for x in range(n)], a list of one's own, the state going along -/
theorem so_lcR {j k : Nat} {x y : Str} {scope : Scope} {n : Nat} {py spos : Pos} (hc : X.calm = true) (hN : X.N.Nodup) (hm : X.mg "range" = none) (f : Nat → PyData) (T : Nat → S) (hit : ∀ z, ED X z [a] es s [.int (n : Int)] s1) (t0 : T 0 = s1) (hl : n ≤ 100000) (hB : BlkOk X.N X.env.scope scope [(x, j)]) (hg : PgIn X scope (.Name x p) (gName j))
    (He : ∀ i : Nat, i < n → ∀ z' : Z, Blk X scope fun Y => EV Y z' elt (es.set j (.val (.int (i : Int)))) (T i) (f i) (T (i + 1))) (kk : SO X rest (es.set k (.own ((List.range n).map f))) (T n) o) (hi : X.N[k]? = some y := by rfl) (hy : List.lookup y X.env.scope.names = some NameKind.local := by rfl)
    (hsw : swapsWith (.ListComp elt [{ target := .Name x p, iter := .Call (.Name "range" p1) [a] [] p2, ifs := [], is_async := 0 }] scope pos) (some (.Name y py)) spos.line X.env = pure true := by exact sw_true rfl rfl rfl (by decide +kernel))
    (hgl : Gl X "range" := by rfl) (hst : starEach [a] X.env = [(false, eval a X.env)] := by rfl) (hs : ∀ x, foldedSetIterable (.Call (.Name "range" p1) [a] [] p2) X.env x = pure x := by intro _; rfl) :
    SO X (.Assign [.Name y py] (.ListComp elt [{ target := .Name x p, iter := .Call (.Name "range" p1) [a] [] p2, ifs := [], is_async := 0 }] scope pos) spos :: rest) es s o := fun z Hc H vol σ I D q =>
  ⟨_, pss_cons (ps_setLc (i := k) (own := [(x, j)]) hc hN hi hy hsw (pi_range1 hgl hm wA_ok hst) hB hg (fun _ _ _ _ _ => pts_nil) tEl_ok hs) wB_ok, by
    refine hit _ σ H I.en I.at_ _ fun vs H1 e1 a1 v1 => ?_
    cases v1 with
    | cons h r =>
      cases r
      cases h
      refine ⟨(n : Int), rfl, by omega, by omega, fun D' hD => ?_⟩
      rw [Int.toNat_natCast]
      subst t0
      refine lc_allO (g := gName j) (ws := [j]) (walk_range (lo := 0) (n := n)) T T a1 hD (fun i => es.set j (.val (.int (i : Int)))) (fun H' e => trivial) (fun i x H' H2 o hi e2 hy a2 Q q => ?_) hl (fun _ => true) (fun i => (List.range i).map f) rfl (fun z' i hi σ H en at_ Q q => q H (.refl H) at_)
        (fun z' i hi _ => ⟨f i, by rw [List.range_succ, List.map_append]; rfl, fun σ H en at_ Q q s0 H0 C cl fp => He i hi z' s0 H0 C cl fp σ H en at_ Q q⟩) (fun i _ h => by cases h) (fun H' acc e hD2 a2 r2 => kk z Hc H' _ _ (I.fresh k e1 a1 hD e a2 r2) D q)
      obtain ⟨rfl, hx⟩ := hy
      have reach : ∀ (b : Addr) (u : HO), Fz (z.own vol) b → H1 b = some u → Fz ((z.own vol).add D' o) b ∧ H2 b = some u := fun b u fb hb => ⟨fb.to_add (ne_of_none hb hD), e2 b u fb hb⟩
      have es2 : (wipe σ [j]).set j (some x) = σ.set j (some x) := by
        show (σ.set j none).set j (some x) = _
        rw [List.set_set]
      show Q ((wipe σ [j]).set j (some x)) H2
      rw [es2]
      have en0 : En ((z.own vol).add D' o) H2 σ es := En.re (z := z.own vol) (z' := (z.own vol).add D' o) rfl (fun q h => List.mem_cons_of_mem _ h) reach (I.en.mono e1)
      refine q _ H2 (by
        show (σ.set j (some x)).set j none = σ.set j none
        rw [List.set_set]) (.refl _) a2 (en0.set j (.val ?_))
      rw [hx]
      show Da _ _ (.int (0 + (i : Int))) _
      rw [Int.zero_add]
      exact .int _⟩
end
/-! own lists handed on, cut -/
section
variable {X : Cx} {z : Z} {es : List Sl} {s s1 s2 : S} {a b : Expr} {xs : List Expr} {ds : List PyData} {as : List Sl} {pos p p1 p2 : Pos}
theorem ea_own (i : Nat) {x : Str} (hr : EA X z xs es s as s2) (h : es[i]? = some (.own ds) := by rfl) (hN : X.N[i]? = some x := by rfl) (hvi : Vis X.env.scope x := by first | exact Or.inl rfl | exact Or.inr (Or.inl rfl) | exact Or.inr (Or.inr rfl)) (hd : (x == ("__debug__" : Str)) = false := by decide) (hcd : (x == ("__classdict__" : Str)) = false := by decide)
    (hs : starEach (.Name x p :: xs) X.env = (false, eval (.Name x p) X.env) :: starEach xs X.env := by rfl) : EA X z (.Name x p :: xs) es s (.own ds :: as) s2 := fun σ H en at_ Q q => ⟨_, pa_cons (pe_var hN hvi hd hcd) wA_ok hs, by
    obtain ⟨y, hy, r⟩ := en.slot h
    cases r with
    | @own a0 vs _ m k =>
      exact ⟨_, hy, hr σ H en at_ _ fun us H1 e1 a1 n1 => q _ H1 e1 a1 (.cons (.own m (k.mono e1)) n1)⟩⟩
theorem ev_slToO (i : Nat) {x : Str} {j : Int} (hb : EV X z b es s (.int j) s1) (h : es[i]? = some (.own ds) := by rfl) (hN : X.N[i]? = some x := by rfl) (hvi : Vis X.env.scope x := by first | exact Or.inl rfl | exact Or.inr (Or.inl rfl) | exact Or.inr (Or.inr rfl)) (hd : (x == ("__debug__" : Str)) = false := by decide) (hcd : (x == ("__classdict__" : Str)) = false := by decide) :
    EV X z (.Subscript (.Name x p) (.Slice none (some b) none p1) pos) es s (.list (DL.cutD ds none (some j))) s1 :=
  .mk (pe_slice sl_list (pe_var hN hvi hd hcd) po_none (po_some wE_ok)) fun σ H en at_ Q q => by
    obtain ⟨y, hy, r⟩ := en.slot h
    cases r with
    | @own a0 vs _ m k =>
      refine ⟨_, hy, hb σ H en at_ _ fun u H2 e2 a2 v2 => ?_⟩
      cases v2
      exact ⟨j, rfl, _, _, rfl, .inl (.inl (a2.v _ m)), fun p hp => q _ _ (e2.trans (.new hp)) (a2.new hp) (.lst (a2.fresh hp) upd_same (((k.cut none (some j)).mono e2).mono (.new hp)))⟩
theorem en_listO (i : Nat) {x y : Str} (hm : X.mg y = none) (h : es[i]? = some (.own ds) := by rfl) (hN : X.N[i]? = some x := by rfl) (hvi : Vis X.env.scope x := by first | exact Or.inl rfl | exact Or.inr (Or.inl rfl) | exact Or.inr (Or.inr rfl)) (hd : (x == ("__debug__" : Str)) = false := by decide) (hcd : (x == ("__classdict__" : Str)) = false := by decide)
    (hv : bootBuiltins y = some (.type "list") := by decide +kernel) (hg : Gl X y := by rfl) (hn : y ≠ "__name__" := by decide) (hdb : (y == ("__debug__" : Str)) = false := by decide) (hs : starEach [.Name x p] X.env = (false, eval (.Name x p) X.env) :: starEach [] X.env := by rfl) (hpl : (backTo pos (starEach [] X.env)).any (·.1) = false := by rfl) :
    EN X z (.Call (.Name y p1) [.Name x p] [] pos) es s ds s := fun σ H en at_ Q q =>
  ⟨_, pe_callTy call_list_of hg hm hv (pa_cons (pe_var hN hvi hd hcd) pa_nil hs) hn hdb hs hpl, by
    obtain ⟨y, hy, r⟩ := en.slot h
    cases r with
    | @own a0 vs _ m k => exact ⟨_, hy, _, _, rfl, .inl (.inl (.inl (at_.v _ m))), fun l hl => q l _ H (.refl H) at_ hl k⟩⟩
end
/-! a def whose first row makes a new list out of its arguments, own ones among them -/
structure Fst (X : Cx) (i : Nat) (y : Str) (e : Expr) (py pos : Pos) : Prop where
  hN : X.N.Nodup
  hi : X.N[i]? = some y
  hx : Loc X.env.scope y
  hs : swapsWith e (some (.Name y py)) pos.line X.env = pure false
  hf : X.fn y = true ∨ X.env.scope.names.lookup y = some .local
section
variable {P : Program} {w : World} {K : PySem.W.Frag} {mg : Str → Option Value} {base : Heap}
theorem okOF {x qual : Str} {st : Stmt} {f : Addr} {fd : FuncData} {N ps : List Str} {k : Nat} {R : Rel} (F : Fun K x qual st f fd) (Sc : FnScope N ps (defScope st)) (hl : ∀ as s d s', R as s d s' → as.length = ps.length) (i : Nat) {y : Str} {e : Expr} {py pos : Pos} {rest : List Stmt} (hB : defBody st = .Assign [.Name y py] e pos :: rest)
    (hb : ∀ cdv A outer s0 H0 E, Ctx (cxOf CX0 P w K mg base N qual (defScope st) f cdv A outer s0 H0 E).nox k N → Fst (cxOf CX0 P w K mg base N qual (defScope st) f cdv A outer s0 H0 E).nox i y e py pos ∧ ∀ as s d s', R as s d s' → ∃ ds s1 es0, Le (as ++ List.replicate (N.length - as.length) .un) es0 ∧ (∀ fs, Sl.own fs ∉ es0) ∧ (∀ z, EN (cxOf CX0 P w K mg base N qual (defScope st) f cdv A outer s0 H0 E).nox z e (as ++ List.replicate (N.length - as.length) .un) s ds s1) ∧ SO (cxOf CX0 P w K mg base N qual (defScope st) f cdv A outer s0 H0 E).nox rest (es0.set i (.own ds)) s1 (.rt d s')) :
    FnOk P w K mg base CX0 (k + 1) f fd ps (spD R) := by
  refine F.ok Sc (fun vs H Q E h => ?_) (fun cdv A outer s0 H0 vs Q E hr h => ?_)
  · obtain ⟨z, as, s, d, s', hR, en, _⟩ := h
    have := en.length
    rw [List.length_map] at this
    rw [this]
    exact hl _ _ _ _ hR
  · obtain ⟨z, as, s, d, s', hR, en, at_, q⟩ := h
    have e1 : vs.length = as.length := by
      have := en.length
      rwa [List.length_map] at this
    have C : Ctx (cxOf CX0 P w K mg base N qual (defScope st) f cdv A outer s0 H0 E).nox k N := ⟨Sc.nd, rfl, PassesOwn.never, hr, hr.units⟩
    obtain ⟨B, go⟩ := hb cdv A outer s0 H0 E C
    obtain ⟨ds, s1, es0, l0, hno, hen, hso⟩ := go as s d s' hR
    have none_own : ∀ (i : Nat) (ds : List PyData), es0[i]? ≠ some (.own ds) := fun i ds h => hno ds (List.mem_of_getElem? h)
    have enf : En z H0 (L2.start N vs) (as ++ List.replicate (N.length - as.length) .un) := by
      unfold L2.start
      rw [e1]
      exact en.app (.uns _)
    have I : OI z H0 H0 [] (L2.start N vs) es0 s := ⟨fun q h => (by cases h), List.nodup_nil, fun p hp => (by rw [at_.v p hp]; exact fun h => by cases h), at_, enf.le l0, .refl H0, fun i ds p h => absurd h (none_own i ds), fun i j ds ds' p _ h => absurd h (none_own i ds)⟩
    rw [hB]
    refine ⟨_, wB_ok, ?_⟩
    refine ⟨_, pss_cons (ps_set B.hN B.hi B.hx wE_ok B.hs B.hf) wB_ok, hen z (L2.start N vs) H0 enf at_ _ fun a vs' H1 e1' a1 ha r => ?_⟩
    have re : ∀ (b : Addr) (u : HO), Fz z b → H1 b = some u → Fz (z.add a (.lst vs')) b ∧ upd H1 a (.lst vs') b = some u := fun b u fb hb => by
      have nb := ne_of_none hb ha
      exact ⟨fb.to_add nb, by rw [upd_ne nb]; exact hb⟩
    have a2 : At (z.add a (.lst vs')) (upd H1 a (.lst vs')) s1 := by
      refine ⟨fun b hb => ?_, fun q hq => ?_, fun q hq => ?_, tabs_new a1.t ha⟩
      · rw [upd_ne (ne_of_none (a1.d b hb) ha)]
        exact a1.d b hb
      · rcases List.mem_cons.mp hq with e | m
        · rw [e]
          exact upd_same
        · rw [upd_ne (ne_of_none (a1.v q m) ha)]
          exact a1.v q m
      · rcases List.mem_cons.mp hq with e | m
        · rw [e]
          refine ⟨fun hd => ?_, vs', rfl⟩
          have := a1.d a hd
          rw [this] at ha
          cases ha
        · exact a1.n q m
    have J := I.fresh i (vs := vs') e1' a1 ha (.new ha) a2 (r.re re)
    exact hso z H0 _ _ _ J { nx := fun _ H' => Q .non H', rt := Q } fun v H' e a n => q v H' e a n
end
end DL


set_option Elab.async false
set_option linter.all false
set_option maxRecDepth 100000
namespace DL
open PySem PySem.Spec PyProof.Rows L2
variable [TabT]
/-! ### zip(*rows), each turn's tuple under one name -/
abbrev ZipO (h : Heap) (z TI TO : Addr) (v : Value) (g : Bool) : Prop := h.get? z = some { cls := .type "zip", dict := none, data := .fields #[v, .bool g, .bool false, .ref TI, .ref TO], slots := #[] }
abbrev TupO (h : Heap) (T : Addr) (xs : Array Value) : Prop := h.get? T = some { cls := .type "tuple", data := .seq xs }
/-- the tuples' iterators at one place, the items there -/
inductive RowZ (h : Heap) (i : Nat) : List (Addr × Addr) → List Value → Prop
  | nil : RowZ h i [] []
  | cons {it l : Addr} {ar : Array Value} {x : Value} {ps : List (Addr × Addr)} {xs : List Value} : h.IsTupleIter it l i → h.IsTuple l ar → ar[i]? = some x → RowZ h i ps xs → RowZ h i ((it, l) :: ps) (x :: xs)
theorem RowZ.length {h : Heap} {i : Nat} : ∀ {ps : List (Addr × Addr)} {xs : List Value}, RowZ h i ps xs → ps.length = xs.length
  | _, _, .nil => rfl
  | _, _, .cons _ _ _ r => by rw [List.length_cons, List.length_cons, RowZ.length r]
theorem RowZ.keep {h h' : Heap} {i : Nat} : ∀ {ps : List (Addr × Addr)} {xs : List Value}, RowZ h i ps xs → (∀ p ∈ ps, ∀ o, (h.get? p.1 = some o → h'.get? p.1 = some o) ∧ (h.get? p.2 = some o → h'.get? p.2 = some o)) → RowZ h' i ps xs
  | _, _, .nil, _ => .nil
  | _, _, .cons a b c r, k => .cons (a.at fun o e => (k _ (List.mem_cons_self ..) o).1 e) (b.at fun o e => (k _ (List.mem_cons_self ..) o).2 e) c (RowZ.keep r fun p hp => k p (List.mem_cons_of_mem _ hp))
structure ApartZ (z TI TO : Addr) (ps : List (Addr × Addr)) : Prop where
  tiz : TI ≠ z
  toz : TO ≠ z
  tito : TI ≠ TO
  nd : (ps.map Prod.fst).Nodup
  iz : ∀ p ∈ ps, p.1 ≠ z ∧ p.1 ≠ TI ∧ p.1 ≠ TO
  lz : ∀ p ∈ ps, p.2 ≠ z ∧ p.2 ≠ TO ∧ p.2 ∉ ps.map Prod.fst
section
variable {M : Model} {A : Around} {E : Value → Shared → Prop}
theorem loop_walk {α β : Type} {f : α → β → Sem (ForInStep β)} (I : List α → β → Shared → Prop) (step : ∀ x xs b s, I (x :: xs) b s → wpAny M A (f x b) (fun r s' => ∃ b', r = .yield b' ∧ I xs b' s') E s) {Q : β → Shared → Prop} (fin : ∀ b s, I [] b s → Q b s) :
    ∀ (xs : List α) (b : β) (s : Shared), I xs b s → wpAny M A (forIn xs b f) Q E s
  | [], b, s, h => by
    rw [List.forIn_nil]
    exact wpAny_pure (fin b s h)
  | x :: xs, b, s, h => by
    rw [List.forIn_cons]
    refine wpAny_bind (wpAny_mono (step x xs b s h) (fun r s' ⟨b', e, h'⟩ => ?_) fun _ _ q => q)
    subst e
    exact loop_walk I step fin xs b' s' h'
end
section
variable {prog : Program} {w : World} {A : Around} {E : Value → Shared → Prop} {s : Shared}
theorem alive_any {a : Addr} {Q : Option Obj → Shared → Prop} (h : Q (s.heap.get? a) s) : wpAny (model prog w) A (loadIfAlive a) Q E s := fun _ _ _ => h
theorem upd_TupO {T : Addr} {xs : Array Value} {x : Value} {k : Nat} {Q : Unit → Shared → Prop} (hT : TupO s.heap T xs) (hz : xs.size ≤ sizeLine)
    (h : ∀ h', TupO h' T (xs.setIfInBounds k x) → Heap.SameBut T s.heap h' → Q () { s with heap := h' }) : wpAny (model prog w) A (updateSeq T (·.setIfInBounds k x)) Q E s := by
  refine wpAny_updateSeq hT rfl (h _ ?_ (Heap.SameBut.update ..)) hz (by rw [Array.size_setIfInBounds]; omega)
  show Heap.get? _ T = _
  rw [Heap.get?_update_self _ hT rfl]
  simp [Obj.mapSeq]
/-- whether the tuple that was handed out is free again, both ways -/
theorem free_any {z TI TO : Addr} {v : Value} {g : Bool} {Q : Bool → Shared → Prop} (hz : ZipO s.heap z TI TO v g) (hv : v = .none ∨ ∃ a : Nat, v = rawInt (a : Int))
    (h1 : Q true s) (h2 : ∀ h' g', ZipO h' z TI TO v g' → (∃ a : Nat, v = rawInt (a : Int)) → Heap.SameBut z s.heap h' → Q false { s with heap := h' }) : wpAny (model prog w) A (Builtin.SmallTypes.ownedTupleIsFree (.ref z)) Q E s := by
  unfold Builtin.SmallTypes.ownedTupleIsFree
  refine wpAny_bind (wpAny_field hz rfl (x := v) rfl ?_)
  rcases hv with rfl | ⟨a, rfl⟩
  · exact wpAny_pure h1
  · show wpAny _ _ (loadIfAlive _ >>= _) _ _ _
    refine wpAny_bind (alive_any ?_)
    cases hg : s.heap.get? ((a : Int).toNat) with
    | none =>
      simp only [Option.isNone_none, if_true]
      exact wpAny_pure h1
    | some o =>
      simp only [Option.isNone_some, Bool.false_eq_true, if_false]
      refine wpAny_bind (wpAny_field hz rfl (x := .bool g) rfl ?_)
      cases g with
      | true =>
        rw [if_neg (by decide)]
        exact wpAny_pure (h2 s.heap true hz ⟨a, rfl⟩ (Heap.SameBut.refl _ _))
      | false =>
        rw [if_pos (by rfl)]
        exact wpAny_bind (wpAny_setField_rec hz (by simp) fun h' q k => wpAny_pure (h2 h' true q ⟨a, rfl⟩ k))

/-- what the turns of the loop over the iterators keep -/
structure MidZ (s : Shared) (z TI TO : Addr) (i : Nat) (ps : List (Addr × Addr)) (h' : Heap) (done todo : List (Addr × Addr)) (v : Value) (g : Bool) : Prop where
  eq : ps = done ++ todo
  zo : ZipO h' z TI TO v g
  old : ∀ p ∈ done, h'.IsTupleIter p.1 p.2 (i + 1)
  sz : h'.objs.size = s.heap.objs.size
  fr : ∀ c o, c ≠ z → c ≠ TO → c ∉ ps.map Prod.fst → s.heap.get? c = some o → h'.get? c = some o

theorem MidZ.next {z TI TO : Addr} {i : Nat} {ps done todo : List (Addr × Addr)} {p : Addr × Addr} {h' h2 : Heap} {v : Value} {g : Bool} (D : ApartZ z TI TO ps) (m : MidZ s z TI TO i ps h' done (p :: todo) v g)
    (hi : h2.IsTupleIter p.1 p.2 (i + 1)) (b : Heap.SameBut p.1 h' h2) : MidZ s z TI TO i ps h2 (done ++ [p]) todo v g ∧ ∀ {xs : List Value}, RowZ h' i todo xs → RowZ h2 i todo xs := by
  have e := m.eq
  have hp : p ∈ ps := by rw [e]; simp
  have nd := D.nd
  rw [e, List.map_append, List.map_cons] at nd
  have nd1 := (List.nodup_append.mp nd)
  have nd2 := List.nodup_cons.mp nd1.2.1
  refine ⟨⟨by rw [e, List.append_assoc]; rfl, (b.2 _ (D.iz p hp).1.symm).trans m.zo, fun q hq => ?_, b.1.trans m.sz, fun c o c1 c2 c3 h => (b.2 c (fun w => c3 (by rw [w]; exact List.mem_map.mpr ⟨p, hp, rfl⟩))).trans (m.fr c o c1 c2 c3 h)⟩, fun r => r.keep fun q hq o => ?_⟩
  · rcases List.mem_append.mp hq with hq | hq
    · exact (m.old q hq).at fun o h => (b.2 q.1 (fun w => nd1.2.2 q.1 (List.mem_map.mpr ⟨q, hq, rfl⟩) p.1 (List.mem_cons_self ..) w)).trans h
    · rw [List.mem_singleton.mp hq]
      exact hi
  · have hq2 : q ∈ ps := by rw [e]; simp [hq]
    exact ⟨fun h => (b.2 q.1 (fun w => nd2.1 (by rw [← w]; exact List.mem_map.mpr ⟨q, hq, rfl⟩))).trans h, fun h => (b.2 q.2 (fun w => (D.lz q hq2).2.2 (by rw [w]; exact List.mem_map.mpr ⟨p, hp, rfl⟩))).trans h⟩
theorem MidZ.put {z TI TO : Addr} {i : Nat} {ps done todo : List (Addr × Addr)} {h' h2 : Heap} {v : Value} {g : Bool} (D : ApartZ z TI TO ps) (m : MidZ s z TI TO i ps h' done todo v g)
    (b : Heap.SameBut TO h' h2) : MidZ s z TI TO i ps h2 done todo v g ∧ ∀ {xs : List Value}, RowZ h' i todo xs → RowZ h2 i todo xs := by
  have e := m.eq
  refine ⟨⟨e, (b.2 _ D.toz.symm).trans m.zo, fun q hq => (m.old q hq).at fun o h => (b.2 q.1 (D.iz q (by rw [e]; simp [hq])).2.2).trans h, b.1.trans m.sz, fun c o c1 c2 c3 h => (b.2 c c2).trans (m.fr c o c1 c2 c3 h)⟩, fun r => r.keep fun q hq o => ?_⟩
  have hq2 : q ∈ ps := by rw [e]; simp [hq]
  exact ⟨fun h => (b.2 q.1 (D.iz q hq2).2.2).trans h, fun h => (b.2 q.2 (D.lz q hq2).2.1).trans h⟩
theorem MidZ.start {z TI TO : Addr} {i : Nat} {ps : List (Addr × Addr)} {h1 : Heap} {v : Value} {g : Bool} (D : ApartZ z TI TO ps) (hz : ZipO h1 z TI TO v g) (b : Heap.SameBut z s.heap h1) : MidZ s z TI TO i ps h1 [] ps v g ∧ ∀ {xs : List Value}, RowZ s.heap i ps xs → RowZ h1 i ps xs := by
  refine ⟨⟨rfl, hz, (by intro p h; cases h), b.1, fun c o c1 c2 c3 h => (b.2 c c1).trans h⟩, fun r => r.keep fun q hq o => ⟨fun h => (b.2 q.1 (D.iz q hq).1).trans h, fun h => (b.2 q.2 (D.lz q hq).1).trans h⟩⟩
theorem zipN_next {z TI TO : Addr} {i : Nat} {ps : List (Addr × Addr)} {xs : List Value} {ar : Array Value} {v : Value} {g : Bool} {Q : Value → Shared → Prop} (D : ApartZ z TI TO ps)
    (hz : ZipO s.heap z TI TO v g) (hv : v = .none ∨ ∃ a : Nat, v = rawInt (a : Int)) (hTI : TupO s.heap TI (ps.map fun p => Value.ref p.1).toArray) (hTO : TupO s.heap TO ar) (har : ar.size = ps.length) (hps : ps ≠ []) (hsz : ps.length ≤ 1000)
    (R : RowZ s.heap i ps xs)
    (hQ : ∀ h' v' g' ar', ZipO h' z TI TO v' g' → (∃ a : Nat, v' = rawInt (a : Int)) → TupO h' TO ar' → ar'.size = ps.length → (∀ p ∈ ps, h'.IsTupleIter p.1 p.2 (i + 1)) → TupO h' s.heap.objs.size xs.toArray → h'.objs.size = s.heap.objs.size + 1 →
      (∀ c o, c ≠ z → c ≠ TO → c ∉ ps.map Prod.fst → s.heap.get? c = some o → h'.get? c = some o) → Q (.ref s.heap.objs.size) { s with heap := h' }) :
    wpAny (model prog w) A (Builtin.«zip.__next__» ⟨[.ref z], []⟩) (fun fin s' => ∃ u, fin = .done (.ret u) ∧ Q u s') E s := by
  have xl := R.length
  have hsl : (1000 : Nat) ≤ sizeLine := by decide
  have far : ∀ {h' : Heap} {v g}, ZipO h' z TI TO v g → z < h'.objs.size := fun q => Heap.lt_size q
  show wpAny _ _ (field (.ref z) 2 >>= _) _ _ _
  refine wpAny_bind (wpAny_field hz rfl (x := .bool false) rfl ?_)
  show wpAny _ _ (field (.ref z) 3 >>= _) _ _ _
  refine wpAny_bind (wpAny_field hz rfl (x := .ref TI) rfl (wpAny_bind (wpAny_seqItems hTI rfl ?_)))
  dsimp only
  rw [if_neg (by simp [hps])]
  refine wpAny_bind (free_any hz hv ?_ fun h₁ g₁ hz₁ hv₁ hs₁ => ?_)
  · simp only [if_true]
    refine wpAny_bind (wpAny_rule (wpAny_bind (wpAny_field hz rfl (x := .ref TO) rfl (wpAny_bind (wpAny_setField_rec hz (by simp) fun h₁ hz₁ hs₁ => wpAny_bind ?_)))))
    replace hz₁ : ZipO h₁ z TI TO .ellipsis g := hz₁
    obtain ⟨m0, r0⟩ := MidZ.start (i := i) D hz₁ hs₁
    refine loop_walk (fun rest b s' => b = (none, ()) ∧ ∃ h' done todo ar', s' = { s with heap := h' } ∧ rest = (todo.map fun p => Value.ref p.1).zipIdx done.length ∧ MidZ s z TI TO i ps h' done todo .ellipsis g ∧ TupO h' TO ar' ∧ ar'.size = ps.length ∧ (∀ k, k < done.length → ar'[k]? = xs[k]?) ∧ RowZ h' i todo (xs.drop done.length))
      (fun x rest b s' h => ?_) (fun b s' h => ?_) _ _ _ ⟨rfl, h₁, [], ps, ar, rfl, rfl, m0, (hs₁.2 _ D.toz).trans hTO, har, fun k h => (by cases h), r0 R⟩
    · obtain ⟨rfl, h', done, todo, ar', rfl, hr, m, hT, hl, ha, r⟩ := h
      cases todo with
      | nil => cases hr
      | cons p todo =>
        rw [List.map_cons, List.zipIdx_cons] at hr
        injection hr with hx hr
        subst hx hr
        generalize hd : xs.drop done.length = dx at r
        cases r with
        | @cons it l arr x _ dx' hit hl2 hx r =>
          have hp : (it, l) ∈ ps := by rw [m.eq]; simp
          refine wpAny_bind (wpAny_onRaise ?_)
          show wpAny _ _ (Builtin.SmallTypes.nextOf (.ref it) >>= _) _ _ _
          refine wpAny_bind (RZ.nextOf_tuple_item hit hl2 hx fun h2 hit2 hs2 => wpAny_pure ?_)
          obtain ⟨m2, rr2⟩ := m.next D hit2 hs2
          have hT2 : TupO h2 TO ar' := (hs2.2 _ (D.iz _ hp).2.2.symm).trans hT
          refine wpAny_bind (wpAny_seqItems hT2 rfl ?_)
          refine wpAny_bind (upd_TupO hT2 (by omega) fun h3 hT3 hs3 => ?_)
          obtain ⟨m3, rr3⟩ := m2.put D hs3
          refine wpAny_bind (wpAny_letGo (wpAny_pure ⟨_, rfl, rfl, h3, done ++ [(it, l)], todo, _, rfl, by rw [List.length_append]; rfl, m3, hT3, by rw [Array.size_setIfInBounds, hl], fun k hk => ?_, ?_⟩))
          · have dl : done.length < ps.length := by
              have := congrArg List.length m.eq
              rw [List.length_append, List.length_cons] at this
              omega
            rw [List.length_append, List.length_singleton] at hk
            rw [Array.getElem?_setIfInBounds]
            by_cases e : done.length = k
            · subst e
              rw [if_pos rfl, if_pos (by omega)]
              have := congrArg List.head? hd
              rw [List.head?_drop] at this
              exact this.symm
            · rw [if_neg e]
              exact ha k (by omega)
          · have : xs.drop (done ++ [(it, l)]).length = dx' := by
              have := congrArg List.tail hd
              rw [List.tail_drop] at this
              rw [List.length_append, List.length_singleton]
              exact this
            rw [this]
            exact rr3 (rr2 r)
    · obtain ⟨rfl, h', done, todo, ar', rfl, hr, m, hT, hl, ha, r⟩ := h
      have ht : todo = [] := by
        cases todo with
        | nil => rfl
        | cons p t => cases hr
      subst ht
      have e := m.eq
      rw [List.append_nil] at e
      subst e
      have ex : ar' = xs.toArray := by
        apply Array.ext'
        apply List.ext_getElem?
        intro k
        by_cases hk : k < ps.length
        · have := ha k hk
          rw [Array.getElem?_toList]
          exact this
        · rw [List.getElem?_eq_none (by rw [Array.length_toList]; omega), List.getElem?_eq_none (by show xs.length ≤ k; omega)]
      subst ex
      dsimp only
      refine wpAny_bind (wpAny_seqItems hT rfl ?_)
      dsimp only
      refine wpAny_bind (wpAny_newTuple ?_)
      have hzl := far m.zo
      show wpAny _ _ (Builtin.SmallTypes.ownedTupleHandOut (.ref z) (.ref h'.objs.size) >>= _) _ _ _
      refine wpAny_bind ?_
      unfold Builtin.SmallTypes.ownedTupleHandOut
      have q1 : ZipO (h'.push { cls := .type "tuple", data := .seq xs.toArray }) z TI TO .ellipsis g := Heap.get?_push_of_some _ m.zo
      refine wpAny_bind (wpAny_setField_rec q1 (by simp) fun h4 q4 b4 => ?_)
      replace q4 : ZipO h4 z TI TO (rawInt h'.objs.size) g := q4
      refine wpAny_setField_rec q4 (by simp) fun h5 q5 b5 => ?_
      replace q5 : ZipO h5 z TI TO (rawInt h'.objs.size) false := q5
      have up : ∀ c o, c ≠ z → h'.get? c = some o → h5.get? c = some o := fun c o c1 e => (b5.2 c c1).trans ((b4.2 c c1).trans (Heap.get?_push_of_some _ e))
      have hT5 : TupO h5 h'.objs.size xs.toArray := (b5.2 _ (Nat.ne_of_gt hzl)).trans ((b4.2 _ (Nat.ne_of_gt hzl)).trans (Heap.get?_push_size _ rfl))
      have s5 : h5.objs.size = h'.objs.size + 1 := by rw [b5.1, b4.1, Heap.size_push]
      refine wpAny_pure ⟨_, rfl, ?_⟩
      show Q (.ref h'.objs.size) _
      rw [m.sz] at hT5 s5 q5 ⊢
      exact hQ h5 _ _ _ q5 ⟨_, rfl⟩ (up _ _ D.toz hT) hl (fun p hp => (m.old p hp).at fun o q => up _ _ (D.iz p hp).1 q) hT5 s5 fun c o c1 c2 c3 q => up c o c1 (m.fr c o c1 c2 c3 q)
  · simp only [Bool.false_eq_true, if_false]
    rw [← Array.forIn_toList]
    refine wpAny_bind ?_
    obtain ⟨m0, r0⟩ := MidZ.start (i := i) D hz₁ hs₁
    refine loop_walk (fun rest b s' => ∃ h' done todo, s' = { s with heap := h' } ∧ rest = todo.map (fun p => Value.ref p.1) ∧ b = (none, (xs.take done.length).toArray) ∧ MidZ s z TI TO i ps h' done todo v g₁ ∧ TupO h' TO ar ∧ RowZ h' i todo (xs.drop done.length))
      (fun x rest b s' h => ?_) (fun b s' h => ?_) _ _ _ ⟨h₁, [], ps, rfl, rfl, rfl, m0, (hs₁.2 _ D.toz).trans hTO, r0 R⟩
    · obtain ⟨h', done, todo, rfl, hr, rfl, m, hT, r⟩ := h
      cases todo with
      | nil => cases hr
      | cons p todo =>
        rw [List.map_cons] at hr
        injection hr with hx hr
        subst hx hr
        generalize hd : xs.drop done.length = dx at r
        cases r with
        | @cons it l arr x _ dx' hit hl2 hx r =>
          have hp : (it, l) ∈ ps := by rw [m.eq]; simp
          refine wpAny_bind (wpAny_holding ?_)
          show wpAny _ _ (Builtin.SmallTypes.nextOf (.ref it) >>= _) _ _ _
          refine wpAny_bind (RZ.nextOf_tuple_item hit hl2 hx fun h2 hit2 hs2 => wpAny_pure ?_)
          obtain ⟨m2, rr2⟩ := m.next D hit2 hs2
          have hx' : xs[done.length]? = some x := by
            have := congrArg List.head? hd
            rwa [List.head?_drop] at this
          refine wpAny_pure ⟨_, rfl, h2, done ++ [(it, l)], todo, rfl, rfl, ?_, m2, (hs2.2 _ (D.iz _ hp).2.2.symm).trans hT, ?_⟩
          · rw [List.length_append, List.length_singleton, List.take_add_one, hx']
            simp
          · have : xs.drop (done ++ [(it, l)]).length = dx' := by
              have := congrArg List.tail hd
              rw [List.tail_drop] at this
              rw [List.length_append, List.length_singleton]
              exact this
            rw [this]
            exact rr2 r
    · obtain ⟨h', done, todo, rfl, hr, rfl, m, hT, r⟩ := h
      have ht : todo = [] := by
        cases todo with
        | nil => rfl
        | cons p t => cases hr
      subst ht
      have e := m.eq
      rw [List.append_nil] at e
      subst e
      rw [List.take_of_length_le (by omega)]
      dsimp only
      refine wpAny_bind (wpAny_newTuple (wpAny_pure ⟨_, rfl, ?_⟩))
      have up : ∀ c o, h'.get? c = some o → (h'.push { cls := .type "tuple", data := .seq xs.toArray }).get? c = some o := fun c o e => Heap.get?_push_of_some _ e
      have hT5 : TupO (h'.push { cls := .type "tuple", data := .seq xs.toArray }) h'.objs.size xs.toArray := Heap.get?_push_size _ rfl
      have s5 : (h'.push { cls := .type "tuple", data := .seq xs.toArray }).objs.size = h'.objs.size + 1 := Heap.size_push ..
      show Q (.ref h'.objs.size) _
      rw [m.sz] at hT5 s5 ⊢
      exact hQ _ _ _ _ (up _ _ m.zo) hv₁ (up _ _ hT) har (fun p hp => (m.old p hp).at fun o q => up _ _ q) hT5 s5 fun c o c1 c2 c3 q => up c o (m.fr c o c1 c2 c3 q)
theorem zipN_stop {z TI TO it l : Addr} {i : Nat} {ps : List (Addr × Addr)} {arr ar : Array Value} {v : Value} {g : Bool} {Q : PySem.Fin → Shared → Prop} (hh : A.handled = none) (D : ApartZ z TI TO ((it, l) :: ps))
    (hz : ZipO s.heap z TI TO v g) (hv : v = .none ∨ ∃ a : Nat, v = rawInt (a : Int)) (hTI : TupO s.heap TI (((it, l) :: ps).map fun p => Value.ref p.1).toArray) (hTO : TupO s.heap TO ar)
    (hit : s.heap.IsTupleIter it l i) (hl : s.heap.IsTuple l arr) (hx : arr[i]? = none)
    (hE : ∀ h' e, (∀ c o, c ≠ z → c ≠ it → s.heap.get? c = some o → h'.get? c = some o) → (∃ o, h'.get? e = some o ∧ o.cls = .type "StopIteration") → E (.ref e) { s with heap := h' }) :
    wpAny (model prog w) A (Builtin.«zip.__next__» ⟨[.ref z], []⟩) Q E s := by
  have iz := (D.iz _ (List.mem_cons_self ..)).1
  have lz := (D.lz _ (List.mem_cons_self ..)).1
  show wpAny _ _ (field (.ref z) 2 >>= _) _ _ _
  refine wpAny_bind (wpAny_field hz rfl (x := .bool false) rfl ?_)
  show wpAny _ _ (field (.ref z) 3 >>= _) _ _ _
  refine wpAny_bind (wpAny_field hz rfl (x := .ref TI) rfl (wpAny_bind (wpAny_seqItems hTI rfl ?_)))
  dsimp only
  rw [if_neg (by simp)]
  refine wpAny_bind (free_any hz hv ?_ fun h₁ g₁ hz₁ hv₁ hs₁ => ?_)
  · simp only [if_true]
    refine wpAny_bind (wpAny_rule (wpAny_bind (wpAny_field hz rfl (x := .ref TO) rfl (wpAny_bind (wpAny_setField_rec hz (by simp) fun h₁ hz₁ hs₁ => wpAny_bind ?_)))))
    replace hz₁ : ZipO h₁ z TI TO .ellipsis g := hz₁
    rw [List.map_cons, List.zipIdx_cons, List.forIn_cons]
    refine wpAny_bind (wpAny_bind (wpAny_onRaise ?_))
    show wpAny _ _ (Builtin.SmallTypes.nextOf (.ref it) >>= _) _ _ _
    refine wpAny_bind (RZ.nextOf_tuple_end hh (hit.at fun o q => (hs₁.2 _ iz).trans q) (hl.at fun o q => (hs₁.2 _ lz).trans q) hx fun h2 e k2 he => ?_)
    obtain ⟨oe, hoe, hce⟩ := he
    have hz2 : ZipO h2 z TI TO .ellipsis g := k2 _ _ iz.symm hz₁
    have ez : e ≠ z := fun w => by
      subst w
      rw [hz2] at hoe
      cases hoe
      simp at hce
    exact wpAny_setField_rec hz2 (by simp) fun h3 _ k3 => hE h3 e (fun c o c1 c2 q => (k3.2 c c1).trans (k2 c o c2 ((hs₁.2 c c1).trans q))) ⟨oe, (k3.2 e ez).trans hoe, hce⟩
  · simp only [Bool.false_eq_true, if_false]
    rw [← Array.forIn_toList]
    refine wpAny_bind ?_
    show wpAny _ _ (forIn (Value.ref it :: ps.map fun p => Value.ref p.1) _ _) _ _ _
    rw [List.forIn_cons]
    refine wpAny_bind (wpAny_bind (wpAny_holding ?_))
    show wpAny _ _ (Builtin.SmallTypes.nextOf (.ref it) >>= _) _ _ _
    exact wpAny_bind (RZ.nextOf_tuple_end hh (hit.at fun o q => (hs₁.2 _ iz).trans q) (hl.at fun o q => (hs₁.2 _ lz).trans q) hx fun h2 e k2 he => hE h2 e (fun c o c1 c2 q => k2 c o c2 ((hs₁.2 c c1).trans q)) he)
end
end DL


set_option Elab.async false
set_option linter.all false
set_option maxRecDepth 100000
namespace DL
open PySem PySem.Spec PyProof.Rows L2
variable [TabT]
theorem newCallZ : ∀ us : List Value, us ≠ [] → us.length ≤ 5 → checkBuiltinCall "zip.__new__" ⟨.type "zip" :: us, []⟩ = pure ()
  | [], h, _ => absurd rfl h
  | [a], _, _ => by kernel_rfl
  | [a, b], _, _ => by kernel_rfl
  | [a, b, c], _, _ => by kernel_rfl
  | [a, b, c, d], _, _ => by kernel_rfl
  | [a, b, c, d, e], _, _ => by kernel_rfl
  | _ :: _ :: _ :: _ :: _ :: _ :: _, _, h => by simp at h
theorem typeCallZ (us : List Value) : checkTypeCall "zip" ⟨us, []⟩ = pure () := by kernel_rfl
theorem argsInitZ (us : List Value) (o : Value) : argsOk "object.__init__" ⟨o :: us, []⟩ := by
  unfold argsOk
  rw [signature?_of (id := "object.__init__") (n := ['_', '_', 't', 'i', 'n', 'i', '_', '_']) (o := ['t', 'c', 'e', 'j', 'b', 'o']) (by kernel_rfl) F.owner_object]
  kernel_rfl
section
variable {prog : Program} {w : World} {A : Around} {E : Value → Shared → Prop} {s : Shared}
structure ItsZ (s : Shared) (h' : Heap) (its as : List Addr) : Prop where
  len : its.length = as.length
  it : ∀ (k : Nat) (t a : Addr), its[k]? = some t → as[k]? = some a → h'.IsTupleIter t a 0
  nd : its.Nodup
  lo : ∀ t ∈ its, s.heap.objs.size ≤ t ∧ t < h'.objs.size
  le : s.heap.objs.size ≤ h'.objs.size
  kp : ∀ c o, s.heap.get? c = some o → h'.get? c = some o
theorem iterAll_any {as : List Addr} {Q : List Value → Shared → Prop} (ht : ∀ a ∈ as, ∃ ar, s.heap.IsTuple a ar) (k : ∀ h' its, ItsZ s h' its as → Q (its.map Value.ref) { s with heap := h' }) :
    wpAny (model prog w) A (Builtin.SmallTypes.iterAll (as.map Value.ref)) Q E s := by
  unfold Builtin.SmallTypes.iterAll
  refine wpAny_bind ?_
  refine loop_walk (fun rest b s' => ∃ h' its done todo, as = done ++ todo ∧ rest = todo.map Value.ref ∧ b = (its.map Value.ref).toArray ∧ s' = { s with heap := h' } ∧ ItsZ s h' its done) (fun x rest b s' h => ?_) (fun b s' h => ?_) _ _ _ ⟨s.heap, [], [], as, rfl, rfl, rfl, rfl, rfl, (by intro k t a h; simp at h), List.nodup_nil, (by intro t h; cases h), Nat.le_refl _, fun _ _ e => e⟩
  · obtain ⟨h', its, done, todo, ea, er, rfl, rfl, I⟩ := h
    cases todo with
    | nil => cases er
    | cons a todo =>
      rw [List.map_cons] at er
      injection er with ex er
      subst ex er
      obtain ⟨ar, har⟩ := ht a (by rw [ea]; simp)
      refine wpAny_bind (wpAny_holding (wpAny_pyIter_tuple (s := { s with heap := h' }) (har.at fun o e => I.kp a o e) ?_))
      have hn : (h'.push { cls := .type "tuple_iterator", data := .fields #[.ref a, .int 0 0] }).objs.size = h'.objs.size + 1 := Heap.size_push ..
      have il := I.len
      refine wpAny_pure ⟨_, rfl, _, its ++ [h'.objs.size], done ++ [a], todo, by rw [ea, List.append_assoc]; rfl, rfl, by simp, rfl, ⟨by simp [il], fun k t b h1 h2 => ?_, ?_, fun t ht => ?_, by rw [hn]; have := I.le; omega, fun c o e => Heap.get?_push_of_some _ (I.kp c o e)⟩⟩
      · by_cases hk : k < its.length
        · rw [List.getElem?_append_left hk] at h1
          rw [List.getElem?_append_left (by omega)] at h2
          exact (I.it k t b h1 h2).at fun o e => Heap.get?_push_of_some _ e
        · have hk2 : k = its.length := by
            have := (List.getElem?_eq_some_iff.mp h1).1
            simp at this
            omega
          subst hk2
          rw [List.getElem?_append_right (Nat.le_refl _), Nat.sub_self] at h1
          rw [List.getElem?_append_right (by omega), show its.length - done.length = 0 by omega] at h2
          cases h1
          cases h2
          exact ⟨_, Heap.get?_push_size _ rfl, rfl, rfl⟩
      · refine List.nodup_append.mpr ⟨I.nd, by simp, fun x hx y hy e => ?_⟩
        have := (I.lo x hx).2
        rw [List.mem_singleton.mp hy] at e
        rw [e] at this
        exact Nat.lt_irrefl _ this
      · rw [hn]
        rcases List.mem_append.mp ht with h | h
        · exact ⟨(I.lo t h).1, Nat.lt_succ_of_lt (I.lo t h).2⟩
        · rw [List.mem_singleton.mp h]
          exact ⟨I.le, Nat.lt_succ_self _⟩
  · obtain ⟨h', its, done, todo, ea, er, rfl, rfl, I⟩ := h
    have : todo = [] := by
      cases todo with
      | nil => rfl
      | cons a t => cases er
    subst this
    rw [List.append_nil] at ea
    subst ea
    exact wpAny_pure (k h' its I)
theorem newZ {as : List Addr} :
    PySem.Meets (Builtin.«zip.__new__» ⟨.type "zip" :: as.map Value.ref, []⟩) (fun _ R s => (∀ a ∈ as, ∃ ar, s.heap.IsTuple a ar) ∧ as.length ≤ 1000 ∧ ∀ h1 h' its z TI TO, ItsZ s h1 its as → (∀ c o, h1.get? c = some o → h'.get? c = some o) → z = h1.objs.size + 2 → TI = h1.objs.size → TO = h1.objs.size + 1 →
      ZipO h' z TI TO .none false → TupO h' TI (its.map Value.ref).toArray → TupO h' TO (its.map fun _ => Value.none).toArray → R (.ok (.ret (.ref z))) { s with heap := h' }) :=
  .of_wp fun prog w A R s h => by
    obtain ⟨hp, g, d, tk, os⟩ := s
    obtain ⟨ht, hl, hR⟩ := h
    have hsub := sub_zip
    have hsl : (1000 : Nat) ≤ sizeLine := by decide
    have main : ∀ {B : Around} {E : Value → Shared → Prop} {Q : List Value → Shared → Prop}, (∀ h1 its, ItsZ ⟨hp, g, d, tk, os⟩ h1 its as → Q (its.map Value.ref) ⟨h1, g, d, tk, os⟩) → wpAny (model prog w) B (Builtin.SmallTypes.iterAll (as.map Value.ref)) Q E ⟨hp, g, d, tk, os⟩ := fun k => iterAll_any ht k
    wp_walk using main
    intro h1 its I
    have il := I.len
    have nil : its.map (fun _ => Value.none) = (its.map Value.ref).map fun _ => Value.none := by rw [List.map_map]; rfl
    refine wpAny_bind (wpAny_newTuple ?_ (by rw [List.length_map]; omega))
    refine wpAny_bind (wpAny_newTuple ?_ (by rw [List.length_map, List.length_map]; omega))
    rw [← nil]
    have z1 : (h1.push { cls := .type "tuple", data := .seq (its.map Value.ref).toArray }).objs.size = h1.objs.size + 1 := Heap.size_push ..
    have z2 : ((h1.push { cls := .type "tuple", data := .seq (its.map Value.ref).toArray }).push { cls := .type "tuple", data := .seq (its.map fun _ => Value.none).toArray }).objs.size = h1.objs.size + 2 := by rw [Heap.size_push, z1]
    show wpAny _ _ (newObj (.type "zip") (.fields #[.none, .bool false, .bool false, .ref h1.objs.size, .ref (h1.push { cls := .type "tuple", data := .seq (its.map Value.ref).toArray }).objs.size]) >>= _) _ _ _
    refine wpAny_bind (wpAny_newObj_type (wpAny_pure ⟨_, rfl, ?_⟩))
    refine hR h1 _ its _ h1.objs.size (h1.objs.size + 1) I (fun c o e => Heap.get?_push_of_some _ (Heap.get?_push_of_some _ (Heap.get?_push_of_some _ e))) z2 rfl rfl ?_ (Heap.get?_push_of_some _ (Heap.get?_push_of_some _ (Heap.get?_push_size _ rfl))) ?_
    · rw [← z1]
      exact Heap.get?_push_size _ rfl
    · rw [← z1]
      exact Heap.get?_push_of_some _ (Heap.get?_push_size _ rfl)
theorem callZ {as : List Addr} {Q : Value → Shared → Prop} (ht : ∀ a ∈ as, ∃ ar, s.heap.IsTuple a ar) (h0 : as ≠ []) (hl : as.length ≤ 5)
    (h : ∀ h1 h' its (z TI TO : Addr), ItsZ s h1 its as → (∀ c o, h1.get? c = some o → h'.get? c = some o) → z = h1.objs.size + 2 → TI = h1.objs.size → TO = h1.objs.size + 1 →
      ZipO h' z TI TO .none false → TupO h' TI (its.map Value.ref).toArray → TupO h' TO (its.map fun _ => Value.none).toArray → Q (.ref z) { s with heap := h' }) :
    wpAny (model prog w) A (call (.type "zip") (as.map Value.ref)) Q E s := by
  refine callType_new F.called_zip (by decide) (typeCallZ _) (newCallZ _ (by simp [h0]) (by rw [List.length_map]; exact hl)) (fun obj => argsInitZ _ obj) F.entry_zip_new newZ ⟨ht, by omega, fun h1 h' its z TI TO I k ez e1 e2 qz q1 q2 => ?_⟩
  exact ⟨⟨_, qz, rfl⟩, h h1 h' its z TI TO I k ez e1 e2 qz q1 q2⟩
theorem callWith_typeS {M : Model} {A : Around} {E : Value → Shared → Prop} {s : Shared} {env : Env} {pos p : Pos} {T : String} {e : Expr} {Q : Value → Shared → Prop}
    (h : wpAny M A (eval e env) (fun v s₁ => PySem.W.StarOf M A E v (fun vs s₂ => wpAny M A (call (.type T) vs) Q E s₂) s₁) E s)
    (he : starEach [.Starred e p] env = [(true, eval e env)] := by rfl) : wpAny M A (callWith pos (.type T) [] (backTo pos (starEach [.Starred e p] env)) []) Q E s := by
  rw [he]
  unfold callWith
  refine wpAny_bind (wpAny_holding (wpAny_mono (PySem.W.ks_lone (Q := fun (a : Args) s₂ => wpAny M A (call (.type T) a.pos a.kw) Q E s₂) h) (fun a s₁ h₁ => wpAny_bind (wpAny_standAt ?_)) fun _ _ q => q))
  refine wpAny_bind (wpAny_pure ?_)
  exact wpAny_bind (wpAny_mono (wpAny_operating h₁) (fun r s₂ hr => wpAny_bind (wpAny_holding (wpAny_point (wpAny_pure hr)))) fun _ _ q => q)
end
/-! ### the walk -/
inductive RowV (K : PySem.W.Frag) (H : Hp) (i : Nat) : List Addr → List V → Prop
  | nil : RowV K H i [] []
  | cons {a : Addr} {xs vs : List V} {x : V} {as : List Addr} : SqT K H a xs → xs[i]? = some x → RowV K H i as vs → RowV K H i (a :: as) (x :: vs)
def ItN (K : PySem.W.Frag) (as : List Addr) : It where
  go i H := ∃ vs, RowV K H i as vs
  yld i H v H' := ∃ T vs, v = .ref T ∧ H T = none ∧ H' = upd H T (.tup vs) ∧ vs.length = as.length ∧ ∀ (k : Nat) (a : Addr) (xs : List V), as[k]? = some a → SqT K H a xs → ∃ x, vs[k]? = some x ∧ xs[i]? = some x
  stop i H := ∃ (a : Addr) (xs : List V) (rest : List Addr), as = a :: rest ∧ SqT K H a xs ∧ xs.length = i
/-- how the zip object stands ahead of the turn i -/
structure TnZ (z TI TO : Addr) (ps : List (Addr × Addr)) (i : Nat) (h : Heap) : Prop where
  zo : ∃ v g, ZipO h z TI TO v g ∧ (v = .none ∨ ∃ a : Nat, v = rawInt (a : Int))
  ti : TupO h TI (ps.map fun p => Value.ref p.1).toArray
  to : ∃ ar, TupO h TO ar ∧ ar.size = ps.length
  it : ∀ p ∈ ps, h.IsTupleIter p.1 p.2 i
theorem RowV.length {K : PySem.W.Frag} {H : Hp} {i : Nat} : ∀ {as : List Addr} {vs : List V}, RowV K H i as vs → vs.length = as.length
  | _, _, .nil => rfl
  | _, _, .cons _ _ r => by rw [List.length_cons, List.length_cons, RowV.length r]
theorem RowV.get {K : PySem.W.Frag} {H : Hp} {i : Nat} {X : Cx} {pins : List (Addr × Obj)} {σ : L2.St} {s : Shared} (I : Inv X pins σ H s) (hK : X.K = K) : ∀ {as : List Addr} {vs : List V}, RowV K H i as vs → ∀ (k : Nat) (a : Addr) (xs : List V), as[k]? = some a → SqT K H a xs → ∃ x, vs[k]? = some x ∧ xs[i]? = some x
  | _, _, .nil, k, a, xs, h, _ => by simp at h
  | _, _, .cons q e r, 0, a, xs, h, hs => by
    cases h
    subst hK
    exact ⟨_, rfl, by rw [I.tuple_inj hs q]; exact e⟩
  | _, _, .cons q e r, k + 1, a, xs, h, hs => RowV.get I hK r k a xs h hs
theorem RowV.rowZ {K : PySem.W.Frag} {H : Hp} {i : Nat} {X : Cx} {pins : List (Addr × Obj)} {σ : L2.St} {s : Shared} (I : Inv X pins σ H s) (hK : X.K = K) : ∀ {ps : List (Addr × Addr)} {vs : List V}, RowV K H i (ps.map Prod.snd) vs → (∀ p ∈ ps, s.heap.IsTupleIter p.1 p.2 i) → ∃ us, RowZ s.heap i ps us ∧ Vals vs us
  | [], _, .nil, _ => ⟨[], .nil, .nil⟩
  | (t, a) :: ps, _, .cons q e r, hp => by
    obtain ⟨us, r1, r2⟩ := RowV.rowZ I hK r fun p h => hp p (List.mem_cons_of_mem _ h)
    subst hK
    obtain ⟨its, rv, isT, _⟩ := I.tuple q
    obtain ⟨u, hu, ru⟩ := rv.get e
    exact ⟨u :: us, .cons (hp (t, a) (List.mem_cons_self ..)) isT (by simpa using hu) r1, .cons ru r2⟩
theorem iter_ZipO {prog : Program} {w : World} {A : Around} {E : Value → Shared → Prop} {s : Shared} {z TI TO : Addr} {v : Value} {g : Bool} {Q : Value → Shared → Prop} (hz : ZipO s.heap z TI TO v g) (h : Q (.ref z) s) : wpAny (model prog w) A (pyIter (.ref z)) Q E s := by
  have ty : s.TypeIs (.ref z) "zip" := ⟨_, hz, rfl⟩
  exact wpAny_pyIter_slot ty F.slot_zip_iter (wpAny_call_entry F.slot_zip_iter ty F.entry_zip_iter (show wpAny _ _ (ret (.ref z)) _ _ s from wpAny_pure ⟨_, rfl, "zip", _, ty, F.slot_zip_next.lookup, h⟩) (F.args_zip_iter_1 _))
theorem turn_zipN {P : Program} {w : World} {K : PySem.W.Frag} {x : Str} {tpos : Pos} {z TI TO : Addr} {ps : List (Addr × Addr)} (D : ApartZ z TI TO ps) (h0 : ps ≠ []) (hl : ps.length ≤ 1000) :
    Turn P w K (.Name x tpos) (ItN K (ps.map Prod.snd)) (z :: TI :: TO :: ps.map Prod.fst) z (TnZ z TI TO ps) where
  mem := List.mem_cons_self ..
  obj := fun i h st c hc => by
    rcases List.mem_cons.mp hc with q | hc
    · obtain ⟨v, g, e, _⟩ := st.zo
      rw [q]
      exact ⟨_, e, fun v q => nomatch q⟩
    · rcases List.mem_cons.mp hc with q | hc
      · rw [q]
        exact ⟨_, st.ti, fun v q => nomatch q⟩
      · rcases List.mem_cons.mp hc with q | hc
        · obtain ⟨ar, e, _⟩ := st.to
          rw [q]
          exact ⟨_, e, fun v q => nomatch q⟩
        · obtain ⟨p, hp, q⟩ := List.mem_map.mp hc
          obtain ⟨o, e, _, d⟩ := st.it p hp
          rw [← q]
          exact ⟨o, e, fun v q => by rw [d] at q; cases q⟩
  keep := fun i h h' st k => by
    obtain ⟨v, g, e, hv⟩ := st.zo
    obtain ⟨ar, e2, ha⟩ := st.to
    exact ⟨⟨v, g, k z (List.mem_cons_self ..) _ e, hv⟩, k TI (by simp) _ st.ti, ⟨ar, k TO (by simp) _ e2, ha⟩, fun p hp => (st.it p hp).at fun o q => k p.1 (by simp only [List.mem_cons]; exact .inr (.inr (.inr (List.mem_map.mpr ⟨p, hp, rfl⟩)))) o q⟩
  item := by
    intro X hP hw hK hc i pins s σ H E I hf st hg
    subst hP hw hK
    obtain ⟨v, g, hz, hv⟩ := st.zo
    obtain ⟨ar, hTO, ha⟩ := st.to
    obtain ⟨vs, rv⟩ := hg
    obtain ⟨us, rz, ru⟩ := rv.rowZ I rfl st.it
    have hTy : s.TypeIs (.ref z) "zip" := ⟨_, hz, rfl⟩
    have ul := rz.length
    unfold pyNext
    refine wpAny_bind (wpAny_attempt (wpAny_callSpecial?_slot (name := Str.ofString "__next__") hTy F.slot_zip_next (wpAny_call_entry F.slot_zip_next hTy F.entry_zip_next (zipN_next D hz hv st.ti hTO ha h0 hl rz fun h' v' g' ar' q1 q2 q3 q4 q5 q6 q7 q8 => ?_) (F.args_zip_next_1 _))))
    refine wpAny_pure ⟨_, rfl, wpAny_pure ?_⟩
    have new : ObjOk X.prog X.w (upd H s.heap.objs.size (.tup vs)) h' s.heap.objs.size (.tup vs) := ⟨by
      show vs.length ≤ sizeLine
      rw [ru.length, ← ul]
      exact Nat.le_trans hl (by decide), us, ru, ⟨_, q6, rfl, _, rfl⟩⟩
    have I1 : Inv X pins σ (upd H s.heap.objs.size (.tup vs)) { s with heap := h' } :=
      I.turnedNew (t' := s.toks) (ch := z :: TI :: TO :: ps.map Prod.fst) (fun c o hb q => q8 c o (fun w => hb (by simp [w])) (fun w => hb (by simp [w])) (fun w => hb (by simp only [List.mem_cons]; exact .inr (.inr (.inr w)))) q) hf (Nat.le_refl _) new
    refine ⟨.ref s.heap.objs.size, _, I1, rfl, ⟨_, vs, rfl, I.hok.fresh (Nat.le_refl _), rfl, rv.length, rv.get I rfl⟩, ⟨⟨v', g', q1, .inr q2⟩, q8 _ _ D.tiz D.tito (fun w => ?_) st.ti, ⟨ar', q3, q4⟩, q5⟩, fun c hcm => ?_⟩
    · obtain ⟨p, hp, q⟩ := List.mem_map.mp w
      exact (D.iz p hp).2.1 q
    · have hlt : c < s.heap.objs.size := by
        rcases List.mem_cons.mp hcm with q | hcm
        · rw [q]; exact Heap.lt_size hz
        · rcases List.mem_cons.mp hcm with q | hcm
          · rw [q]; exact Heap.lt_size st.ti
          · rcases List.mem_cons.mp hcm with q | hcm
            · rw [q]; exact Heap.lt_size hTO
            · obtain ⟨p, hp, q⟩ := List.mem_map.mp hcm
              obtain ⟨_, e1, _⟩ := st.it p hp
              rw [← q]
              exact Heap.lt_size e1
      rw [upd_ne (Nat.ne_of_lt hlt)]
      exact (hf c hcm).1
  done := by
    intro X hP hw hK hc i pins s σ H E I hf st hg
    subst hP hw hK
    obtain ⟨v, g, hz, hv⟩ := st.zo
    obtain ⟨ar, hTO, ha⟩ := st.to
    obtain ⟨a, xs, rest, e, hq, hx⟩ := hg
    cases ps with
    | nil => exact absurd rfl h0
    | cons p ps =>
      obtain ⟨t, b⟩ := p
      injection e with e1 e2
      obtain rfl : b = a := e1
      obtain ⟨its, rv, isT, _⟩ := I.tuple hq
      have l1 := rv.length
      have hTy : s.TypeIs (.ref z) "zip" := ⟨_, hz, rfl⟩
      unfold pyNext
      refine wpAny_bind (wpAny_attempt (wpAny_callSpecial?_slot (name := Str.ofString "__next__") hTy F.slot_zip_next (wpAny_call_entry F.slot_zip_next hTy F.entry_zip_next (zipN_stop (I.ok.hd hc) D hz hv st.ti hTO (st.it _ (List.mem_cons_self ..)) isT (by simp; omega) fun h' e hk he => ?_) (F.args_zip_next_1 _))))
      obtain ⟨o, ho, hcl⟩ := he
      refine wpAny_bind (wpAny_isInstance (T := "StopIteration") (b := true) ⟨o, ho, hcl⟩ isSubtype_stop ?_)
      exact wpAny_pure ⟨rfl, I.turnedL (t' := s.toks) (ch := z :: TI :: TO :: t :: ps.map Prod.fst) (fun c o hb q => hk c o (fun w => hb (by simp [w])) (fun w => hb (by simp [w])) q) hf⟩
  self := fun A i s Q E st h => by
    obtain ⟨v, g, hz, hv⟩ := st.zo
    exact iter_ZipO hz h
def iZipN (K : PySem.W.Frag) (te : TE) : TI := fun σ H R => te σ H fun y H1 => ∃ a, ∃ as : List Addr, y = .ref a ∧ SqT K H1 a (as.map V.ref) ∧ as ≠ [] ∧ as.length ≤ 5 ∧ (∀ b ∈ as, ∃ xs, SqT K H1 b xs) ∧ R (ItN K as) H1
theorem vals_refs : ∀ {as : List Addr} {us : List Value}, Vals (as.map V.ref) us → us = as.map Value.ref
  | [], _, .nil => rfl
  | a :: as, _, .cons r h => by
    cases r
    rw [vals_refs h]
    rfl
theorem zip_fst : ∀ {its as : List Addr}, its.length = as.length → (its.zip as).map Prod.fst = its ∧ (its.zip as).map Prod.snd = as
  | [], [], _ => ⟨rfl, rfl⟩
  | t :: its, a :: as, h => by
    obtain ⟨h1, h2⟩ := zip_fst (its := its) (as := as) (by simpa using h)
    exact ⟨by rw [List.zip_cons_cons, List.map_cons, h1], by rw [List.zip_cons_cons, List.map_cons, h2]⟩
theorem pi_zipN {X : Cx} {e : Expr} {te : TE} {x : Str} {p pos tpos sp : Pos} (hg : Gl X "zip") (hm : X.mg "zip" = none) (he : PE X e te) (hs : starEach [.Starred e sp] X.env = [(true, eval e X.env)] := by rfl) :
    PI X (.Name x tpos) (.Call (.Name "zip" p) [.Starred e sp] [] pos) (iZipN X.K te) := by
  refine ⟨fun pins s σ H R I h => ?_⟩
  refine Call_ (ld_blt I hg hm PyProof.Rows.boot_zip (callWith_typeS (thn (he.run pins s σ H _ I h) fun v s1 got => ?_) hs))
  obtain ⟨y, H1, I1, rel, a, as, rfl, hxs, h0, h4, hts, q⟩ := got
  obtain rfl : v = Value.ref a := rel
  refine star_tup I1 hxs fun us s2 I2 rv => ?_
  rw [vals_refs rv]
  have ht : ∀ b ∈ as, ∃ ar, s2.heap.IsTuple b ar := fun b hb => by
    obtain ⟨xs, hx⟩ := hts b hb
    obtain ⟨its, _, isT, _⟩ := I2.tuple hx
    exact ⟨_, isT⟩
  refine callZ ht h0 h4 fun h1 h' its z TI TO J k ez e1 e2 qz q1 q2 => iter_ZipO (s := { s2 with heap := h' }) qz ?_
  have il := J.len
  obtain ⟨f1, f2⟩ := zip_fst il
  have old : ∀ b ∈ as, b < s2.heap.objs.size := fun b hb => by
    obtain ⟨ar, o, ho, _⟩ := ht b hb
    exact Heap.lt_size ho
  have I3 : Inv X pins σ H1 { s2 with heap := h' } := I2.kept (t' := s2.toks) fun c o q => k c o (J.kp c o q)
  have tz : ∀ t ∈ its, t < h1.objs.size := fun t ht => (J.lo t ht).2
  have n1 : TI ≠ z := by rw [e1, ez]; exact Nat.ne_of_lt (by omega)
  have n2 : TO ≠ z := by rw [e2, ez]; exact Nat.ne_of_lt (by omega)
  have n3 : TI ≠ TO := by rw [e1, e2]; exact Nat.ne_of_lt (by omega)
  have gz : h1.objs.size ≤ z := by rw [ez]; exact Nat.le_add_right _ _
  have gi : h1.objs.size ≤ TI := by rw [e1]; exact Nat.le_refl _
  have go : h1.objs.size ≤ TO := by rw [e2]; exact Nat.le_add_right _ _
  have D : ApartZ z TI TO (its.zip as) := by
    refine ⟨n1, n2, n3, by rw [f1]; exact J.nd, fun p hp => ?_, fun p hp => ?_⟩
    · have m : p.1 ∈ its := (List.of_mem_zip hp).1
      have := tz _ m
      exact ⟨Nat.ne_of_lt (Nat.lt_of_lt_of_le this gz), Nat.ne_of_lt (Nat.lt_of_lt_of_le this gi), Nat.ne_of_lt (Nat.lt_of_lt_of_le this go)⟩
    · have m : p.2 ∈ as := (List.of_mem_zip hp).2
      have l2 := Nat.lt_of_lt_of_le (old _ m) J.le
      refine ⟨Nat.ne_of_lt (Nat.lt_of_lt_of_le l2 gz), Nat.ne_of_lt (Nat.lt_of_lt_of_le l2 go), fun w => ?_⟩
      rw [f1] at w
      exact Nat.lt_irrefl _ (Nat.lt_of_lt_of_le (old _ m) (J.lo _ w).1)
  have fresh : ∀ c ∈ z :: TI :: TO :: (its.zip as).map Prod.fst, FpOk X pins H1 c := fun c hc => by
    have ge : s2.heap.objs.size ≤ c := by
      rcases List.mem_cons.mp hc with q | hc
      · rw [q]; exact Nat.le_trans J.le gz
      · rcases List.mem_cons.mp hc with q | hc
        · rw [q]; exact Nat.le_trans J.le gi
        · rcases List.mem_cons.mp hc with q | hc
          · rw [q]; exact Nat.le_trans J.le go
          · rw [f1] at hc
            exact (J.lo _ hc).1
    exact I2.fpOk ge (I2.hok.fresh ge)
  have zl : (its.zip as).length = its.length := by rw [List.length_zip, il, Nat.min_self]
  refine ⟨z, z :: TI :: TO :: (its.zip as).map Prod.fst, TnZ z TI TO (its.zip as), ItN X.K ((its.zip as).map Prod.snd), H1, rfl, I3, turn_zipN D (fun w => ?_) (by rw [zl, il]; omega), ⟨⟨_, _, qz, .inl rfl⟩, ?_, ⟨_, q2, by rw [zl]; simp⟩, fun p hp => ?_⟩, fresh, by rw [f2]; exact q⟩
  · rw [w] at f2
    exact h0 f2.symm
  · have : (its.zip as).map (fun p => Value.ref p.1) = its.map Value.ref := by
      rw [show (fun p : Addr × Addr => Value.ref p.1) = Value.ref ∘ Prod.fst from rfl, ← List.map_map, f1]
    rw [this]
    exact q1
  · obtain ⟨n, hn⟩ := List.mem_iff_getElem?.mp hp
    rw [List.getElem?_zip_eq_some] at hn
    exact (J.it n _ _ hn.1 hn.2).at fun o q => k _ o q
end DL


set_option Elab.async false
set_option linter.all false
set_option maxRecDepth 100000
namespace DL
open PySem PySem.Spec PyProof.Rows L2
variable [TabT]
theorem walk_zipN {K : PySem.W.Frag} {as : List Addr} {m : Nat} (h0 : as ≠ []) : Walk (ItN K as) m (fun H => ∀ a ∈ as, ∃ xs : List V, SqT K H a xs ∧ xs.length = m) (fun i H v H' => (ItN K as).yld i H v H') where
  goes i H hi q := by
    clear h0
    induction as with
    | nil => exact ⟨[], .nil⟩
    | cons a as ih =>
      obtain ⟨vs, r⟩ := ih fun b hb => q b (List.mem_cons_of_mem _ hb)
      obtain ⟨xs, hx, hl⟩ := q a (List.mem_cons_self ..)
      exact ⟨xs[i] :: vs, .cons hx (List.getElem?_eq_getElem (by omega)) r⟩
  stops H q := by
    cases as with
    | nil => exact absurd rfl h0
    | cons a as =>
      obtain ⟨xs, hx, hl⟩ := q a (List.mem_cons_self ..)
      exact ⟨a, xs, as, rfl, hx, hl⟩
  yields i H v H' _ _ y := y
theorem DaAll.tups {z : Z} {H : Hp} : ∀ {xs : List V} {rows : List (List PyData)}, DaAll z H xs (rows.map PyData.tuple) → ∃ as : List Addr, xs = as.map V.ref ∧ as.length = rows.length ∧ ∀ (k : Nat) (b : Addr) (r : List PyData), as[k]? = some b → rows[k]? = some r → ∃ ys, Fz z b ∧ H b = some (.tup ys) ∧ DaAll z H ys r
  | [], [], .nil => ⟨[], rfl, rfl, fun k b r h => by simp at h⟩
  | _ :: xs, r :: rows, .cons h q => by
    obtain ⟨as, e, l, f⟩ := DaAll.tups q
    cases h with
    | @tup a ys _ fa ha hr =>
      refine ⟨a :: as, by rw [e]; rfl, by simp [l], fun k b r' h1 h2 => ?_⟩
      cases k with
      | zero =>
        cases h1
        cases h2
        exact ⟨ys, fa, ha, hr⟩
      | succ k => exact f k b r' h1 h2
/-- the told column -/
def colD (rows : List (List PyData)) (i : Nat) : PyData := .tuple (rows.map fun r => r.getD i .none)
section
variable {X : Cx} {z : Z} {es : List Sl} {s : S} {iter elt a e : Expr} {pos p p1 p2 p3 p4 : Pos}
/-- over zip( *rows) -/
theorem lc_readN {te : TE} {j : Nat} {rows : List (List PyData)} {m : Nat} (f : PyData → PyData) (hit : EV X z e es s (.tuple (rows.map PyData.tuple)) s) (h0 : rows ≠ []) (h4 : rows.length ≤ 5) (hw : ∀ r ∈ rows, r.length = m) (hl : m ≤ 100000)
    (He : ∀ (z' : Z) (i : Nat), i < m → ∀ σ H, En z' H σ (es.set j (.val (colD rows i))) → At z' H s → ∀ Q : VK, (∀ v H2, Ez z' H H2 → At z' H2 s → Da z' H2 v (f (colD rows i)) → Q v H2) → te σ H Q) :
    ∀ σ H, En z H σ es → At z H s → ∀ Q : VK, (∀ v H2, Ez z H H2 → At z H2 s → Da z H2 v (.list ((List.range m).map fun i => f (colD rows i))) → Q v H2) → tLc (iZipN X.K (wE X e)) (gName j) tYes te [j] σ H Q := fun σ H en at_ Q q => by
    refine hit σ H en at_ _ fun v H1 e1 a1 v1 => ?_
    cases v1 with
    | @tup a xs _ fa ha r =>
      obtain ⟨as, rfl, al, ff⟩ := r.tups
      have row : ∀ {k : Nat} {b : Addr}, as[k]? = some b → ∃ r, rows[k]? = some r := fun {k b} h => by
        have := (List.getElem?_eq_some_iff.mp h).1
        exact ⟨_, List.getElem?_eq_getElem (by omega)⟩
      have tupAt : ∀ b ∈ as, ∃ ys, Fz z b ∧ H1 b = some (.tup ys) ∧ ys.length = m := fun b hb => by
        obtain ⟨k, hk⟩ := List.mem_iff_getElem?.mp hb
        obtain ⟨r, hr⟩ := row hk
        obtain ⟨ys, fb, hy, dy⟩ := ff k b r hk hr
        exact ⟨ys, fb, hy, by rw [dy.length]; exact hw r (List.mem_of_getElem? hr)⟩
      have as0 : as ≠ [] := fun w => by
        rw [w] at al
        exact h0 (List.length_eq_zero_iff.mp al.symm)
      refine ⟨a, as, rfl, .inl (.inl ha), as0, by omega, fun b hb => ?_, fun D hD => ?_⟩
      · obtain ⟨ys, _, hy, _⟩ := tupAt b hb
        exact ⟨ys, .inl (.inl hy)⟩
      · refine lc_all (g := gName j) (ws := [j]) (walk_zipN (K := X.K) (m := m) as0) (fun _ => s) (fun _ => s) a1 hD (fun i => es.set j (.val (colD rows i))) (fun H' e b hb => ?_) (fun i x H' H2 o hi e2 hy a2 Q q => ?_) hl (fun _ => true) (fun i => (List.range i).map fun i => f (colD rows i)) rfl (fun z' i hi σ H en at_ Q q => q H (.refl H) at_)
          (fun z' i hi _ => ⟨f (colD rows i), by rw [List.range_succ, List.map_append]; rfl, He z' i hi⟩) (fun i _ h => by cases h) (fun H' e a2 d2 => q _ H' (e1.trans e) a2 d2)
        · obtain ⟨ys, fb, hy, hl⟩ := tupAt b hb
          exact ⟨ys, .inl (.inl (e b _ fb hy)), hl⟩
        · obtain ⟨t, vs, rfl, nt, rfl, vl, hv⟩ := hy
          have e3 : Ez (z.add D o) H' (upd H' t (.tup vs)) := .new nt
          have reach : ∀ (b : Addr) (u : HO), Fz z b → H1 b = some u → Fz (z.add D o) b ∧ (upd H' t (.tup vs)) b = some u := fun b u fb hb => by
            have f1 := fb.to_add (o := o) (ne_of_none hb hD)
            exact ⟨f1, e3 b u f1 (e2 b u fb hb)⟩
          have es2 : (wipe σ [j]).set j (some (.ref t)) = σ.set j (some (.ref t)) := by
            show (σ.set j none).set j (some _) = _
            rw [List.set_set]
          show Q ((wipe σ [j]).set j (some (.ref t))) _
          rw [es2]
          have en0 : En (z.add D o) (upd H' t (.tup vs)) σ es := En.re (z := z) (z' := z.add D o) rfl (fun q h => List.mem_cons_of_mem _ h) reach (en.mono e1)
          refine q _ _ (by
            show (σ.set j (some _)).set j none = σ.set j none
            rw [List.set_set]) e3 (a2.new nt) (en0.set j (.val (.tup (a2.fresh nt) upd_same ?_)))
          have gen : ∀ {vs : List V} {ds : List PyData}, vs.length = ds.length → (∀ (k : Nat) (v : V) (d : PyData), vs[k]? = some v → ds[k]? = some d → Da (z.add D o) (upd H' t (.tup vs)) v d) → True := fun _ _ => trivial
          have all : ∀ (hh : Hp) {vs : List V} {ds : List PyData}, vs.length = ds.length → (∀ (k : Nat) (v : V) (d : PyData), vs[k]? = some v → ds[k]? = some d → Da (z.add D o) hh v d) → DaAll (z.add D o) hh vs ds := by
            intro hh vs
            induction vs with
            | nil =>
              intro ds h _
              cases ds with
              | nil => exact .nil
              | cons _ _ => simp at h
            | cons v vs ih =>
              intro ds h k
              cases ds with
              | nil => simp at h
              | cons d ds => exact .cons (k 0 v d rfl rfl) (ih (by simpa using h) fun n v d h1 h2 => k (n + 1) v d h1 h2)
          refine all _ (by rw [vl, al, List.length_map]) fun k v d h1 h2 => ?_
          rw [List.getElem?_map] at h2
          obtain ⟨b, hb⟩ : ∃ b, as[k]? = some b := ⟨_, List.getElem?_eq_getElem (by have := (List.getElem?_eq_some_iff.mp h1).1; omega)⟩
          obtain ⟨r, hr⟩ := row hb
          obtain ⟨ys, fb, hyb, dy⟩ := ff k b r hb hr
          rw [hr] at h2
          cases h2
          obtain ⟨x, hx1, hx2⟩ := hv k b ys hb (.inl (.inl (e2 b _ fb hyb)))
          rw [h1] at hx1
          cases hx1
          obtain ⟨d, hd, dd⟩ := dy.getV i v hx2
          show Da _ _ v (r.getD i .none)
          have : r.getD i .none = d := by
            rw [List.getD_eq_getElem?_getD, hd]
            rfl
          rw [this]
          exact dd.re reach
/-- [e for x in zip( *rows)] -/
theorem ev_lcN {j : Nat} {x : Str} {scope : Scope} {rows : List (List PyData)} {m : Nat} (hc : X.calm = true) (hN : X.N.Nodup) (hm : X.mg "zip" = none) (f : PyData → PyData) (hit : EV X z e es s (.tuple (rows.map PyData.tuple)) s) (h0 : rows ≠ []) (h4 : rows.length ≤ 5) (hw : ∀ r ∈ rows, r.length = m) (hl : m ≤ 100000)
    (hB : BlkOk X.N X.env.scope scope [(x, j)]) (hg : PgIn X scope (.Name x p) (gName j))
    (He : ∀ i : Nat, i < m → ∀ z' : Z, Blk X scope fun Y => EV Y z' elt (es.set j (.val (colD rows i))) s (f (colD rows i)) s) (hgl : Gl X "zip" := by rfl) (hst : starEach [.Starred e p3] X.env = [(true, eval e X.env)] := by rfl)
    (hs : ∀ x, foldedSetIterable (.Call (.Name "zip" p1) [.Starred e p3] [] p2) X.env x = pure x := by intro _; rfl) :
    EV X z (.ListComp elt [{ target := .Name x p, iter := .Call (.Name "zip" p1) [.Starred e p3] [] p2, ifs := [], is_async := 0 }] scope pos) es s (.list ((List.range m).map fun i => f (colD rows i))) s :=
  .mk (pe_lc (own := [(x, j)]) hc hN (pi_zipN hgl hm wE_ok hst) hB hg (fun _ _ _ _ _ => pts_nil) tEl_ok hs) (lc_readN (te := tEl X scope elt) (j := j) f hit h0 h4 hw hl fun z' i hi σ H en at_ Q q s0 H0 C cl fp => He i hi z' s0 H0 C cl fp σ H en at_ Q q)
/-- y = [e for x in zip( *rows)] -/
theorem sr_lcN {j k : Nat} {x y : Str} {scope : Scope} {py spos : Pos} {rest : List Stmt} {o : Out} {rows : List (List PyData)} {m : Nat} (hc : X.calm = true) (hN : X.N.Nodup) (hm : X.mg "zip" = none) (f : PyData → PyData) (hit : EV X z e es s (.tuple (rows.map PyData.tuple)) s) (h0 : rows ≠ []) (h4 : rows.length ≤ 5) (hw : ∀ r ∈ rows, r.length = m) (hl : m ≤ 100000)
    (hB : BlkOk X.N X.env.scope scope [(x, j)]) (hg : PgIn X scope (.Name x p) (gName j))
    (He : ∀ i : Nat, i < m → ∀ z' : Z, Blk X scope fun Y => EV Y z' elt (es.set j (.val (colD rows i))) s (f (colD rows i)) s) (kk : SR X z rest (es.set k (.val (.list ((List.range m).map fun i => f (colD rows i))))) s o) (hi : X.N[k]? = some y := by rfl) (hy : List.lookup y X.env.scope.names = some NameKind.local := by rfl)
    (hsw : swapsWith (.ListComp elt [{ target := .Name x p, iter := .Call (.Name "zip" p1) [.Starred e p3] [] p2, ifs := [], is_async := 0 }] scope pos) (some (.Name y py)) spos.line X.env = pure true := by exact sw_true rfl rfl rfl (by decide +kernel)) (hgl : Gl X "zip" := by rfl) (hst : starEach [.Starred e p3] X.env = [(true, eval e X.env)] := by rfl)
    (hs : ∀ x, foldedSetIterable (.Call (.Name "zip" p1) [.Starred e p3] [] p2) X.env x = pure x := by intro _; rfl) :
    SR X z (.Assign [.Name y py] (.ListComp elt [{ target := .Name x p, iter := .Call (.Name "zip" p1) [.Starred e p3] [] p2, ifs := [], is_async := 0 }] scope pos) spos :: rest) es s o := fun σ H en at_ D q =>
  ⟨_, pss_cons (ps_setLc (i := k) (own := [(x, j)]) hc hN hi hy hsw (pi_zipN hgl hm wE_ok hst) hB hg (fun _ _ _ _ _ => pts_nil) tEl_ok hs) wB_ok,
    lc_readN (te := tEl X scope elt) (j := j) f hit h0 h4 hw hl (fun z' i hi σ H en at_ Q q s0 H0 C cl fp => He i hi z' s0 H0 C cl fp σ H en at_ Q q) σ H en at_ _ fun v H2 e2 a2 v2 => kk _ H2 ((en.mono e2).set k (.val v2)) a2 D (q.mono e2)⟩
theorem rb_tupleT {K : PySem.W.Frag} {ds : List PyData} : RB z s (fun xs H Q => ∃ p ys, xs = [.ref p] ∧ ((SqL K H p ys ∧ ∀ l, H l = none → Q (.ref l) (upd H l (.tup ys))) ∨ (SqT K H p ys ∧ Q (.ref p) H))) [.tuple ds] (.tuple ds) := fun vs H at_ h Q q => by
  cases h with
  | cons h r =>
    cases r
    cases h with
    | tup n e r => exact ⟨_, _, rfl, .inr ⟨.inl (.inl e), q _ H (.refl H) at_ (.tup n e r)⟩⟩
end
end DL


set_option Elab.async false
set_option linter.all false
set_option maxRecDepth 100000
namespace DL
open PySem PySem.Spec PyProof.Rows L2
variable [TabT]
theorem At.fill {z : Z} {H : Hp} {p : Addr} {s : S} {xs : List V} (A : At z H s) (h : H p = none) : At (z.add p (.lst xs)) (upd H p (.lst xs)) s := by
  refine ⟨fun b hb => ?_, fun q hq => ?_, fun q hq => ?_, tabs_new A.t h⟩
  · rw [upd_ne (ne_of_none (A.d b hb) h)]
    exact A.d b hb
  · rcases List.mem_cons.mp hq with e | m
    · rw [e]
      exact upd_same
    · rw [upd_ne (ne_of_none (A.v q m) h)]
      exact A.v q m
  · rcases List.mem_cons.mp hq with e | m
    · rw [e]
      refine ⟨fun hd => ?_, xs, rfl⟩
      have := A.d p hd
      rw [this] at h
      cases h
    · exact A.n q m
theorem walk_zipT {K : PySem.W.Frag} {a b : Addr} {xs ys : List V} {n : Nat} (hn : n = min xs.length ys.length) : Walk (RZ.ItzT K a b) n (fun H => SqT K H a xs ∧ SqT K H b ys) (YPair (fun i => xs[i]?) (fun i => ys[i]?)) := by
  subst hn
  refine ⟨fun i _ hi q => ⟨xs, ys, xs[i]'(by omega), ys[i]'(by omega), q.1, q.2, List.getElem?_eq_getElem _, List.getElem?_eq_getElem _⟩, fun _ q => ⟨xs, ys, q.1, q.2, by omega⟩, fun i H v H' _ q y => ?_⟩
  obtain ⟨T, x, z, k1, k2, k3, k4, k5⟩ := y
  exact ⟨T, x, z, k1, k2, k3, k4 xs q.1, k5 ys q.2⟩
section
variable {X : Cx} {z : Z} {es es1 es2 : List Sl} {s s1 s2 s3 : S} {iter elt cond a b c e : Expr} {ds fs : List PyData} {d d1 d2 d3 : PyData} {o : Out} {rest body els : List Stmt} {pos p p1 p2 p3 p4 p5 : Pos}
/-- [e for x, y in zip(a, b)], two tuples of one length -/
theorem ev_lcZT {j k : Nat} {x y : Str} {scope : Scope} {kt : Nat} (hc : X.calm = true) (hN : X.N.Nodup) (hm : X.mg "zip" = none) (hjk : j ≠ k) (f : PyData → PyData → PyData) (hit : ED X z [a, b] es s [.tuple ds, .tuple fs] s) (hlen : ds.length = fs.length) (hl : ds.length ≤ 100000) (hB : BlkOk X.N X.env.scope scope [(x, j), (y, k)])
    (hg : PgIn X scope (.Tuple [.Name x p, .Name y p1] kt p2) (gTup X.K 2 (gCons (gName j) (gCons (gName k) gNil))))
    (He : ∀ (i : Nat) (d1 d2 : PyData), ds[i]? = some d1 → fs[i]? = some d2 → ∀ z' : Z, Blk X scope fun Y => EV Y z' elt ((es.set j (.val d1)).set k (.val d2)) s (f d1 d2) s) (hgl : Gl X "zip" := by rfl) (hst : starEach [a, b] X.env = (false, eval a X.env) :: starEach [b] X.env := by rfl) (hpl : (backTo p4 (starEach [b] X.env)).any (·.1) = false := by rfl)
    (hs : ∀ x, foldedSetIterable (.Call (.Name "zip" p3) [a, b] [] p4) X.env x = pure x := by intro _; rfl) :
    EV X z (.ListComp elt [{ target := .Tuple [.Name x p, .Name y p1] kt p2, iter := .Call (.Name "zip" p3) [a, b] [] p4, ifs := [], is_async := 0 }] scope pos) es s (.list (List.zipWith f ds fs)) s :=
  .mk (pe_lc (own := [(x, j), (y, k)]) hc hN (RZ.pi_zipA hgl hm wA_ok hst hpl) hB hg (fun _ _ _ _ _ => pts_nil) tEl_ok hs) fun σ H en at_ Q q => by
    refine hit σ H en at_ _ fun vs H1 e1 a1 v1 => ?_
    cases v1 with
    | cons h1 r =>
      cases r with
      | cons h2 r =>
        cases r
        cases h1 with
        | @tup a1' xs _ fa ha r1 =>
          cases h2 with
          | @tup b1' ys _ fb hb r2 =>
            have hx : xs.length = ds.length := r1.length
            have hy : ys.length = fs.length := r2.length
            have g1 : ∀ i, i < ds.length → ds[i]? = some (ds.getD i .none) := fun i hi => by
              rw [List.getD_eq_getElem?_getD, List.getElem?_eq_getElem hi]
              rfl
            have g2 : ∀ i, i < ds.length → fs[i]? = some (fs.getD i .none) := fun i hi => by
              rw [List.getD_eq_getElem?_getD, List.getElem?_eq_getElem (by omega)]
              rfl
            have zl : (List.zipWith f ds fs).length = ds.length := by rw [List.length_zipWith]; omega
            refine ⟨a1', b1', xs, ys, rfl, .inr ⟨.inl (.inl ha), .inl (.inl hb), fun D hD => ?_⟩⟩
            refine lc_two (K := X.K) (walk_zipT (K := X.K) (a := a1') (b := b1') (xs := xs) (ys := ys) (n := ds.length) (by omega)) (fun _ => s) (fun _ => s) (en.mono e1) a1 hD hjk (fun i => ds.getD i .none) (fun i => fs.getD i .none) (fun H' e => ⟨.inl (.inl (e _ _ fa ha)), .inl (.inl (e _ _ fb hb))⟩) (fun i x H' H2 hi eH hY => ?_) hl (fun _ => true) (fun i => (List.zipWith f ds fs).take i) rfl
              (fun z' i hi σ H en at_ Q q => q H (.refl H) at_) (fun z' i hi _ => ⟨f (ds.getD i .none) (fs.getD i .none), by
                rw [List.take_add_one, List.getElem?_zipWith, g1 i hi, g2 i hi]
                rfl, fun σ H en at_ Q q s0 H0 C cl fp => He i _ _ (g1 i hi) (g2 i hi) z' s0 H0 C cl fp σ H en at_ Q q⟩) (fun i _ h => by cases h) (fun H' e a2 d2 => ?_)
            · obtain ⟨T, u, v, rfl, nT, rfl, hu, hv⟩ := hY
              obtain ⟨d, hd, hdu⟩ := r1.getV i u hu
              obtain ⟨d', hd', hdv⟩ := r2.getV i v hv
              rw [g1 i hi] at hd
              rw [g2 i hi] at hd'
              exact ⟨T, u, v, rfl, .inl (.inl upd_same), .inr ⟨nT, rfl⟩, by rw [Option.some.inj hd]; exact hdu, by rw [Option.some.inj hd']; exact hdv⟩
            · have : (List.zipWith f ds fs).take ds.length = List.zipWith f ds fs := List.take_of_length_le (by omega)
              rw [this] at d2
              exact q _ H' (e1.trans e) a2 d2
/-- [e for x in a list], the state going along -/
theorem ev_lcFS {j : Nat} {x : Str} {scope : Scope} (hc : X.calm = true) (hN : X.N.Nodup) (f : Nat → PyData) (T : Nat → S) (hit : EV X z iter es s (.list ds) s1) (t0 : T 0 = s1) (hl : ds.length ≤ 100000) (hB : BlkOk X.N X.env.scope scope [(x, j)]) (hg : PgIn X scope (.Name x p) (gName j))
    (He : ∀ (i : Nat) d, ds[i]? = some d → ∀ z' : Z, Blk X scope fun Y => EV Y z' elt (es.set j (.val d)) (T i) (f i) (T (i + 1))) (hs : ∀ x, foldedSetIterable iter X.env x = pure x := by intro _; rfl) :
    EV X z (.ListComp elt [{ target := .Name x p, iter := iter, ifs := [], is_async := 0 }] scope pos) es s (.list ((List.range ds.length).map f)) (T ds.length) :=
  .mk (pe_lc (own := [(x, j)]) hc hN (pi_list wE_ok) hB hg (fun _ _ _ _ _ => pts_nil) tEl_ok hs)
    (lc_read (X := X) (te := tEl X scope elt) (tt := tYes) (j := j) hit hl (fun _ => true) (fun i => (List.range i).map f) T T rfl t0 (fun z' i d hd σ H en at_ Q q => q H (.refl H) at_)
      (fun z' i d hd _ => ⟨f i, by rw [List.range_succ, List.map_append]; rfl, fun σ H en at_ Q q s0 H0 C cl fp => He i d hd z' s0 H0 C cl fp σ H en at_ Q q⟩) (fun i d _ h => by cases h))
theorem rb_sum {K : PySem.W.Frag} {ns : List Int} : RB z s (rSum K) [.list (ns.map .int)] (.int ns.sum) := fun vs H at_ h Q q => by
  cases h with
  | cons h r =>
    cases r
    cases h with
    | @lst a xs _ n e r =>
      have : xs = ns.map V.int := by
        clear e n q
        induction ns generalizing xs with
        | nil => cases r; rfl
        | cons i ns ih =>
          cases r with
          | cons h r =>
            cases h
            rw [ih r]
            rfl
      subst this
      exact ⟨a, ns, rfl, .inl (.inl e), q _ H (.refl H) at_ (.int _)⟩
/-- x, y, w = e1, e2, e3 -/
theorem sr_par3 (i j l : Nat) {x y w : Str} {kt k2 : Nat} (hc : X.calm = true) (hN : X.N.Nodup) (h : ED X z [a, b, c] es s [d1, d2, d3] s1) (k : SR X z rest (((es.set i (.val d1)).set j (.val d2)).set l (.val d3)) s1 o)
    (hi : X.N[i]? = some x := by rfl) (hj : X.N[j]? = some y := by rfl) (hl : X.N[l]? = some w := by rfl) (hij : i ≠ j := by decide) (hil : i ≠ l := by decide) (hjl : j ≠ l := by decide) (hx : X.env.scope.names.lookup x = some .local := by rfl) (hy : X.env.scope.names.lookup y = some .local := by rfl) (hz : X.env.scope.names.lookup w = some .local := by rfl)
    (hw : swappedStores [.Tuple [.Name x p1, .Name y p2, .Name w p5] kt p3] (.Tuple [a, b, c] k2 p4) X.env = pure (some [x, y, w]) := by rfl) (hs : swapsWithSole [.Tuple [.Name x p1, .Name y p2, .Name w p5] kt p3] (.Tuple [a, b, c] k2 p4) pos.line X.env = pure false := by rfl) :
    SR X z (.Assign [.Tuple [.Name x p1, .Name y p2, .Name w p5] kt p3] (.Tuple [a, b, c] k2 p4) pos :: rest) es s o := fun σ H en at_ D q =>
  ⟨_, pss_cons (ps_par3 hc hN hi hj hl hij hil hjl hx hy hz wA_ok hw hs) wB_ok, h σ H en at_ _ fun vs H1 e1 a1 v1 => by
    cases v1 with
    | cons h1 r =>
      cases r with
      | cons h2 r =>
        cases r with
        | cons h3 r =>
          cases r
          exact ⟨_, _, _, rfl, k _ H1 ((((en.mono e1).set i (.val h1)).set j (.val h2)).set l (.val h3)) a1 D (q.mono e1)⟩⟩
theorem so_par3 (i j l : Nat) {x y w : Str} {kt k2 : Nat} (hc : X.calm = true) (hN : X.N.Nodup) (h : ∀ z, ED X z [a, b, c] es s [d1, d2, d3] s1) (k : SO X rest (((es.set i (.val d1)).set j (.val d2)).set l (.val d3)) s1 o)
    (hi : X.N[i]? = some x := by rfl) (hj : X.N[j]? = some y := by rfl) (hl : X.N[l]? = some w := by rfl) (hij : i ≠ j := by decide) (hil : i ≠ l := by decide) (hjl : j ≠ l := by decide) (hx : X.env.scope.names.lookup x = some .local := by rfl) (hy : X.env.scope.names.lookup y = some .local := by rfl) (hz : X.env.scope.names.lookup w = some .local := by rfl)
    (hw : swappedStores [.Tuple [.Name x p1, .Name y p2, .Name w p5] kt p3] (.Tuple [a, b, c] k2 p4) X.env = pure (some [x, y, w]) := by rfl) (hs : swapsWithSole [.Tuple [.Name x p1, .Name y p2, .Name w p5] kt p3] (.Tuple [a, b, c] k2 p4) pos.line X.env = pure false := by rfl) :
    SO X (.Assign [.Tuple [.Name x p1, .Name y p2, .Name w p5] kt p3] (.Tuple [a, b, c] k2 p4) pos :: rest) es s o := fun z Hc H vol σ I D q =>
  ⟨_, pss_cons (ps_par3 hc hN hi hj hl hij hil hjl hx hy hz wA_ok hw hs) wB_ok, h _ σ H I.en I.at_ _ fun vs H1 e1 a1 v1 => by
    cases v1 with
    | cons h1 r =>
      cases r with
      | cons h2 r =>
        cases r with
        | cons h3 r =>
          cases r
          have w1 := I.step e1 a1
          exact ⟨_, _, _, rfl, k z Hc H1 vol _ (((w1.set (.refl _) w1.at_ i h1).set (.refl _) w1.at_ j h2).set (.refl _) w1.at_ l h3) D q⟩⟩
/-- x, y = e, [] -/
theorem so_parN (i j : Nat) {x y : Str} {kt k2 : Nat} {pl : Pos} (hc : X.calm = true) (hN : X.N.Nodup) (h : ∀ z, EV X z a es s d1 s1) (k : SO X rest ((es.set i (.val d1)).set j (.own [])) s1 o)
    (hi : X.N[i]? = some x := by rfl) (hj : X.N[j]? = some y := by rfl) (hij : i ≠ j := by decide) (hx : X.env.scope.names.lookup x = some .local := by rfl) (hy : X.env.scope.names.lookup y = some .local := by rfl)
    (hs1 : starEach [a, .List [] pl] X.env = (false, eval a X.env) :: starEach [.List [] pl] X.env := by rfl) (hs2 : starEach [.List [] pl] X.env = (false, eval (.List [] pl) X.env) :: starEach [] X.env := by rfl)
    (hw : swappedStores [.Tuple [.Name x p1, .Name y p2] kt p3] (.Tuple [a, .List [] pl] k2 p4) X.env = pure (some [x, y]) := by rfl) (hs : swapsWithSole [.Tuple [.Name x p1, .Name y p2] kt p3] (.Tuple [a, .List [] pl] k2 p4) pos.line X.env = pure false := by rfl) :
    SO X (.Assign [.Tuple [.Name x p1, .Name y p2] kt p3] (.Tuple [a, .List [] pl] k2 p4) pos :: rest) es s o := fun z Hc H vol σ I D q =>
  ⟨_, pss_cons (ps_par hc hN hi hj hij hx hy (pa_cons wE_ok (pa_cons (pe_lst pa_nil) pa_nil hs2) hs1) hw hs) wB_ok, h _ σ H I.en I.at_ _ fun v H1 e1 a1 v1 => ⟨Nat.zero_le _, fun l hl => by
    have w1 := (I.step e1 a1)
    have w2 := w1.set (.refl _) w1.at_ i v1
    exact ⟨_, _, rfl, k z Hc _ _ _ (w2.fresh j (vs := []) (.refl _) a1 hl (.new hl) (a1.fill hl) .nil) D q⟩⟩⟩
/-- for x in range(n), own lists written -/
theorem so_for1 (l : Nat) {x : Str} {n : Int} (hp : PassesOwn (model X.prog X.w) X.A X.env X.xe) (hc : X.calm = true) (hN : X.N.Nodup) (hm : X.mg "range" = none) (h : ∀ z, ED X z [a] es s [.int n] s1) (hn : n < 2 ^ 60) (hn0 : -(2 ^ 60) < n) (E : Nat → List Sl) (T : Nat → S) (h0 : Le es (E 0)) (t0 : T 0 = s1)
    (hb : ∀ i : Nat, (i : Int) < n → SO X body ((E i).set l (.val (.int (i : Int)))) (T i) (.nx (E (i + 1)) (T (i + 1)))) (k : SO X rest (E n.toNat) (T n.toNat) o)
    (hi : X.N[l]? = some x := by rfl) (hx : Loc X.env.scope x := by first | exact Or.inl rfl | exact Or.inr rfl) (hg : Gl X "range" := by rfl) (hs : starEach [a] X.env = [(false, eval a X.env)] := by rfl)
    (hf : X.fn x = true ∨ X.env.scope.names.lookup x = some .local := by first | exact .inl rfl | exact .inr rfl) (hfo : ∀ x, foldedSetIterable (.Call (.Name "range" p2) [a] [] p3) X.env x = pure x := by intro _; rfl) :
    SO X (.For (.Name x p) (.Call (.Name "range" p2) [a] [] p3) body [] pos :: rest) es s o := fun z Hc H vol σ I D q =>
  ⟨_, pss_cons (ps_for hp hc (pi_range1 hg hm wA_ok hs) (pg_name hN hi hx hf) wB_ok hfo) wB_ok, h _ σ H I.en I.at_ _ fun vs H1 e1 a1 v1 => by
    cases v1 with
    | cons v1 r =>
      cases r
      cases v1
      have I1 := I.step e1 a1
      subst t0
      refine ⟨n, rfl, by omega, by omega, for_range (lo := 0) (n := n.toNat) (fun i σ' H' => ∃ vol', OI z Hc H' vol' σ' (E i) (T i)) ⟨vol, I1.le h0⟩ (fun i σ' H' hi w => ?_) fun σ' H' w => ?_⟩
      · obtain ⟨vol', w⟩ := w
        have e0 : (0 : Int) + (i : Int) = (i : Int) := Int.zero_add _
        show wB X body _ (σ'.set l (some (.int ((0 : Int) + (i : Int))))) H'
        rw [e0]
        exact hb i (by omega) z Hc H' vol' _ (w.set (.refl _) w.at_ l (.int _)) _ fun vol2 σ2 H2 I2 => ⟨vol2, I2⟩
      · obtain ⟨vol', w⟩ := w
        exact k z Hc H' vol' σ' w D q⟩
end
end DL


set_option Elab.async false
set_option linter.all false
set_option maxRecDepth 100000
namespace DL
open PySem PySem.Spec PyProof.Rows L2
variable [TabT]
section
variable {X : Cx} {z : Z} {es es1 es2 : List Sl} {s s1 s2 s3 : S} {iter elt cond a b c e : Expr} {ds fs : List PyData} {d d1 d2 d3 : PyData} {o : Out} {rest body els : List Stmt} {pos p p1 p2 p3 p4 p5 : Pos}
/-- x, y, w = e, e a tuple, own lists at hand -/
theorem so_unp3 (i j l : Nat) {x y w : Str} {kt : Nat} (hc : X.calm = true) (hN : X.N.Nodup) (h : ∀ z, EV X z e es s (.tuple [d1, d2, d3]) s1) (k : SO X rest (((es.set i (.val d1)).set j (.val d2)).set l (.val d3)) s1 o)
    (hi : X.N[i]? = some x := by rfl) (hj : X.N[j]? = some y := by rfl) (hl : X.N[l]? = some w := by rfl) (hx : Loc X.env.scope x := by first | exact Or.inl rfl | exact Or.inr rfl) (hy : Loc X.env.scope y := by first | exact Or.inl rfl | exact Or.inr rfl) (hw' : Loc X.env.scope w := by first | exact Or.inl rfl | exact Or.inr rfl)
    (fx : X.fn x = true ∨ X.env.scope.names.lookup x = some .local := by first | exact .inl rfl | exact .inr rfl) (fy : X.fn y = true ∨ X.env.scope.names.lookup y = some .local := by first | exact .inl rfl | exact .inr rfl) (fw : X.fn w = true ∨ X.env.scope.names.lookup w = some .local := by first | exact .inl rfl | exact .inr rfl)
    (hs : swapsWithSole [.Tuple [.Name x p1, .Name y p2, .Name w p5] kt p3] e pos.line X.env = pure false := by rfl) (hw : swappedStores [.Tuple [.Name x p1, .Name y p2, .Name w p5] kt p3] e X.env = pure none := by rfl)
    (hn : (assignEach [.Name x p1, .Name y p2, .Name w p5] X.env).length = 3 := by rfl) (hst : (assignEach [.Name x p1, .Name y p2, .Name w p5] X.env).findIdx? (·.1) = none := by rfl)
    (h1 : (assignEach (.Name x p1 :: [.Name y p2, .Name w p5]) X.env).map (·.2) = assign (.Name x p1) X.env :: (assignEach [.Name y p2, .Name w p5] X.env).map (·.2) := by rfl) (h2 : (assignEach (.Name y p2 :: [.Name w p5]) X.env).map (·.2) = assign (.Name y p2) X.env :: (assignEach [.Name w p5] X.env).map (·.2) := by rfl)
    (h3 : (assignEach (.Name w p5 :: []) X.env).map (·.2) = assign (.Name w p5) X.env :: (assignEach [] X.env).map (·.2) := by rfl) :
    SO X (.Assign [.Tuple [.Name x p1, .Name y p2, .Name w p5] kt p3] e pos :: rest) es s o := fun z Hc H vol σ I D q =>
  ⟨_, pss_cons (ps_asg wE_ok (pg_tup hc (pgs_cons (pg_name hN hi hx fx) (pgs_cons (pg_name hN hj hy fy) (pgs_cons (pg_name hN hl hw' fw) pgs_nil h3) h2) h1) hn hst) hs hw) wB_ok, h _ σ H I.en I.at_ _ fun v H1 e1 a1 v1 => by
    cases v1 with
    | tup n e r =>
      cases r with
      | cons v1 r =>
        cases r with
        | cons v2 r =>
          cases r with
          | cons v3 r =>
            cases r
            have w1 := I.step e1 a1
            exact ⟨_, _, rfl, .inl (.inl e), rfl, _, _, rfl, _, _, rfl, _, _, rfl, rfl, k z Hc H1 vol _ (((w1.set (.refl _) w1.at_ i v1).set (.refl _) w1.at_ j v2).set (.refl _) w1.at_ l v3) D q⟩⟩
/-- x, y = e, [], the pair being made -/
theorem so_unpN (i j : Nat) {x y : Str} {kt k2 : Nat} {pl : Pos} (hc : X.calm = true) (hN : X.N.Nodup) (h : ∀ z, EV X z a es s d1 s1) (k : SO X rest ((es.set i (.val d1)).set j (.own [])) s1 o)
    (hi : X.N[i]? = some x := by rfl) (hj : X.N[j]? = some y := by rfl) (hx : Loc X.env.scope x := by first | exact Or.inl rfl | exact Or.inr rfl) (hy : Loc X.env.scope y := by first | exact Or.inl rfl | exact Or.inr rfl)
    (fx : X.fn x = true ∨ X.env.scope.names.lookup x = some .local := by first | exact .inl rfl | exact .inr rfl) (fy : X.fn y = true ∨ X.env.scope.names.lookup y = some .local := by first | exact .inl rfl | exact .inr rfl)
    (hs1 : starEach [a, .List [] pl] X.env = (false, eval a X.env) :: starEach [.List [] pl] X.env := by rfl) (hs2 : starEach [.List [] pl] X.env = (false, eval (.List [] pl) X.env) :: starEach [] X.env := by rfl)
    (hs : swapsWithSole [.Tuple [.Name x p1, .Name y p2] kt p3] (.Tuple [a, .List [] pl] k2 p4) pos.line X.env = pure false := by rfl) (hw : swappedStores [.Tuple [.Name x p1, .Name y p2] kt p3] (.Tuple [a, .List [] pl] k2 p4) X.env = pure none := by rfl)
    (hn : (assignEach [.Name x p1, .Name y p2] X.env).length = 2 := by rfl) (hst : (assignEach [.Name x p1, .Name y p2] X.env).findIdx? (·.1) = none := by rfl)
    (h1 : (assignEach (.Name x p1 :: [.Name y p2]) X.env).map (·.2) = assign (.Name x p1) X.env :: (assignEach [.Name y p2] X.env).map (·.2) := by rfl) (h2 : (assignEach (.Name y p2 :: []) X.env).map (·.2) = assign (.Name y p2) X.env :: (assignEach [] X.env).map (·.2) := by rfl) :
    SO X (.Assign [.Tuple [.Name x p1, .Name y p2] kt p3] (.Tuple [a, .List [] pl] k2 p4) pos :: rest) es s o := fun z Hc H vol σ I D q =>
  ⟨_, pss_cons (ps_asg (pe_tup (pa_cons wE_ok (pa_cons (pe_lst pa_nil) pa_nil hs2) hs1)) (pg_tup hc (pgs_cons (pg_name hN hi hx fx) (pgs_cons (pg_name hN hj hy fy) pgs_nil h2) h1) hn hst) hs hw) wB_ok, h _ σ H I.en I.at_ _ fun v H1 e1 a1 v1 => ⟨Nat.zero_le _, fun l hl => ⟨by show 2 ≤ sizeLine; decide, fun t ht => by
    have w1 := (I.step e1 a1)
    have w2 := w1.set (.refl _) w1.at_ i v1
    have af := a1.fill (xs := []) hl
    have et : Ez ((z.own vol).add l (.lst [])) (upd H1 l (.lst [])) (upd (upd H1 l (.lst [])) t (.tup [v, .ref l])) := .new ht
    have tl : t ≠ l := fun w => by
      rw [w, upd_same] at ht
      cases ht
    have e2 : Ez (z.own vol) H1 (upd (upd H1 l (.lst [])) t (.tup [v, .ref l])) := fun b u fb hb => by
      have nb := ne_of_none hb hl
      rw [upd_ne (fun w => ?_), upd_ne nb]
      · exact hb
      · rw [w, ← upd_ne (H := H1) (o := .lst []) tl] at hb
        rw [ht] at hb
        cases hb
    exact ⟨_, _, rfl, .inl (.inl upd_same), rfl, _, _, rfl, _, _, rfl, rfl, k z Hc _ _ _ (w2.fresh j (vs := []) (.refl _) a1 hl e2 (af.new ht) .nil) D q⟩⟩⟩⟩
/-- y = [e for x in a list] -/
theorem sr_lcFL {j k : Nat} {x y : Str} {scope : Scope} {py spos : Pos} (hc : X.calm = true) (hN : X.N.Nodup) (f : PyData → PyData) (hit : EV X z iter es s (.list ds) s) (hl : ds.length ≤ 100000) (hB : BlkOk X.N X.env.scope scope [(x, j)]) (hg : PgIn X scope (.Name x p) (gName j))
    (He : ∀ d ∈ ds, ∀ z' : Z, Blk X scope fun Y => EV Y z' elt (es.set j (.val d)) s (f d) s) (kk : SR X z rest (es.set k (.val (.list (ds.map f)))) s o) (hi : X.N[k]? = some y := by rfl) (hy : List.lookup y X.env.scope.names = some NameKind.local := by rfl)
    (hsw : swapsWith (.ListComp elt [{ target := .Name x p, iter := iter, ifs := [], is_async := 0 }] scope pos) (some (.Name y py)) spos.line X.env = pure true := by exact sw_true rfl rfl rfl (by decide +kernel)) (hs : ∀ x, foldedSetIterable iter X.env x = pure x := by intro _; rfl) :
    SR X z (.Assign [.Name y py] (.ListComp elt [{ target := .Name x p, iter := iter, ifs := [], is_async := 0 }] scope pos) spos :: rest) es s o := fun σ H en at_ D q =>
  ⟨_, pss_cons (ps_setLc (i := k) (own := [(x, j)]) hc hN hi hy hsw (pi_list wE_ok) hB hg (fun _ _ _ _ _ => pts_nil) tEl_ok hs) wB_ok, by
    have g := lc_read (X := X) (te := tEl X scope elt) (tt := tYes) (j := j) hit hl (fun _ => true) (fun i => (ds.take i).map f) (fun _ => s) (fun _ => s) rfl rfl (fun z' i d hd σ H en at_ Q q => q H (.refl H) at_)
      (fun z' i d hd _ => ⟨f d, take_succ hd, fun σ H en at_ Q q s0 H0 C cl fp => He d (List.mem_of_getElem? hd) z' s0 H0 C cl fp σ H en at_ Q q⟩) (fun i d _ h => by cases h)
    rw [List.take_length] at g
    exact g σ H en at_ _ fun v H2 e2 a2 v2 => kk _ H2 ((en.mono e2).set k (.val v2)) a2 D (q.mono e2)⟩
end
end DL


set_option Elab.async false
set_option linter.all false
set_option maxRecDepth 100000
namespace DL
open PySem PySem.Spec PyProof.Rows L2
variable [TabT]
theorem DaAll.put {z : Z} {H : Hp} {v : V} {d : PyData} (hv : Da z H v d) : ∀ {vs : List V} {ds : List PyData} (j : Nat), DaAll z H vs ds → DaAll z H (vs.set j v) (ds.set j d)
  | _, _, _, .nil => .nil
  | _, _, 0, .cons _ r => .cons hv r
  | _, _, j + 1, .cons h r => .cons h (DaAll.put hv j r)
theorem daAll_of {z : Z} {H : Hp} : ∀ {vs : List V} {ds : List PyData}, vs.length = ds.length → (∀ (k : Nat) (v : V) (d : PyData), vs[k]? = some v → ds[k]? = some d → Da z H v d) → DaAll z H vs ds
  | [], [], _, _ => .nil
  | [], _ :: _, h, _ => by simp at h
  | _ :: _, [], h, _ => by simp at h
  | v :: vs, d :: ds, h, k => .cons (k 0 v d rfl rfl) (daAll_of (by simpa using h) fun n v d h1 h2 => k (n + 1) v d h1 h2)
theorem At.upd_free {z : Z} {H : Hp} {p : Addr} {o : HO} {s : S} {xs : List V} (A : At z H s) (f : Fz z p) (h : H p = some (.lst xs)) : At z (upd H p o) s := by
  refine ⟨fun b hb => ?_, fun q hq => ?_, A.n, tabs_upd A.t h⟩
  · rw [upd_ne (fun w => f.1.1 (by rw [← w]; exact hb))]
    exact A.d b hb
  · rw [upd_ne (fun w => f.2 q.2 (by rw [← w]; exact hq))]
    exact A.v q hq
/-- list(x), x a list: the items as they stand -/
theorem el_list {Y : Cx} {x y : Str} {j : Nat} {p p1 pos : Pos} {σ : L2.St} {H : Hp} {Q : VK} {a : Addr} {ws : List V} (hσ : σ[j]? = some (some (.ref a))) (hs : SqL Y.K H a ws) (q : ∀ l, H l = none → Q (.ref l) (upd H l (.lst ws))) (hm : Y.mg y = none)
    (hN : Y.N[j]? = some x := by rfl) (hvi : Vis Y.env.scope x := by first | exact Or.inl rfl | exact Or.inr (Or.inl rfl) | exact Or.inr (Or.inr rfl)) (hd : (x == ("__debug__" : Str)) = false := by decide) (hcd : (x == ("__classdict__" : Str)) = false := by decide)
    (hv : bootBuiltins y = some (.type "list") := by decide +kernel) (hg : Gl Y y := by rfl) (hn : y ≠ "__name__" := by decide) (hdb : (y == ("__debug__" : Str)) = false := by decide) (hst : starEach [.Name x p] Y.env = (false, eval (.Name x p) Y.env) :: starEach [] Y.env := by rfl) (hpl : (backTo pos (starEach [] Y.env)).any (·.1) = false := by rfl) :
    wE Y (.Call (.Name y p1) [.Name x p] [] pos) σ H Q :=
  ⟨_, pe_callTy call_list_of hg hm hv (pa_cons (pe_var hN hvi hd hcd) pa_nil hst) hn hdb hst hpl, _, hσ, a, ws, rfl, .inl hs, q⟩
section
variable {X : Cx} {z : Z} {es : List Sl} {s : S} {iter elt a b e : Expr} {d : PyData} {o : Out} {rest : List Stmt} {pos p p1 p2 p3 p4 p5 py spos : Pos}
/-- y = [list(x) for x in rows]; y[i][n] = e -/
theorem sr_bent {j k i n : Nat} {t1 t2 : Int} {x y : Str} {scope : Scope} {rows : List (List PyData)} {r : List PyData} (hc : X.calm = true) (hN : X.N.Nodup) (hit : EV X z iter es s (.list (rows.map PyData.list)) s) (hl : rows.length ≤ 100000) (hB : BlkOk X.N X.env.scope scope [(x, j)]) (hg : PgIn X scope (.Name x p) (gName j))
    (He : ∀ (σ : L2.St) (H : Hp) (Q : VK) (a : Addr) (ws : List V), σ[j]? = some (some (.ref a)) → SqL X.K H a ws → (∀ l, H l = none → Q (.ref l) (upd H l (.lst ws))) → tEl X scope elt σ H Q)
    (hv : EV X z e (es.set k .un) s (.tuple [.int t1, .int t2]) s) (ha : EV X z a (es.set k .un) s (.int (i : Int)) s) (hb : EV X z b (es.set k .un) s (.int (n : Int)) s) (hr : rows[i]? = some r) (hn : n < r.length)
    (kk : SR X z rest (es.set k (.val (.list ((rows.set i (r.set n (.tuple [.int t1, .int t2]))).map PyData.list)))) s o) (jl : j < es.length) (kl : k < es.length) (hi : X.N[k]? = some y := by rfl) (hy : List.lookup y X.env.scope.names = some NameKind.local := by rfl)
    (hsw : swapsWith (.ListComp elt [{ target := .Name x p, iter := iter, ifs := [], is_async := 0 }] scope pos) (some (.Name y py)) spos.line X.env = pure true := by exact sw_true rfl rfl rfl (by decide +kernel)) (hs : ∀ x, foldedSetIterable iter X.env x = pure x := by intro _; rfl)
    (hvi : Vis X.env.scope y := by first | exact Or.inl rfl | exact Or.inr (Or.inl rfl) | exact Or.inr (Or.inr rfl)) (hdd : (y == ("__debug__" : Str)) = false := by decide) (hcd : (y == ("__classdict__" : Str)) = false := by decide) (hpi : PlainIx a := by intro _ _; rfl)
    (hgs : PE X (.Subscript (.Name y p1) a p2) (tOp (rIxL X.K) (tVar k) (wE X a)) → PG X (.Subscript (.Subscript (.Name y p1) a p2) b p3) (gSub (tOp (rIxL X.K) (tVar k) (wE X a)) (wE X b) rSetL))
    (hs2 : swapsWithSole [.Subscript (.Subscript (.Name y p1) a p2) b p3] e p4.line X.env = pure false := by rfl) (hw2 : swappedStores [.Subscript (.Subscript (.Name y p1) a p2) b p3] e X.env = pure none := by rfl) :
    SR X z (.Assign [.Name y py] (.ListComp elt [{ target := .Name x p, iter := iter, ifs := [], is_async := 0 }] scope pos) spos :: .Assign [.Subscript (.Subscript (.Name y p1) a p2) b p3] e p4 :: rest) es s o := fun σ H en at_ D q =>
  ⟨_, pss_cons (ps_setLc (i := k) (own := [(x, j)]) hc hN hi hy hsw (pi_list wE_ok) hB hg (fun _ _ _ _ _ => pts_nil) tEl_ok hs) (pss_cons (ps_asg wE_ok (hgs (pe_ix ix_list (pe_var hi hvi hdd hcd) wE_ok hpi)) hs2 hw2) wB_ok), by
    have el := en.length
    refine hit σ H en at_ _ fun v H1 e1 a1 v1 => ?_
    cases v1 with
    | @lst a0 xs _ fa ha0 r1 =>
      have xl : xs.length = rows.length := by rw [r1.length, List.length_map]
      have item : ∀ (m : Nat) (x : V), xs[m]? = some x → ∃ (b : Addr) (ws : List V) (rr : List PyData), x = .ref b ∧ rows[m]? = some rr ∧ Fz z b ∧ H1 b = some (.lst ws) ∧ DaAll z H1 ws rr := fun m x hx => by
        obtain ⟨d, hd, hv⟩ := r1.getV m x hx
        rw [List.getElem?_map] at hd
        cases hr : rows[m]? with
        | none => rw [hr] at hd; cases hd
        | some rr =>
          rw [hr] at hd
          cases hd
          cases hv with
          | lst f h r => exact ⟨_, _, rr, rfl, rfl, f, h, r⟩
      refine ⟨a0, rfl, ⟨xs, .inl (.inl ha0)⟩, fun B hB0 => ?_⟩
      refine lc_it (walk_list (K := X.K) (a := a0) (xs := xs)) (vs := [j]) (fun m H' => Ez z H1 H' ∧ At z H' s ∧ ∃ qs : List Addr, qs.length = m ∧ H' B = some (.lst (qs.map V.ref)) ∧ qs.Nodup ∧ ∀ (t : Nat) (c : Addr), qs[t]? = some c → c ≠ B ∧ H1 c = none ∧ ∃ (b : Addr) (ws : List V), xs[t]? = some (.ref b) ∧ H1 b = some (.lst ws) ∧ H' c = some (.lst ws)) ?_ (fun m H' _ w => .inl (.inl (w.1 a0 _ fa ha0))) ?_ ?_
      · exact ⟨.new hB0, a1.new hB0, [], rfl, upd_same, List.nodup_nil, fun t c h => by simp at h⟩
      · intro m x H' H2 hm w hy
        obtain ⟨rfl, hx⟩ := hy
        obtain ⟨e2, a2, qs, ql, hB1, nd, old⟩ := w
        obtain ⟨bb, ws, rr, rfl, hrr, fb, hbb, dws⟩ := item m x hx
        have hσ : ((wipe σ [j]).set j (some (V.ref bb)))[j]? = some (some (.ref bb)) := by
          show ((σ.set j none).set j _)[j]? = _
          rw [List.set_set, List.getElem?_set_self (by omega)]
        refine ⟨by
          show ((σ.set j none).set j _).set j none = σ.set j none
          rw [List.set_set, List.set_set], ?_⟩
        unfold tYes
        dsimp only
        rw [if_pos rfl]
        refine He _ H2 _ bb ws hσ (.inl (.inl (e2 bb _ fb hbb))) fun l hl0 => ?_
        have lB : l ≠ B := fun w => by
          rw [w, hB1] at hl0
          cases hl0
        have l1 : H1 l = none := by
          cases h : H1 l with
          | none => rfl
          | some u =>
            rw [e2 l u (a2.fresh hl0) h] at hl0
            cases hl0
        refine ⟨qs.map V.ref, by rw [upd_ne (Ne.symm lB)]; exact hB1, Nat.lt_of_lt_of_le (show (qs.map V.ref).length < 100001 by rw [List.length_map]; omega) (by decide), fun b u f h => ?_, (a2.new hl0).upd_free ?_ (by rw [upd_ne (Ne.symm lB)]; exact hB1), qs ++ [l], by simp [ql], by rw [List.map_append]; exact upd_same, ?_, fun t c ht => ?_⟩
        · rw [upd_ne (ne_of_none h hB0), upd_ne (ne_of_none h l1)]
          exact e2 b u f h
        · exact (a1.fresh hB0)
        · refine List.nodup_append.mpr ⟨nd, by simp, fun c hc c2 hc2 w => ?_⟩
          obtain ⟨t, ht⟩ := List.mem_iff_getElem?.mp hc
          obtain ⟨_, _, b, ws', _, _, h3⟩ := old t c ht
          rw [w, List.mem_singleton.mp hc2, hl0] at h3
          cases h3
        · by_cases h : t < qs.length
          · rw [List.getElem?_append_left h] at ht
            obtain ⟨n1, n2, b, ws', h1, h2, h3⟩ := old t c ht
            have cl : c ≠ l := fun w => by
              rw [w, hl0] at h3
              cases h3
            exact ⟨n1, n2, b, ws', h1, h2, by rw [upd_ne n1, upd_ne cl]; exact h3⟩
          · have te : t = qs.length := by
              have := (List.getElem?_eq_some_iff.mp ht).1
              simp at this
              omega
            subst te
            rw [List.getElem?_append_right (Nat.le_refl _), Nat.sub_self] at ht
            cases ht
            exact ⟨lB, l1, bb, ws, by rw [ql]; exact hx, hbb, by rw [upd_ne lB]; exact upd_same⟩
      · intro H' w
        obtain ⟨e2, a2, qs, ql, hB1, nd, old⟩ := w
        have f0 : Fz z B := a1.fresh hB0
        have enU : En z H' (σ.set k (some (.ref B))) (es.set k .un) := (en.mono (e1.trans e2)).set k .un
        refine hv _ H' enU a2 _ fun v H3 e3 a3 v3 => ?_
        have hσk : (σ.set k (some (V.ref B)))[k]? = some (some (.ref B)) := List.getElem?_set_self (by omega)
        refine ⟨_, hσk, ha _ H3 (enU.mono e3) a3 _ fun u H4 e4 a4 u4 => ?_⟩
        cases u4
        have e34 := e3.trans e4
        obtain ⟨c, hcq⟩ : ∃ c, qs[i]? = some c := ⟨_, List.getElem?_eq_getElem (by have := (List.getElem?_eq_some_iff.mp hr).1; omega)⟩
        obtain ⟨c1, c2, bb, ws, hx, hb1, hc3⟩ := old i c hcq
        have fc : Fz z c := a1.fresh c2
        refine ⟨B, qs.map V.ref, (i : Int), .ref c, rfl, rfl, .inl (.inl (e34 B _ f0 hB1)), atI_nat (by rw [List.getElem?_map, hcq]; rfl), ?_⟩
        refine hb _ H4 (enU.mono e34) a4 _ fun u H5 e5 a5 u5 => ?_
        cases u5
        have e35 := e34.trans e5
        obtain ⟨b', ws', rr, eb, hrr, fb, hb2, dws⟩ := item i _ hx
        cases eb
        rw [hb1] at hb2
        cases hb2
        rw [hr] at hrr
        cases hrr
        have wl : ws.length = r.length := dws.length
        refine ⟨c, ws, (n : Int), n, rfl, rfl, e35 c _ fc hc3, by unfold ixN; rw [if_pos (by omega), if_pos (by omega)]; simp, ?_⟩
        have full : Ez z H (upd H5 c (.lst (ws.set n v))) := fun b u f h => by
          have h1 := e1 b u f h
          rw [upd_ne (ne_of_none h1 c2)]
          exact e35 b u f (e2 b u f h1)
        have from1 : Ez z H1 (upd H5 c (.lst (ws.set n v))) := fun b u f h => by
          rw [upd_ne (ne_of_none h c2)]
          exact e35 b u f (e2 b u f h)
        have from3 : Da z (upd H5 c (.lst (ws.set n v))) v (.tuple [.int t1, .int t2]) := by
          cases v3 with
          | @tup a3 ys _ fa3 ha3 r3 =>
            cases r3 with
            | cons g1 r3 =>
              cases g1
              cases r3 with
              | cons g1 r3 =>
                cases g1
                cases r3
                have ne : a3 ≠ c := fun w => by
                  rw [w, e3 c _ fc hc3] at ha3
                  cases ha3
                exact .tup fa3 (by rw [upd_ne ne]; exact (e4.trans e5) a3 _ fa3 ha3) (.cons (.int _) (.cons (.int _) .nil))
        refine kk _ _ ?_ (a5.upd_free fc (e35 c _ fc hc3)) D (q.mono full)
        have : σ.set k (some (V.ref B)) = (σ.set k (some (.ref B))) := rfl
        refine (en.mono full).set k (.val (.lst f0 (by rw [upd_ne (Ne.symm c1)]; exact e35 B _ f0 hB1) ?_))
        refine daAll_of (by rw [List.length_map, List.length_map, List.length_set]; omega) fun t u dd h1 h2 => ?_
        rw [List.getElem?_map] at h1 h2
        cases hqt : qs[t]? with
        | none => rw [hqt] at h1; cases h1
        | some cc =>
          rw [hqt] at h1
          cases h1
          obtain ⟨k1, k2, bt, wst, kx, kb, kc⟩ := old t cc hqt
          by_cases hti : t = i
          · subst hti
            rw [hcq] at hqt
            cases hqt
            rw [List.getElem?_set_self (by have := (List.getElem?_eq_some_iff.mp hr).1; omega)] at h2
            cases h2
            exact .lst fc upd_same (DaAll.put from3 n (dws.mono from1))
          · rw [List.getElem?_set_ne (fun w => hti w.symm)] at h2
            obtain ⟨b2, ws2, rr2, eb2, hrr2, fb2, hb22, dws2⟩ := item t _ kx
            cases eb2
            rw [kb] at hb22
            cases hb22
            rw [hrr2] at h2
            cases h2
            have cne : cc ≠ c := fun w => by
              subst w
              have i1 := (List.getElem?_eq_some_iff.mp hqt).1
              exact hti ((List.getElem?_inj i1 nd).mp (hqt.trans hcq.symm))
            exact .lst (a1.fresh k2) (by rw [upd_ne cne]; exact e35 cc _ (a1.fresh k2) kc) (dws2.mono from1)⟩
end
end DL


set_option Elab.async false
set_option linter.all false
set_option maxRecDepth 100000
namespace DL
open PySem PySem.Spec PyProof.Rows L2
variable [TabT]
section
variable {X : Cx} {z : Z} {es es1 es2 : List Sl} {s s1 s2 s3 s4 : S} {iter elt cond a b c e : Expr} {ds fs : List PyData} {d d1 d2 d3 : PyData} {o : Out} {rest body els : List Stmt} {pos p p1 p2 p3 p4 p5 : Pos}
/-- a list of one's own is data from here on -/
theorem so_frz (i : Nat) (k : SO X rest (es.set i (.val (.list ds))) s o) (ho : es[i]? = some (.own ds) := by rfl) : SO X rest es s o := fun z Hc H vol σ I D q => by
  obtain ⟨y, hy, r⟩ := I.en.slot ho
  cases r with
  | @own a vs _ m kk =>
    have hc := I.far i ds a ho hy
    have ha : H a = some (.lst vs) := I.at_.v _ m
    have sub : ∀ q, q ∈ vol.filter (fun q => decide (q.1 ≠ a)) → q ∈ vol := fun q hq => (List.mem_filter.mp hq).1
    have re : ∀ (b : Addr) (u : HO), Fz (z.own vol) b → H b = some u → Fz (z.own (vol.filter fun q => decide (q.1 ≠ a))) b ∧ H b = some u := fun b u fb hb => ⟨⟨fb.1, fun o mo => by
      rcases List.mem_append.mp mo with mo | mo
      · exact fb.2 o (List.mem_append_left _ (sub _ mo))
      · exact fb.2 o (List.mem_append_right _ mo)⟩, hb⟩
    have fa : Fz (z.own (vol.filter fun q => decide (q.1 ≠ a))) a := ⟨⟨fun e => (I.at_.n _ m).1 e, I.at_.tab_far (I.at_.v _ m)⟩, fun o mo => by
      rcases List.mem_append.mp mo with mo | mo
      · have := (List.mem_filter.mp mo).2
        simp at this
      · exact I.base _ mo hc⟩
    have keep : ∀ q, q ∈ (z.own vol).vol → q.1 ≠ a → q ∈ (z.own (vol.filter fun q => decide (q.1 ≠ a))).vol := fun q hq ne => by
      rcases List.mem_append.mp hq with mo | mo
      · exact List.mem_append_left _ (List.mem_filter.mpr ⟨mo, by simpa using ne⟩)
      · exact List.mem_append_right _ mo
    have low : ∀ q, q ∈ (z.own (vol.filter fun q => decide (q.1 ≠ a))).vol → q ∈ (z.own vol).vol := fun q hq => by
      rcases List.mem_append.mp hq with mo | mo
      · exact List.mem_append_left _ (sub _ mo)
      · exact List.mem_append_right _ mo
    refine k z Hc H (vol.filter fun q => decide (q.1 ≠ a)) σ ⟨fun q hq => I.new q (sub q hq), ?_, I.base, ⟨I.at_.d, fun q hq => I.at_.v q (low q hq), fun q hq => I.at_.n q (low q hq), I.at_.t⟩, ?_, I.ez, fun j fs b h1 h2 => ?_, fun j l fs gs b n h1 h2 h3 => ?_⟩ D q
    · exact I.nd.sublist ((List.filter_sublist).map _)
    · refine En.by_slots (by rw [List.length_set]; exact I.en.length) fun j x f hj hf => ?_
      by_cases hij : i = j
      · subst hij
        have lt : i < es.length := by
          rcases Nat.lt_or_ge i es.length with h | h
          · exact h
          · rw [List.getElem?_eq_none h] at ho
            cases ho
        rw [List.getElem?_set_self lt] at hf
        cases hf
        rw [hy] at hj
        cases hj
        exact .val (.lst fa ha (kk.re re))
      · rw [List.getElem?_set_ne hij] at hf
        obtain ⟨y', hy', r'⟩ := I.en.slot hf
        rw [hj] at hy'
        cases hy'
        cases r' with
        | un => exact .un
        | val h => exact .val (h.re re)
        | dice h => exact .dice h
        | raw => exact .raw
        | exc q => exact .exc (q.re re)
        | @own b us gs mb kb =>
          exact .own (keep _ mb fun e => I.two i j ds gs a hij ho hf hy (by rw [hj]; exact congrArg (fun t => some (some (V.ref t))) e)) (kb.re re)
    · by_cases hij : i = j
      · subst hij
        have lt : i < es.length := by
          rcases Nat.lt_or_ge i es.length with h | h
          · exact h
          · rw [List.getElem?_eq_none h] at ho
            cases ho
        rw [List.getElem?_set_self lt] at h1
        cases h1
      · rw [List.getElem?_set_ne hij] at h1
        exact I.far j fs b h1 h2
    · have ne : ∀ {m : Nat} {gs : List PyData}, (es.set i (Sl.val (.list ds)))[m]? = some (.own gs) → i ≠ m := fun {m gs} h e => by
        subst e
        by_cases hl : i < es.length
        · rw [List.getElem?_set_self hl] at h
          cases h
        · rw [List.getElem?_eq_none (by rw [List.length_set]; omega)] at h
          cases h
      rw [List.getElem?_set_ne (ne h1)] at h1
      rw [List.getElem?_set_ne (ne h2)] at h2
      exact I.two j l fs gs b n h1 h2 h3
/-- a list of one's own written, with what stays -/
theorem OI.writeR {z : Z} {Hc H H' : Hp} {vol : List (Addr × HO)} {σ : L2.St} {a : Addr} {vs vs' : List V} {ds' : List PyData} {i : Nat} (I : OI z Hc H vol σ es s) (h : es[i]? = some (.own ds)) (hy : σ[i]? = some (some (.ref a))) (m : (a, HO.lst vs) ∈ (z.own vol).vol)
    (e1 : Ez (z.own vol) H H') (a1 : At (z.own vol) H' s1) (r : DaAll (z.own vol) H' vs' ds') : ∃ vol', OI z Hc (upd H' a (.lst vs')) vol' σ (es.set i (.own ds')) s1 ∧ ∀ b u, Fz (z.own vol) b → H' b = some u → Fz (z.own vol') b ∧ upd H' a (.lst vs') b = some u := by
  have hc := I.far i ds a h hy
  have mv : (a, HO.lst vs) ∈ vol := by
    rcases List.mem_append.mp m with m | m
    · exact m
    · exact absurd hc (I.base _ m)
  have nz : ∀ q ∈ z.vol, q.1 ≠ a := fun q hq e => I.base q hq (by rw [e]; exact hc)
  let g : Addr × HO → Addr × HO := fun q => if q.1 = a then (a, .lst vs') else q
  have g1 : ∀ q, (g q).1 = q.1 := fun q => by
    show (if q.1 = a then (a, HO.lst vs') else q).1 = q.1
    by_cases e : q.1 = a
    · rw [if_pos e, e]
    · rw [if_neg e]
  have gm : vol.map (fun q => (g q).1) = vol.map (·.1) := by
    congr 1
    funext q
    exact g1 q
  have keep : ∀ {q : Addr × HO}, q.1 ≠ a → g q = q := fun {q} hn => if_neg hn
  have re : ∀ (b : Addr) (u : HO), Fz (z.own vol) b → H' b = some u → Fz (z.own (vol.map g)) b ∧ upd H' a (.lst vs') b = some u := fun b u fb hb => by
    have nb : b ≠ a := fun e => fb.2 (.lst vs) (by rw [e]; exact List.mem_append_left _ mv)
    refine ⟨⟨fb.1, fun o mo => ?_⟩, by rw [upd_ne nb]; exact hb⟩
    rcases List.mem_append.mp mo with mo | mo
    · obtain ⟨q, hq, e⟩ := List.mem_map.mp mo
      have q1 : q.1 = b := by rw [← g1 q, e]
      have : g q = q := keep (by rw [q1]; exact nb)
      rw [this] at e
      exact fb.2 o (List.mem_append_left _ (by rw [← e]; exact hq))
    · exact fb.2 o (List.mem_append_right _ mo)
  refine ⟨vol.map g, ⟨?_, ?_, I.base, ⟨?_, ?_, ?_, tabs_upd a1.t (a1.v _ m)⟩, ?_, ?_, ?_, ?_⟩, re⟩
  · intro q hq
    obtain ⟨q0, h0, e⟩ := List.mem_map.mp hq
    rw [← e, g1]
    exact I.new q0 h0
  · rw [List.map_map]
    show (vol.map fun q => (g q).1).Nodup
    rw [gm]
    exact I.nd
  · intro b hb
    rw [upd_ne (fun e => (a1.n _ m).1 (by rw [← e]; exact hb))]
    exact a1.d b hb
  · intro q hq
    rcases List.mem_append.mp hq with mo | mo
    · obtain ⟨q0, h0, e⟩ := List.mem_map.mp mo
      by_cases hn : q0.1 = a
      · have : g q0 = (a, .lst vs') := if_pos hn
        rw [← e, this]
        exact upd_same
      · rw [← e, keep hn, upd_ne hn]
        exact a1.v q0 (List.mem_append_left _ h0)
    · rw [upd_ne (nz q mo)]
      exact a1.v q (List.mem_append_right _ mo)
  · intro q hq
    rcases List.mem_append.mp hq with mo | mo
    · obtain ⟨q0, h0, e⟩ := List.mem_map.mp mo
      rw [← e, g1]
      refine ⟨(a1.n q0 (List.mem_append_left _ h0)).1, ?_⟩
      by_cases hn : q0.1 = a
      · exact ⟨vs', by rw [show g q0 = (a, .lst vs') from if_pos hn]⟩
      · rw [keep hn]
        exact (a1.n q0 (List.mem_append_left _ h0)).2
    · exact a1.n q (List.mem_append_right _ mo)
  · have en1 := I.en.mono e1
    have ma : (a, HO.lst vs') ∈ vol.map g := List.mem_map.mpr ⟨_, mv, if_pos rfl⟩
    refine En.by_slots (by rw [List.length_set, en1.length]) fun j x e hx he => ?_
    by_cases hj : i = j
    · subst hj
      have hl : i < es.length := (List.getElem?_eq_some_iff.mp h).1
      rw [List.getElem?_set_self hl] at he
      cases he
      rw [hy] at hx
      cases hx
      exact .own (List.mem_append_left _ ma) (r.re re)
    · rw [List.getElem?_set_ne hj] at he
      obtain ⟨y, hy2, rr⟩ := en1.slot he
      rw [hx] at hy2
      cases hy2
      cases rr with
      | un => exact .un
      | val d => exact .val (d.re re)
      | dice e => exact .dice e
      | raw => exact .raw
      | exc q => exact .exc (q.re re)
      | @own b ws es' mm k =>
        have nb : b ≠ a := fun e => I.two i j _ _ a hj h he hy (by rw [← e]; exact hx)
        refine .own ?_ (k.re re)
        rcases List.mem_append.mp mm with mm | mm
        · exact List.mem_append_left _ (List.mem_map.mpr ⟨_, mm, keep nb⟩)
        · exact List.mem_append_right _ mm
  · intro b u fb hb
    have nb : b ≠ a := fun e => by
      rw [e, hc] at hb
      cases hb
    rw [upd_ne nb]
    exact I.ezc e1 b u fb hb
  · intro j ds2 b h1 h2
    by_cases hj : i = j
    · subst hj
      rw [hy] at h2
      cases h2
      exact hc
    · rw [List.getElem?_set_ne hj] at h1
      exact I.far j ds2 b h1 h2
  · intro j l ds1 ds2 b n h1 h2 h3
    have back : ∀ {m : Nat} {ds2 : List PyData}, (es.set i (Sl.own ds'))[m]? = some (.own ds2) → ∃ ds3, es[m]? = some (.own ds3) := fun {m ds2} hm => by
      by_cases e : i = m
      · subst e
        exact ⟨ds, h⟩
      · rw [List.getElem?_set_ne e] at hm
        exact ⟨_, hm⟩
    obtain ⟨d3, h1'⟩ := back h1
    obtain ⟨d4, h2'⟩ := back h2
    exact I.two j l d3 d4 b n h1' h2' h3
/-- xs[i], xs[j] = e, f -/
theorem so_swap (i : Nat) {x : Str} {m n : Nat} {kt k2 : Nat} {e1 e2 : Expr} {q1 q2 q3 q4 : Pos} (hc : X.calm = true) (h : ∀ z, ED X z [e1, e2] es s [d1, d2] s1) (ha : ∀ z, EV X z a es s1 (.int (m : Int)) s1) (hb : ∀ es', es'.length = es.length → (∀ j, j ≠ i → es'[j]? = es[j]?) → ∀ z, EV X z b es' s1 (.int (n : Int)) s1) (hm : m < ds.length) (hn : n < ds.length)
    (g1 : PG X (.Subscript (.Name x p1) a q1) (gSub (tVar i) (wE X a) rSetL)) (g2 : PG X (.Subscript (.Name x p2) b q2) (gSub (tVar i) (wE X b) rSetL)) (kk : SO X rest (es.set i (.own ((ds.set m d1).set n d2))) s1 o) (ho : es[i]? = some (.own ds) := by rfl)
    (hs : swapsWithSole [.Tuple [.Subscript (.Name x p1) a q1, .Subscript (.Name x p2) b q2] kt q3] (.Tuple [e1, e2] k2 q4) pos.line X.env = pure false := by rfl) (hw : swappedStores [.Tuple [.Subscript (.Name x p1) a q1, .Subscript (.Name x p2) b q2] kt q3] (.Tuple [e1, e2] k2 q4) X.env = pure none := by rfl)
    (hnn : (assignEach [.Subscript (.Name x p1) a q1, .Subscript (.Name x p2) b q2] X.env).length = 2 := by rfl) (hst : (assignEach [.Subscript (.Name x p1) a q1, .Subscript (.Name x p2) b q2] X.env).findIdx? (·.1) = none := by rfl)
    (h1 : (assignEach (.Subscript (.Name x p1) a q1 :: [.Subscript (.Name x p2) b q2]) X.env).map (·.2) = assign (.Subscript (.Name x p1) a q1) X.env :: (assignEach [.Subscript (.Name x p2) b q2] X.env).map (·.2) := by rfl) (h2 : (assignEach (.Subscript (.Name x p2) b q2 :: []) X.env).map (·.2) = assign (.Subscript (.Name x p2) b q2) X.env :: (assignEach [] X.env).map (·.2) := by rfl) :
    SO X (.Assign [.Tuple [.Subscript (.Name x p1) a q1, .Subscript (.Name x p2) b q2] kt q3] (.Tuple [e1, e2] k2 q4) pos :: rest) es s o := fun z Hc H vol σ I D q =>
  ⟨_, pss_cons (ps_asg wE_ok (pg_tup hc (pgs_cons g1 (pgs_cons g2 pgs_nil h2) h1) hnn hst) hs hw) wB_ok, ev_tup (h _) (Nat.le_of_ble_eq_true rfl) σ H I.en I.at_ _ fun v H1 e1 a1 v1 => by
    cases v1 with
    | tup fn hv r =>
      cases r with
      | cons v1 r =>
        cases r with
        | cons v2 r =>
          cases r
          obtain ⟨y, hy, r⟩ := I.en.slot ho
          cases r with
          | @own ad vs _ mm k =>
            refine ⟨_, _, rfl, .inl (.inl hv), rfl, _, _, rfl, ?_⟩
            refine ⟨_, hy, ha _ σ H1 (I.en.mono e1) a1 _ fun u H2 e2 a2 w2 => ?_⟩
            cases w2
            have kl : vs.length = ds.length := k.length
            have gen : ∀ {zz : Z} {H : Hp} {w : V} {d : PyData}, Da zz H w d → ∀ (vs : List V) (ds : List PyData) (j : Nat), DaAll zz H vs ds → DaAll zz H (vs.set j w) (ds.set j d) := by
              intro zz H w d hw vs
              induction vs with
              | nil => intro ds j h; cases h; exact .nil
              | cons x vs ih =>
                intro ds j h
                cases h with
                | cons h1 h2 =>
                  cases j with
                  | zero => exact .cons hw h2
                  | succ j => exact .cons h1 (ih _ j h2)
            have r2 : DaAll (z.own vol) H2 (vs.set m _) (ds.set m d1) := gen (v1.mono e2) vs ds m (k.mono (e1.trans e2))
            have w2' := v2.mono e2
            obtain ⟨vol', I', re⟩ := I.writeR ho hy mm (e1.trans e2) a2 r2
            refine ⟨ad, vs, (m : Int), m, rfl, rfl, a2.v _ mm, (by unfold ixN; rw [if_pos (by omega), if_pos (by omega)]; simp), ?_⟩
            have lt : i < es.length := by
              rcases Nat.lt_or_ge i es.length with h | h
              · exact h
              · rw [List.getElem?_eq_none h] at ho
                cases ho
            have ho2 : (es.set i (.own (ds.set m d1)))[i]? = some (.own (ds.set m d1)) := List.getElem?_set_self lt
            obtain ⟨y3, hy3, r3⟩ := I'.en.slot ho2
            rw [hy] at hy3
            cases hy3
            cases r3 with
            | @own ad' vs' _ mm' k' =>
              refine ⟨_, _, rfl, ⟨_, hy, ?_⟩⟩
              refine hb _ (List.length_set ..) (fun j hj => List.getElem?_set_ne (Ne.symm hj)) _ σ _ I'.en I'.at_ _ fun u H3 e3 a3 w3 => ?_
              cases w3
              have kl' : vs'.length = (ds.set m d1).length := k'.length
              rw [List.length_set] at kl'
              obtain ⟨vol2, I2⟩ := I'.write ho2 hy mm' e3 a3 (gen ((w2'.re re).mono e3) vs' _ n (k'.mono e3))
              rw [List.set_set] at I2
              exact ⟨ad, vs', (n : Int), n, rfl, rfl, a3.v _ mm', (by unfold ixN; rw [if_pos (by omega), if_pos (by omega)]; simp), rfl, kk z Hc _ vol2 σ I2 D q⟩⟩
end
end DL


set_option Elab.async false
set_option linter.all false
set_option maxRecDepth 100000
namespace DL
open PySem PySem.Spec PyProof.Rows L2
variable [TabT]
section
variable {X : Cx} {z : Z} {es es1 es2 : List Sl} {s s1 s2 s3 s4 : S} {iter elt cond a b c e : Expr} {ds fs : List PyData} {d d1 d2 d3 : PyData} {o : Out} {rest body els : List Stmt} {pos p p1 p2 p3 p4 p5 : Pos}
/-- a list as a test -/
theorem et_lst (h : EV X z e es s (.list ds) s1) (he : ∀ whole, isTrue e X.env whole = (do let v ← whole; standAt e.pos; holding [v] (truthy v)) := by intro _; rfl) : ET X z e es s (!ds.isEmpty) s1 := fun σ H en at_ Q q =>
  ⟨_, pt_truth wE_ok he, h σ H en at_ _ fun v H1 e1 a1 v1 => by
    cases v1 with
    | @lst a xs _ n e r => exact ⟨_, .inl ⟨xs, .inl (.inl e), rfl⟩, by
        have l := r.length
        have : (!xs.isEmpty) = !ds.isEmpty := by
          cases xs <;> cases ds <;> first | rfl | cases l
        rw [this]
        exact q H1 e1 a1⟩⟩
/-- y = [x for x in range(lo, hi) if c] : the numbers that are let -/
theorem so_lcR2If {j k : Nat} {x y : Str} {scope : Scope} {lo n : Nat} {py spos : Pos} (hc : X.calm = true) (hN : X.N.Nodup) (hm : X.mg "range" = none) (kb : Nat → Bool) (hit : ∀ z, ED X z [a, b] es s [.int (lo : Int), .int ((lo + n : Nat) : Int)] s) (hl : n ≤ 100000) (hlo : lo ≤ 100000) (hB : BlkOk X.N X.env.scope scope [(x, j)]) (hg : PgIn X scope (.Name x p) (gName j))
    (Ht : ∀ i : Nat, i < n → ∀ z' : Z, Blk X scope fun Y => ET Y z' cond (es.set j (.val (.int ((lo + i : Nat) : Int)))) s (kb (lo + i)) s) (He : ∀ i : Nat, i < n → ∀ z' : Z, Blk X scope fun Y => EV Y z' elt (es.set j (.val (.int ((lo + i : Nat) : Int)))) s (.int ((lo + i : Nat) : Int)) s)
    (kk : SO X rest (es.set k (.own ((((List.range n).map (lo + ·)).filter kb).map fun i : Nat => PyData.int ((i : Nat) : Int)))) s o) (hi : X.N[k]? = some y := by rfl) (hy : List.lookup y X.env.scope.names = some NameKind.local := by rfl)
    (hsw : swapsWith (.ListComp elt [{ target := .Name x p, iter := .Call (.Name "range" p1) [a, b] [] p2, ifs := [cond], is_async := 0 }] scope pos) (some (.Name y py)) spos.line X.env = pure true := by exact sw_true rfl rfl rfl (by decide +kernel))
    (hgl : Gl X "range" := by rfl) (hst : starEach [a, b] X.env = [(false, eval a X.env), (false, eval b X.env)] := by rfl) (hst2 : starEach [b] X.env = [(false, eval b X.env)] := by rfl) (hs : ∀ x, foldedSetIterable (.Call (.Name "range" p1) [a, b] [] p2) X.env x = pure x := by intro _; rfl) :
    SO X (.Assign [.Name y py] (.ListComp elt [{ target := .Name x p, iter := .Call (.Name "range" p1) [a, b] [] p2, ifs := [cond], is_async := 0 }] scope pos) spos :: rest) es s o := fun z Hc H vol σ I D q =>
  ⟨_, pss_cons (ps_setLc (i := k) (own := [(x, j)]) hc hN hi hy hsw (pi_range2 hgl hm wA_ok hst hst2) hB hg tTs_ok tEl_ok hs) wB_ok, by
    refine hit _ σ H I.en I.at_ _ fun vs H1 e1 a1 v1 => ?_
    cases v1 with
    | cons h r =>
      cases h
      cases r with
      | cons h r =>
        cases r
        cases h
        refine ⟨(lo : Int), ((lo + n : Nat) : Int), rfl, ⟨by omega, by omega, by omega, by omega⟩, fun D' hD => ?_⟩
        have en : (((lo + n : Nat) : Int) - (lo : Int)).toNat = n := by omega
        rw [en]
        let A : Nat → List PyData := fun i => (((List.range i).map (lo + ·)).filter kb).map fun i : Nat => PyData.int ((i : Nat) : Int)
        have step : ∀ i, A (i + 1) = A i ++ (if kb (lo + i) then [PyData.int ((lo + i : Nat) : Int)] else []) := fun i => by
          show (((List.range (i + 1)).map (lo + ·)).filter kb).map _ = _
          rw [List.range_succ, List.map_append, List.filter_append, List.map_append]
          congr 1
          show (List.filter kb [lo + i]).map _ = _
          cases hk : kb (lo + i)
          · rw [List.filter_cons_of_neg (by rw [hk]; decide)]
            rfl
          · rw [List.filter_cons_of_pos hk]
            rfl
        refine lc_allO (g := gName j) (ws := [j]) (walk_range (lo := (lo : Int)) (n := n)) (fun _ => s) (fun _ => s) a1 hD (fun i => es.set j (.val (.int ((lo + i : Nat) : Int)))) (fun H' e => trivial) (fun i x H' H2 o hi e2 hy a2 Q q => ?_) hl (fun i => kb (lo + i)) A rfl (fun z' i hi σ H en at_ Q q s0 H0 C cl fp => Ht i hi z' s0 H0 C cl fp σ H en at_ Q q)
          (fun z' i hi hk => ⟨_, by rw [step i, if_pos hk], fun σ H en at_ Q q s0 H0 C cl fp => He i hi z' s0 H0 C cl fp σ H en at_ Q q⟩) (fun i _ h => ⟨by rw [step i, if_neg (by rw [h]; decide), List.append_nil], rfl⟩) (fun H' acc e hD2 a2 r2 => kk z Hc H' _ _ (I.fresh k e1 a1 hD e a2 r2) D q)
        obtain ⟨rfl, hx⟩ := hy
        have reach : ∀ (b : Addr) (u : HO), Fz (z.own vol) b → H1 b = some u → Fz ((z.own vol).add D' o) b ∧ H2 b = some u := fun b u fb hb => ⟨fb.to_add (ne_of_none hb hD), e2 b u fb hb⟩
        have es2 : (wipe σ [j]).set j (some x) = σ.set j (some x) := by
          show (σ.set j none).set j (some x) = _
          rw [List.set_set]
        show Q ((wipe σ [j]).set j (some x)) H2
        rw [es2]
        have en0 : En ((z.own vol).add D' o) H2 σ es := En.re (z := z.own vol) (z' := (z.own vol).add D' o) rfl (fun q h => List.mem_cons_of_mem _ h) reach (I.en.mono e1)
        refine q _ H2 (by
          show (σ.set j (some x)).set j none = σ.set j none
          rw [List.set_set]) (.refl _) a2 (en0.set j (.val ?_))
        rw [hx]
        show Da _ _ (.int ((lo : Int) + (i : Int))) _
        rw [← Int.natCast_add]
        exact .int _⟩
end
end DL


set_option Elab.async false
set_option linter.all false
set_option maxRecDepth 100000
namespace DL
open PySem PySem.Spec PyProof.Rows L2
variable [TabT]
section
variable {X : Cx} {z : Z} {es es1 es2 : List Sl} {s s1 s2 s3 s4 : S} {iter elt cond a b c e : Expr} {ds fs : List PyData} {d d1 d2 d3 : PyData} {o : Out} {rest body els : List Stmt} {xs : List Expr} {pos p p1 p2 p3 p4 p5 p6 : Pos}
/-- (*e, ..) -/
theorem ed_star (ha : EV X z e es s (.tuple fs) s1) (hr : ED X z xs es s1 ds s2) (hs : starEach (.Starred e p :: xs) X.env = (true, eval e X.env) :: starEach xs X.env := by rfl) : ED X z (.Starred e p :: xs) es s (fs ++ ds) s2 := fun σ H en at_ Q q =>
  ⟨_, StX.pa_star wE_ok wA_ok hs, ha σ H en at_ _ fun v H1 e1 a1 v1 => by
    cases v1 with
    | @tup a us _ n h r =>
      exact ⟨a, us, rfl, .inl (.inl (.inl h)), hr σ H1 (en.mono e1) a1 _ fun vs H2 e2 a2 v2 => q _ H2 (e1.trans e2) a2 ((r.mono e2).app v2)⟩⟩
/-- d in a list, d not in a list -/
theorem et_inL (hu : X.A.units + 65 < cLine) (h1 : Pl d) (h2 : Pl (.list ds)) (ha : EV X z a es s d s1) (hb : EV X z b es s1 (.list ds) s2) (hm : behindInMarks .In b = false := by rfl) : ET X z (.Compare a [.In] [b] pos) es s (ds.any fun z => PyData.eqv z d) s2 :=
  et_cmpR (op_inD hu) (fun u v H at_ hu hv Q q => ⟨d, ds, hu.dp h1.1, hv.dp h2.1, h1.2, h2.2, q _ H (.refl H) at_ (.bl _)⟩) ha hb hm
theorem et_ninL (hu : X.A.units + 65 < cLine) (h1 : Pl d) (h2 : Pl (.list ds)) (ha : EV X z a es s d s1) (hb : EV X z b es s1 (.list ds) s2) (hm : behindInMarks .NotIn b = false := by rfl) : ET X z (.Compare a [.NotIn] [b] pos) es s (!ds.any fun z => PyData.eqv z d) s2 :=
  et_cmpR (op_notInD hu) (fun u v H at_ hu hv Q q => ⟨d, ds, hu.dp h1.1, hv.dp h2.1, h1.2, h2.2, q _ H (.refl H) at_ (.bl _)⟩) ha hb hm
/-- own[::-1] -/
theorem ev_revO (i : Nat) {x : Str} {k : Nat} (h : es[i]? = some (.own ds) := by rfl) (hN : X.N[i]? = some x := by rfl) (hvi : Vis X.env.scope x := by first | exact Or.inl rfl | exact Or.inr (Or.inl rfl) | exact Or.inr (Or.inr rfl)) (hd : (x == ("__debug__" : Str)) = false := by decide) (hcd : (x == ("__classdict__" : Str)) = false := by decide) :
    EV X z (.Subscript (.Name x p) (.Slice none none (some (.UnaryOp .USub (.Constant (.int 1) k p1) p2)) p3) pos) es s (.list ds.reverse) s :=
  .mk (pe_revL (pe_var hN hvi hd hcd)) fun σ H en at_ Q q => by
    obtain ⟨y, hy, r⟩ := en.slot h
    cases r with
    | @own a0 vs _ m k => exact ⟨_, hy, _, _, rfl, .inl (.inl (at_.v _ m)), fun p hp => q _ _ (.new hp) (at_.new hp) (.lst (at_.fresh hp) upd_same (k.rev.mono (.new hp)))⟩
/-- for x, y in zip(a list, a list), own lists at hand -/
theorem so_forZ (l m : Nat) {x y : Str} {kt : Nat} (hp : PassesOwn (model X.prog X.w) X.A X.env X.xe) (hc : X.calm = true) (hm : X.mg "zip" = none) (hlen : ds.length = fs.length) (h : ∀ z, ED X z [a, b] es s [.list ds, .list fs] s1) (E : Nat → List Sl) (T : Nat → S) (h0 : Le es (E 0)) (t0 : T 0 = s1)
    (hb : ∀ (i : Nat) d1 d2, ds[i]? = some d1 → fs[i]? = some d2 → SO X body (((E i).set l (.val d1)).set m (.val d2)) (T i) (.nx (E (i + 1)) (T (i + 1)))) (k : SO X rest (E ds.length) (T ds.length) o)
    (hg : PG X (.Tuple [.Name x p1, .Name y p2] kt p3) (gTup X.K 2 (gCons (gName l) (gCons (gName m) gNil)))) (hgl : Gl X "zip" := by rfl) (hst : starEach [a, b] X.env = (false, eval a X.env) :: starEach [b] X.env := by rfl) (hpl : (backTo p5 (starEach [b] X.env)).any (·.1) = false := by rfl) (hfo : ∀ x, foldedSetIterable (.Call (.Name "zip" p4) [a, b] [] p5) X.env x = pure x := by intro _; rfl) :
    SO X (.For (.Tuple [.Name x p1, .Name y p2] kt p3) (.Call (.Name "zip" p4) [a, b] [] p5) body [] pos :: rest) es s o := fun z Hc H vol σ I D q =>
  ⟨_, pss_cons (ps_for hp hc (pi_zip hgl hm wA_ok hst hpl) hg wB_ok hfo) wB_ok, h _ σ H I.en I.at_ _ fun vs H1 e1 a1 v1 => by
    cases v1 with
    | cons h1 r =>
      cases r with
      | cons h2 r =>
        cases r
        cases h1 with
        | @lst a0 us _ fa ha r1 =>
          cases h2 with
          | @lst b0 ws _ fb hb0 r2 =>
            have hx : us.length = ds.length := r1.length
            have hy : ws.length = fs.length := r2.length
            obtain ⟨I2, back⟩ := (I.step e1 a1).reb
            subst t0
            refine ⟨a0, b0, us, ws, rfl, .inl (.inl ha), .inl (.inl hb0), for_it (walk_zip (K := X.K) (a := a0) (b := b0) (xs := us) (ys := ws) (n := ds.length) (by omega)) (fun i σ' H' => ∃ vol', OI z (cutH H1 vol) H' vol' σ' (E i) (T i)) ⟨vol, I2.le h0⟩ (fun i σ' H' _ w => ?_) (fun i v σ' H' H2 hi w hY => ?_) fun σ' H' w => ?_⟩
            · obtain ⟨vol', w⟩ := w
              exact ⟨.inl (.inl (w.stillH fa ha)), .inl (.inl (w.stillH fb hb0))⟩
            · obtain ⟨vol', w⟩ := w
              obtain ⟨t, u, v', rfl, nt, rfl, hu, hv⟩ := hY
              obtain ⟨d1, hd1, hu'⟩ := r1.getV i u hu
              obtain ⟨d2, hd2, hv'⟩ := r2.getV i v' hv
              have w1 := w.step (Ez.new (o := .tup [u, v']) nt) (w.at_.new nt)
              have w2 := (w1.set (.refl _) w1.at_ l ((w.still hu').mono (.new nt))).set (.refl _) w1.at_ m ((w.still hv').mono (.new nt))
              exact ⟨t, _, rfl, .inl (.inl upd_same), rfl, _, _, rfl, _, _, rfl, rfl, hb i d1 d2 hd1 hd2 z _ _ vol' _ w2 _ fun vol3 σ3 H3 I3 => ⟨vol3, I3⟩⟩
            · obtain ⟨vol', w⟩ := w
              exact k z Hc H' vol' σ' (back _ _ _ _ _ w) D q⟩
/-- for x in reversed(range(n)), own lists at hand -/
theorem so_forRev (l : Nat) {x : Str} {n : Nat} (hp : PassesOwn (model X.prog X.w) X.A X.env X.xe) (hc : X.calm = true) (hN : X.N.Nodup) (hm : X.mg "range" = none) (hmr : X.mg "reversed" = none) (h : ∀ z, EV X z a es s (.int (n : Int)) s1) (hn : n < 2 ^ 60) (E : Nat → List Sl) (T : Nat → S) (h0 : Le es (E 0)) (t0 : T 0 = s1)
    (hb : ∀ i : Nat, i < n → SO X body ((E i).set l (.val (.int ((n - 1 - i : Nat) : Int)))) (T i) (.nx (E (i + 1)) (T (i + 1)))) (k : SO X rest (E n) (T n) o)
    (hi : X.N[l]? = some x := by rfl) (hx : Loc X.env.scope x := by first | exact Or.inl rfl | exact Or.inr rfl) (hg : Gl X "range" := by rfl) (hgr : Gl X "reversed" := by rfl) (na : starEach [a] X.env = (false, eval a X.env) :: starEach [] X.env := by rfl) (hs : starEach [.Call (.Name "range" p2) [a] [] p3] X.env = (false, eval (.Call (.Name "range" p2) [a] [] p3) X.env) :: starEach [] X.env := by rfl)
    (hf : X.fn x = true ∨ X.env.scope.names.lookup x = some .local := by first | exact .inl rfl | exact .inr rfl) (hfo : ∀ x, foldedSetIterable (.Call (.Name "reversed" p4) [.Call (.Name "range" p2) [a] [] p3] [] p5) X.env x = pure x := by intro _; rfl) :
    SO X (.For (.Name x p) (.Call (.Name "reversed" p4) [.Call (.Name "range" p2) [a] [] p3] [] p5) body [] pos :: rest) es s o := fun z Hc H vol σ I D q =>
  ⟨_, pss_cons (ps_for hp hc (pi_revR hgr hmr (prg_1 hg hm wE_ok na) hs) (pg_name hN hi hx hf) wB_ok hfo) wB_ok, h _ σ H I.en I.at_ _ fun v H1 e1 a1 v1 => by
    cases v1
    have I1 := I.step e1 a1
    subst t0
    refine ⟨(n : Int), rfl, by omega, by omega, by omega, by omega, ?_⟩
    have en : (((n : Int) - 0).toNat) = n := by omega
    rw [en]
    refine for_rangeC (c := -1) (n := n) (fun i σ' H' => ∃ vol', OI z Hc H' vol' σ' (E i) (T i)) ⟨vol, I1.le h0⟩ (fun i σ' H' hi w => ?_) fun σ' H' w => ?_
    · obtain ⟨vol', w⟩ := w
      have e0 : ((0 : Int) + (n : Int) - 1) + ((i : Nat) : Int) * (-1) = ((n - 1 - i : Nat) : Int) := by omega
      show wB X body _ (σ'.set l (some (.int (((0 : Int) + (n : Int) - 1) + ((i : Nat) : Int) * (-1))))) H'
      rw [e0]
      exact hb i hi z Hc H' vol' _ (w.set (.refl _) w.at_ l (.int _)) _ fun vol2 σ2 H2 I2 => ⟨vol2, I2⟩
    · obtain ⟨vol', w⟩ := w
      exact k z Hc H' vol' σ' w D q⟩
/-- x, y, w, u = e -/
theorem so_unp4 (i j l m : Nat) {x y w u : Str} {kt : Nat} {d3 d4 : PyData} {p5 p6 : Pos} (hc : X.calm = true) (hN : X.N.Nodup) (h : ∀ z, EV X z e es s (.tuple [d1, d2, d3, d4]) s1) (k : SO X rest ((((es.set i (.val d1)).set j (.val d2)).set l (.val d3)).set m (.val d4)) s1 o)
    (hi : X.N[i]? = some x := by rfl) (hj : X.N[j]? = some y := by rfl) (hl : X.N[l]? = some w := by rfl) (hm : X.N[m]? = some u := by rfl) (hx : Loc X.env.scope x := by first | exact Or.inl rfl | exact Or.inr rfl) (hy : Loc X.env.scope y := by first | exact Or.inl rfl | exact Or.inr rfl) (hw' : Loc X.env.scope w := by first | exact Or.inl rfl | exact Or.inr rfl) (hu : Loc X.env.scope u := by first | exact Or.inl rfl | exact Or.inr rfl)
    (fx : X.fn x = true ∨ X.env.scope.names.lookup x = some .local := by first | exact .inl rfl | exact .inr rfl) (fy : X.fn y = true ∨ X.env.scope.names.lookup y = some .local := by first | exact .inl rfl | exact .inr rfl) (fw : X.fn w = true ∨ X.env.scope.names.lookup w = some .local := by first | exact .inl rfl | exact .inr rfl) (fu : X.fn u = true ∨ X.env.scope.names.lookup u = some .local := by first | exact .inl rfl | exact .inr rfl)
    (hs : swapsWithSole [.Tuple [.Name x p1, .Name y p2, .Name w p5, .Name u p6] kt p3] e pos.line X.env = pure false := by rfl) (hw : swappedStores [.Tuple [.Name x p1, .Name y p2, .Name w p5, .Name u p6] kt p3] e X.env = pure none := by rfl) 
    (hn : (assignEach [.Name x p1, .Name y p2, .Name w p5, .Name u p6] X.env).length = 4 := by rfl) (hst : (assignEach [.Name x p1, .Name y p2, .Name w p5, .Name u p6] X.env).findIdx? (·.1) = none := by rfl)
    (h1 : (assignEach (.Name x p1 :: [.Name y p2, .Name w p5, .Name u p6]) X.env).map (·.2) = assign (.Name x p1) X.env :: (assignEach [.Name y p2, .Name w p5, .Name u p6] X.env).map (·.2) := by rfl) (h2 : (assignEach (.Name y p2 :: [.Name w p5, .Name u p6]) X.env).map (·.2) = assign (.Name y p2) X.env :: (assignEach [.Name w p5, .Name u p6] X.env).map (·.2) := by rfl)
    (h3 : (assignEach (.Name w p5 :: [.Name u p6]) X.env).map (·.2) = assign (.Name w p5) X.env :: (assignEach [.Name u p6] X.env).map (·.2) := by rfl) (h4 : (assignEach (.Name u p6 :: []) X.env).map (·.2) = assign (.Name u p6) X.env :: (assignEach [] X.env).map (·.2) := by rfl) :
    SO X (.Assign [.Tuple [.Name x p1, .Name y p2, .Name w p5, .Name u p6] kt p3] e pos :: rest) es s o := fun z Hc H vol σ I D q =>
  ⟨_, pss_cons (ps_asg wE_ok (pg_tup hc (pgs_cons (pg_name hN hi hx fx) (pgs_cons (pg_name hN hj hy fy) (pgs_cons (pg_name hN hl hw' fw) (pgs_cons (pg_name hN hm hu fu) pgs_nil h4) h3) h2) h1) hn hst) hs hw) wB_ok, h _ σ H I.en I.at_ _ fun v H1 e1 a1 v1 => by
    cases v1 with
    | tup n e r =>
      cases r with
      | cons v1 r =>
        cases r with
        | cons v2 r =>
          cases r with
          | cons v3 r =>
            cases r with
            | cons v4 r =>
              cases r
              have w1 := I.step e1 a1
              exact ⟨_, _, rfl, .inl (.inl e), rfl, _, _, rfl, _, _, rfl, _, _, rfl, _, _, rfl, rfl, k z Hc H1 vol _ ((((w1.set (.refl _) w1.at_ i v1).set (.refl _) w1.at_ j v2).set (.refl _) w1.at_ l v3).set (.refl _) w1.at_ m v4) D q⟩⟩
end
end DL


set_option Elab.async false
set_option linter.all false
set_option maxRecDepth 100000
namespace DL
open PySem PySem.Spec PyProof.Rows L2
variable [TabT]
section
variable {X : Cx} {z : Z} {es es1 es2 : List Sl} {s s1 s2 s3 s4 : S} {iter elt cond a b c e : Expr} {ds fs : List PyData} {d d1 d2 d3 : PyData} {o : Out} {rest body els : List Stmt} {xs : List Expr} {pos p p1 p2 p3 p4 p5 p6 cpos apos : Pos}
/-- a comprehension over a list, its list still unknown to anybody -/
theorem lc_fresh {j : Nat} {scope : Scope} (hit : EV X z iter es s (.list ds) s1) (hl : ds.length ≤ 100000) (f : PyData → PyData)
    (He : ∀ d ∈ ds, ∀ z' : Z, Blk X scope fun Y => EV Y z' elt (es.set j (.val d)) s1 (f d) s1) :
    ∀ σ H, En z H σ es → At z H s → ∀ Q : VK, (∀ (D : Addr) (H1 : Hp), Ez z H H1 → At z H1 s1 → H1 D = none → ∀ (H' : Hp) (acc : List V), Ez z H1 H' → At (z.add D (.lst acc)) H' s1 → DaAll (z.add D (.lst acc)) H' acc (ds.map f) → Q (.ref D) H') → tLc (iList X.K (wE X iter)) (gName j) tYes (tEl X scope elt) [j] σ H Q := fun σ H en at_ Q q => by
  refine hit σ H en at_ _ fun v H1 e1 a1 v1 => ?_
  cases v1 with
  | @lst a xs _ fa ha r =>
    have hx : xs.length = ds.length := r.length
    have g : ∀ i, i < xs.length → ds[i]? = some (ds.getD i .none) := fun i hi => by
      rw [List.getD_eq_getElem?_getD, List.getElem?_eq_getElem (by omega)]
      rfl
    refine ⟨a, rfl, ⟨xs, .inl (.inl ha)⟩, fun D hD => ?_⟩
    refine lc_allO (g := gName j) (ws := [j]) (walk_list (K := X.K) (a := a) (xs := xs)) (fun _ => s1) (fun _ => s1) a1 hD (fun i => es.set j (.val (ds.getD i .none))) (fun H' e => .inl (.inl (e a _ fa ha))) (fun i x H' H2 o hi e2 hy a2 Q q => ?_) (by omega) (fun _ => true) (fun i => (ds.take i).map f) rfl (fun z' i hi σ H en at_ Q q => q H (.refl H) at_)
      (fun z' i hi _ => ⟨f (ds.getD i .none), take_succ (g i hi), fun σ H en at_ Q q s0 H0 C cl fp => He _ (List.mem_of_getElem? (g i hi)) z' s0 H0 C cl fp σ H en at_ Q q⟩) (fun i _ h => by cases h) (fun H' acc e hD2 a2 r2 => ?_)
    · obtain ⟨rfl, hv⟩ := hy
      have reach : ∀ (b : Addr) (u : HO), Fz z b → H1 b = some u → Fz (z.add D o) b ∧ H2 b = some u := fun b u fb hb => ⟨fb.to_add (ne_of_none hb hD), e2 b u fb hb⟩
      have es2 : (wipe σ [j]).set j (some x) = σ.set j (some x) := by
        show (σ.set j none).set j (some x) = _
        rw [List.set_set]
      show Q ((wipe σ [j]).set j (some x)) H2
      rw [es2]
      have en0 : En (z.add D o) H2 σ es := En.re (z := z) (z' := z.add D o) rfl (fun q h => List.mem_cons_of_mem _ h) reach (en.mono e1)
      obtain ⟨d, hd, hdv⟩ := r.getV i x hv
      have := g i hi
      rw [hd] at this
      refine q _ H2 (by
        show (σ.set j (some x)).set j none = σ.set j none
        rw [List.set_set]) (.refl _) a2 (en0.set j (.val ?_))
      rw [← Option.some.inj this]
      exact hdv.re reach
    · rw [hx, List.take_length] at r2
      exact q D H1 e1 a1 hD H' acc e a2 r2
/-- y = [e for x in a list], a list of one's own -/
theorem so_lcL {j k : Nat} {x y : Str} {scope : Scope} {py spos : Pos} (hc : X.calm = true) (hN : X.N.Nodup) (f : PyData → PyData) (hit : ∀ z, EV X z iter es s (.list ds) s1) (hl : ds.length ≤ 100000) (hB : BlkOk X.N X.env.scope scope [(x, j)]) (hg : PgIn X scope (.Name x p) (gName j))
    (He : ∀ d ∈ ds, ∀ z' : Z, Blk X scope fun Y => EV Y z' elt (es.set j (.val d)) s1 (f d) s1) (kk : SO X rest (es.set k (.own (ds.map f))) s1 o) (hi : X.N[k]? = some y := by rfl) (hy : List.lookup y X.env.scope.names = some NameKind.local := by rfl)
    (hsw : swapsWith (.ListComp elt [{ target := .Name x p, iter := iter, ifs := [], is_async := 0 }] scope pos) (some (.Name y py)) spos.line X.env = pure true := by exact sw_true rfl rfl rfl (by decide +kernel)) (hs : ∀ x, foldedSetIterable iter X.env x = pure x := by intro _; rfl) :
    SO X (.Assign [.Name y py] (.ListComp elt [{ target := .Name x p, iter := iter, ifs := [], is_async := 0 }] scope pos) spos :: rest) es s o := fun z Hc H vol σ I D q =>
  ⟨_, pss_cons (ps_setLc (i := k) (own := [(x, j)]) hc hN hi hy hsw (pi_list wE_ok) hB hg (fun _ _ _ _ _ => pts_nil) tEl_ok hs) wB_ok, by
    show tLc (iList X.K (wE X iter)) (gName j) tYes (tEl X scope elt) [j] σ H (fun v H1 => wB X rest D (σ.set k (some v)) H1)
    exact lc_fresh (X := X) (j := j) (hit _) hl f He σ H I.en I.at_ _ fun D' H1 e1 a1 hD H' acc e a2 r2 => kk z Hc H' _ _ (I.fresh k e1 a1 hD e a2 r2) D q⟩
/-- x, y = [e for .. in a list], []: two lists of one's own -/
theorem so_parLN (i k : Nat) {j : Nat} {x y v : Str} {kt k2 : Nat} {scope : Scope} {pl cp : Pos} (hc : X.calm = true) (hN : X.N.Nodup) (f : PyData → PyData) (hit : ∀ z, EV X z iter es s (.list ds) s1) (hl : ds.length ≤ 100000) (hB : BlkOk X.N X.env.scope scope [(v, j)]) (hg : PgIn X scope (.Name v p) (gName j))
    (He : ∀ d ∈ ds, ∀ z' : Z, Blk X scope fun Y => EV Y z' elt (es.set j (.val d)) s1 (f d) s1) (kk : SO X rest ((es.set i (.own (ds.map f))).set k (.own [])) s1 o)
    (hi : X.N[i]? = some x := by rfl) (hj : X.N[k]? = some y := by rfl) (hij : i ≠ k := by decide) (hx : X.env.scope.names.lookup x = some .local := by rfl) (hy : X.env.scope.names.lookup y = some .local := by rfl)
    (hs1 : starEach [.ListComp elt [{ target := .Name v p, iter := iter, ifs := [], is_async := 0 }] scope cp, .List [] pl] X.env = (false, eval (.ListComp elt [{ target := .Name v p, iter := iter, ifs := [], is_async := 0 }] scope cp) X.env) :: starEach [.List [] pl] X.env := by rfl) (hs2 : starEach [.List [] pl] X.env = (false, eval (.List [] pl) X.env) :: starEach [] X.env := by rfl)
    (hw : swappedStores [.Tuple [.Name x p1, .Name y p2] kt p3] (.Tuple [.ListComp elt [{ target := .Name v p, iter := iter, ifs := [], is_async := 0 }] scope cp, .List [] pl] k2 p4) X.env = pure (some [x, y]) := by rfl) (hs : swapsWithSole [.Tuple [.Name x p1, .Name y p2] kt p3] (.Tuple [.ListComp elt [{ target := .Name v p, iter := iter, ifs := [], is_async := 0 }] scope cp, .List [] pl] k2 p4) pos.line X.env = pure false := by rfl) (hfs : ∀ x, foldedSetIterable iter X.env x = pure x := by intro _; rfl) :
    SO X (.Assign [.Tuple [.Name x p1, .Name y p2] kt p3] (.Tuple [.ListComp elt [{ target := .Name v p, iter := iter, ifs := [], is_async := 0 }] scope cp, .List [] pl] k2 p4) pos :: rest) es s o := fun z Hc H vol σ I D q =>
  ⟨_, pss_cons (ps_par hc hN hi hj hij hx hy (pa_cons (pe_lc (own := [(v, j)]) hc hN (pi_list wE_ok) hB hg (fun _ _ _ _ _ => pts_nil) tEl_ok hfs) (pa_cons (pe_lst pa_nil) pa_nil hs2) hs1) hw hs) wB_ok, by
    unfold tSeq tPar
    unfold tCons
    refine lc_fresh (X := X) (j := j) (hit _) hl f He σ H I.en I.at_ _ fun D' H1 e1 a1 hD H' acc e a2 r2 => ⟨Nat.zero_le _, fun l hl => by
      have w2 := I.fresh i e1 a1 hD e a2 r2
      exact ⟨_, _, rfl, kk z Hc _ _ _ (w2.fresh k (vs := []) (.refl _) w2.at_ hl (.new hl) (w2.at_.fill hl) .nil) D q⟩⟩⟩
/-- x = xs.pop(e) -/
theorem so_popAt (i l : Nat) {x y : Str} {k : Nat} (hN : X.N.Nodup) (h : ∀ z, EV X z e es s (.int (k : Int)) s1) (hk : ds[k]? = some d) (hk2 : ds.length ≤ 100000) (kk : SO X rest ((es.set i (.own (ds.eraseIdx k))).set l (.val d)) s1 o) (ho : es[i]? = some (.own ds) := by rfl) (hNi : X.N[i]? = some x := by rfl) (hNl : X.N[l]? = some y := by rfl) (hil : i ≠ l := by decide) (hv : Vis X.env.scope x := by first | exact Or.inl rfl | exact Or.inr (Or.inl rfl) | exact Or.inr (Or.inr rfl)) (hx : Loc X.env.scope y := by first | exact Or.inl rfl | exact Or.inr rfl)
    (hd : (x == ("__debug__" : Str)) = false := by decide) (hcd : (x == ("__classdict__" : Str)) = false := by decide) (hbase : attributeBase (.Name x p) "pop" X.env (eval (.Name x p) X.env) = eval (.Name x p) X.env := by rfl)
    (hfew : ((backTo cpos (starEach (e :: []) X.env)).all (fun x => !x.1) && (backToKw cpos (keywordEach [] X.env)).all (fun x => x.1.isSome) && decide ((e :: []).length + ([] : List Keyword).length + (if ([] : List Keyword).isEmpty then 0 else 1) < 30)) = true := by rfl)
    (hline : (apos.endLine == cpos.line) = true := by rfl) (hse : starEach (e :: []) X.env = (false, eval e X.env) :: starEach [] X.env := by rfl) (hpl : (backTo cpos (starEach [] X.env)).any (·.1) = false := by rfl) (hs : swapsWith (.Call (.Attribute (.Name x p) "pop" apos) [e] [] cpos) (some (.Name y p1)) pos.line X.env = pure false := by rfl) (hf : X.fn y = true ∨ X.env.scope.names.lookup y = some .local := by first | exact .inl rfl | exact .inr rfl) :
    SO X (.Assign [.Name y p1] (.Call (.Attribute (.Name x p) "pop" apos) [e] [] cpos) pos :: rest) es s o := fun z Hc H vol σ I D q =>
  ⟨_, pss_cons (ps_set hN hNl hx (pe_bm PySem.F.plainAttrs_list PySem.F.slot_list_pop PySem.F.type_list_pop mt_popAt (pe_var hNi hv hd hcd) (pa_cons wE_ok pa_nil hse) hbase hfew hline hse hpl) hs hf) wB_ok, by
    obtain ⟨y, hy, r⟩ := I.en.slot ho
    cases r with
    | @own a vs _ m kr =>
      refine ⟨_, hy, .inl ⟨rfl, vs, .inl (.inl (I.at_.v _ m))⟩, h _ σ H I.en I.at_ _ fun v H1 e1 a1 v1 => ?_⟩
      cases v1
      have k1 := kr.mono e1
      have kl : vs.length = ds.length := k1.length
      have klt := (List.getElem?_eq_some_iff.mp hk).1
      obtain ⟨w, hw, hwd⟩ := k1.get k d hk
      have gen : ∀ {zz : Z} {H : Hp} (vs : List V) (ds : List PyData) (j : Nat), DaAll zz H vs ds → DaAll zz H (vs.eraseIdx j) (ds.eraseIdx j) := by
        intro zz H vs
        induction vs with
        | nil => intro ds j h; cases h; exact .nil
        | cons x vs ih =>
          intro ds j h
          cases h with
          | cons h1 h2 =>
            cases j with
            | zero => exact h2
            | succ j => exact .cons h1 (ih _ j h2)
      obtain ⟨vol', I', re⟩ := I.writeR ho hy m e1 a1 (gen vs ds k k1)
      have six : seqIndex? (k : Int) vs.length = some k := by
        have h0 : ¬ ((k : Int) < 0) := by omega
        have h1 : (decide ((0 : Int) ≤ (k : Int)) && decide ((k : Int) < (vs.length : Int))) = true := by
          rw [decide_eq_true (by omega), decide_eq_true (by omega)]
          rfl
        unfold seqIndex?
        simp only [if_neg h0]
        rw [if_pos h1, Int.toNat_natCast]
      refine ⟨a, vs, (k : Int), k, w, rfl, rfl, a1.v _ m, by omega, by omega, six, hw, ?_⟩
      exact kk z Hc _ vol' _ (I'.set (.refl _) I'.at_ l (hwd.re re)) D q⟩
end
end DL


set_option Elab.async false
set_option linter.all false
set_option maxRecDepth 100000
namespace DL
open PySem PySem.Spec PyProof.Rows L2
variable [TabT]
section
variable {X : Cx} {z : Z} {es : List Sl} {s : S} {elt cond : Expr} {ds : List PyData} {o : Out} {rest : List Stmt} {pos p p1 p2 p3 p4 p5 p6 : Pos}
/-- the turns of a comprehension, what it walks being an own list -/
theorem lc_allP {te : TE} {tt : TT} {g : TG} {ws : List Nat} {n : Nat} {J : It} {G : Hp → Prop} {Y : Nat → Hp → V → Hp → Prop} (wk : Walk J n G Y) {σ : L2.St} {H1 : Hp} {D : Addr} (T U : Nat → S) (a1 : At z H1 (T 0)) (hD : H1 D = none) (esT : Nat → List Sl)
    (hG : ∀ H' o i, Ez z H1 H' → At (z.add D o) H' (T i) → G H') (turn : ∀ (i : Nat) (x : V) (H' H2 : Hp) (o : HO), i < n → Ez z H1 H' → Y i H' x H2 → At (z.add D o) H' (T i) → ∀ Q : L2.St → Hp → Prop, (∀ σ2 H3, wipe σ2 ws = wipe σ ws → Ez (z.add D o) H' H3 → At (z.add D o) H3 (T i) → En (z.add D o) H3 σ2 (esT i) → Q σ2 H3) → g x (wipe σ ws) H2 Q) (hl : n ≤ 100000) (kb : Nat → Bool) (A : Nat → List PyData) (hA0 : A 0 = [])
    (Ht : ∀ (z' : Z) (i : Nat), i < n → ∀ σ H, En z' H σ (esT i) → At z' H (T i) → ∀ Q : Bool → Hp → Prop, (∀ H2, Ez z' H H2 → At z' H2 (U i) → Q (kb i) H2) → tt σ H Q)
    (He : ∀ (z' : Z) (i : Nat), i < n → kb i = true → ∃ y, A (i + 1) = A i ++ [y] ∧ ∀ σ H, En z' H σ (esT i) → At z' H (U i) → ∀ Q : VK, (∀ v H2, Ez z' H H2 → At z' H2 (T (i + 1)) → Da z' H2 v y → Q v H2) → te σ H Q)
    (hn : ∀ (i : Nat), i < n → kb i = false → A (i + 1) = A i ∧ T (i + 1) = U i) {Qd : Hp → Prop} (hQ : ∀ H' acc, Ez z H1 H' → H' D = some (.lst acc) → At (z.add D (.lst acc)) H' (T n) → DaAll (z.add D (.lst acc)) H' acc (A n) → Qd H') :
    ∃ W : Nat → Nat → Hp → Prop, (∃ m, W 0 m (upd H1 D (.lst []))) ∧ ∀ i m H, W i m H → (J.stop i H ∧ Qd H) ∨ (J.go i H ∧ ∃ Nx : Hp → Prop, (∀ H', Nx H' → ∃ m', m' < m ∧ W (i + 1) m' H') ∧ ∀ x H', J.yld i H x H' → g x (wipe σ ws) H' fun σ2 H2 => wipe σ2 ws = wipe σ ws ∧ tt σ2 H2 fun b H3 =>
        if b = true then te σ2 H3 fun y H4 => ∃ acc, H4 D = some (.lst acc) ∧ acc.length < sizeLine ∧ Nx (upd H4 D (.lst (acc ++ [y]))) else Nx H3) := by
  have lA : ∀ i, i ≤ n → (A i).length ≤ i := by
    intro i
    induction i with
    | zero => intro _; rw [hA0]; exact Nat.le_refl _
    | succ i ih =>
      intro hi
      cases hk : kb i with
      | true =>
        obtain ⟨y, hy, _⟩ := He z i (by omega) hk
        rw [hy, List.length_append]
        have := ih (by omega)
        simp
        omega
      | false =>
        rw [(hn i (by omega) hk).1]
        have := ih (by omega)
        omega
  have reach : ∀ {H' : Hp} {o : HO}, Ez z H1 H' → ∀ (b : Addr) (u : HO), Fz z b → H1 b = some u → Fz (z.add D o) b ∧ H' b = some u := fun e b u fb hb => ⟨fb.to_add (ne_of_none hb hD), e b u fb hb⟩
  have up : ∀ {H' H2 : Hp} {o : HO}, Ez z H1 H' → Ez (z.add D o) H' H2 → Ez z H1 H2 := fun e e2 b u fb hb => e2 b u (fb.to_add (ne_of_none hb hD)) (e b u fb hb)
  refine lc_it wk (fun i H' => Ez z H1 H' ∧ ∃ acc, H' D = some (.lst acc) ∧ At (z.add D (.lst acc)) H' (T i) ∧ DaAll (z.add D (.lst acc)) H' acc (A i)) ?_ (fun i H' _ w => by
    obtain ⟨e, acc, h1, h2, _⟩ := w
    exact hG H' _ i e h2) ?_ ?_
  · refine ⟨.new hD, [], upd_same, ⟨?_, ?_, ?_, tabs_new a1.t hD⟩, ?_⟩
    · intro b hb
      rw [upd_ne (ne_of_none (a1.d b hb) hD)]
      exact a1.d b hb
    · intro p hp
      rcases List.mem_cons.mp hp with e | e
      · rw [e]
        exact upd_same
      · rw [upd_ne (ne_of_none (a1.v p e) hD)]
        exact a1.v p e
    · intro p hp
      rcases List.mem_cons.mp hp with e | e
      · refine ⟨fun e2 => ?_, [], by rw [e]⟩
        rw [e] at e2
        have := a1.d D e2
        rw [this] at hD
        cases hD
      · exact a1.n p e
    · rw [hA0]
      exact .nil
  · intro i x H0 H' hi w hy
    obtain ⟨e2, acc, hDa, a2, rA⟩ := w
    refine turn i x H0 H' (.lst acc) hi e2 hy a2 _ fun σ2 H5 hw e5 a5 en2 => ⟨hw, ?_⟩
    refine Ht _ i hi _ H5 en2 a5 _ fun H3 e30 a3 => ?_
    have e3 := e5.trans e30
    have hD3 : H3 D = some (.lst acc) := a3.v (D, .lst acc) (List.mem_cons_self ..)
    cases hk : kb i with
    | false =>
      obtain ⟨n1, n2⟩ := hn i hi hk
      refine iteF ⟨up e2 e3, acc, hD3, by rw [n2]; exact a3, by rw [n1]; exact rA.mono e3⟩
    | true =>
      obtain ⟨y, hy, go⟩ := He (z.add D (.lst acc)) i hi hk
      refine iteT (go _ H3 (en2.mono e30) a3 _ fun v H4 e4 a4 v4 => ?_)
      have hD4 : H4 D = some (.lst acc) := a4.v (D, .lst acc) (List.mem_cons_self ..)
      have rA4 := (rA.mono e3).mono e4
      have la := rA4.length
      have := lA i (by omega)
      have far : ∀ (b : Addr) (u : HO), Fz (z.add D (.lst acc)) b → H4 b = some u → Fz (z.add D (.lst (acc ++ [v]))) b ∧ upd H4 D (.lst (acc ++ [v])) b = some u := fun b u fb hb => by
        obtain ⟨f1, f2⟩ := fb.of_add
        exact ⟨f1.to_add f2, by rw [upd_ne f2]; exact hb⟩
      refine ⟨acc, hD4, Nat.lt_of_lt_of_le (show acc.length < 100001 by omega) (by decide), ?_, acc ++ [v], upd_same, ⟨?_, ?_, ?_, tabs_upd a4.t hD4⟩, ?_⟩
      · intro b u fb hb
        rw [upd_ne (ne_of_none hb hD)]
        exact up (up e2 e3) e4 b u fb hb
      · intro b hb
        rw [upd_ne (fun e => (a4.n (D, .lst acc) (List.mem_cons_self ..)).1 (by rw [← e]; exact hb))]
        exact a4.d b hb
      · intro p hp
        rcases List.mem_cons.mp hp with e | e
        · rw [e]
          exact upd_same
        · have h1 := a1.v p e
          rw [upd_ne (ne_of_none h1 hD)]
          exact a4.v p (List.mem_cons_of_mem _ e)
      · intro p hp
        rcases List.mem_cons.mp hp with e | e
        · rw [e]
          exact ⟨(a4.n (D, .lst acc) (List.mem_cons_self ..)).1, _, rfl⟩
        · exact a4.n p (List.mem_cons_of_mem _ e)
      · rw [hy]
        exact (rA4.re far).app (.cons (v4.re far) .nil)
  · intro H' w
    obtain ⟨e2, acc, hDa, a2, rA⟩ := w
    exact hQ H' acc e2 hDa a2 rA
/-- y = [e for i, x in enumerate(own) if c]: what is let, as a list of one's own -/
theorem so_lcEIfO {j k m l : Nat} {x y v u : Str} {scope : Scope} {kt : Nat} {py spos : Pos} (hc : X.calm = true) (hN : X.N.Nodup) (hm : X.mg "enumerate" = none) (hjk : j ≠ k) (kb : Nat → Bool) (ho : es[m]? = some (.own ds)) (hNm : X.N[m]? = some u) (hvi : Vis X.env.scope u) (hl : ds.length ≤ 100000) (hB : BlkOk X.N X.env.scope scope [(x, j), (y, k)])
    (hg : PgIn X scope (.Tuple [.Name x p, .Name y p1] kt p2) (gTup X.K 2 (gCons (gName j) (gCons (gName k) gNil))))
    (Ht : ∀ (i : Nat) d, ds[i]? = some d → ∀ z' : Z, Blk X scope fun Y => ET Y z' cond ((es.set j (.val (.int (i : Int)))).set k (.val d)) s (kb i) s)
    (He : ∀ (i : Nat) d, ds[i]? = some d → ∀ z' : Z, Blk X scope fun Y => EV Y z' elt ((es.set j (.val (.int (i : Int)))).set k (.val d)) s (.int (i : Int)) s)
    (kk : SO X rest (es.set l (.own (((List.range ds.length).filter kb).map fun i : Nat => PyData.int ((i : Nat) : Int)))) s o) (hi : X.N[l]? = some v := by rfl) (hy : List.lookup v X.env.scope.names = some NameKind.local := by rfl)
    (hsw : swapsWith (.ListComp elt [{ target := .Tuple [.Name x p, .Name y p1] kt p2, iter := .Call (.Name "enumerate" p3) [.Name u p5] [] p4, ifs := [cond], is_async := 0 }] scope pos) (some (.Name v py)) spos.line X.env = pure true := by exact sw_true rfl rfl rfl (by decide +kernel))
    (hd : (u == ("__debug__" : Str)) = false := by decide) (hcd : (u == ("__classdict__" : Str)) = false := by decide) (hgl : Gl X "enumerate" := by rfl) (hst : starEach [.Name u p5] X.env = [(false, eval (.Name u p5) X.env)] := by rfl)
    (hs : ∀ x, foldedSetIterable (.Call (.Name "enumerate" p3) [.Name u p5] [] p4) X.env x = pure x := by intro _; rfl) :
    SO X (.Assign [.Name v py] (.ListComp elt [{ target := .Tuple [.Name x p, .Name y p1] kt p2, iter := .Call (.Name "enumerate" p3) [.Name u p5] [] p4, ifs := [cond], is_async := 0 }] scope pos) spos :: rest) es s o := fun z Hc H vol σ I D q =>
  ⟨_, pss_cons (ps_setLc (i := l) (own := [(x, j), (y, k)]) hc hN hi hy hsw (pi_enum hgl hm (pa_cons (pe_var hNm hvi hd hcd) pa_nil hst) hst) hB hg tTs_ok tEl_ok hs) wB_ok, by
    obtain ⟨w, hw, r⟩ := I.en.slot ho
    cases r with
    | @own a xs _ mm kr =>
      have ha : H a = some (.lst xs) := I.at_.v _ mm
      have hx : xs.length = ds.length := kr.length
      have g1 : ∀ i, i < xs.length → ds[i]? = some (ds.getD i .none) := fun i hi => by
        rw [List.getD_eq_getElem?_getD, List.getElem?_eq_getElem (by omega)]
        rfl
      show tLc (iEnum X.K (tCons _ tNil)) (gTup X.K 2 (gCons (gName j) (gCons (gName k) gNil))) (tTs X scope cond) (tEl X scope elt) [j, k] σ H (fun v H1 => wB X rest D (σ.set l (some v)) H1)
      refine ⟨_, hw, a, xs, rfl, .inl (.inl ha), fun D' hD => ?_⟩
      let A : Nat → List PyData := fun i => ((List.range i).filter kb).map fun i : Nat => PyData.int ((i : Nat) : Int)
      have step : ∀ i, A (i + 1) = A i ++ (if kb i then [PyData.int ((i : Nat) : Int)] else []) := fun i => by
        show ((List.range (i + 1)).filter kb).map _ = _
        rw [List.range_succ, List.filter_append, List.map_append]
        congr 1
        cases hk : kb i
        · rw [List.filter_cons_of_neg (by rw [hk]; decide)]
          rfl
        · rw [List.filter_cons_of_pos hk]
          rfl
      refine lc_allP (g := gTup X.K 2 (gCons (gName j) (gCons (gName k) gNil))) (ws := [j, k]) (walk_enum (K := X.K) (a := a) (xs := xs)) (fun _ => s) (fun _ => s) I.at_ hD (fun i => (es.set j (.val (.int (i : Int)))).set k (.val (ds.getD i .none))) (fun H' oo i e a2 => ?_) (fun i x H' H2 oo hi e2 hY a2 Q q => ?_) (by omega) kb A rfl (fun z' i hi σ H en at_ Q q s0 H0 C cl fp => Ht i _ (g1 i hi) z' s0 H0 C cl fp σ H en at_ Q q)
        (fun z' i hi hk => ⟨_, by rw [step i, if_pos hk], fun σ H en at_ Q q s0 H0 C cl fp => He i _ (g1 i hi) z' s0 H0 C cl fp σ H en at_ Q q⟩) (fun i _ h => ⟨by rw [step i, if_neg (by rw [h]; decide), List.append_nil], rfl⟩) (fun H' acc e hD2 a2 r2 => ?_)
      · exact .inl (.inl (a2.v _ (List.mem_cons_of_mem _ mm)))
      · obtain ⟨T, u', v', rfl, nT, rfl, hu, hv⟩ := hY
        cases hu
        obtain ⟨d, hd', hdv⟩ := kr.getV i v' hv
        rw [g1 i hi] at hd'
        have hdv : Da (z.own vol) H v' (ds.getD i .none) := by rw [Option.some.inj hd']; exact hdv
        have e3 : Ez ((z.own vol).add D' oo) H' (upd H' T (.tup [.int (i : Int), v'])) := .new nT
        have reach : ∀ (b : Addr) (w : HO), Fz (z.own vol) b → H b = some w → Fz ((z.own vol).add D' oo) b ∧ upd H' T (.tup [.int (i : Int), v']) b = some w := fun b w fb hb => by
          have f := fb.to_add (o := oo) (ne_of_none hb hD)
          exact ⟨f, e3 b w f (e2 b w fb hb)⟩
        have w0 : wipe σ [j, k] = (σ.set k none).set j none := rfl
        have es2 : ((wipe σ [j, k]).set j (some (.int (i : Int)))).set k (some v') = (σ.set j (some (.int (i : Int)))).set k (some v') := by
          rw [w0, List.set_set, List.set_comm _ _ hjk, List.set_set, List.set_comm _ _ hjk.symm]
        refine ⟨T, [.int (i : Int), v'], rfl, .inl (.inl upd_same), rfl, .int (i : Int), [v'], rfl, v', [], rfl, rfl, ?_⟩
        rw [es2]
        have en0 : En ((z.own vol).add D' oo) (upd H' T (.tup [.int (i : Int), v'])) σ es := En.re (z := z.own vol) (z' := (z.own vol).add D' oo) rfl (fun q h => List.mem_cons_of_mem _ h) reach I.en
        refine q _ _ ?_ e3 (a2.new nT) ((en0.set j (.val (.int _))).set k (.val (hdv.re reach)))
        show (((σ.set j (some (.int (i : Int)))).set k (some v')).set k none).set j none = (σ.set k none).set j none
        rw [List.set_set, List.set_comm _ _ hjk, List.set_set, List.set_comm _ _ hjk.symm]
      · rw [hx] at r2
        exact kk z Hc H' _ _ (I.fresh l (.refl _) I.at_ hD e a2 r2) D q⟩
end
end DL


set_option Elab.async false
set_option linter.all false
set_option maxRecDepth 100000
namespace DL
open PySem PySem.Spec PyProof.Rows L2
variable [TabT]
/-! ### zip over a list and a tuple -/
/-- kind true: a tuple; kind false: a list -/
def SqK (kd : Bool) (K : PySem.W.Frag) (H : Hp) (a : Addr) (xs : List V) : Prop := match kd with
  | true => SqT K H a xs
  | false => SqL K H a xs
def ObK (kd : Bool) (h : Heap) (a : Addr) (us : Array Value) : Prop := match kd with
  | true => h.IsTuple a us
  | false => h.IsList a us
def ItK (kd : Bool) (h : Heap) (it a : Addr) (i : Nat) : Prop := match kd with
  | true => h.IsTupleIter it a i
  | false => h.IsListIter it a i
def itob (kd : Bool) (a : Addr) : Obj := match kd with
  | true => { cls := .type "tuple_iterator", data := .fields #[.ref a, .int 0 0] }
  | false => { cls := .type "list_iterator", data := .fields #[.ref a, .int 0 0] }
theorem SqK.inj {X : Cx} {pins : List (Addr × Obj)} {σ : L2.St} {H : Hp} {s : Shared} {kd : Bool} {a : Addr} {xs ys : List V} (I : Inv X pins σ H s) (p : SqK kd X.K H a xs) (q : SqK kd X.K H a ys) : xs = ys := by
  cases kd with
  | true => exact I.tuple_inj p q
  | false => exact I.list_inj p q
theorem SqK.obj {X : Cx} {pins : List (Addr × Obj)} {σ : L2.St} {H : Hp} {s : Shared} {kd : Bool} {a : Addr} {xs : List V} (I : Inv X pins σ H s) (p : SqK kd X.K H a xs) : ∃ us : List Value, Vals xs us ∧ ObK kd s.heap a us.toArray ∧ a < s.heap.objs.size := by
  cases kd with
  | true =>
    obtain ⟨us, r, q, _⟩ := I.tuple p
    obtain ⟨o, ho, _⟩ := id q
    exact ⟨us, r, q, Heap.lt_size ho⟩
  | false =>
    obtain ⟨us, r, q, _⟩ := I.list p
    exact ⟨us, r, q.isList, q.lt⟩
theorem ItK.drw {kd : Bool} {prog : Program} {w : World} {A : Around} (hh : A.handled = none) {it a : Addr} (ne : a ≠ it) (us : Array Value) : Draws prog w A it [it, a] us.size (fun i v => us[i]? = some v) (fun i h => ItK kd h it a i ∧ ObK kd h a us) := by
  cases kd with
  | true => exact Draws.tuple hh it a ne us
  | false => exact Draws.list hh it a ne us
theorem ItK.beg (kd : Bool) (a : Addr) (us : Array Value) : Begins (.ref a) (itob kd a) fun h => ObK kd h a us := by
  cases kd with
  | true => exact begins_tuple a us
  | false => exact begins_list a us
theorem ItK.keep {kd : Bool} {h h' : Heap} {it a : Addr} {i : Nat} (st : ItK kd h it a i) (k : ∀ o, h.get? it = some o → h'.get? it = some o) : ItK kd h' it a i := by
  cases kd with
  | true => exact st.at k
  | false => exact st.at k
theorem ItK.cell {kd : Bool} {h : Heap} {it a : Addr} {i : Nat} (st : ItK kd h it a i) : ∃ o, h.get? it = some o ∧ ∀ v, o.data ≠ .cell v := by
  cases kd with
  | true =>
    obtain ⟨o, e, _, d⟩ := st
    exact ⟨o, e, fun v q => by rw [d] at q; cases q⟩
  | false =>
    obtain ⟨o, e, _, d⟩ := st
    exact ⟨o, e, fun v q => by rw [d] at q; cases q⟩
theorem ItK.zero {kd : Bool} {h : Heap} {it a : Addr} (e : h.get? it = some (itob kd a)) : ItK kd h it a 0 := by
  cases kd with
  | true => exact ⟨_, e, rfl, rfl⟩
  | false => exact ⟨_, e, rfl, rfl⟩
/-- both as they stand at each turn, the items in new pairs -/
def ItzK (K : PySem.W.Frag) (k1 k2 : Bool) (a b : Addr) : It where
  go i H := ∃ (xs ys : List V) (x y : V), SqK k1 K H a xs ∧ SqK k2 K H b ys ∧ xs[i]? = some x ∧ ys[i]? = some y
  yld i H v H' := ∃ T x y, v = .ref T ∧ H T = none ∧ H' = upd H T (.tup [x, y]) ∧ (∀ xs, SqK k1 K H a xs → xs[i]? = some x) ∧ ∀ ys, SqK k2 K H b ys → ys[i]? = some y
  stop i H := ∃ xs ys : List V, SqK k1 K H a xs ∧ SqK k2 K H b ys ∧ (xs.length = i ∨ ys.length = i) ∧ i ≤ xs.length ∧ i ≤ ys.length
/-- what the five objects of the zip hold at turn i -/
def zst (k1 k2 : Bool) (a b : Addr) (N : Nat) (i : Nat) (h : Heap) : Prop := IsZip h (N + 4) (N + 2) (N + 3) .none ∧ IsTupOf2 h (N + 2) (.ref N) (.ref (N + 1)) ∧ (∃ x y, IsTupOf2 h (N + 3) x y) ∧ ItK k1 h N a i ∧ ItK k2 h (N + 1) b i
def five (N : Nat) : List Addr := [N + 4, N + 2, N + 3, N, N + 1]
theorem five_of {N : Nat} {c : Addr} (h : c ∈ five N) : c = N + 4 ∨ c = N + 2 ∨ c = N + 3 ∨ c = N ∨ c = N + 1 := by simpa [five] using h
theorem in_five {N : Nat} {c : Addr} (h : c = N + 4 ∨ c = N + 2 ∨ c = N + 3 ∨ c = N ∨ c = N + 1) : c ∈ five N := by simpa [five] using h
theorem turn_zipK {P : Program} {w : World} {K : PySem.W.Frag} {elts : List Expr} {kk : Nat} {tpos : Pos} {k1 k2 : Bool} {a b : Addr} {N : Nat} (ha : (a : Nat) < N) (hb : (b : Nat) < N) : Turn P w K (.Tuple elts kk tpos) (ItzK K k1 k2 a b) (five N) (N + 4) (zst k1 k2 a b N) where
  mem := in_five (.inl rfl)
  obj i h st c hc := by
    obtain ⟨s1, s2, ⟨x, y, s3⟩, s4, s5⟩ := st
    rcases five_of hc with q | q | q | q | q <;> subst q
    · exact ⟨_, s1, fun v q => nomatch q⟩
    · exact ⟨_, s2, fun v q => nomatch q⟩
    · exact ⟨_, s3, fun v q => nomatch q⟩
    · exact s4.cell
    · exact s5.cell
  keep i h h' st k := by
    obtain ⟨s1, s2, ⟨x, y, s3⟩, s4, s5⟩ := st
    exact ⟨k _ (in_five (.inl rfl)) _ s1, k _ (in_five (.inr (.inl rfl))) _ s2, ⟨x, y, k _ (in_five (.inr (.inr (.inl rfl)))) _ s3⟩, s4.keep fun o e => k _ (in_five (.inr (.inr (.inr (.inl rfl))))) o e, s5.keep fun o e => k _ (in_five (.inr (.inr (.inr (.inr rfl))))) o e⟩
  item := by
    intro X eP ew eK cm i pins s σ H E I hf st hg
    subst eP ew eK
    obtain ⟨s1, s2, ⟨x0, y0, s3⟩, s4, s5⟩ := st
    obtain ⟨xs, ys, x, y, g1, g2, g3, g4⟩ := hg
    obtain ⟨us, ra, oa, _⟩ := g1.obj I
    obtain ⟨ws, rb, ob, _⟩ := g2.obj I
    obtain ⟨u, hu, ru⟩ := ra.get g3
    obtain ⟨u2, hu2, ru2⟩ := rb.get g4
    have hd : X.A.in1.handled = none := I.ok.hd cm
    have na : (a : Nat) ≠ N := Nat.ne_of_lt ha
    have nb : (b : Nat) ≠ N + 1 := Nat.ne_of_lt (Nat.lt_succ_of_lt hb)
    have iu : i < us.toArray.size := by
      have := (List.getElem?_eq_some_iff.mp hu).1
      simpa using this
    have iw : i < ws.toArray.size := by
      have := (List.getElem?_eq_some_iff.mp hu2).1
      simpa using this
    refine wpAny_pyNext_zipD2_item (zip_sep2 (fp1 := [a]) (fp2 := [b]) (by simpa using ha) (by simpa using hb)) (ItK.drw hd na us.toArray) (ItK.drw hd nb ws.toArray) s1 s2 s3 ⟨s4, oa⟩ ⟨s5, ob⟩ iu iw fun x1 x2 h1 tk p1 p2 z1 t1 d1 d2 nt sz kp => ?_
    have e1 : x1 = u := by
      have p1' : us[i]? = some x1 := by simpa using p1
      rw [hu] at p1'
      exact (Option.some.inj p1').symm
    have e2 : x2 = u2 := by
      have p2' : ws[i]? = some x2 := by simpa using p2
      rw [hu2] at p2'
      exact (Option.some.inj p2').symm
    subst e1
    subst e2
    have zl : (N + 4 : Nat) < s.heap.objs.size := Heap.lt_size s1
    refine ⟨_, rfl, wpAny_letOwnedTupleGo_zip (s := { s with heap := h1, toks := tk }) z1 fun h2 z2 sb => ?_⟩
    have low : ∀ {c : Addr}, c ∈ five N → (c : Nat) < s.heap.objs.size := fun {c} hc => by
      have : (c : Nat) ≤ N + 4 := by
        rcases five_of hc with q | q | q | q | q <;> subst q <;> first | exact Nat.le_refl _ | exact Nat.add_le_add_left (by decide) _ | exact Nat.le_add_right _ _
      exact Nat.lt_of_le_of_lt this zl
    have two : h2.get? s.heap.objs.size = some { cls := .type "tuple", data := .seq #[x1, x2] } := (sb.2 _ (Nat.ne_of_gt zl)).trans nt
    have nw : ObjOk X.prog X.w (upd H s.heap.objs.size (.tup [x, y])) h2 s.heap.objs.size (.tup [x, y]) := ⟨(by decide : (2 : Nat) ≤ sizeLine), [x1, x2], .cons ru (.cons ru2 .nil), ⟨_, two, rfl, _, rfl⟩⟩
    have far : ∀ c o, c ∉ five N → s.heap.get? c = some o → h2.get? c = some o := fun c o hc q => (sb.2 c fun e => hc (in_five (.inl e))).trans (kp c o (fun e => hc (in_five (.inl e))) (fun e => hc (in_five (.inr (.inr (.inl e))))) (fun e => hc (in_five (.inr (.inr (.inr (.inl e)))))) (fun e => hc (in_five (.inr (.inr (.inr (.inr e)))))) q)
    have J := I.turnedNew (t' := tk) (ch := five N) far hf (Nat.le_refl _) nw
    refine ⟨.ref s.heap.objs.size, _, J, rfl, ⟨_, x, y, rfl, I.hok.fresh (Nat.le_refl _), rfl, fun l hl => ?_, fun l hl => ?_⟩, ⟨z2, ?_, ⟨x1, x2, ?_⟩, ?_, ?_⟩, fun c hc => ?_⟩
    · rw [hl.inj I g1]
      exact g3
    · rw [hl.inj I g2]
      exact g4
    · exact (sb.2 _ (show (N + 2 : Nat) ≠ N + 4 by omega)).trans (kp _ _ (show (N + 2 : Nat) ≠ N + 4 by omega) (show (N + 2 : Nat) ≠ N + 3 by omega) (show (N + 2 : Nat) ≠ N by omega) (show (N + 2 : Nat) ≠ N + 1 by omega) s2)
    · exact (sb.2 _ (show (N + 3 : Nat) ≠ N + 4 by omega)).trans t1
    · exact d1.1.keep fun o q => (sb.2 _ (show (N : Nat) ≠ N + 4 by omega)).trans q
    · exact d2.1.keep fun o q => (sb.2 _ (show (N + 1 : Nat) ≠ N + 4 by omega)).trans q
    · rw [upd_ne (Nat.ne_of_lt (low hc))]
      exact (hf c hc).1
  done := by
    intro X eP ew eK cm i pins s σ H E I hf st hg
    subst eP ew eK
    obtain ⟨s1, s2, ⟨x0, y0, s3⟩, s4, s5⟩ := st
    obtain ⟨xs, ys, g1, g2, en, l1, l2⟩ := hg
    obtain ⟨us, ra, oa, _⟩ := g1.obj I
    obtain ⟨ws, rb, ob, _⟩ := g2.obj I
    have hd : X.A.in1.handled = none := I.ok.hd cm
    have na : (a : Nat) ≠ N := Nat.ne_of_lt ha
    have nb : (b : Nat) ≠ N + 1 := Nat.ne_of_lt (Nat.lt_succ_of_lt hb)
    have q1 : us.toArray.size = xs.length := by rw [List.size_toArray, ← ra.length]
    have q2 : ws.toArray.size = ys.length := by rw [List.size_toArray, ← rb.length]
    exact wpAny_pyNext_zipD2_end (zip_sep2 (fp1 := [a]) (fp2 := [b]) (by simpa using ha) (by simpa using hb)) (ItK.drw hd na us.toArray) (ItK.drw hd nb ws.toArray) s1 s2 s3 ⟨s4, oa⟩ ⟨s5, ob⟩ (by omega) (by omega) (by omega) fun h1 tk kp => ⟨rfl, I.turnedL (t' := tk) (ch := five N) (fun c o hc q => kp c o (fun e => hc (in_five (.inl e))) (fun e => hc (in_five (.inr (.inr (.inl e))))) (fun e => hc (in_five (.inr (.inr (.inr (.inl e)))))) (fun e => hc (in_five (.inr (.inr (.inr (.inr e)))))) q) hf⟩
  self A i s Q E st h := wpAny_pyIter_zip st.1 h
def iZipK (K : PySem.W.Frag) (k1 k2 : Bool) (ta : TA) : TI := fun σ H R => ta σ H fun vs H1 => ∃ a b xs ys, vs = [.ref a, .ref b] ∧ SqK k1 K H1 a xs ∧ SqK k2 K H1 b ys ∧ R (ItzK K k1 k2 a b) H1
theorem pi_zipK {X : Cx} {k1 k2 : Bool} {e e2 : Expr} {ta : TA} {p pos tpos : Pos} {elts : List Expr} {kk : Nat} (hg : Gl X "zip") (hm : X.mg "zip" = none) (ha : PA X [e, e2] ta) (hs : starEach [e, e2] X.env = (false, eval e X.env) :: starEach [e2] X.env := by rfl) (hpl : (backTo pos (starEach [e2] X.env)).any (·.1) = false := by rfl) : PI X (.Tuple elts kk tpos) (.Call (.Name "zip" p) [e, e2] [] pos) (iZipK X.K k1 k2 ta) := ⟨fun pins s σ H R I h => by
  refine Call_ (ld_blt I hg hm PyProof.Rows.boot_zip (PyProof.Rows.callWith_type1 (thn (ha.run pos pins s σ H _ I h) fun us s1 ⟨vs, H1, I1, r1, q1⟩ => ?_) hs hpl))
  obtain ⟨a, b, xs, ys, ev, g1, g2, q⟩ := q1
  subst ev
  cases r1 with
  | cons ra rr =>
    cases rr with
    | cons rb rr =>
      cases rr
      cases ra
      cases rb
      obtain ⟨us, _, oa, la⟩ := g1.obj I1
      obtain ⟨ws, _, ob, lb⟩ := g2.obj I1
      refine zip_begins2 (ItK.beg k1 a us.toArray) (ItK.beg k2 b ws.toArray) oa ob fun h1 z1 t1 t2 c1 c2 sz kp => wpAny_pyIter_zip z1 ?_
      have J : Inv X pins σ H1 { s1 with heap := h1 } := I1.kept (t' := s1.toks) kp
      refine ⟨s1.heap.objs.size + 4, five s1.heap.objs.size, _, _, H1, rfl, J, turn_zipK la lb, ⟨z1, t1, ⟨_, _, t2⟩, .zero c1, .zero c2⟩, fun c hc => ?_, q⟩
      have up : s1.heap.objs.size ≤ (c : Nat) := by
        rcases five_of hc with w | w | w | w | w <;> subst w <;> first | exact Nat.le_refl _ | exact Nat.le_add_right _ _
      exact I1.fpOk up (I1.hok.fresh up)⟩
theorem walk_zipK {K : PySem.W.Frag} {k1 k2 : Bool} {a b : Addr} {xs ys : List V} {n : Nat} (h1 : n = xs.length) (h2 : n = ys.length) : Walk (ItzK K k1 k2 a b) n (fun H => SqK k1 K H a xs ∧ SqK k2 K H b ys) (YPair (fun i => xs[i]?) (fun i => ys[i]?)) :=
  ⟨fun i _ hi q => ⟨xs, ys, xs[i], ys[i], q.1, q.2, List.getElem?_eq_getElem (by omega), List.getElem?_eq_getElem (by omega)⟩, fun _ q => ⟨xs, ys, q.1, q.2, .inl h1.symm, by omega, by omega⟩, fun i H v H' _ q y => by
    obtain ⟨T, x, z, e1, e2, e3, e4, e5⟩ := y
    exact ⟨T, x, z, e1, e2, e3, e4 xs q.1, e5 ys q.2⟩⟩
/-- the datum of a kind -/
def dK (kd : Bool) (ds : List PyData) : PyData := if kd then .tuple ds else .list ds
theorem Da.seq {X : Cx} {z : Z} {H : Hp} {v : V} {kd : Bool} {ds : List PyData} (h : Da z H v (dK kd ds)) : ∃ a vs, v = .ref a ∧ SqK kd X.K H a vs ∧ (∀ H', Ez z H H' → SqK kd X.K H' a vs) ∧ DaAll z H vs ds := by
  cases kd with
  | true =>
    cases h with
    | tup n e r => exact ⟨_, _, rfl, .inl (.inl e), fun H' k => .inl (.inl (k _ _ n e)), r⟩
  | false =>
    cases h with
    | lst n e r => exact ⟨_, _, rfl, .inl (.inl e), fun H' k => .inl (.inl (k _ _ n e)), r⟩
section
variable {X : Cx} {z : Z} {es : List Sl} {s : S} {elt a b : Expr} {ds fs : List PyData} {pos p p1 p2 p3 p4 : Pos}
/-- [e for x, y in zip(l, t)], a list and a tuple, in any order -/
theorem ev_lcZK (k1 k2 : Bool) {j k : Nat} {x y : Str} {scope : Scope} {kt : Nat} (hc : X.calm = true) (hN : X.N.Nodup) (hm : X.mg "zip" = none) (hjk : j ≠ k) (f : PyData → PyData → PyData) (hit : ED X z [a, b] es s [dK k1 ds, dK k2 fs] s) (hlen : ds.length = fs.length) (hl : ds.length ≤ 100000) (hB : BlkOk X.N X.env.scope scope [(x, j), (y, k)]) (hg : PgIn X scope (.Tuple [.Name x p, .Name y p1] kt p2) (gTup X.K 2 (gCons (gName j) (gCons (gName k) gNil))))
    (He : ∀ (i : Nat) (d1 d2 : PyData), ds[i]? = some d1 → fs[i]? = some d2 → ∀ z' : Z, Blk X scope fun Y => EV Y z' elt ((es.set j (.val d1)).set k (.val d2)) s (f d1 d2) s) (hgl : Gl X "zip" := by rfl) (hst : starEach [a, b] X.env = (false, eval a X.env) :: starEach [b] X.env := by rfl) (hpl : (backTo p4 (starEach [b] X.env)).any (·.1) = false := by rfl) (hs : ∀ x, foldedSetIterable (.Call (.Name "zip" p3) [a, b] [] p4) X.env x = pure x := by intro _; rfl) :
    EV X z (.ListComp elt [{ target := .Tuple [.Name x p, .Name y p1] kt p2, iter := .Call (.Name "zip" p3) [a, b] [] p4, ifs := [], is_async := 0 }] scope pos) es s (.list (List.zipWith f ds fs)) s :=
  .mk (pe_lc (own := [(x, j), (y, k)]) hc hN (pi_zipK (k1 := k1) (k2 := k2) hgl hm wA_ok hst hpl) hB hg (fun _ _ _ _ _ => pts_nil) tEl_ok hs) fun σ H en at_ Q q => hit σ H en at_ _ fun vs H1 e1 a1 v1 => by
    cases v1 with
    | cons h1 r =>
      cases r with
      | cons h2 r =>
        cases r
        obtain ⟨a0, xs, rfl, g1, g1k, r1⟩ := h1.seq (X := X)
        obtain ⟨b0, ys, rfl, g2, g2k, r2⟩ := h2.seq (X := X)
        have hx : xs.length = ds.length := r1.length
        have hy : ys.length = fs.length := r2.length
        have t1 : ∀ i, i < ds.length → ds[i]? = some (ds.getD i .none) := fun i hi => by
          rw [List.getD_eq_getElem?_getD, List.getElem?_eq_getElem hi]
          rfl
        have t2 : ∀ i, i < ds.length → fs[i]? = some (fs.getD i .none) := fun i hi => by
          rw [List.getD_eq_getElem?_getD, List.getElem?_eq_getElem (by omega)]
          rfl
        have zl : (List.zipWith f ds fs).length = ds.length := by rw [List.length_zipWith]; omega
        refine ⟨a0, b0, xs, ys, rfl, g1, g2, fun D hD => ?_⟩
        refine lc_two (K := X.K) (walk_zipK (K := X.K) (k1 := k1) (k2 := k2) (a := a0) (b := b0) (xs := xs) (ys := ys) (n := ds.length) (by omega) (by omega)) (fun _ => s) (fun _ => s) (en.mono e1) a1 hD hjk (fun i => ds.getD i .none) (fun i => fs.getD i .none) (fun H' e => ⟨g1k _ e, g2k _ e⟩) (fun i x H' H2 hi eH hY => ?_) hl (fun _ => true) (fun i => (List.zipWith f ds fs).take i) rfl (fun z' i hi σ H en at_ Q q => q H (.refl H) at_) (fun z' i hi _ => ⟨f (ds.getD i .none) (fs.getD i .none), by
            rw [List.take_add_one, List.getElem?_zipWith, t1 i hi, t2 i hi]
            rfl, fun σ H en at_ Q q s0 H0 C cl fp => He i _ _ (t1 i hi) (t2 i hi) z' s0 H0 C cl fp σ H en at_ Q q⟩) (fun i _ h => by cases h) (fun H' e a2 d2 => ?_)
        · obtain ⟨T, u, v, rfl, nT, rfl, hu, hv⟩ := hY
          obtain ⟨d, hd, hdu⟩ := r1.getV i u hu
          obtain ⟨d', hd', hdv⟩ := r2.getV i v hv
          rw [t1 i hi] at hd
          rw [t2 i hi] at hd'
          exact ⟨T, u, v, rfl, .inl (.inl upd_same), .inr ⟨nT, rfl⟩, by rw [Option.some.inj hd]; exact hdu, by rw [Option.some.inj hd']; exact hdv⟩
        · rw [show (List.zipWith f ds fs).take ds.length = List.zipWith f ds fs from List.take_of_length_le (by omega)] at d2
          exact q _ H' (e1.trans e) a2 d2
end
end DL


set_option Elab.async false
set_option linter.all false
set_option maxRecDepth 100000
namespace DL
open PySem PySem.Spec PyProof.Rows L2
variable [TabT]
section
variable {X : Cx} {z : Z} {es es1 : List Sl} {s s1 : S} {iter elt a b e : Expr} {ds fs : List PyData} {d : PyData} {o : Out} {rest body : List Stmt} {pos p p1 p2 p3 p4 p5 : Pos}
def nonD : PyData → Bool
  | .none => true
  | _ => false
theorem Da.non_iff {H : Hp} {v : V} (h : Da z H v d) : decide (v = V.non) = nonD d := by
  cases h <;> rfl
/-- e is None -/
theorem ev_isN {j} (h : EV X z e es s d s1) : EV X z (.Compare e [.Is] [.Constant .none j p1] pos) es s (.bool (nonD d)) s1 := .mk (pe_cmp (pc_isN wE_ok) (nomark _)) fun σ H en at_ Q q => h σ H en at_ _ fun v H1 e1 a1 v1 => by
  rw [v1.non_iff]
  exact q _ H1 e1 a1 (.bl _)
theorem et_isN {j} (h : EV X z e es s d s1) : ET X z (.Compare e [.Is] [.Constant .none j p1] pos) es s (nonD d) s1 := fun σ H en at_ Q q => ⟨_, pt_cmp (pc_isN wE_ok) (nomark _), h σ H en at_ _ fun v H1 e1 a1 v1 => ⟨_, rfl, by
  rw [v1.non_iff]
  exact q H1 e1 a1⟩⟩
/-- y = [e for x in range(n)], the state going along -/
theorem sr_lcR {j k : Nat} {x y : Str} {scope : Scope} {n : Nat} {py spos : Pos} (hc : X.calm = true) (hN : X.N.Nodup) (hm : X.mg "range" = none) (f : Nat → PyData) (T : Nat → S) (hit : ED X z [a] es s [.int (n : Int)] s1) (t0 : T 0 = s1) (hl : n ≤ 100000) (hB : BlkOk X.N X.env.scope scope [(x, j)]) (hg : PgIn X scope (.Name x p) (gName j))
    (He : ∀ i : Nat, i < n → ∀ z' : Z, Blk X scope fun Y => EV Y z' elt (es.set j (.val (.int (i : Int)))) (T i) (f i) (T (i + 1))) (kk : SR X z rest (es.set k (.val (.list ((List.range n).map f)))) (T n) o) (hi : X.N[k]? = some y := by rfl) (hy : List.lookup y X.env.scope.names = some NameKind.local := by rfl)
    (hsw : swapsWith (.ListComp elt [{ target := .Name x p, iter := .Call (.Name "range" p1) [a] [] p2, ifs := [], is_async := 0 }] scope pos) (some (.Name y py)) spos.line X.env = pure true := by exact sw_true rfl rfl rfl (by decide +kernel)) (hgl : Gl X "range" := by rfl) (hst : starEach [a] X.env = [(false, eval a X.env)] := by rfl) (hs : ∀ x, foldedSetIterable (.Call (.Name "range" p1) [a] [] p2) X.env x = pure x := by intro _; rfl) :
    SR X z (.Assign [.Name y py] (.ListComp elt [{ target := .Name x p, iter := .Call (.Name "range" p1) [a] [] p2, ifs := [], is_async := 0 }] scope pos) spos :: rest) es s o := fun σ H en at_ D q =>
  ⟨_, pss_cons (ps_setLc (i := k) (own := [(x, j)]) hc hN hi hy hsw (pi_range1 hgl hm wA_ok hst) hB hg (fun _ _ _ _ _ => pts_nil) tEl_ok hs) wB_ok, by
    show tLc (iRng1 (wA X [a])) (gName j) tYes (tEl X scope elt) [j] σ H (fun v H1 => wB X rest D (σ.set k (some v)) H1)
    refine hit σ H en at_ _ fun vs H1 e1 a1 v1 => ?_
    cases v1 with
    | cons h r =>
      cases r
      cases h
      refine ⟨(n : Int), rfl, by omega, by omega, fun D' hD => ?_⟩
      rw [Int.toNat_natCast]
      refine lc_gen (walk_range (lo := 0) (n := n)) T T (en.mono e1) (t0 ▸ a1) hD (fun i => .int (i : Int)) (fun H' e => trivial) (fun i x H' H2 hi hy => ⟨hy.1, ?_⟩) hl (fun _ => true) (fun i => (List.range i).map f) rfl (fun z' i hi σ H en at_ Q q => q H (.refl H) at_)
        (fun z' i hi _ => ⟨f i, by rw [List.range_succ, List.map_append]; rfl, fun σ H en at_ Q q s0 H0 C cl fp => He i hi z' s0 H0 C cl fp σ H en at_ Q q⟩) (fun i _ h => by cases h) (fun H' e a2 d2 => kk _ H' ((en.mono (e1.trans e)).set k (.val d2)) a2 D (q.mono (e1.trans e)))
      rw [hy.2]
      show Da z H1 (.int (0 + (i : Int))) _
      rw [Int.zero_add]
      exact .int _⟩
/-- for x, y in zip(..): a list and a tuple in any order -/
theorem sr_forZK (k1 k2 : Bool) (l m : Nat) {x y : Str} {kt : Nat} (hp : PassesOwn (model X.prog X.w) X.A X.env X.xe) (hc : X.calm = true) (hm : X.mg "zip" = none) (hlen : ds.length = fs.length) (h : ED X z [a, b] es s [dK k1 ds, dK k2 fs] s1) (E : Nat → List Sl) (T : Nat → S) (h0 : Le es (E 0)) (t0 : T 0 = s1)
    (hb : ∀ (i : Nat) d1 d2, ds[i]? = some d1 → fs[i]? = some d2 → SR X z body (((E i).set l (.val d1)).set m (.val d2)) (T i) (.nx (E (i + 1)) (T (i + 1)))) (k : SR X z rest (E ds.length) (T ds.length) o)
    (hg : PG X (.Tuple [.Name x p1, .Name y p2] kt p3) (gTup X.K 2 (gCons (gName l) (gCons (gName m) gNil)))) (hgl : Gl X "zip" := by rfl) (hst : starEach [a, b] X.env = (false, eval a X.env) :: starEach [b] X.env := by rfl) (hpl : (backTo p5 (starEach [b] X.env)).any (·.1) = false := by rfl) (hfo : ∀ x, foldedSetIterable (.Call (.Name "zip" p4) [a, b] [] p5) X.env x = pure x := by intro _; rfl) :
    SR X z (.For (.Tuple [.Name x p1, .Name y p2] kt p3) (.Call (.Name "zip" p4) [a, b] [] p5) body [] pos :: rest) es s o := fun σ H en at_ D q =>
  ⟨_, pss_cons (ps_for hp hc (pi_zipK (k1 := k1) (k2 := k2) hgl hm wA_ok hst hpl) hg wB_ok hfo) wB_ok, h σ H en at_ _ fun vs H1 e1 a1 v1 => by
    cases v1 with
    | cons h1 r =>
      cases r with
      | cons h2 r =>
        cases r
        obtain ⟨a0, xs, rfl, g1, g1k, r1⟩ := h1.seq (X := X)
        obtain ⟨b0, ys, rfl, g2, g2k, r2⟩ := h2.seq (X := X)
        have hx : xs.length = ds.length := r1.length
        have hy : ys.length = fs.length := r2.length
        refine ⟨a0, b0, xs, ys, rfl, g1, g2, for_it (walk_zipK (K := X.K) (k1 := k1) (k2 := k2) (a := a0) (b := b0) (xs := xs) (ys := ys) (n := ds.length) (by omega) (by omega)) (fun i σ' H' => Ez z H1 H' ∧ At z H' (T i) ∧ En z H' σ' (E i)) ⟨.refl _, t0 ▸ a1, (en.mono e1).le h0⟩ (fun i σ' H' _ w => ⟨g1k _ w.1, g2k _ w.1⟩) (fun i v σ' H' H2 hi w hY => ?_) fun σ' H' w => ?_⟩
        · obtain ⟨t, u, v', rfl, nt, rfl, hu, hv⟩ := hY
          obtain ⟨d1, hd1, hu'⟩ := r1.getV i u hu
          obtain ⟨d2, hd2, hv'⟩ := r2.getV i v' hv
          have e3 : Ez z H' (upd H' t (.tup [u, v'])) := .new nt
          refine ⟨t, _, rfl, .inl (.inl upd_same), rfl, _, _, rfl, _, _, rfl, rfl, ?_⟩
          exact hb i d1 d2 hd1 hd2 _ _ (((w.2.2.mono e3).set l (.val ((hu'.mono w.1).mono e3))).set m (.val ((hv'.mono w.1).mono e3))) (w.2.1.new nt) _ fun σ2 H3 e4 a4 n4 => ⟨w.1.trans (e3.trans e4), a4, n4⟩
        · exact k σ' H' w.2.2 w.2.1 D (q.mono (e1.trans w.1))⟩
end
end DL


set_option Elab.async false
set_option linter.all false
set_option maxRecDepth 100000
namespace DL
open PySem PySem.Spec PyProof.Rows L2 Builtin Builtin.ObjectAttr
variable [TabT]
/-! ### own exception classes over any built-in class of errors, with one field -/
/-- what the text says of the class: bmB is the built-in class's mro -/
structure OxC (K : PySem.W.Frag) (C : Addr) (newId : String) (bmB : List Value) (f : Str) : Prop where
  cls : ∃ nm q N bs bm sn sub ab col dd k0 k1 k2 k3 k5, K.lookup C = some (excClassObj nm q C N bs bm true sn sub ab col dd k0 k1 k2 k3 k5 newId) ∧ PySem.W.excTail bmB bm = true
  sa : PySem.W.findIn K (.ref C) "__setattr__" = some (some (.builtin "object.__setattr__"))
  no : PySem.W.findIn K (.ref C) f = some none
  exC : PySem.W.subIn K (.ref C) (.type "BaseException") = some true
  tyC : PySem.W.typeIn K (.ref C) = some (.type "type")
  kC : PySem.W.keepIn K (.ref C) = true
section
variable {X : Cx} {pins : List (Addr × Obj)} {σ : L2.St} {H : Hp} {s : Shared} {a C : Addr} {f : Str} {y : V} {u : Value} {Q : Unit → Shared → Prop} {E : Value → Shared → Prop} {A : Around} {newId B : String} {bmB : List Value}
/-- self.f = y in __init__ -/
theorem ox_store (T : OxC X.K C newId bmB f) (SF : StoreFacts B bmB "object.__setattr__" "object") (I : Inv X pins σ H s) (e : H a = some (exo a C none)) (ry : RelV y u)
    (h : ∀ dx s', H dx = none → dx ≠ a → Inv X pins σ (upd (upd H dx (exd dx [(f, y)])) a (exo a C (some dx))) s' → Q () s') : wpAny (model X.prog X.w) A (setAttr (.ref a) f u) Q E s := by
  obtain ⟨nm, q, N, bs, bm, sn, sub, ab, col, dd, k0, k1, k2, k3, k5, hC, ht⟩ := T.cls
  have hcl : PySem.W.clsIn X.K C = some { name := nm, bases := bs, mro := .ref C :: bm, ns := N, qualname := q, hasDict := true, slotNames := sn, subclasses := sub, abstract := ab, collection := col, hasDel := false } := by unfold PySem.W.clsIn; rw [hC] <;> rfl
  have ov : PySem.W.excOver X.K C bmB = true := by
    unfold PySem.W.excOver
    rw [hcl]
    show (C == C && PySem.W.excTail bmB bm) = true
    rw [ht, Bool.and_true]
    exact beq_self_eq_true C
  have tk : PySem.W.takerIn X.K C f = some none := by
    unfold PySem.W.takerIn
    rw [T.no]
    rfl
  obtain ⟨t1, ho⟩ := exo_at I.hok e
  obtain ⟨hp, g, d, t, os⟩ := s
  have xs : a ≠ hp.objs.size := Nat.ne_of_lt (Heap.lt_size ho)
  have lk : PySem.W.Looks (model X.prog X.w) hp (classData C) _ := PySem.W.looks_clsIn I.kIn hcl
  refine PySem.W.set_plain I.kIn (od := none) ⟨ho, rfl, rfl, trivial⟩ T.sa (PySem.W.osa_openX SF I.kIn (od := none) ⟨ho, rfl, rfl, trivial⟩ ov tk fun onT => ?_)
  show wpAny _ _ (storeInOwnDict (.ref a) (.ref C) _ f u onT) _ _ _
  unfold storeInOwnDict ownDictForStores
  repeat (first | with_reducible refine PySem.HandSPX.store_in_new ?_ ?_ | with_reducible refine wpAny_loadPart_at ho ?_ | with_reducible refine lk.at ?_ | wp_step)
  · exact ⟨_, #[], _, (Heap.get?_update_ne _ _ _ _ xs.symm).trans (Heap.get?_push_at rfl rfl), rfl, fun e he => absurd he (by simp), fun _ => rfl⟩
  · intro h' tk' hn sb
    have k : ∀ b o, b ≠ a → hp.get? b = some o → h'.get? b = some o := fun b o nb eb => (sb.2 b (Nat.ne_of_lt (Heap.lt_size eb))).trans ((Heap.get?_update_ne _ _ _ _ nb).trans (Heap.get?_push_of_some _ eb))
    have hx : h'.get? a = some ({ cls := .ref C, dict := some hp.objs.size, data := .fields #[.ref t1, .none, .none, .none, .bool false, .none] } : Obj) := (sb.2 a xs).trans (Heap.get?_update_self _ (Heap.get?_push_of_some _ ho) rfl)
    have nd : H hp.objs.size = none := I.hok.fresh (Nat.le_refl _)
    have below : ∀ {b : Addr} {o : Obj}, hp.get? b = some o → b ≠ hp.objs.size := fun eb => Nat.ne_of_lt (Heap.lt_size eb)
    have na : ∀ {b : Addr}, H b = none → b ≠ a := fun nb z => by
      rw [z, e] at nb
      cases nb
    have U : Un X.fs [] H (upd (upd H hp.objs.size (exd hp.objs.size [(f, y)])) a (exo a C (some hp.objs.size))) hp h' := {
      keep := fun b o eb nb _ _ => k b o (na nb) eb
      slot := fun b o eb nb _ _ => ⟨o.slots, k b o (na nb) eb⟩
      free := fun b o eb nb _ => by rw [upd_ne (na nb), upd_ne (below eb)]; exact nb
      there := fun b o eb _ => by
        by_cases hb : b = a
        · exact ⟨_, by rw [hb]; exact hx⟩
        · exact ⟨o, k b o hb eb⟩
      tups := fun b ys eb => by rw [upd_ne (at_ne e eb exo_tup), upd_ne (ne_of_none eb nd)]; exact eb
      frzs := fun b o v eb => by rw [upd_ne (at_ne e eb exo_frz), upd_ne (ne_of_none eb nd)]; exact eb
      tbls := fun b ps eb => ⟨#[], by rw [upd_ne (at_ne e eb exo_tbl), upd_ne (ne_of_none eb nd), eb]; simp⟩ }
    refine h hp.objs.size _ nd xs.symm (I.un (t' := tk') U fun b o eb => ?_)
    by_cases hb : b = a
    · rw [hb, upd_same] at eb
      cases eb
      rw [hb]
      exact exo_ok hx
    · rw [upd_ne hb] at eb
      by_cases hd : b = hp.objs.size
      · rw [hd, upd_same] at eb
        cases eb
        rw [hd]
        exact exd_ok hn (relO_put (fs := []) ry fun _ => True.intro)
      · rw [upd_ne hd] at eb
        refine (I.hok b o eb).stay (fun c v hc z => k c v ?_ z) (fun c hc => ?_) fun c ys hc => ?_
        · rcases hc with hc | hc
          · rw [hc]
            exact hb
          · exact at_ne e hc exo_own
        · rw [upd_ne (at_ne e hc exo_own), upd_ne (ne_of_none hc nd)]
          exact hc
        · rw [upd_ne (at_ne e hc exo_tup), upd_ne (ne_of_none hc nd)]
          exact hc
end
end DL


set_option Elab.async false
set_option linter.all false
set_option maxRecDepth 100000
namespace DL
open PySem PySem.Spec PyProof.Rows L2
variable [TabT]
/-! ### __init__, making, raising -/
section
variable {X : Cx} {o e : Expr} {es : List Expr} {to te : TE} {ta : TA} {f : Str} {C : Addr} {p p' pos : Pos} {newId B initId : String} {bmB : List Value}
/-- self.f = e, in the __init__ of the class at C -/
def tOx (C : Addr) (f : Str) (to te : TE) : TS := fun D σ H => te σ H fun y H1 => to σ H1 fun x H2 => ∃ a : Addr, x = .ref a ∧ H2 a = some (exo a C none) ∧ ∀ dx, H2 dx = none → dx ≠ a → D.nx σ (upd (upd H2 dx (exd dx [(f, y)])) a (exo a C (some dx)))
theorem ps_ox (T : OxC X.K C newId bmB f) (SF : StoreFacts B bmB "object.__setattr__" "object") (ho : PE X o to) (he : PE X e te) (hs : swapsWith e (some (.Attribute o f p')) pos.line X.env = pure false := by rfl) : PS X (.Assign [.Attribute o f p'] e pos) (tOx C f to te) := by
  refine ⟨fun pins s σ H D I h => plainObj_wpAny_Assign_Attribute (thn (he.run pins s σ H _ I h) fun v s1 ⟨y, H1, I1, r1, q1⟩ => thn (ho.run pins s1 σ H1 _ I1 q1) fun u s2 ⟨x, H2, I2, r2, a, ex, ea, q⟩ => ?_) hs⟩
  subst ex
  obtain rfl : u = Value.ref a := r2
  exact ox_store T SF I2 ea r1 fun dx s' n ne J => ⟨σ, _, J, q dx n ne⟩
/-- an __init__ that keeps its one argument -/
def spI (C : Addr) (f : Str) : Sp := fun vs H Q _ => ∃ (a : Addr) (v : V), vs = [.ref a, v] ∧ H a = some (exo a C none) ∧ ∀ dx, H dx = none → dx ≠ a → Q .non (upd (upd H dx (exd dx [(f, v)])) a (exo a C (some dx)))
theorem pmk_ox {CX : CXT} {x : Str} {fI : Addr} {k : Nat} {fd : FuncData} {ps : List Str} {sp : Sp} (T : OxC X.K C newId bmB f) (FB : ExcBaseFacts B newId initId bmB) (iC : PySem.W.findIn X.K (.ref C) "__init__" = some (some (.ref fI))) (tI : PySem.W.typeIn X.K (.ref fI) = some (.type "function"))
    (F1 : FnOk X.prog X.w X.K X.mg X.base CX k fI fd ps sp) (hr : Room (k + 1) X.A) (hb : Binds X.K fd ps []) (hx : Passes CX X (fun _ _ _ => False)) (hg : Gl X x) (hm : X.mg x = some (.ref C)) (ha : PA X (e :: es) ta)
    (hdb : (x == ("__debug__" : Str)) = false := by decide) (he : starEach (e :: es) X.env = (false, eval e X.env) :: starEach es X.env := by rfl) (hpl : (backTo pos (starEach es X.env)).any (·.1) = false := by rfl) :
    PMk X (.Call (.Name x p) (e :: es) [] pos) (tMkO C sp [] ta) := by
  intro pins s σ H Q I h
  obtain ⟨_, _, _, _, bm, _, _, _, _, _, _, _, _, _, _, hC, ht⟩ := T.cls
  refine wpAny_Call_Name_kw (ld_glob I hg hm (PySem.W.callWith_K (h₀ := X.base) I.ok.mod.kin T.kC (thn (ha.run pos pins s σ H _ I h) fun us s1 ⟨vs, H1, I1, r1, hz, q1⟩ => ⟨I1.kIn, ?_⟩) he hpl) hdb)
  show wpAny _ _ (call (.ref C) us) _ _ _
  obtain ⟨hp, g, dr, tk, os⟩ := s1
  let hp2 := (hp.push (PySem.W.kdv_tup us)).push (PySem.HandSPX.excO C hp.objs.size)
  have le1 : hp.objs.size ≤ hp.objs.size + 1 := Nat.le_succ _
  have q2 := q1 (hp.objs.size + 1) (I1.hok.fresh le1)
  have up : ∀ b o, hp.get? b = some o → hp2.get? b = some o := fun b o e => Heap.get?_push_of_some _ (Heap.get?_push_of_some _ e)
  have at2 : hp2.get? (hp.objs.size + 1) = some (PySem.HandSPX.excO C hp.objs.size) := by heap_get
  have J : Inv X pins σ (upd H1 (hp.objs.size + 1) (exo (hp.objs.size + 1) C none)) ⟨hp2, g, dr, tk, os⟩ := I1.laid (t' := tk) up le1 (exo_ok at2)
  have rv : Vals (V.ref (hp.objs.size + 1) :: (vs ++ [])) (Value.ref (hp.objs.size + 1) :: (us ++ [])) := .cons rfl (r1.append .nil)
  have ln : (Value.ref (hp.objs.size + 1) :: us ++ []).length = ps.length := (rv.length.symm.trans (F1.len _ _ _ _ q2))
  have sz : us.length ≤ sizeLine := by rw [← Paired.length r1, sizeLine_eq]; omega
  refine wpAny_call (PySem.HandSPX.call_own FB (fun Y => PySem.W.excTail_contains Y bm ht) (I1.kIn _ _ hC) (PySem.W.looks_findIn I1.kIn iC) (fun self => PySem.W.bind_fn I1.kIn self tI) sz (codeAny_mono (F1.run _ X.stack _ _ ⟨Value.ref (hp.objs.size + 1) :: us, []⟩ _ _ _ (fun _ _ _ => False) (hr.make C us []) (J.env0.make C us []) (hb _ (Value.ref (hp.objs.size + 1) :: us) J.kIn ln) rv q2) fun r s' hq => ?_))
  cases r with
  | error er => exact hx pins σ _ _ er s' J hq
  | ok fl =>
    cases fl with
    | ret u =>
      obtain ⟨v, H2, o2, b2, un, ok2, ru, ev, dx, fs, ea, ed, nd, q3⟩ := hq
      subst ev
      obtain ⟨h2, g2, d2, t2, o3⟩ := s'
      exact ⟨ru, mk_end (raises_own T.exC T.tyC) I1 le1 up un ok2 o2 b2 ea ed nd q3⟩
    | _ => exact hq.elim
end
/-- the heap behind: all that was there stands -/
theorem Ez.all {z : Z} {H H' : Hp} (h : ∀ b o, H b = some o → H' b = some o) : Ez z H H' := fun b o _ e => h b o e
theorem At.all {z : Z} {H H' : Hp} {s : S} (A : At z H s) (h : ∀ b o, H b = some o → H' b = some o) : At z H' s := ⟨fun a e => h a _ (A.d a e), fun p m => h p.1 _ (A.v p m), A.n, A.t.ext h⟩
def EM (X : Cx) (z : Z) (e : Expr) (es : List Sl) (s : S) (x : XD) (s' : S) : Prop := ∀ σ H, En z H σ es → At z H s → ∀ Q : XK, (∀ cls dx H', Ez z H H' → At z H' s' → En z H' σ es → XR z H' cls dx x → Q cls dx H') → ∃ t, PMk X e t ∧ t σ H Q
/-- what is told of an own class of errors with one field: its address, its __init__ -/
structure OxI (X : Cx) (x : Str) (C : Addr) (f : Str) (B newId initId : String) (bmB : List Value) : Prop where
  T : OxC X.K C newId bmB f
  FB : ExcBaseFacts B newId initId bmB
  I : ∃ fI fd ps, PySem.W.findIn X.K (.ref C) "__init__" = some (some (.ref fI)) ∧ PySem.W.typeIn X.K (.ref fI) = some (.type "function") ∧ FnOk X.prog X.w X.K X.mg X.base CX0 1 fI fd ps (spI C f) ∧ Binds X.K fd ps []
  m : X.mg x = some (.ref C)
section
variable {X : Cx} {z : Z} {es : List Sl} {s s1 s2 : S} {e : Expr} {d : PyData} {C : Addr} {f x : Str} {B newId initId : String} {bmB : List Value} {p p2 pos : Pos} {o : Out} {rest body els : List Stmt} {W : WX} {xd : XD} {c : Expr}
theorem em_ox (O : OxI X x C f B newId initId bmB) (hr : Room 2 X.A) (h : EV X z e es s d s1) (hg : Gl X x := by rfl) (hdb : (x == ("__debug__" : Str)) = false := by decide) (he : starEach [e] X.env = (false, eval e X.env) :: starEach [] X.env := by rfl) (hpl : (backTo pos (starEach [] X.env)).any (·.1) = false := by rfl) :
    EM X z (.Call (.Name x p) [e] [] pos) es s (.wf C f d) s1 := fun σ H en at_ Q q => by
  obtain ⟨fI, fd, ps, i1, i2, F, b⟩ := O.I
  refine ⟨_, pmk_ox (CX := CX0) O.T O.FB i1 i2 F hr b (fun _ _ _ _ _ _ _ h => h.elim) hg O.m (pa_cons wE_ok pa_nil he) hdb he hpl, h σ H en at_ _ fun v H1 e1 a1 v1 => ⟨by show 1 ≤ 1000; omega, fun a na => ⟨a, v, rfl, upd_same, fun dx nd ne => ⟨rfl, dx, [(f, v)], upd_same, by rw [upd_ne ne, upd_same], by rw [upd_ne ne] at nd; exact nd, ?_⟩⟩⟩⟩
  rw [upd_ne ne] at nd
  have keep : ∀ b o, H1 b = some o → (upd (del (upd (upd (upd H1 a (exo a C none)) dx (exd dx [(f, v)])) a (exo a C (some dx))) a) dx (.xd [(f, v)])) b = some o := fun b o eb => by
    have ba := ne_of_none eb na
    rw [upd_ne (ne_of_none eb nd), del_ne ba, upd_ne ba, upd_ne (ne_of_none eb nd), upd_ne ba]
    exact eb
  exact q _ _ _ (e1.trans (.all keep)) (a1.all keep) (en.mono (e1.trans (.all keep))) ⟨rfl, dx, v, rfl, a1.fresh nd, upd_same, v1.mono (.all keep)⟩
theorem em_pl {m : Str} {j} (F : ExcBaseFacts B newId initId bmB) (q : PySem.W.excIn X.K C bmB newId = true) (hm : X.mg x = some (.ref C)) (kC : PySem.W.keepIn X.K (.ref C) = true) (r : Raises X (.ref C)) (hg : Gl X x := by rfl) (hdb : (x == ("__debug__" : Str)) = false := by decide) :
    EM X z (.Call (.Name x p) [.Constant (.str m) j p2] [] pos) es s (.pl C) s := fun σ H en at_ Q k => ⟨_, pmk_own F q hm kC r hg hdb, k _ _ H (.refl H) at_ en ⟨rfl, rfl⟩⟩
def wM (X : Cx) (e : Expr) : L2.St → Hp → XK → Prop := fun σ H Q => ∃ t, PMk X e t ∧ t σ H Q
theorem wM_ok {e : Expr} : PMk X e (wM X e) := fun pins s σ H Q I ⟨t, h, q⟩ => h pins s σ H Q I q
theorem sr_raise (hc : X.calm = true) (tk : Takes X W) (h : EM X z e es s xd s1) : SR X z (.Raise (some e) none pos :: rest) es s (.ex W es xd s1) := fun σ H en at_ D q =>
  ⟨_, pss_cons (ps_raise hc tk wM_ok) wB_never, h σ H en at_ _ fun cls dx H' k a n r => q cls dx σ H' k a n r⟩
theorem so_raise (hc : X.calm = true) (tk : Takes X W) (h : ∀ z, EM X z e es s xd s1) : SO X (.Raise (some e) none pos :: rest) es s (.ex W es xd s1) := fun z Hc H vol σ I D q =>
  ⟨_, pss_cons (ps_raise hc tk wM_ok) wB_never, h _ σ H I.en I.at_ _ fun cls dx H' k a n r => q cls dx σ H' (I.ezc k) (I.atz a) (r.re fun a o f h => ⟨f.of_own.1, h⟩)⟩
/-! an expression that raises -/
def EX (X : Cx) (z : Z) (W : WX) (e : Expr) (es : List Sl) (s : S) (x : XD) (s' : S) : Prop := ∀ σ H, En z H σ es → At z H s → (∀ cls dx H', Ez z H H' → At z H' s' → En z H' σ es → XR z H' cls dx x → W cls dx σ H') → ∀ Q : VK, wE X e σ H Q
theorem sr_exprX (h : EX X z W e es s xd s1) (hs : swapsWith e none pos.line X.env = pure false := by rfl) : SR X z (.Expr e pos :: rest) es s (.ex W es xd s1) := fun σ H en at_ D q =>
  ⟨_, pss_cons (ps_expr wE_ok hs) wB_never, h σ H en at_ (fun cls dx H' k a n r => q cls dx σ H' k a n r) _⟩
theorem so_exprX (h : ∀ z, EX X z W e es s xd s1) (hs : swapsWith e none pos.line X.env = pure false := by rfl) : SO X (.Expr e pos :: rest) es s (.ex W es xd s1) := fun z Hc H vol σ I D q =>
  ⟨_, pss_cons (ps_expr wE_ok hs) wB_never, h _ σ H I.en I.at_ (fun cls dx H' k a n r => q cls dx σ H' (I.ezc k) (I.atz a) (r.re fun a o f h => ⟨f.of_own.1, h⟩)) _⟩
theorem sr_retX (h : EX X z W e es s xd s1) : SR X z (.Return (some e) pos :: rest) es s (.ex W es xd s1) := fun σ H en at_ D q =>
  ⟨_, pss_cons (ps_ret wE_ok) wB_never, h σ H en at_ (fun cls dx H' k a n r => q cls dx σ H' k a n r) _⟩
/-- if: the branch raises -/
theorem sr_ifX {fs : List Sl} (hc : ET X z c es s true s1) (h : SR X z body es s1 (.ex W fs xd s2)) : SR X z (.If c body els pos :: rest) es s (.ex W fs xd s2) := fun σ H en at_ D q =>
  ⟨_, pss_cons (ps_if wT_ok wB_ok wB_never) wB_never, hc σ H en at_ _ fun H1 e1 a1 => iteT (h σ H1 (en.mono e1) a1 _ fun cls dx σ' H' k a n r => q cls dx σ' H' (e1.trans k) a n r)⟩
theorem so_ifX {fs : List Sl} (hc : ∀ z, ET X z c es s true s1) (h : SO X body es s1 (.ex W fs xd s2)) : SO X (.If c body els pos :: rest) es s (.ex W fs xd s2) := fun z Hc H vol σ I D q =>
  ⟨_, pss_cons (ps_if wT_ok wB_ok wB_never) wB_never, hc _ σ H I.en I.at_ _ fun H1 e1 a1 => iteT (h z Hc H1 vol σ (I.step e1 a1) _ fun cls dx σ' H' k a r => q cls dx σ' H' k a r)⟩
end
/-! ### defs that may raise -/
inductive Res | ok (d : PyData) | ex (x : XD)
abbrev RelX := List Sl → S → Res → S → Prop
def spX (R : RelX) : Sp := fun vs H Q E => ∃ z as s r s', R as s r s' ∧ En z H (vs.map some) as ∧ At z H s ∧ match r with
  | .ok d => ∀ v H', Ez z H H' → At z H' s' → Da z H' v d → Q v H'
  | .ex x => ∀ cls dx H', Ez z H H' → At z H' s' → XR z H' cls dx x → E cls dx H'
def Dx (P : Program) (w : World) (K : PySem.W.Frag) (mg : Str → Option Value) (base : Heap) (k : Nat) (x : Str) (R : RelX) : Prop :=
  ∃ f fd ps, FnOk P w K mg base (L2.CX P w) k f fd ps (spX R) ∧ mg x = some (.ref f) ∧ PySem.W.keepIn K (.ref f) = true ∧ Binds K fd ps []
theorem dx_of {P : Program} {w : World} {K : PySem.W.Frag} {mg : Str → Option Value} {base : Heap} {x qual : Str} {st : Stmt} {f : Addr} {fd : FuncData} {ps : List Str} {k : Nat} {R : RelX} (F : Fun K x qual st f fd) (O : FnOk P w K mg base (L2.CX P w) k f fd ps (spX R)) (hm : mg x = some (.ref f)) (hb : Binds K fd ps []) : Dx P w K mg base k x R := ⟨f, fd, ps, O, hm, F.kp, hb⟩
section
variable {X : Cx} {z : Z} {es : List Sl} {as : List Sl} {s s1 s' : S} {e : Expr} {xs : List Expr} {p pos : Pos} {W : WX} {d : PyData} {xd : XD}
theorem ex_call {k : Nat} {x : Str} {R : RelX} (G : Dx X.prog X.w X.K X.mg X.base k x R) (tk : Takes X W) (hr : Room k X.A) (ha : EA X z (e :: xs) es s as s1) (hR : R as s1 (.ex xd) s') (hg : Gl X x := by rfl) (hdb : (x == ("__debug__" : Str)) = false := by decide)
    (he : starEach (e :: xs) X.env = (false, eval e X.env) :: starEach xs X.env := by rfl) (hpl : (backTo pos (starEach xs X.env)).any (·.1) = false := by rfl) : EX X z W (.Call (.Name x p) (e :: xs) [] pos) es s xd s' := fun σ H en at_ q Q => by
  obtain ⟨f, fd, ps, F, hm, hk, hb⟩ := G
  exact ⟨_, pe_callS F hr hg hm hk hb (passAt tk) wA_ok hdb he hpl, ha σ H en at_ _ fun vs H1 e1 a1 v1 => ⟨z, as, s1, .ex xd, s', hR, v1, a1, fun cls dx H' k a r => q cls dx H' (e1.trans k) a (en.mono (e1.trans k)) r⟩⟩
/-- such a def where it returns -/
theorem ev_callX {k : Nat} {x : Str} {R : RelX} (G : Dx X.prog X.w X.K X.mg X.base k x R) (hr : Room k X.A) (ha : EA X z (e :: xs) es s as s1) (hR : R as s1 (.ok d) s') (hg : Gl X x := by rfl) (hdb : (x == ("__debug__" : Str)) = false := by decide)
    (he : starEach (e :: xs) X.env = (false, eval e X.env) :: starEach xs X.env := by rfl) (hpl : (backTo pos (starEach xs X.env)).any (·.1) = false := by rfl) : EV X z (.Call (.Name x p) (e :: xs) [] pos) es s d s' := by
  obtain ⟨f, fd, ps, F, hm, hk, hb⟩ := G
  refine .mk (pe_callS F hr hg hm hk hb (passAt takes0) wA_ok hdb he hpl) fun σ H en at_ Q q => ha σ H en at_ _ fun vs H1 e1 a1 v1 => ⟨z, as, s1, .ok d, s', hR, v1, a1, fun v H' k a r => q v H' (e1.trans k) a r⟩
end
section
variable {P : Program} {w : World} {K : PySem.W.Frag} {mg : Str → Option Value} {base : Heap}
abbrev WE1 (E : XK) : WX := fun cls d _ H => E cls d H
theorem xok_len {R : RelX} {ps : List Str} (hl : ∀ as s r s', R as s r s' → as.length = ps.length) : ∀ vs H Q E, spX R vs H Q E → vs.length = ps.length := fun vs H Q E ⟨z, as, s, r, s', hR, en, _⟩ => by
  have := en.length
  rw [List.length_map] at this
  rw [this]
  exact hl _ _ _ _ hR
theorem okX {x qual : Str} {st : Stmt} {f : Addr} {fd : FuncData} {N ps : List Str} {k : Nat} {R : RelX} (F : Fun K x qual st f fd) (Sc : FnScope N ps (defScope st)) (hl : ∀ as s r s', R as s r s' → as.length = ps.length)
    (hb : ∀ cdv A outer s0 H0 E, Ctx (cxOf (L2.CX P w) P w K mg base N qual (defScope st) f cdv A outer s0 H0 E) k N → Takes (cxOf (L2.CX P w) P w K mg base N qual (defScope st) f cdv A outer s0 H0 E) (WE1 E) → ∀ z as s r s', R as s r s' →
      match r with
      | .ok d => SR (cxOf (L2.CX P w) P w K mg base N qual (defScope st) f cdv A outer s0 H0 E) z (defBody st) (as ++ List.replicate (N.length - as.length) .un) s (.rt d s') ∨ (d = .none ∧ ∃ es', SR (cxOf (L2.CX P w) P w K mg base N qual (defScope st) f cdv A outer s0 H0 E) z (defBody st) (as ++ List.replicate (N.length - as.length) .un) s (.nx es' s'))
      | .ex xd => ∃ es', SR (cxOf (L2.CX P w) P w K mg base N qual (defScope st) f cdv A outer s0 H0 E) z (defBody st) (as ++ List.replicate (N.length - as.length) .un) s (.ex (WE1 E) es' xd s')) :
    FnOk P w K mg base (L2.CX P w) (k + 1) f fd ps (spX R) := by
  refine F.okX Sc (xok_len hl) (fun cdv A outer s0 H0 vs Q E hr h => ?_)
  obtain ⟨z, as, s, r, s', hR, en, at_, q⟩ := h
  have e1 : vs.length = as.length := by
    have := en.length
    rwa [List.length_map] at this
  have C : Ctx (cxOf (L2.CX P w) P w K mg base N qual (defScope st) f cdv A outer s0 H0 E) k N := ⟨Sc.nd, rfl, passes_of rfl, hr, hr.units⟩
  have tk : Takes (cxOf (L2.CX P w) P w K mg base N qual (defScope st) f cdv A outer s0 H0 E) (WE1 E) := takes_of rfl rfl rfl rfl
  have en2 : En z H0 (L2.start N vs) (as ++ List.replicate (N.length - as.length) .un) := by
    unfold L2.start
    rw [e1]
    exact en.app (.uns _)
  have g := hb cdv A outer s0 H0 E C tk z as s r s' hR
  cases r with
  | ok d =>
    rcases g with g | ⟨rfl, es', g⟩
    · exact ⟨_, wB_ok, g _ H0 en2 at_ { nx := fun _ H' => Q .non H', rt := Q } fun v H' k a n => q v H' k a n⟩
    · exact ⟨_, wB_ok, g _ H0 en2 at_ { nx := fun _ H' => Q .non H', rt := Q } fun σ' H' k a n => q .non H' k a .non⟩
  | ex xd =>
    obtain ⟨es', g⟩ := g
    exact ⟨_, wB_ok, g _ H0 en2 at_ { nx := fun _ H' => Q .non H', rt := Q } fun cls dx σ' H' k a _ r => q cls dx H' k a r⟩
end
end DL


set_option Elab.async false
set_option linter.all false
set_option maxRecDepth 100000
namespace DL
open PySem PySem.Spec PyProof.Rows L2
variable [TabT]
/-! ### a class's __init__ -/
def initOf : Stmt → Stmt
  | .ClassDef _ _ _ (b :: _) _ _ _ _ _ _ _ => b
  | s => s
section
variable {P : Program} {w : World} {K : PySem.W.Frag} {mg : Str → Option Value} {base : Heap}
theorem ok_init {qual f : Str} {st : Stmt} {fI C : Addr} {fd : FuncData} {newId B : String} {bmB : List Value} {p p1 p2 pos : Pos} (F : Fun K "__init__" qual st fI fd) (Sc : FnScope ["self", f] ["self", f] (defScope st)) (T : OxC K C newId bmB f) (SF : StoreFacts B bmB "object.__setattr__" "object")
    (hB : defBody st = [.Assign [.Attribute (.Name "self" p) f p1] (.Name f p2) pos]) (hd : (f == ("__debug__" : Str)) = false := by decide) (hcd : (f == ("__classdict__" : Str)) = false := by decide)
    (hs : ∀ env : Env, swapsWith (.Name f p2) (some (.Attribute (.Name "self" p) f p1)) pos.line env = pure false := by intro _; rfl) (hv : Vis (defScope st) f := by exact Or.inl rfl) (hv2 : Vis (defScope st) "self" := by exact Or.inl rfl) :
    FnOk P w K mg base CX0 1 fI fd ["self", f] (spI C f) := by
  refine F.ok Sc (fun vs H Q E h => ?_) (fun cdv A outer s0 H0 vs Q E hr h => ?_)
  · obtain ⟨a, v, rfl, _⟩ := h
    rfl
  · obtain ⟨a, v, rfl, ha, q⟩ := h
    refine ⟨_, by rw [hB]; exact pss_one (ps_ox (C := C) T SF (pe_var (i := 0) rfl hv2 (by decide) (by decide)) (pe_var (i := 1) rfl hv hd hcd) (hs _)), ?_⟩
    exact ⟨v, rfl, .ref a, rfl, a, rfl, ha, fun dx n ne => q dx n ne⟩
theorem okOX {x qual : Str} {st : Stmt} {f : Addr} {fd : FuncData} {N ps : List Str} {k : Nat} {R : RelX} (F : Fun K x qual st f fd) (Sc : FnScope N ps (defScope st)) (hl : ∀ as s r s', R as s r s' → as.length = ps.length) (hn : ∀ as s r s', R as s r s' → ∀ ds, Sl.own ds ∉ as)
    (hb : ∀ cdv A outer s0 H0 E, Ctx (cxOf (L2.CX P w) P w K mg base N qual (defScope st) f cdv A outer s0 H0 E) k N → Takes (cxOf (L2.CX P w) P w K mg base N qual (defScope st) f cdv A outer s0 H0 E) (WE1 E) → ∀ as s r s', R as s r s' →
      match r with
      | .ok d => SO (cxOf (L2.CX P w) P w K mg base N qual (defScope st) f cdv A outer s0 H0 E) (defBody st) (as ++ List.replicate (N.length - as.length) .un) s (.rt d s')
      | .ex xd => ∃ es', SO (cxOf (L2.CX P w) P w K mg base N qual (defScope st) f cdv A outer s0 H0 E) (defBody st) (as ++ List.replicate (N.length - as.length) .un) s (.ex (WE1 E) es' xd s')) :
    FnOk P w K mg base (L2.CX P w) (k + 1) f fd ps (spX R) := by
  refine F.okX Sc (xok_len hl) (fun cdv A outer s0 H0 vs Q E hr h => ?_)
  obtain ⟨z, as, s, r, s', hR, en, at_, q⟩ := h
  have e1 : vs.length = as.length := by
    have := en.length
    rwa [List.length_map] at this
  have C : Ctx (cxOf (L2.CX P w) P w K mg base N qual (defScope st) f cdv A outer s0 H0 E) k N := ⟨Sc.nd, rfl, passes_of rfl, hr, hr.units⟩
  have tk : Takes (cxOf (L2.CX P w) P w K mg base N qual (defScope st) f cdv A outer s0 H0 E) (WE1 E) := takes_of rfl rfl rfl rfl
  have no : ∀ (i : Nat) (ds : List PyData), (as ++ List.replicate (N.length - as.length) Sl.un)[i]? ≠ some (.own ds) := fun i ds h => by
    rcases List.mem_append.mp (List.mem_of_getElem? h) with m | m
    · exact hn _ _ _ _ hR ds m
    · have := (List.mem_replicate.mp m).2
      cases this
  have I : OI z H0 H0 [] (L2.start N vs) (as ++ List.replicate (N.length - as.length) .un) s := {
    new := fun q h => by cases h
    nd := List.nodup_nil
    base := fun q h => by
      rw [at_.v q h]
      exact fun e => by cases e
    at_ := at_
    en := by
      unfold L2.start
      rw [e1]
      exact en.app (.uns _)
    ez := .refl _
    far := fun i ds p h => absurd h (no i ds)
    two := fun i j ds ds' p _ h => absurd h (no i ds) }
  have g := hb cdv A outer s0 H0 E C tk as s r s' hR
  cases r with
  | ok d => exact ⟨_, wB_ok, g z H0 H0 [] _ I { nx := fun _ H' => Q .non H', rt := Q } fun v H' k a n => q v H' k a n⟩
  | ex xd =>
    obtain ⟨es', g⟩ := g
    exact ⟨_, wB_ok, g z H0 H0 [] _ I { nx := fun _ H' => Q .non H', rt := Q } fun cls dx σ' H' k a r => q cls dx H' k a r⟩
end
/-! ### try: .. except X as n: .. -/
def clsOf : XD → Addr
  | .pl C => C
  | .wf C _ _ => C
theorem XR.cls {z : Z} {H : Hp} {cls : Value} {dx : Option Addr} : ∀ {x : XD}, XR z H cls dx x → cls = .ref (clsOf x)
  | .pl _, h => h.1
  | .wf _ _ _, h => h.1
def tbW (X : Cx) (body : List Stmt) (W : WX) : TS := fun D σ H => ∀ pn xe, Takes (X.tr pn xe) W → PassesOwn (model X.prog X.w) X.A X.env xe → wB (X.tr pn xe) body D σ H
def tsW (X : Cx) (suite : List Stmt) (a : Addr) (cls : Value) (d : Option Addr) : TS := fun D σ H => ∀ (oe : Obj) (pn : List (Addr × Obj)), Zc cls d oe → (∃ vs, oe.data = .fields vs) → wB (X.suite a ((a, oe) :: pn)) suite D σ H
section
variable {X : Cx} {z : Z} {es es1 es2 : List Sl} {s s1 s2 : S} {body suite rest : List Stmt} {b₀ : Stmt} {d : PyData} {x n f : Str} {c : Value} {i : Nat} {np p pos pos' : Pos} {xd : XD} {o : Out}
theorem tbW_ok (W : WX) (pn : List (Addr × Obj)) (xe : Value → Shared → Prop) (tk : Takes (X.tr pn xe) W) (hp : PassesOwn (model X.prog X.w) X.A X.env xe) : PSs (X.tr pn xe) body (tbW X body W) := ⟨fun pins s σ H D I h => wB_ok.run pins s σ H D I (h pn xe tk hp)⟩
theorem tsW_ok (a : Addr) (oe : Obj) (cls : Value) (d : Option Addr) (pn : List (Addr × Obj)) (hz : Zc cls d oe) (hd : ∃ vs, oe.data = .fields vs) : PSs (X.suite a ((a, oe) :: pn)) suite (tsW X suite a cls d) := ⟨fun pins s σ H D I h => wB_ok.run pins s σ H D I (h oe pn hz hd)⟩
/-- the body returns -/
theorem sr_tryOk (hN : X.N.Nodup) (hb : ∀ pn xe, PassesOwn (model X.prog X.w) X.A X.env xe → SR (X.tr pn xe) z body es s (.rt d s1)) (hc : Names X x c) (hi : X.N[i]? = some n := by rfl) (hln : X.env.kindOf n = some .local := by rfl) (hs : X.stack = X.env :: X.outer := by rfl) (hf : X.env.frame = some X.env.locals := by rfl) :
    SR X z (.Try body [.ExceptHandler (some (.Name x np)) (some n) (b₀ :: suite) pos'] [] [] pos :: rest) es s (.rt d s1) := fun σ H en at_ D q =>
  ⟨_, pss_cons (ps_try_as hs hf hN hi hln hc takes0 tbW_ok tsW_ok) wB_never, fun pn xe _ hp => hb pn xe hp σ H en at_ _ fun v H' k a n => q v H' k a n⟩
/-- the body raises, and is caught: the suite returns -/
theorem sr_tryX (hN : X.N.Nodup) (hb : ∀ pn xe W, Takes (X.tr pn xe) W → PassesOwn (model X.prog X.w) X.A X.env xe → SR (X.tr pn xe) z body es s (.ex W es1 xd s1)) (hc : Names X x c) (hm : PySem.W.exmOne X.K (.ref (clsOf xd)) c = some true)
    (hsu : ∀ (a : Addr) (oe : Obj) (cls : Value) (dx : Option Addr) (pn : List (Addr × Obj)), Zc cls dx oe → (∃ vs, oe.data = .fields vs) → SR (X.suite a ((a, oe) :: pn)) z (b₀ :: suite) (es1.set i (.exc a cls dx xd)) s1 (.rt d s2)) (hi : X.N[i]? = some n := by rfl) (hln : X.env.kindOf n = some .local := by rfl) (hs : X.stack = X.env :: X.outer := by rfl) (hf : X.env.frame = some X.env.locals := by rfl) :
    SR X z (.Try body [.ExceptHandler (some (.Name x np)) (some n) (b₀ :: suite) pos'] [] [] pos :: rest) es s (.rt d s2) := fun σ H en at_ D q =>
  ⟨_, pss_cons (ps_try_as hs hf hN hi hln hc takes0 tbW_ok tsW_ok) wB_never, fun pn xe tk hp => hb pn xe _ tk hp σ H en at_ _ fun cls dx σ' H' k a n r => by
    have ec := r.cls
    subst ec
    exact ⟨true, hm, fun _ ad na oe pn2 hz hd => hsu ad oe _ dx pn2 hz hd (σ'.set i (some (.ref ad))) H' (n.set i (.exc r)) a _ fun v H2 k2 a2 v2 => q v H2 (k.trans k2) a2 v2, fun h => by cases h⟩⟩
/-- n.f in the suite -/
theorem ev_xf {C a : Addr} {oe : Obj} {cls : Value} {dx : Option Addr} {pn : List (Addr × Obj)} (i : Nat) (T : XfC X.K C) (hno : PySem.W.findIn X.K (.ref C) f = some none) (hz : Zc cls dx oe) (hd : ∃ vs, oe.data = .fields vs) (h : es[i]? = some (.exc a cls dx (.wf C f d)) := by rfl) (hN : X.N[i]? = some n := by rfl)
    (hv : Vis X.env.scope n := by first | exact Or.inl rfl | exact Or.inr (Or.inl rfl) | exact Or.inr (Or.inr rfl)) (hdb : (n == ("__debug__" : Str)) = false := by decide) (hcd : (n == ("__classdict__" : Str)) = false := by decide) (hb : attributeBase (.Name n p) f X.env (eval (.Name n p) X.env) = eval (.Name n p) X.env := by rfl) :
    EV (X.suite a ((a, oe) :: pn)) z (.Attribute (.Name n p) f pos) es s d s := .mk (pe_xf (X := X) T hno hz hd (pe_var (X := X.suite a ((a, oe) :: pn)) (i := i) hN hv hdb hcd) hb) fun σ H en at_ Q q => by
  obtain ⟨y, hy, r⟩ := en.slot h
  cases r with
  | exc r =>
    obtain ⟨e1, pp, v, e2, fz, e3, e4⟩ := r
    refine ⟨.ref a, hy, rfl, e1, pp, [(f, v)], v, e2, e3, ?_, q v H (.refl H) at_ e4⟩
    simp [List.lookup]
end
end DL


set_option Elab.async false
set_option linter.all false
set_option maxRecDepth 100000
namespace DL
open PySem PySem.Spec PyProof.Rows L2
variable [TabT]
section
variable {X : Cx} {z : Z} {es es1 es2 : List Sl} {s s1 s2 s3 : S} {iter elt cond a b c e : Expr} {ds fs : List PyData} {d d1 d2 d3 : PyData} {o : Out} {rest body els : List Stmt} {pos p p1 p2 p3 p4 p5 : Pos}
/-- x, y = e, e a tuple, own lists at hand -/
theorem so_unp2 (i j : Nat) {x y : Str} {kt : Nat} (hc : X.calm = true) (hN : X.N.Nodup) (h : ∀ z, EV X z e es s (.tuple [d1, d2]) s1) (k : SO X rest ((es.set i (.val d1)).set j (.val d2)) s1 o)
    (hi : X.N[i]? = some x := by rfl) (hj : X.N[j]? = some y := by rfl) (hx : Loc X.env.scope x := by first | exact Or.inl rfl | exact Or.inr rfl) (hy : Loc X.env.scope y := by first | exact Or.inl rfl | exact Or.inr rfl)
    (fx : X.fn x = true ∨ X.env.scope.names.lookup x = some .local := by first | exact .inl rfl | exact .inr rfl) (fy : X.fn y = true ∨ X.env.scope.names.lookup y = some .local := by first | exact .inl rfl | exact .inr rfl)
    (hs : swapsWithSole [.Tuple [.Name x p1, .Name y p2] kt p3] e pos.line X.env = pure false := by rfl) (hw : swappedStores [.Tuple [.Name x p1, .Name y p2] kt p3] e X.env = pure none := by rfl)
    (hn : (assignEach [.Name x p1, .Name y p2] X.env).length = 2 := by rfl) (hst : (assignEach [.Name x p1, .Name y p2] X.env).findIdx? (·.1) = none := by rfl)
    (h1 : (assignEach (.Name x p1 :: [.Name y p2]) X.env).map (·.2) = assign (.Name x p1) X.env :: (assignEach [.Name y p2] X.env).map (·.2) := by rfl) (h2 : (assignEach (.Name y p2 :: []) X.env).map (·.2) = assign (.Name y p2) X.env :: (assignEach [] X.env).map (·.2) := by rfl) :
    SO X (.Assign [.Tuple [.Name x p1, .Name y p2] kt p3] e pos :: rest) es s o := fun z Hc H vol σ I D q =>
  ⟨_, pss_cons (ps_asg wE_ok (pg_tup hc (pgs_cons (pg_name hN hi hx fx) (pgs_cons (pg_name hN hj hy fy) pgs_nil h2) h1) hn hst) hs hw) wB_ok, h _ σ H I.en I.at_ _ fun v H1 e1 a1 v1 => by
    cases v1 with
    | tup n e r =>
      cases r with
      | cons v1 r =>
        cases r with
        | cons v2 r =>
          cases r
          have w1 := I.step e1 a1
          exact ⟨_, _, rfl, .inl (.inl e), rfl, _, _, rfl, _, _, rfl, rfl, k z Hc H1 vol _ ((w1.set (.refl _) w1.at_ i v1).set (.refl _) w1.at_ j v2) D q⟩⟩
/-- list(range(n)) -/
theorem daAll_nats {H : Hp} : ∀ l : List Nat, DaAll z H (l.map fun i : Nat => V.int ((i : Nat) : Int)) (l.map fun i : Nat => PyData.int ((i : Nat) : Int))
  | [] => .nil
  | n :: ns => .cons (.int n) (daAll_nats ns)
theorem ev_listRg {n : Nat} (hc : X.calm = true) (hm : X.mg "list" = none) (hm2 : X.mg "range" = none) (hl : n ≤ 1000) (ha : EV X z a es s (.int (n : Int)) s1) (hg : Gl X "list" := by rfl) (hg2 : Gl X "range" := by rfl)
    (h1 : starEach [a] X.env = (false, eval a X.env) :: starEach [] X.env := by rfl) (h2 : starEach [.Call (.Name "range" p) [a] [] p1] X.env = (false, eval (.Call (.Name "range" p) [a] [] p1) X.env) :: starEach [] X.env := by rfl) :
    EV X z (.Call (.Name "list" p2) [.Call (.Name "range" p) [a] [] p1] [] pos) es s (.list ((List.range n).map fun i : Nat => .int ((i : Nat) : Int))) s1 :=
  .mk (pe_listRg hc hg hm (prg_1 hg2 hm2 wE_ok h1) h2) fun σ H en at_ Q q => ha σ H en at_ _ fun v H1 e1 a1 v1 => by
    cases v1
    refine ⟨(n : Int), rfl, RgOk.of_le (by omega) (by omega) (by omega) (by omega), fun b hb => ?_⟩
    have e : rgV 0 (n : Int) = (List.range n).map fun i => V.int ((i : Nat) : Int) := by
      unfold rgV
      rw [Int.sub_zero, Int.toNat_natCast]
      exact List.map_congr_left fun i _ => by rw [Int.zero_add]
    rw [e]
    exact q _ _ (e1.trans (.new hb)) (a1.new hb) (.lst (a1.fresh hb) upd_same (daAll_nats _))
/-- d not in a tuple -/
def rNotInT (K : PySem.W.Frag) : V → V → Hp → VK → Prop := fun x y H Q => ∃ d ds, Dp K H x d ∧ Dp K H y (.tuple ds) ∧ SeqAt.shaped d = true ∧ SeqAt.shaped (.tuple ds) = true ∧ Q (.bl (!ds.any fun z => PyData.eqv z d)) H
theorem op_notInDT (hu : X.A.units + 65 < cLine) : OpR X (compareOp .NotIn) (rNotInT X.K) := by
  intro pins s σ H x y v u Q I rx ry h
  obtain ⟨d, ds, hd, he, sd, se, q⟩ := h
  obtain ⟨as, r1⟩ := Dp.reads I d x v hd rx
  obtain ⟨bs, r2⟩ := Dp.reads I (.tuple ds) y u he ry
  exact SeqAt.notIn_tuple_reads r2 r1 (SeqAt.canLay_of_shaped se) (SeqAt.canLay_of_shaped sd) (room_in_shaped sd hu) ⟨.bl _, H, I, rfl, q⟩
theorem et_ninT (hu : X.A.units + 65 < cLine) (h1 : Pl d) (h2 : Pl (.tuple ds)) (ha : EV X z a es s d s1) (hb : EV X z b es s1 (.tuple ds) s2) (hm : behindInMarks .NotIn b = false := by rfl) : ET X z (.Compare a [.NotIn] [b] pos) es s (!ds.any fun z => PyData.eqv z d) s2 :=
  et_cmpR (op_notInDT hu) (fun u v H at_ hu hv Q q => ⟨d, ds, hu.dp h1.1, hv.dp h2.1, h1.2, h2.2, q _ H (.refl H) at_ (.bl _)⟩) ha hb hm
/-- for x, y in a list of pairs, own lists at hand -/
theorem so_forP (l m : Nat) {x y : Str} {kt : Nat} (hp : PassesOwn (model X.prog X.w) X.A X.env X.xe) (hc : X.calm = true) (hN : X.N.Nodup) (ps : List (PyData × PyData)) (h : ∀ z, EV X z iter es s (.list (ps.map fun q => .tuple [q.1, q.2])) s1) (E : Nat → List Sl) (T : Nat → S) (h0 : Le es (E 0)) (t0 : T 0 = s1)
    (hb : ∀ (i : Nat) q, ps[i]? = some q → SO X body (((E i).set l (.val q.1)).set m (.val q.2)) (T i) (.nx (E (i + 1)) (T (i + 1)))) (k : SO X rest (E ps.length) (T ps.length) o)
    (hg : PG X (.Tuple [.Name x p1, .Name y p2] kt p3) (gTup X.K 2 (gCons (gName l) (gCons (gName m) gNil)))) (hfo : ∀ x, foldedSetIterable iter X.env x = pure x := by intro _; rfl) :
    SO X (.For (.Tuple [.Name x p1, .Name y p2] kt p3) iter body [] pos :: rest) es s o := fun z Hc H vol σ I D q =>
  ⟨_, pss_cons (ps_for hp hc (pi_list wE_ok) hg wB_ok hfo) wB_ok, h _ σ H I.en I.at_ _ fun v H1 e1 a1 v1 => by
    cases v1 with
    | @lst a xs _ fa ha r =>
      have hx : xs.length = ps.length := by rw [r.length, List.length_map]
      obtain ⟨I2, back⟩ := (I.step e1 a1).reb
      subst t0
      refine ⟨a, rfl, ⟨xs, .inl (.inl ha)⟩, for_list (xs := xs) (fun i σ' H' => ∃ vol', OI z (cutH H1 vol) H' vol' σ' (E i) (T i)) ⟨vol, I2.le h0⟩ (fun i σ' H' _ w => ?_) (fun i x σ' H' hi w => ?_) fun σ' H' w => ?_⟩
      · obtain ⟨vol', w⟩ := w
        exact .inl (.inl (w.stillH fa ha))
      · obtain ⟨vol', w⟩ := w
        obtain ⟨d, hd, hv⟩ := r.getV i x hi
        rw [List.getElem?_map] at hd
        cases hq : ps[i]? with
        | none =>
          rw [hq] at hd
          cases hd
        | some pq =>
          rw [hq] at hd
          cases Option.some.inj hd
          have hv := w.still hv
          cases hv with
          | @tup t us _ ft ht rt =>
            cases rt with
            | cons h1 rt =>
              cases rt with
              | cons h2 rt =>
                cases rt
                have w2 := (w.set (.refl _) w.at_ l h1).set (.refl _) w.at_ m h2
                exact ⟨t, _, rfl, .inl (.inl ht), rfl, _, _, rfl, _, _, rfl, rfl, hb i pq hq z _ _ vol' _ w2 _ fun vol3 σ3 H3 I3 => ⟨vol3, I3⟩⟩
      · obtain ⟨vol', w⟩ := w
        rw [hx] at w
        exact k z Hc H' vol' σ' (back _ _ _ _ _ w) D q⟩
end
end DL


set_option Elab.async false
set_option linter.all false
set_option maxRecDepth 100000
namespace DL
open PySem PySem.Spec PyProof.Rows L2
variable [TabT]
section
variable {X : Cx} {es es1 es2 : List Sl} {s s1 s2 s' : S} {a b c e : Expr} {xs : List Expr} {pos p q p1 p2 p3 p4 apos apos2 cpos cpos2 : Pos} {d d1 d2 : PyData} {ds fs : List PyData} {o : Out} {st : Stmt} {rest body els : List Stmt}
theorem DaAll.erase {zz : Z} {H : Hp} : ∀ {vs : List V} {ds : List PyData} (j : Nat), DaAll zz H vs ds → DaAll zz H (vs.eraseIdx j) (ds.eraseIdx j)
  | _, _, _, .nil => .nil
  | _, _, 0, .cons _ h2 => h2
  | _, _, j + 1, .cons h1 h2 => .cons h1 (DaAll.erase j h2)
theorem six_nat {k n : Nat} (h : k < n) : seqIndex? (k : Int) n = some k := by
  have h1 : (decide ((0 : Int) ≤ (k : Int)) && decide ((k : Int) < (n : Int))) = true := by rw [decide_eq_true (by omega), decide_eq_true (by omega)] <;> rfl
  unfold seqIndex?
  simp only [if_neg (show ¬ ((k : Int) < 0) by omega)]
  rw [if_pos h1, Int.toNat_natCast]
/-- ys.append(xs.pop(e)) -/
theorem so_appPop (i j : Nat) {x y : Str} {k : Nat} (h : ∀ z, EV X z e es s (.int (k : Int)) s1) (hk : ds[k]? = some d) (hk2 : ds.length ≤ 100000) (hl : fs.length < 100000) (kk : SO X rest ((es.set i (.own (ds.eraseIdx k))).set j (.own (fs ++ [d]))) s1 o)
    (ho : es[i]? = some (.own ds) := by rfl) (ho2 : es[j]? = some (.own fs) := by rfl) (hNi : X.N[i]? = some x := by rfl) (hNj : X.N[j]? = some y := by rfl) (hij : i ≠ j := by decide)
    (hv : Vis X.env.scope x := by first | exact Or.inl rfl | exact Or.inr (Or.inl rfl) | exact Or.inr (Or.inr rfl)) (hv2 : Vis X.env.scope y := by first | exact Or.inl rfl | exact Or.inr (Or.inl rfl) | exact Or.inr (Or.inr rfl))
    (hd : (x == ("__debug__" : Str)) = false := by decide) (hcd : (x == ("__classdict__" : Str)) = false := by decide) (hd2 : (y == ("__debug__" : Str)) = false := by decide) (hcd2 : (y == ("__classdict__" : Str)) = false := by decide)
    (hbase : attributeBase (.Name x p) "pop" X.env (eval (.Name x p) X.env) = eval (.Name x p) X.env := by rfl) (hbase2 : attributeBase (.Name y q) "append" X.env (eval (.Name y q) X.env) = eval (.Name y q) X.env := by rfl)
    (hfew : ((backTo cpos (starEach (e :: []) X.env)).all (fun x => !x.1) && (backToKw cpos (keywordEach [] X.env)).all (fun x => x.1.isSome) && decide ((e :: []).length + ([] : List Keyword).length + (if ([] : List Keyword).isEmpty then 0 else 1) < 30)) = true := by rfl)
    (hfew2 : ((backTo cpos2 (starEach (.Call (.Attribute (.Name x p) "pop" apos) [e] [] cpos :: []) X.env)).all (fun x => !x.1) && (backToKw cpos2 (keywordEach [] X.env)).all (fun x => x.1.isSome) && decide ((Expr.Call (.Attribute (.Name x p) "pop" apos) [e] [] cpos :: []).length + ([] : List Keyword).length + (if ([] : List Keyword).isEmpty then 0 else 1) < 30)) = true := by rfl)
    (hline : (apos.endLine == cpos.line) = true := by rfl) (hline2 : (apos2.endLine == cpos2.line) = true := by rfl) (hse : starEach (e :: []) X.env = (false, eval e X.env) :: starEach [] X.env := by rfl) (hpl : (backTo cpos (starEach [] X.env)).any (·.1) = false := by rfl)
    (hse2 : starEach (.Call (.Attribute (.Name x p) "pop" apos) [e] [] cpos :: []) X.env = (false, eval (.Call (.Attribute (.Name x p) "pop" apos) [e] [] cpos) X.env) :: starEach [] X.env := by rfl) (hpl2 : (backTo cpos2 (starEach [] X.env)).any (·.1) = false := by rfl)
    (hs : swapsWith (.Call (.Attribute (.Name y q) "append" apos2) [.Call (.Attribute (.Name x p) "pop" apos) [e] [] cpos] [] cpos2) none pos.line X.env = pure false := by rfl) :
    SO X (.Expr (.Call (.Attribute (.Name y q) "append" apos2) [.Call (.Attribute (.Name x p) "pop" apos) [e] [] cpos] [] cpos2) pos :: rest) es s o := fun z Hc H vol σ I D Q =>
  ⟨_, pss_cons (ps_expr (pe_bm PySem.F.plainAttrs_list PySem.F.slot_list_append PySem.F.type_list_append mt_append (pe_var hNj hv2 hd2 hcd2)
    (pa_cons (pe_bm PySem.F.plainAttrs_list PySem.F.slot_list_pop PySem.F.type_list_pop mt_popAt (pe_var hNi hv hd hcd) (pa_cons wE_ok pa_nil hse) hbase hfew hline hse hpl) pa_nil hse2) hbase2 hfew2 hline2 hse2 hpl2) hs) wB_ok, by
    obtain ⟨u, hu, ru⟩ := I.en.slot ho2
    obtain ⟨w, hw, rw'⟩ := I.en.slot ho
    cases ru with
    | @own a2 vs2 _ m2 kr2 =>
      cases rw' with
      | @own a vs _ m kr =>
        refine ⟨_, hu, .inl ⟨rfl, vs2, .inl (.inl (I.at_.v _ m2))⟩, _, hw, .inl ⟨rfl, vs, .inl (.inl (I.at_.v _ m))⟩, h _ σ H I.en I.at_ _ fun v H1 e1 a1 v1 => ?_⟩
        cases v1
        have k1 := kr.mono e1
        have kl : vs.length = ds.length := k1.length
        have klt := (List.getElem?_eq_some_iff.mp hk).1
        obtain ⟨g, hg, hgd⟩ := k1.get k d hk
        obtain ⟨vol', I', re⟩ := I.writeR ho hw m e1 a1 (k1.erase k)
        have ho3 : (es.set i (.own (ds.eraseIdx k)))[j]? = some (.own fs) := by rw [List.getElem?_set_ne hij]; exact ho2
        obtain ⟨u', hu', ru'⟩ := I'.en.slot ho3
        rw [hu] at hu'
        cases hu'
        cases ru' with
        | @own _ vs3 _ m3 kr3 =>
          refine ⟨a, vs, (k : Int), k, g, rfl, rfl, a1.v _ m, by omega, by omega, six_nat (by omega), hg, ?_⟩
          obtain ⟨vol'', I''⟩ := I'.write ho3 hu m3 (.refl _) I'.at_ (kr3.app (.cons (hgd.re re) .nil))
          exact ⟨a2, vs3, g, rfl, rfl, I'.at_.v _ m3, by rw [kr3.length]; exact Nat.lt_of_lt_of_le hl (by decide), kk z Hc _ vol'' σ I'' D Q⟩⟩
end
end DL


set_option Elab.async false
set_option linter.all false
set_option maxRecDepth 100000
namespace DL
open PySem PySem.Spec PyProof.Rows L2 PySem.Calls
variable [TabT]
/-! ### sorted(set(xs)), xs a list of ints -/
/-- a new empty set -/
abbrev eset (w : World) : Obj := { cls := .type "set", dict := none, data := .set #[] 0 (.fresh 0 0 (!w.params.followText "set-order")) }
section
variable {P : Program} {w : World} {A : Around} {E : Value → Shared → Prop} {s : Shared}
/-- what set.__init__ leaves -/
def Filled (w : World) (s : Shared) (ns : List Int) (r : Value) (s2 : Shared) : Prop := r = .none ∧ ∃ h' tk c, s2 = { s with heap := h', toks := tk } ∧ SetR w h' s.heap.objs.size (fun j => decide (j ∈ ns)) c ∧ c ≤ ns.length ∧ ∀ b o, s.heap.get? b = some o → h'.get? b = some o
theorem init_lst {l : Addr} {items : Array Value} {ns : List Int} (hh : A.handled = none) (hl : s.heap.IsList l items) (hit : IntsAre items.toList ns) (hb : ns.length + 1 < scanBound) :
    codeAny (model P w) A (.builtin "set.__init__" ⟨[.ref s.heap.objs.size, .ref l], []⟩) (wants (Filled w s ns) E) { s with heap := s.heap.push (eset w) } := by
  have sz : items.size = ns.length := by have q := IntsAre.length hit; rw [Array.length_toList] at q; exact q
  have z1 : (s.heap.push (eset w)).objs.size = s.heap.objs.size + 1 := Heap.size_push ..
  have hS : (s.heap.push (eset w)).get? s.heap.objs.size = some (eset w) := Heap.get?_push_size _ rfl
  have hlS : l < s.heap.objs.size := by obtain ⟨o, ho, _⟩ := hl; exact Heap.lt_size ho
  refine codeAny_builtin F.entry_set_init ?_
  obtain ⟨⟨oc, od, odt, osl⟩, hol, hcl, nl, hdl⟩ := hl
  simp only at hcl hdl
  subst hcl; subst hdl
  have hol' : (s.heap.push (eset w)).get? l = some { cls := .type "list", dict := od, data := .seq items nl, slots := osl } := Heap.get?_push_of_some _ hol
  have hsls := F.sub_list_set
  have hslf := F.sub_list_frozenset
  have hne : (Value.type "list" == Value.type "dict") = false := by decide
  have hl1 : (s.heap.push (eset w)).IsList l items := ⟨_, hol', rfl, nl, rfl⟩
  unfold Builtin.«set.__init__» noKeywords Builtin.Frozenset.updateFrom
  generalize hPI : pyIter = PI
  wp_walk
  subst hPI
  refine wpAny_pyIter_list hl1 (wpAny_bind (wpAny_runValue ?_))
  have neI : l ≠ (s.heap.push (eset w)).objs.size := by rw [z1]; exact Nat.ne_of_lt (Nat.lt_succ_of_lt hlS)
  have sf : s.heap.objs.size ∉ [(s.heap.push (eset w)).objs.size, l] := fun hm => by
    rcases List.mem_cons.mp hm with e | e
    · rw [z1] at e; exact absurd e (Nat.ne_of_lt (Nat.lt_succ_self _))
    · exact Nat.ne_of_gt hlS (List.mem_singleton.mp e)
  refine set_update_ints ((Walks.list (by first | exact hh | (unfold Around.under; exact hh) | simp [Around.under, hh]) _ l neI items).toS) s.heap.objs.size sf ns sz hb (fun i v hv => ?_) (items.size - 0) 0 _ (by omega) (Nat.zero_le _) ⟨⟨_, Heap.get?_push_size _ rfl, rfl, rfl⟩, (hl1.push _)⟩ ?_ ?_
  · have hi : i < ns.length := by rw [← sz]; exact (Array.getElem?_eq_some_iff.mp hv).1
    obtain ⟨t, e⟩ := PyProof.Rows.IntsAre.int_at hit i v (by rw [Array.getElem?_toList]; exact hv)
    exact ⟨ns[i], t, List.getElem?_eq_getElem hi, by rw [e, List.getD_eq_getElem?_getD, List.getElem?_eq_getElem hi] <;> rfl⟩
  · exact ⟨0, Nat.le_refl 0, setR_new_at (Heap.get?_push_of_some _ hS)⟩
  · intro s' c hm hc hR
    obtain ⟨h', g2, d2, t2, o2⟩ := s'
    obtain rfl : g2 = s.gens := hm.gens
    obtain rfl : d2 = s.drawn := hm.drawn
    obtain rfl : o2 = s.os := hm.os
    show wpAny _ _ _ _ _ _
    refine wpAny_pure (wpAny_pure ⟨rfl, h', t2, c, rfl, hR, by rw [← sz]; exact hc, fun b o e => ?_⟩)
    have b0 := Heap.lt_size e
    exact hm.heap b o (fun m2 => by
      rcases List.mem_cons.mp m2 with e | e
      · exact Nat.ne_of_lt b0 e
      · rw [z1] at e; exact absurd (List.mem_singleton.mp e) (Nat.ne_of_lt (Nat.lt_succ_of_lt b0))) (Heap.get?_push_of_some _ (Heap.get?_push_of_some _ e))
theorem call_set_lst {l : Addr} {items : Array Value} {ns : List Int} {Q : Value → Shared → Prop} (hh : A.handled = none) (hl : s.heap.IsList l items) (hit : IntsAre items.toList ns) (hb : ns.length + 1 < scanBound)
    (h : ∀ (h' : Heap) (tk c : Nat), SetR w h' s.heap.objs.size (fun j => decide (j ∈ ns)) c → c ≤ ns.length → (∀ b o, s.heap.get? b = some o → h'.get? b = some o) → Q (.ref s.heap.objs.size) { s with heap := h', toks := tk }) : wpAny (model P w) A (call (.type "set") [.ref l]) Q E s := by
  obtain ⟨c, tl, hmro⟩ := F.called_set.mro
  have m := F.called_set.made; have su := F.called_set.sub; have n1 := F.called_set.notType; have n2 := F.called_set.canCreate; have n3 := F.typeCall_set_1 (.ref l)
  refine wpAny_call (codeAny_of_tree (wpAny_pure ⟨Code.quiet_builtin _ (by decide +kernel), codeAny_builtin F.entry_type_call ?_⟩))
  rw [Around.under_plain (weight_type_call_type "set" [.ref l] []) rfl]
  repeat (any_goals (first | assumption | wp_step))
  refine codeAny_mono (code_set_led1 (.ref l) (E := E) (Q₁ := fun v s1 => v = .ref s.heap.objs.size ∧ s1 = { s with heap := s.heap.push (eset w) }) ⟨rfl, rfl⟩) fun r s1 q => ?_
  cases r with
  | error e => exact q
  | ok fl =>
    cases fl with
    | ret v =>
      obtain ⟨rfl, rfl⟩ := q
      have hT : Shared.TypeIs { s with heap := s.heap.push (eset w) } (.ref s.heap.objs.size) "set" := ⟨_, Heap.get?_push_size _ rfl, rfl⟩
      have li := F.called_set.init.lookup; have bi := F.called_set.init.bind (.ref s.heap.objs.size)
      repeat (any_goals (first | assumption | wp_step))
      refine codeAny_mono (codeAny_call_builtin_code (R := wants (Filled w s ns) E) (plainId_quiet F.called_set.init.plain _) (check_set_init_1 hT (init_lst (by simp [hh]) hl hit hb))) fun r s2 q2 => ?_
      cases r with
      | error e => exact q2
      | ok fl =>
        cases fl with
        | ret v =>
          obtain ⟨rfl, h', tk, c, rfl, R, cl, k⟩ := q2
          repeat (any_goals (first | assumption | wp_step))
          exact h _ _ _ R cl k
        | _ => exact q2.elim
    | _ => exact q.elim
end
section
variable {X : Cx} {z : Z} {es : List Sl} {s s1 : S} {a : Expr} {p p1 p2 p3 pos : Pos}
def rSetL (K : PySem.W.Frag) (w : World) : List V → Hp → VK → Prop := fun vs H Q => ∃ (l : Addr) (ns : List Int), vs = [.ref l] ∧ SqL K H l (ns.map V.int) ∧ ns.length ≤ 1000 ∧ ∀ (p : Addr) (c : Nat), H p = none → c ≤ ns.length → Q (.ref p) (upd H p (SetO w p (fun j => decide (j ∈ ns)) c))
theorem cr_setL (hc : X.calm = true) : CallR X (.type "set") (rSetL X.K X.w) := by
  intro pins s σ H vs us Q I r h
  obtain ⟨l, ns, rfl, hq, hl, q⟩ := h
  rw [Vals.ref1 r]
  obtain ⟨its, rv, pl, hz⟩ := I.list hq
  refine call_set_lst (I.ok.hd hc) pl.isList (ns := ns) (by simpa using rv.ints) (by unfold scanBound; omega) fun h' tk c R cl k => ?_
  exact ⟨.ref _, upd H s.heap.objs.size (SetO X.w s.heap.objs.size (fun j => decide (j ∈ ns)) c), I.laid (t' := tk) k (Nat.le_refl _) (setO_new R), rfl, q _ c (I.hok.fresh (Nat.le_refl _)) cl⟩
/-- two risen lists of the same members are one -/
theorem risen_eq : ∀ {a b : List Int}, a.Pairwise (· < ·) → b.Pairwise (· < ·) → (∀ k, k ∈ a ↔ k ∈ b) → a = b
  | [], [], _, _, _ => rfl
  | [], y :: b, _, _, h => absurd ((h y).mpr (List.mem_cons_self ..)) (by simp)
  | x :: a, [], _, _, h => absurd ((h x).mp (List.mem_cons_self ..)) (by simp)
  | x :: a, y :: b, ha, hb, h => by
    obtain ⟨a1, a2⟩ := List.pairwise_cons.mp ha
    obtain ⟨b1, b2⟩ := List.pairwise_cons.mp hb
    have e : x = y := by
      rcases List.mem_cons.mp ((h x).mp (List.mem_cons_self ..)) with e | m
      · exact e
      · rcases List.mem_cons.mp ((h y).mpr (List.mem_cons_self ..)) with e | m2
        · exact e.symm
        · have := a1 y m2
          have := b1 x m
          omega
    subst e
    rw [risen_eq a2 b2 fun k => ⟨fun m => by
      rcases List.mem_cons.mp ((h k).mp (List.mem_cons_of_mem _ m)) with e | m'
      · have := a1 k m
        omega
      · exact m', fun m => by
      rcases List.mem_cons.mp ((h k).mpr (List.mem_cons_of_mem _ m)) with e | m'
      · have := b1 k m
        omega
      · exact m'⟩]
theorem DaAll.ints {H : Hp} : ∀ {vs : List V} {ns : List Int}, DaAll z H vs (ns.map PyData.int) → vs = ns.map V.int
  | _, [], .nil => rfl
  | _, _ :: _, .cons h r => by
    cases h
    rw [DaAll.ints r]
    rfl
theorem daAll_ints {H : Hp} : ∀ ns : List Int, DaAll z H (ns.map V.int) (ns.map PyData.int)
  | [] => .nil
  | n :: ns => .cons (.int n) (daAll_ints ns)
/-- sorted(set(xs)), xs a risen list -/
theorem ev_sortSet {ns : List Int} (hc : X.calm = true) (hm : X.mg "sorted" = none) (hm2 : X.mg "set" = none) (hr : ns.Pairwise (· < ·)) (hl : ns.length < 64) (ha : EV X z a es s (.list (ns.map .int)) s1) (hg : Gl X "sorted" := by rfl) (hg2 : Gl X "set" := by rfl)
    (h1 : starEach [.Call (.Name "set" p) [a] [] p1] X.env = (false, eval (.Call (.Name "set" p) [a] [] p1) X.env) :: starEach [] X.env := by rfl) (h2 : starEach [a] X.env = (false, eval a X.env) :: starEach [] X.env := by rfl)
    (h3 : (backTo p1 (starEach [] X.env)).any (·.1) = false := by rfl) (h4 : (backTo pos (starEach [] X.env)).any (·.1) = false := by rfl) :
    EV X z (.Call (.Name "sorted" p2) [.Call (.Name "set" p) [a] [] p1] [] pos) es s (.list (ns.map .int)) s1 :=
  .mk (pe_callB (cr_sortedSet hc) hg hm (by decide +kernel) (pa_cons (pe_callTy (cr_setL hc) hg2 hm2 (by decide +kernel) (pa_cons wE_ok pa_nil h2) (by decide) (by decide) h2 h3) pa_nil h1) (by decide) (by decide) h1 h4) fun σ H en at_ Q q => ha σ H en at_ _ fun v H1 e1 a1 v1 => by
    cases v1 with
    | lst n e r =>
      have hv := r.ints
      subst hv
      refine ⟨_, ns, rfl, .inl (.inl e), by omega, fun b c hb hcl => ⟨b, _, c, rfl, upd_same, by omega, fun ns' b2 hp hk hln hb2 => ?_⟩⟩
      have eq : ns' = ns := risen_eq hp hr fun k => by rw [hk k]; exact decide_eq_true_iff
      subst eq
      have k2 : Ez z H1 (upd (upd H1 b (SetO X.w b (fun j => decide (j ∈ ns')) c)) b2 (.lst (ns'.map V.int))) := (Ez.new hb).trans (.new hb2)
      exact q _ _ (e1.trans k2) ((a1.new hb).new hb2) (.lst ((a1.new hb).fresh hb2) upd_same (daAll_ints ns'))
end
end DL


set_option Elab.async false
set_option linter.all false
set_option maxRecDepth 100000
namespace DL
open PySem PySem.Spec PyProof.Rows L2
variable [TabT]
section
variable {X : Cx} {z : Z} {es : List Sl} {s s1 s2 : S} {iter elt cond a b e : Expr} {ds fs : List PyData} {o : Out} {rest : List Stmt} {pos p p1 p2 p3 p4 : Pos} {d : PyData}
theorem filt_step {α : Type} {ds : List α} {i : Nat} {d : α} (h : ds[i]? = some d) (kb : α → Bool) : (ds.take (i + 1)).filter kb = (ds.take i).filter kb ++ if kb d then [d] else [] := by
  rw [List.take_succ, h, List.filter_append]
  congr 1
  show List.filter kb [d] = _
  cases hk : kb d
  · rw [List.filter_cons_of_neg (by rw [hk]; decide)]
    rfl
  · rw [List.filter_cons_of_pos hk]
    rfl
/-- [x for x in a list or a tuple if test], the test leaves the state -/
theorem ev_lcW (kd : Bool) {j : Nat} {x : Str} {scope : Scope} (hc : X.calm = true) (hN : X.N.Nodup) (kb : PyData → Bool) (hit : EV X z iter es s (dK kd ds) s) (hl : ds.length ≤ 100000) (hB : BlkOk X.N X.env.scope scope [(x, j)]) (hg : PgIn X scope (.Name x p) (gName j))
    (Ht : ∀ d ∈ ds, ∀ z' : Z, Blk X scope fun Y => ET Y z' cond (es.set j (.val d)) s (kb d) s) (He : ∀ d ∈ ds, ∀ z' : Z, Blk X scope fun Y => EV Y z' elt (es.set j (.val d)) s d s)
    (hs : ∀ x, foldedSetIterable iter X.env x = pure x := by intro _; rfl) :
    EV X z (.ListComp elt [{ target := .Name x p, iter := iter, ifs := [cond], is_async := 0 }] scope pos) es s (.list (ds.filter kb)) s := by
  have g1 : ∀ {xs : List V}, xs.length = ds.length → ∀ i, i < xs.length → ds[i]? = some (ds.getD i .none) := fun {xs} hx i hi => by
    rw [List.getD_eq_getElem?_getD, List.getElem?_eq_getElem (by omega)]
    rfl
  cases kd with
  | false =>
    refine .mk (pe_lc (own := [(x, j)]) hc hN (pi_list wE_ok) hB hg tTs_ok tEl_ok hs) fun σ H en at_ Q q => hit σ H en at_ _ fun v H1 e1 a1 v1 => ?_
    cases v1 with
    | @lst a xs _ fa ha r =>
      have hx : xs.length = ds.length := r.length
      refine ⟨a, rfl, ⟨xs, .inl (.inl ha)⟩, fun D hD => ?_⟩
      refine lc_gen (walk_list (K := X.K) (a := a) (xs := xs)) (fun _ => s) (fun _ => s) (en.mono e1) a1 hD (fun i => ds.getD i .none) (fun H' e => .inl (.inl (e a _ fa ha))) (fun i x H' H2 hi hy => ⟨hy.1, ?_⟩) (by omega) (fun i => kb (ds.getD i .none)) (fun i => (ds.take i).filter kb) rfl
        (fun z' i hi σ H en at_ Q q s0 H0 C cl fp => Ht _ (List.mem_of_getElem? (g1 hx i hi)) z' s0 H0 C cl fp σ H en at_ Q q) (fun z' i hi hk => ⟨_, by rw [filt_step (g1 hx i hi), if_pos hk], fun σ H en at_ Q q s0 H0 C cl fp => He _ (List.mem_of_getElem? (g1 hx i hi)) z' s0 H0 C cl fp σ H en at_ Q q⟩)
        (fun i hi h => ⟨by rw [filt_step (g1 hx i hi), if_neg (by rw [h]; decide), List.append_nil], rfl⟩) (fun H' e a2 d2 => ?_)
      · obtain ⟨d, hd, hv⟩ := r.getV i x hy.2
        rw [g1 hx i hi] at hd
        rw [Option.some.inj hd]
        exact hv
      · rw [hx, List.take_length] at d2
        exact q _ H' (e1.trans e) a2 d2
  | true =>
    refine .mk (pe_lc (own := [(x, j)]) hc hN (pi_tup wE_ok) hB hg tTs_ok tEl_ok hs) fun σ H en at_ Q q => hit σ H en at_ _ fun v H1 e1 a1 v1 => ?_
    cases v1 with
    | @tup a xs _ fa ha r =>
      have hx : xs.length = ds.length := r.length
      refine ⟨a, rfl, ⟨xs, .inl (.inl ha)⟩, fun D hD => ?_⟩
      refine lc_gen (walk_tup (K := X.K) (a := a) (xs := xs)) (fun _ => s) (fun _ => s) (en.mono e1) a1 hD (fun i => ds.getD i .none) (fun H' e => .inl (.inl (e a _ fa ha))) (fun i x H' H2 hi hy => ⟨hy.1, ?_⟩) (by omega) (fun i => kb (ds.getD i .none)) (fun i => (ds.take i).filter kb) rfl
        (fun z' i hi σ H en at_ Q q s0 H0 C cl fp => Ht _ (List.mem_of_getElem? (g1 hx i hi)) z' s0 H0 C cl fp σ H en at_ Q q) (fun z' i hi hk => ⟨_, by rw [filt_step (g1 hx i hi), if_pos hk], fun σ H en at_ Q q s0 H0 C cl fp => He _ (List.mem_of_getElem? (g1 hx i hi)) z' s0 H0 C cl fp σ H en at_ Q q⟩)
        (fun i hi h => ⟨by rw [filt_step (g1 hx i hi), if_neg (by rw [h]; decide), List.append_nil], rfl⟩) (fun H' e a2 d2 => ?_)
      · obtain ⟨d, hd, hv⟩ := r.getV i x hy.2
        rw [g1 hx i hi] at hd
        rw [Option.some.inj hd]
        exact hv
      · rw [hx, List.take_length] at d2
        exact q _ H' (e1.trans e) a2 d2
/-- [e for i, x in enumerate(a list) if test] -/
theorem ev_lcEW {j k : Nat} {x y : Str} {scope : Scope} {kt : Nat} (hc : X.calm = true) (hN : X.N.Nodup) (hm : X.mg "enumerate" = none) (hjk : j ≠ k) (kb : Nat → Bool) (f : Nat → PyData) (hit : ED X z [a] es s [.list ds] s) (hl : ds.length ≤ 100000) (hB : BlkOk X.N X.env.scope scope [(x, j), (y, k)]) (hg : PgIn X scope (.Tuple [.Name x p, .Name y p1] kt p2) (gTup X.K 2 (gCons (gName j) (gCons (gName k) gNil))))
    (Ht : ∀ (i : Nat) d, ds[i]? = some d → ∀ z' : Z, Blk X scope fun Y => ET Y z' cond ((es.set j (.val (.int (i : Int)))).set k (.val d)) s (kb i) s) (He : ∀ (i : Nat) d, ds[i]? = some d → ∀ z' : Z, Blk X scope fun Y => EV Y z' elt ((es.set j (.val (.int (i : Int)))).set k (.val d)) s (f i) s)
    (hgl : Gl X "enumerate" := by rfl) (hst : starEach [a] X.env = [(false, eval a X.env)] := by rfl) (hs : ∀ x, foldedSetIterable (.Call (.Name "enumerate" p3) [a] [] p4) X.env x = pure x := by intro _; rfl) :
    EV X z (.ListComp elt [{ target := .Tuple [.Name x p, .Name y p1] kt p2, iter := .Call (.Name "enumerate" p3) [a] [] p4, ifs := [cond], is_async := 0 }] scope pos) es s (.list (((List.range ds.length).filter kb).map f)) s := by
  have step : ∀ i, ((List.range (i + 1)).filter kb).map f = ((List.range i).filter kb).map f ++ (if kb i then [f i] else []) := fun i => by
    rw [List.range_succ, List.filter_append, List.map_append]
    congr 1
    cases hk : kb i
    · rw [List.filter_cons_of_neg (by rw [hk]; decide)]
      rfl
    · rw [List.filter_cons_of_pos hk]
      rfl
  have g1 : ∀ {xs : List V}, xs.length = ds.length → ∀ i, i < xs.length → ds[i]? = some (ds.getD i .none) := fun {xs} hx i hi => by
    rw [List.getD_eq_getElem?_getD, List.getElem?_eq_getElem (by omega)]
    rfl
  refine .mk (pe_lc (own := [(x, j), (y, k)]) hc hN (pi_enum hgl hm wA_ok hst) hB hg tTs_ok tEl_ok hs) fun σ H en at_ Q q => hit σ H en at_ _ fun vs H1 e1 a1 v1 => ?_
  cases v1 with
  | cons h1 r =>
    cases r
    cases h1 with
    | @lst a1' xs _ fa ha r1 =>
      have hx : xs.length = ds.length := r1.length
      refine ⟨a1', xs, rfl, .inl (.inl ha), fun D hD => ?_⟩
      refine lc_two (K := X.K) (walk_enum (K := X.K) (a := a1') (xs := xs)) (fun _ => s) (fun _ => s) (en.mono e1) a1 hD hjk (fun i => .int (i : Int)) (fun i => ds.getD i .none) (fun H' e => .inl (.inl (e _ _ fa ha))) (fun i x H' H2 hi eH hY => ?_) (by omega) kb (fun i => ((List.range i).filter kb).map f) rfl
        (fun z' i hi σ H en at_ Q q s0 H0 C cl fp => Ht i _ (g1 hx i hi) z' s0 H0 C cl fp σ H en at_ Q q) (fun z' i hi hk => ⟨_, by rw [step i, if_pos hk], fun σ H en at_ Q q s0 H0 C cl fp => He i _ (g1 hx i hi) z' s0 H0 C cl fp σ H en at_ Q q⟩) (fun i _ h => ⟨by rw [step i, if_neg (by rw [h]; decide), List.append_nil], rfl⟩) (fun H' e a2 d2 => ?_)
      · obtain ⟨T, u, v, rfl, nT, rfl, hu, hv⟩ := hY
        cases hu
        obtain ⟨d, hd, hdv⟩ := r1.getV i v hv
        rw [g1 hx i hi] at hd
        exact ⟨T, _, v, rfl, .inl (.inl upd_same), .inr ⟨nT, rfl⟩, .int _, by rw [Option.some.inj hd]; exact hdv⟩
      · rw [hx] at d2
        exact q _ H' (e1.trans e) a2 d2
end
end DL


set_option Elab.async false
set_option linter.all false
set_option maxRecDepth 100000
namespace DL
open PySem PySem.Spec PyProof.Rows L2
variable [TabT]
end DL


set_option Elab.async false
set_option linter.all false
set_option maxRecDepth 100000
namespace DL
open PySem PySem.Spec PyProof.Rows L2
variable [TabT]
/-! ### try: several clauses, each with a name or without -/
abbrev Cl := Value × Option Nat × (Addr → Value → Option Addr → TS)
/-- the ends of a suite whose name goes behind it -/
def dropE (D : Ends) (i : Nat) : Ends := { nx := fun τ G => D.nx (τ.set i none) G, rt := D.rt, bk := fun τ G => D.bk (τ.set i none) G, ct := fun τ G => D.ct (τ.set i none) G }
/-- a clause's suite, entered -/
def inCl (cl : Cl) (e : Addr) (ty : Value) (dx : Option Addr) (D : Ends) (τ : L2.St) (G : Hp) : Prop := match cl.2.1 with
  | none => cl.2.2 e ty dx D τ G
  | some i => cl.2.2 e ty dx (dropE D i) (τ.set i (some (.ref e))) G
/-- what the clauses ask of an exception, from the first on -/
def clW (K : PySem.W.Frag) (Wo : WX) (D : Ends) : List Cl → WX
  | [] => Wo
  | cl :: l => fun ty dx τ G => ∃ b, PySem.W.exmOne K ty cl.1 = some b ∧ (b = true → ∀ e, G e = none → inCl cl e ty dx D τ G) ∧ (b = false → clW K Wo D l ty dx τ G)
inductive Hs (X : Cx) : List ExceptHandler → List Cl → Prop
  | nil : Hs X [] []
  | bare {x : Str} {c : Value} {ts : Addr → Value → Option Addr → TS} {st : Stmt} {sts : List Stmt} {pn pc : Pos} {hs : List ExceptHandler} {l : List Cl} (hc : Names X x c)
      (hsu : ∀ (e : Addr) (oe : Obj) (ty : Value) (dx : Option Addr) (ps : List (Addr × Obj)), Zc ty dx oe → (∃ vs, oe.data = .fields vs) → PSs (X.suite e ((e, oe) :: ps)) (st :: sts) (ts e ty dx)) (r : Hs X hs l) :
      Hs X (.ExceptHandler (some (.Name x pn)) none (st :: sts) pc :: hs) ((c, none, ts) :: l)
  | named {x n : Str} {i : Nat} {c : Value} {ts : Addr → Value → Option Addr → TS} {st : Stmt} {sts : List Stmt} {pn pc : Pos} {hs : List ExceptHandler} {l : List Cl} (hc : Names X x c) (hi : X.N[i]? = some n) (hln : X.env.kindOf n = some .local)
      (hsu : ∀ (e : Addr) (oe : Obj) (ty : Value) (dx : Option Addr) (ps : List (Addr × Obj)), Zc ty dx oe → (∃ vs, oe.data = .fields vs) → PSs (X.suite e ((e, oe) :: ps)) (st :: sts) (ts e ty dx)) (r : Hs X hs l) :
      Hs X (.ExceptHandler (some (.Name x pn)) (some n) (st :: sts) pc :: hs) ((c, some i, ts) :: l)
section
variable {X : Cx} {body : List Stmt} {h0 : ExceptHandler} {hs : List ExceptHandler} {l : List Cl} {pos : Pos} {tb : WX → TS} {Wo : WX}
theorem ps_tryM (hst : X.stack = X.env :: X.outer) (hfr : X.env.frame = some X.env.locals) (nd : X.N.Nodup) (tk : Takes X Wo)
    (hb : ∀ (W : WX) (ps : List (Addr × Obj)) (xe : Value → Shared → Prop), Takes (X.tr ps xe) W → PassesOwn (model X.prog X.w) X.A X.env xe → PSs (X.tr ps xe) body (tb W))
    (hh : Hs X (h0 :: hs) l) : PS X (.Try body (h0 :: hs) [] [] pos) (fun D τ G => tb (clW X.K Wo D l) D τ G) := by
  constructor
  intro pins s τ G D I ask
  have okX := I.ok
  have frX : X.A.frames = some (X.env :: X.outer) := okX.frames.trans (congrArg some hst)
  apply wpAny_Try_except
  refine wpAny_mono ((hb (clW X.K Wo D l) (X.pn ++ pins) (fun u s1 => wpAny (model X.prog X.w) X.A (noteFrame u X.env) (fun _ s2 => wpAny (model X.prog X.w) X.A (setFlight u none) (fun _ s3 => wpAny (model X.prog X.w) X.A (handleBy u X.env (h0 :: hs)) (SP X pins D) X.xe s3) X.xe s2) X.xe s1) ?got PassesOwn.looking).run [] s τ G D (I.toTry _) ask) ?outp fun _ _ z => z
  case outp =>
    intro fl s1 hsp
    cases fl with
    | next =>
      rcases hsp with ⟨τ1, G1, J1, q1⟩
      exact wpAny_execs_nil ⟨τ1, G1, J1.ofTry okX, q1⟩
    | brk =>
      rcases hsp with ⟨τ1, G1, J1, q1⟩
      exact ⟨τ1, G1, J1.ofTry okX, q1⟩
    | cont =>
      rcases hsp with ⟨τ1, G1, J1, q1⟩
      exact ⟨τ1, G1, J1.ofTry okX, q1⟩
    | ret u =>
      rcases hsp with ⟨v1, τ1, G1, J1, r1, q1⟩
      exact ⟨v1, τ1, G1, J1.ofTry okX, r1, q1⟩
  case got =>
    intro u s1 told
    rcases told with ⟨e, B, sB, pinsB, τ1, G1, ty, dx, rfl, JB, nb, upB, skyB, eNew, osB, agB, wish⟩
    have J : Inv X pins τ1 G1 sB := JB.ofTry okX
    have skyX : Sky B (X.env :: X.outer) e (Zc ty dx) X.env.locals s1.heap := hst ▸ skyB
    show wpAny (model X.prog X.w) X.A (noteFrame (.ref e) X.env) _ _ _
    apply Sky.land Zc.steady frX hfr skyX
    intro g3 fly up3
    have J3 : Inv X pins τ1 G1 { s1 with heap := g3 } := J.landed nb fly.1 (upB.trans up3) osB agB
    rcases fly.there with ⟨o3, w3, ho3, hz3, hf3⟩
    have outF : e ∉ frs (X.env :: X.outer) := fun mem => by
      rcases fly.2.2.1.mem mem with ⟨_, o', ho', nof⟩
      rw [ho3] at ho'
      cases ho'
      exact nof _ hf3
    have neL : e ≠ X.env.locals := fun z => outF (List.mem_filterMap.mpr ⟨X.env, List.mem_cons_self, hfr.trans (congrArg some z.symm)⟩)
    have neF : e ∉ X.fs := fun mem => by
      rcases List.mem_filterMap.mp mem with ⟨en, men, qen⟩
      exact outF (List.mem_filterMap.mpr ⟨en, List.mem_cons_of_mem _ men, qen⟩)
    have S3 := J3.suite ho3 hf3 eNew neL neF
    have ends : ∀ {cl : List ExceptHandler} {ll : List Cl}, Hs X cl ll → clW X.K Wo D ll ty dx τ1 G1 → wpAny (model X.prog X.w) X.A (handleBy (.ref e) X.env cl) (SP X pins D) X.xe { s1 with heap := g3 } := by
      -- the class that a clause names, looked up and held against the exception's
      have look : ∀ {x : Str} {c : Value} {pn : Pos} {Q E : Value → Shared → Prop}, Names X x c → Q c { s1 with heap := g3 } → wpAny (model X.prog X.w) (X.A.mark (some (.ref e))) (eval (.Name x pn) X.env) Q E { s1 with heap := g3 } := by
        intro x c pn Q E nm q
        rcases nm with ⟨gl, db, m | ⟨m, v, nn⟩⟩
        · exact ld_glob (X := X.suite e ((e, o3) :: (X.pn ++ pins))) S3 gl m q db
        · exact ld_blt (X := X.suite e ((e, o3) :: (X.pn ++ pins))) S3 gl m v q nn db
      have kind : PySem.W.Looks (model X.prog X.w) g3 (typeOf (.ref e)) ty := fun A Q E s k q => wpAny_typeOf_ref (k _ _ ho3) (by rw [hz3.1]; exact q)
      intro cl ll hk
      induction hk with
      | nil =>
        intro wsh
        apply wpAny_handleBy_nil
        rcases id fly with ⟨_, _, _, o4, w4, T4, oT4, tl4, ho4, _, hf4, ht4, _⟩
        unfold PySem.passOn
        refine wpAny_bind (wpAny_field ho4 hf4 ht4 ?_)
        have ff : ¬ ((Value.ref T4 == Value.none) = true) := by simp
        rw [if_neg ff]
        have off : wpAny (model X.prog X.w) X.A (setFlight (.ref e) X.env.frame) (fun _ s4 => wpAny (model X.prog X.w) X.A (throw (.ref e) : Sem Flow) (SP X pins D) X.xe s4) X.xe { s1 with heap := g3 } := by
          rw [hfr]
          exact HandSPX.setFlight_upZ fly fun g4 hg4 up4 => wpAny_throw (tk _ _ ⟨e, B, sB, pins, τ1, G1, ty, dx, rfl, J, nb, (upB.trans up3).trans up4, .inr (.inr (hst ▸ hg4)), eNew, osB, agB, wsh⟩)
        first
          | exact wpAny_bind (wpAny_pure (wpAny_bind off))
          | exact wpAny_bind off
      | @bare x c ts st sts pn pc hs2 l2 hc hsu r ih =>
        intro wsh
        rcases wsh with ⟨b, hm, yes, no⟩
        refine wpAny_handleBy_cons (codeAny_handlers_test ?_) (by intro q; cases q)
        refine look hc ((PySem.W.exm_one (M := model X.prog X.w) J3.kIn kind hm).here ?_)
        cases b with
        | false => exact ih (no rfl)
        | true =>
          refine codeAny_handlers_suite (HandSPX.lands_againZ fly fun g4 fly4 up4 => ?_)
          have J4 : Inv X pins τ1 G1 { s1 with heap := g4 } := J.landed nb fly4.1 ((upB.trans up3).trans up4) osB agB
          rcases fly4.there with ⟨o4, w4, ho4, hz4, hf4⟩
          refine wpAny_mono ((hsu e o4 ty dx (X.pn ++ pins) hz4 ⟨_, hf4⟩).run [] _ _ G1 _ (J4.suite ho4 hf4 eNew neL neF) (yes rfl e eNew)) (fun fl s6 hsp => ?_) (fun _ _ z => z.elim)
          cases fl with
          | ret u =>
            rcases hsp with ⟨v6, τ6, G6, S6, r6, q6⟩
            exact ⟨_, _, _, S6.unsuite okX, r6, q6⟩
          | _ =>
            rcases hsp with ⟨τ6, G6, S6, q6⟩
            exact ⟨_, _, S6.unsuite okX, q6⟩
      | @named x n i c ts st sts pn pc hs2 l2 hc hi hln hsu r ih =>
        intro wsh
        rcases wsh with ⟨b, hm, yes, no⟩
        refine wpAny_handleBy_cons (codeAny_handlers_test ?_) (by intro q; cases q)
        refine look hc ((PySem.W.exm_one (M := model X.prog X.w) J3.kIn kind hm).here ?_)
        cases b with
        | false => exact ih (no rfl)
        | true =>
          refine codeAny_handlers_suite_as (HandSPX.lands_againZ fly fun g4 fly4 up4 => ?_)
          have J4 : Inv X pins τ1 G1 { s1 with heap := g4 } := J.landed nb fly4.1 ((upB.trans up3).trans up4) osB agB
          rcases fly4.there with ⟨o4, w4, ho4, hz4, hf4⟩
          refine store_ok (X := X.suite e ((e, o4) :: (X.pn ++ pins))) (v := .ref e) (J4.suite ho4 hf4 eNew neL neF) nd hi (.inl hln) rfl (fun s5 S5 => ?_) (.inr hln)
          refine wpAny_mono ((hsu e o4 ty dx (X.pn ++ pins) hz4 ⟨_, hf4⟩).run [] s5 _ G1 _ S5 (yes rfl e eNew)) (fun fl s6 hsp => ?_) (fun _ _ z => z.elim)
          have bye : ∀ {τ6 : L2.St} {G6 : Hp} {Q : Shared → Prop}, Inv (X.suite e ((e, o4) :: (X.pn ++ pins))) [] τ6 G6 s6 → (∀ s7, Inv X pins (τ6.set i none) G6 s7 → Q s7) → wpAny (model X.prog X.w) X.A (do bindName X.env n .none; unbindBehindTheSuite X.env n pc) (fun _ s7 => Q s7) X.xe s6 := fun S6 hq => gone_ok (S6.unsuite okX) nd hi hln hq
          cases fl with
          | ret u =>
            rcases hsp with ⟨v6, τ6, G6, S6, r6, q6⟩
            exact bye S6 fun s7 J7 => ⟨_, _, _, J7, r6, q6⟩
          | _ =>
            rcases hsp with ⟨τ6, G6, S6, q6⟩
            exact bye S6 fun s7 J7 => ⟨_, _, J7, q6⟩
    exact ends hh wish
end
end DL


set_option Elab.async false
set_option linter.all false
set_option maxRecDepth 100000
namespace DL
open PySem PySem.Spec PyProof.Rows L2 LamX
variable [TabT]
/-! ### a lambda without parameters, made -/
/-- what its making does to the heap: nothing, or a new code object that its table tells -/
def Mades (T : List (Addr × Str)) (G G1 : Hp) : Prop := G1 = G ∨ ∃ (P c : Addr) (q q' : Str) (ps more : Array Value), (P, q') ∈ T ∧ G P = some (.tbl ps) ∧ G c = none ∧ G1 = upd (upd G P (.tbl (ps ++ more))) c (CodeO c q)
theorem Mades.keep {T : List (Addr × Str)} {G G1 : Hp} (m : Mades T G G1) {b : Addr} {o : HO} (e : G b = some o) (n : ∀ q, (b, q) ∉ T) : G1 b = some o := by
  rcases m with rfl | ⟨P, c, q, q', ps, more, hm, hP, hc, rfl⟩
  · exact e
  · rw [upd_ne (ne_of_none e hc), upd_ne (fun z => n q' (by rw [z]; exact hm))]
    exact e
theorem Mades.ez {z : Z} {G G1 : Hp} (m : Mades TabT.T G G1) : Ez z G G1 := fun b o f e => m.keep e f.1.2
theorem Mades.at_ {z : Z} {G G1 : Hp} {s : S} (m : Mades TabT.T G G1) (A : At z G s) (t : Tabs TabT.T G1) : At z G1 s :=
  ⟨fun a e => m.keep (A.d a e) (A.tab_far (A.d a e)), fun p hp => by
    obtain ⟨xs, ex⟩ := (A.n p hp).2
    exact m.keep (A.v p hp) (A.tab_far (xs := xs) (by rw [A.v p hp, ex])), A.n, t⟩
section
variable {X : Cx} {pins : List (Addr × Obj)} {σ : L2.St} {G : Hp} {s : Shared}
theorem lam_new {T : List (Addr × Str)} {c P : Addr} {params : Arguments} {body : Expr} {scope : Scope} {pos : Pos} {E Q : Value → Shared → Prop} (I : Inv X pins σ G s) (TB : TabB X.base X.mg c P) (own : X.env.code = .ref c) (inT : (P, X.env.qual ++ "<lambda>") ∈ T)
    (one : ∀ p ∈ T, p.1 = P → p.2 = X.env.qual ++ "<lambda>") (tT : Tabs T G) (noDef : defaultsOf params X.env = ([], [])) (caps : ∀ y ∈ scope.names, y.2 = .free → ∃ c, X.env.cells.lookup y.1 = some c)
    (go : ∀ (f k : Addr) (pm ct : Value) (G1 : Hp) (s1 : Shared), Inv X pins σ G1 s1 → Mades T G G1 → Tabs T G1 → s1.heap.get? f = some (PySem.W.kla_obj "<lambda>" (X.env.qual ++ "<lambda>") params body scope (cloFrom X.env.cells scope.names []) pm k ct) → G1 f = none → f ∉ frs X.stack → G1 k = some (CodeO k (X.env.qual ++ "<lambda>")) → Q (.ref f) s1) :
    wpAny (model X.prog X.w) X.A (eval (.Lambda params body scope pos) X.env) Q E s := by
  rcases tT _ inT with ⟨ps, atP, trip, among⟩
  have realP : s.heap.get? P = some { cls := .none, data := .fields ps } := I.hok P _ atP
  have bltP : s.heap.BuiltinsAt X.mg P := TB.bm.keeps I.bk
  have high : ∀ f, s.heap.objs.size ≤ f → f ∉ frs X.stack := by
    intro f hf mem
    rcases List.mem_cons.mp (I.stkSub _ mem) with e | e
    · have low := I.lt
      rw [← e] at low
      exact absurd low (Nat.not_lt.mpr hf)
    · exact I.nofs hf e
  apply PySem.W.kla_eval noDef
  cases there : codeAmong pos ps.toList with
  | some cv =>
    rcases among pos cv there with ⟨k, rfl, atK⟩
    apply PySem.W.kla_makeFunctionHit (mg := X.mg) (c := c) (P := P) (ps := ps) (closure_ok caps) I.ok.glob (I.mod.glob.keeps I.bk) own (TB.code.keeps I.bk) realP trip there bltP
    intro ct h1 tk kept big
    exact go h1.objs.size k ((X.mg "__name__").getD .none) ct G _ (I.kept (fun b o e => Heap.get?_push_of_some _ (kept b o e))) (.inl rfl) tT (Heap.get?_push_size _ rfl) (I.hok.fresh big) (high _ big) atK
  | none =>
    apply PySem.W.kla_makeFunction (mg := X.mg) (c := c) (P := P) (ps := ps) (closure_ok caps) I.ok.glob (I.mod.glob.keeps I.bk) own (TB.code.keeps I.bk) realP trip there TB.gP bltP
    intro k ct h1 tk kept ge lt rec tbl
    rcases rec with ⟨k2, oc, vs, t, e2, atO, dO, nO⟩
    cases e2
    have big : s.heap.objs.size ≤ h1.objs.size := Nat.le_trans ge (Nat.le_of_lt lt)
    have newK : G k = none := I.hok.fresh ge
    have J := inv_table (t' := tk) (q := X.env.qual ++ "<lambda>") (more := #[rawInt pos.line, rawInt pos.col, .ref k]) (h' := h1.push (PySem.W.kla_obj "<lambda>" (X.env.qual ++ "<lambda>") params body scope (cloFrom X.env.cells scope.names []) ((X.mg "__name__").getD .none) k ct)) I atP
      (fun b o nb e => Heap.get?_push_of_some _ (kept b o nb e)) (Heap.get?_push_of_some _ tbl) ge ⟨oc, vs, t, Heap.get?_push_of_some _ atO, dO, nO⟩
    have kp : ∀ b o, G b = some o → (∀ xs, o ≠ .tbl xs) → upd (upd G P (.tbl (ps ++ #[rawInt pos.line, rawInt pos.col, .ref k]))) k (CodeO k (X.env.qual ++ "<lambda>")) b = some o := by
      intro b o e n
      rw [upd_ne (ne_of_none e newK), upd_ne (fun w => ?_)]
      · exact e
      · rw [w, atP] at e
        exact n ps (Option.some.inj e).symm
    have asL : (ps ++ #[rawInt pos.line, rawInt pos.col, .ref k]).toList = ps.toList ++ [rawInt pos.line, rawInt pos.col, .ref k] := by simp
    refine go h1.objs.size k ((X.mg "__name__").getD .none) ct _ _ J (.inr ⟨P, k, _, _, ps, _, inT, atP, newK, rfl⟩) (fun p hp => ?_) (Heap.get?_push_size _ rfl) ?_ (high _ big) upd_same
    · by_cases eP : p.1 = P
      · rw [one p hp eP, eP]
        refine ⟨_, (upd_ne (ne_of_none atP newK)).trans upd_same, by rw [asL]; exact PySem.TriplesOk_snoc _ _ _ _ trip, fun pp cv hv => ?_⟩
        rw [asL] at hv
        rcases among_app _ trip hv with w | w
        · rcases among pp cv w with ⟨k0, a0, b0⟩
          exact ⟨k0, a0, kp _ _ b0 codeO_ne⟩
        · exact ⟨k, w, upd_same⟩
      · rcases tT p hp with ⟨ps2, a1, a2, a3⟩
        refine ⟨ps2, (upd_ne (ne_of_none a1 newK)).trans ((upd_ne eP).trans a1), a2, fun pp cv hv => ?_⟩
        rcases a3 pp cv hv with ⟨k0, a0, b0⟩
        exact ⟨k0, a0, kp _ _ b0 codeO_ne⟩
    · rw [upd_ne (Nat.ne_of_gt lt), upd_ne (Nat.ne_of_gt (Nat.lt_of_lt_of_le (Heap.lt_size realP) big))]
      exact I.hok.fresh big
/-- f(lambda: body): what the def makes of what it got, from the heap behind the making on -/
def tLamN (T : List (Addr × Str)) (TT : (XK → Hp → VK → Prop) → Hp → VK → Prop) (t : XK → TE) : TE := fun σ G Q => Tabs T G ∧ ∀ G1, Mades T G G1 → Tabs T G1 → TT (fun E H' Q' => t E σ H' Q') G1 Q
theorem pe_lam {T : List (Addr × Str)} {TT : (XK → Hp → VK → Prop) → Hp → VK → Prop} {x a : Str} {g c P : Addr} {k : Nat} {pg : Arguments} {bg : List Stmt} {sg : Scope} {dV kV doc pm cdv ct oc : Value} {an od : Option Addr} {osl : Array (Option Value)} {Ng : List Str} {params : Arguments} {body : Expr} {scope : Scope} {t : XK → TE} {p lpos pos : Pos}
    (gl : Gl X x) (mx : X.mg x = some (.ref g)) (kp : PySem.W.keepIn X.K (.ref g) = true) (lk : X.K.lookup g = some ⟨oc, od, .func (PySem.W.fnOf x x pg bg sg dV kV doc pm an cdv ct), osl⟩) (cg : PySem.W.codeIn X.K cdv x = true) (bd : L2.Binds X.K (PySem.W.fnOf x x pg bg sg dV kV doc pm an cdv ct) [a] []) (Sg : FnScope Ng [a] sg) (N0 : Ng[0]? = some a) (va : Vis sg a)
    (gives : GivesTo X Ng x sg g cdv bg a (X.env.qual ++ "<lambda>") TT) (TB : TabB X.base X.mg c P) (own : X.env.code = .ref c) (inT : (P, X.env.qual ++ "<lambda>") ∈ T) (one : ∀ p ∈ T, p.1 = P → p.2 = X.env.qual ++ "<lambda>") (room : Room (k + 2) X.A) (L : LamS X.env.scope scope) (noDef : defaultsOf params X.env = ([], []))
    (none_ : ∀ (q : Str) (cl : List (Str × Addr)) (pm cv ctv : Value), bindArgs (PySem.W.kla_fn "<lambda>" q params body scope cl pm cv ctv) ⟨[], []⟩ = pure [])
    (inner : ∀ (A : Around) (outer : List Env) (s : Shared) (H : Hp) (E : XK) (f k' : Addr), Room k (A.deeper (lamEnv X scope s.heap.objs.size f k')) → PE (lamCx X A outer s H E scope f k') body (t E))
    (hx : (x == ("__debug__" : Str)) = false := by decide) (ha : (a == ("__debug__" : Str)) = false := by decide) (hac : (a == ("__classdict__" : Str)) = false := by decide) : PE X (.Call (.Name x p) [.Lambda params body scope lpos] [] pos) (tLamN T TT t) := by
  constructor
  intro pins s σ G Q I ask
  rcases ask with ⟨tT, ask⟩
  apply wpAny_Call_Name_kw
  refine ld_glob I gl mx (PySem.W.callWith_K (h₀ := X.base) I.ok.mod.kin kp ?_ (by rfl) (by rfl)) hx
  show wpAny _ _ (spliced ((false, eval (.Lambda params body scope lpos) X.env) :: backTo pos (starEach [] X.env))) _ _ s
  apply Calls.spliced_cons
  apply lam_new I TB own inT one tT noDef (L.has I.ok)
  intro f k' pm' ct' G1 s1 J made t1 atF newF outF atK
  apply Calls.spliced_nil
  refine ⟨J.kIn, wpAny_call (codeAny_mono (run_ofS (CX := C8.CX0) (E := C8.E0) (H := G1) (Q := Q) (outer := X.stack) (N := Ng) (ps := [a]) (us := [.ref f]) (vs := [.ref f]) lk cg Sg room J.env0 (bd s1 [.ref f] J.kIn rfl) (.cons rfl .nil) rfl fun room1 => ?_) fun r s2 done => ?_)⟩
  · rcases gives f k' s1 G1 Q (fun E H' Q' => t E σ H' Q') (fun W ps xe E p1 p2 tk hW => pe_act (i := 0) J L atF newF outF (none_ _ _ _ _ _) tk hW room1 (fun A outer s H r2 => inner A outer s H E f k' r2) N0 va ha hac) atK (ask G1 made t1) with ⟨tt, pt, qt⟩
    exact ⟨tt, pt.nox, qt⟩
  · cases r with
    | error e => exact (show False from done).elim
    | ok fl =>
      cases fl with
      | ret u => exact J.after done
      | _ => exact (show False from done).elim
end
end DL


set_option Elab.async false
set_option linter.all false
set_option maxRecDepth 100000
namespace DL
open PySem PySem.Spec PyProof.Rows L2 LamX
variable [TabT]
/-! ### a def that calls the lambda it got, within a try -/
theorem en_un {z : Z} {H : Hp} : ∀ τ : L2.St, En z H τ (List.replicate τ.length .un)
  | [] => .nil
  | _ :: τ => .cons .un (en_un τ)
def tsL (X : Cx) (suite : List Stmt) : Addr → Value → Option Addr → TS := fun a cls d D σ H => σ.length = X.N.length → ∀ (oe : Obj) (pn : List (Addr × Obj)), Zc cls d oe → (∃ vs, oe.data = .fields vs) → wB (X.suite a ((a, oe) :: pn)) suite D σ H
/-- a clause: the class that it names, its name's slot, its suite -/
abbrev Cb := Value × Option Nat × List Stmt
def clB (X : Cx) (q : Cb) : Cl := (q.1, q.2.1, tsL X q.2.2)
/-- the first clause that takes x: what its suite returns -/
def CatchAt (X : Cx) (z : Z) (x : XD) (s : S) (d : PyData) : List Cb → Prop
  | [] => False
  | (c, oi, b) :: l => (PySem.W.exmOne X.K (.ref (clsOf x)) c = some false ∧ CatchAt X z x s d l) ∨ (PySem.W.exmOne X.K (.ref (clsOf x)) c = some true ∧ ∀ (a : Addr) (oe : Obj) (cls : Value) (dx : Option Addr) (pn : List (Addr × Obj)), Zc cls dx oe → (∃ vs, oe.data = .fields vs) →
      SR (X.suite a ((a, oe) :: pn)) z b (match oi with | none => List.replicate X.N.length .un | some i => (List.replicate X.N.length .un).set i (.exc a cls dx x)) s (.rt d s))
section
variable {X : Cx} {z : Z} {s s' : S} {x : XD} {d : PyData}
theorem tsL_ok {suite : List Stmt} (a : Addr) (oe : Obj) (cls : Value) (d : Option Addr) (pn : List (Addr × Obj)) (hz : Zc cls d oe) (hd : ∃ vs, oe.data = .fields vs) : PSs (X.suite a ((a, oe) :: pn)) suite (tsL X suite a cls d) :=
  ⟨fun pins s σ H D I h => wB_ok.run pins s σ H D I (h I.len oe pn hz hd)⟩
theorem catch_w {D : Ends} : ∀ {l : List Cb}, CatchAt X z x s d l → ∀ {cls : Value} {dx : Option Addr} {H : Hp}, XR z H cls dx x → At z H s → (∀ v H', Ez z H H' → At z H' s → Da z H' v d → D.rt v H') → ∀ τ, clW X.K (fun _ _ _ _ => False) D (l.map (clB X)) cls dx τ H
  | [], h, _, _, _, _, _, _, _ => h.elim
  | (c, oi, b) :: l, h, cls, dx, H, r, A, q, τ => by
    have ec := r.cls
    subst ec
    rcases h with ⟨hm, h⟩ | ⟨hm, h⟩
    · exact ⟨false, hm, (fun e => by cases e), fun _ => catch_w h r A q τ⟩
    · refine ⟨true, hm, fun _ e he => ?_, fun e => by cases e⟩
      cases oi with
      | none =>
        intro hl oe pn hz hd
        have en := en_un (z := z) (H := H) τ
        rw [hl] at en
        exact h e oe _ dx pn hz hd τ H en A _ fun v H' k a n => q v H' k a n
      | some i =>
        intro hl oe pn hz hd
        have en := en_un (z := z) (H := H) τ
        rw [List.length_set] at hl
        rw [hl] at en
        exact h e oe _ dx pn hz hd (τ.set i (some (.ref e))) H (en.set i (.exc r)) A _ fun v H' k a n => q v H' k a n
/-- what such a def makes of a lambda's outcome r, at the state s behind it -/
def TTd (z : Z) (r : Res) (s' : S) (d : PyData) : (XK → Hp → VK → Prop) → Hp → VK → Prop := fun tl G Q => ∃ s, At z G s ∧
  (∀ (E : XK) (Q' : VK), (match r with | .ok y => ∀ v H', Ez z G H' → At z H' s' → Da z H' v y → Q' v H' | .ex x => ∀ cls dx H', Ez z G H' → At z H' s' → XR z H' cls dx x → E cls dx H') → tl E G Q') ∧
  ∀ v H', Ez z G H' → At z H' s' → Da z H' v d → Q v H'
abbrev metCx (X : Cx) (Ng : List Str) (x : Str) (sg : Scope) (g : Addr) (cdg : Value) (s : Shared) (H : Hp) : Cx := (cxOf C8.CX0 X.prog X.w X.K X.mg X.base Ng x sg g cdg X.A X.stack s H C8.E0).nox
theorem met_gives {Ng : List Str} {m a q : Str} {sg : Scope} {g : Addr} {cdg : Value} {p1 p2 p3 p4 : Pos} {h0 : ExceptHandler} {hs : List ExceptHandler} {rest : List Stmt} {cb : List Cb} {r : Res} (nd : Ng.Nodup) (n0 : ∀ f : Addr, (L2.start Ng [V.ref f])[0]? = some (some (V.ref f))) (nl : (1 : Nat) ≤ Ng.length)
    (hh : ∀ s H, Hs (metCx X Ng m sg g cdg s H) (h0 :: hs) (cb.map (clB (metCx X Ng m sg g cdg s H))))
    (hr : ∀ s H, match r with
      | .ok _ => SR (metCx X Ng m sg g cdg s H) z rest (List.replicate Ng.length .un) s' (.rt d s')
      | .ex x => CatchAt (metCx X Ng m sg g cdg s H) z x s' d cb)
    (hsw : ∀ s H ps xe, swapsWith (.Call (.Name a p1) [] [] p2) none p3.line ((metCx X Ng m sg g cdg s H).tr ps xe).env = pure false := by intro _ _ _ _; rfl) :
    GivesTo X Ng m sg g cdg (.Try [.Expr (.Call (.Name a p1) [] [] p2) p3] (h0 :: hs) [] [] p4 :: rest) a q (TTd z r s' d) := by
  intro f c' s G Q tl act hc ask
  rcases ask with ⟨s0, A0, body, fin⟩
  refine ⟨_, pss_cons (ps_tryM (X := metCx X Ng m sg g cdg s G) (Wo := fun _ _ _ _ => False) (l := cb.map (clB (metCx X Ng m sg g cdg s G))) (tb := fun W D σ H => ∃ E : XK, (∀ cls dx σ' H', E cls dx H' → W cls dx σ' H') ∧ σ[0]? = some (some (.ref f)) ∧ H c' = some (CodeO c' q) ∧ tl E H (fun _ H' => D.nx σ H'))
      rfl rfl nd L2.takes0 (fun W ps xe tk _ => ?_) (hh s G)) wB_ok, ?_⟩
  · constructor
    intro pins s1 σ H D I told
    rcases told with ⟨E, hW, h1, h2, h3⟩
    exact (pss_one (ps_expr (pos := p3) (act W ps xe E p1 p2 tk hW) (hsw s G ps xe))).run pins s1 σ H D I ⟨h1, h2, h3⟩
  · refine ⟨fun cls dx H' => ∀ τ, clW X.K (fun _ _ _ _ => False) _ (cb.map (clB (metCx X Ng m sg g cdg s G))) cls dx τ H', fun cls dx σ' H' w => w σ', n0 f, hc, body _ _ ?_⟩
    have hr1 := hr s G
    cases r with
    | ok y =>
      intro v H' k A v1
      have en := en_un (z := z) (H := H') (L2.start Ng [V.ref f])
      have ln : (L2.start Ng [V.ref f]).length = Ng.length := by
        unfold L2.start
        simp
        omega
      rw [ln] at en
      exact hr1 _ H' en A _ fun v2 H2 k2 A2 v3 => fin v2 H2 (k.trans k2) A2 v3
    | ex x =>
      intro cls dx H' k A v1 τ
      exact catch_w (X := metCx X Ng m sg g cdg s G) hr1 v1 A (fun v2 H2 k2 A2 v3 => fin v2 H2 (k.trans k2) A2 v3) τ
end
end DL


set_option Elab.async false
set_option linter.all false
set_option maxRecDepth 100000
namespace DL
open PySem PySem.Spec PyProof.Rows L2 LamX
variable [TabT]
/-! ### f(lambda: body) as data -/
section
variable {X : Cx} {z : Z} {es : List Sl} {s s' : S} {d : PyData}
theorem takes_lam {A : Around} {outer : List Env} {sh : Shared} {H : Hp} {E : XK} {scope : Scope} {f c' : Addr} : Takes (lamCx X A outer sh H E scope f c') (WE1 E) := takes_of rfl rfl rfl rfl
/-- what is told of the code of a def that makes lambdas -/
structure LamAt (X : Cx) : Prop where
  ex : ∃ c P, TabB X.base X.mg c P ∧ X.env.code = .ref c ∧ (P, X.env.qual ++ "<lambda>") ∈ TabT.T ∧ ∀ p ∈ TabT.T, p.1 = P → p.2 = X.env.qual ++ "<lambda>"
theorem ev_lam {r : Res} {k : Nat} {m a : Str} {g : Addr} {st : Stmt} {fd : FuncData} {Ng : List Str} {params : Arguments} {body : Expr} {scope : Scope} {p lpos pos : Pos} (F : Fun X.K m m st g fd) (mx : X.mg m = some (.ref g)) (bd : Binds X.K fd [a] []) (Sg : FnScope Ng [a] (defScope st))
    (gives : ∀ cdg, GivesTo X Ng m (defScope st) g cdg (defBody st) a (X.env.qual ++ "<lambda>") (TTd z r s' d)) (LA : LamAt X) (room : Room (k + 2) X.A)
    (inner : ∀ (A : Around) (outer : List Env) (sh : Shared) (H : Hp) (E : XK) (f k' : Addr), Room k (lamCx X A outer sh H E scope f k').A → match r with
      | .ok y => EV (lamCx X A outer sh H E scope f k') z body es s y s'
      | .ex x => EX (lamCx X A outer sh H E scope f k') z (WE1 E) body es s x s')
    (L : LamS X.env.scope scope) (gl : Gl X m := by rfl) (N0 : Ng[0]? = some a := by rfl) (va : Vis (defScope st) a := by first | exact Or.inl rfl | exact Or.inr (Or.inl rfl) | exact Or.inr (Or.inr rfl)) (noDef : defaultsOf params X.env = ([], []) := by rfl)
    (none_ : ∀ (q : Str) (cl : List (Str × Addr)) (pm cv ctv : Value), bindArgs (PySem.W.kla_fn "<lambda>" q params body scope cl pm cv ctv) ⟨[], []⟩ = pure [] := by intro _ _ _ _ _; rfl)
    (hx : (m == ("__debug__" : Str)) = false := by decide) (ha : (a == ("__debug__" : Str)) = false := by decide) (hac : (a == ("__classdict__" : Str)) = false := by decide) :
    EV X z (.Call (.Name m p) [.Lambda params body scope lpos] [] pos) es s d s' := by
  obtain ⟨oc, od, kV, doc, pm, an, cdv, ct, osl, rfl, lk, cg⟩ := F.ex
  obtain ⟨c, P, TB, own, inT, one⟩ := LA.ex
  refine .mk (pe_lam (T := TabT.T) (TT := TTd z r s' d) (t := fun E σ H Q => ∀ (A : Around) (outer : List Env) (sh : Shared) (H0 : Hp) (f k' : Addr), Room k (lamCx X A outer sh H0 E scope f k').A → wE (lamCx X A outer sh H0 E scope f k') body σ H Q) gl mx F.kp lk cg bd Sg N0 va (gives cdv) TB own inT one room L noDef none_ (fun A outer sh H E f k' rm => ?_) hx ha hac) fun σ G en at_ Q q => ?_
  · exact ⟨fun pins s1 σ H1 Q I ask => wE_ok.run pins s1 σ H1 Q I (ask A outer sh H f k' rm)⟩
  · refine ⟨at_.t, fun G1 made t1 => ⟨s, made.at_ at_ t1, fun E Q' cond A outer sh H0 f k' rm => ?_, fun v H' e a n => q v H' (made.ez.trans e) a n⟩⟩
    have i1 := inner A outer sh H0 E f k' rm
    cases r with
    | ok y => exact i1 σ G1 (en.mono made.ez) (made.at_ at_ t1) Q' fun v H' e a n => cond v H' e a n
    | ex x => exact i1 σ G1 (en.mono made.ez) (made.at_ at_ t1) (fun cls dx H' e a _ xr => cond cls dx H' e a xr) Q'
end
end DL


set_option Elab.async false
set_option linter.all false
set_option maxRecDepth 100000
namespace DL
open PySem PySem.Spec PyProof.Rows L2 LamX
variable [TabT]
/-! ### a def held by a name, called -/
section
variable {X : Cx} {z : Z} {es : List Sl} {as : List Sl} {s s1 s' : S} {e : Expr} {xs : List Expr} {p pos : Pos} {E : XK} {d : PyData} {xd : XD} {k : Nat} {x : Str} {R : RelX} {f : Addr} {fd : FuncData} {ps : List Str}
theorem ex_callL (i : Nat) (O : FnOk X.prog X.w X.K X.mg X.base (L2.CX X.prog X.w) k f fd ps (spX R)) (kp : PySem.W.keepIn X.K (.ref f) = true) (hb : Binds X.K fd ps []) (tk : Takes X (WE1 E)) (hr : Room k X.A) (ha : EA X z (e :: xs) es s as s1) (hR : R as s1 (.ex xd) s') (h : es[i]? = some (.raw (.ref f)) := by rfl) (hN : X.N[i]? = some x := by rfl)
    (hv : Vis X.env.scope x := by first | exact Or.inl rfl | exact Or.inr (Or.inl rfl) | exact Or.inr (Or.inr rfl)) (hdb : (x == ("__debug__" : Str)) = false := by decide) (hcd : (x == ("__classdict__" : Str)) = false := by decide)
    (he : starEach (e :: xs) X.env = (false, eval e X.env) :: starEach xs X.env := by rfl) (hpl : (backTo pos (starEach xs X.env)).any (·.1) = false := by rfl) : EX X z (WE1 E) (.Call (.Name x p) (e :: xs) [] pos) es s xd s' := fun σ H en at_ q Q => by
  obtain ⟨y, hy, r⟩ := en.slot h
  cases r
  refine ⟨_, pe_callL (i := i) (dvs := []) (E := E) O hr hN hv kp hb .nil (passes_call tk fun _ _ _ _ w => w) wA_ok hdb hcd he hpl, hy, ha σ H en at_ _ fun vs H1 e1 a1 v1 => ?_⟩
  show spX R (vs ++ []) H1 Q E
  rw [List.append_nil]
  exact ⟨z, as, s1, .ex xd, s', hR, v1, a1, fun cls dx H' k a r => q cls dx H' (e1.trans k) a (en.mono (e1.trans k)) r⟩
theorem ev_callL (i : Nat) {CX : CXT} (O : FnOk X.prog X.w X.K X.mg X.base (L2.CX X.prog X.w) k f fd ps (spX R)) (kp : PySem.W.keepIn X.K (.ref f) = true) (hb : Binds X.K fd ps []) (hr : Room k X.A) (ha : EA X z (e :: xs) es s as s1) (hR : R as s1 (.ok d) s') (h : es[i]? = some (.raw (.ref f)) := by rfl) (hN : X.N[i]? = some x := by rfl)
    (hv : Vis X.env.scope x := by first | exact Or.inl rfl | exact Or.inr (Or.inl rfl) | exact Or.inr (Or.inr rfl)) (hdb : (x == ("__debug__" : Str)) = false := by decide) (hcd : (x == ("__classdict__" : Str)) = false := by decide)
    (he : starEach (e :: xs) X.env = (false, eval e X.env) :: starEach xs X.env := by rfl) (hpl : (backTo pos (starEach xs X.env)).any (·.1) = false := by rfl) : EV X z (.Call (.Name x p) (e :: xs) [] pos) es s d s' :=
  .mk (pe_callL (i := i) (f := f) (dvs := []) (E := fun _ _ _ => False) O hr hN hv kp hb .nil (passes_call L2.takes0 fun _ _ _ _ w => w) wA_ok hdb hcd he hpl) fun σ H en at_ Q q => by
    obtain ⟨y, hy, r⟩ := en.slot h
    cases r
    refine ⟨hy, ha σ H en at_ _ fun vs H1 e1 a1 v1 => ?_⟩
    show spX R (vs ++ []) H1 Q _
    rw [List.append_nil]
    exact ⟨z, as, s1, .ok d, s', hR, v1, a1, fun v H' k a r => q v H' (e1.trans k) a r⟩
end
end DL


set_option Elab.async false
set_option linter.all false
set_option maxRecDepth 100000
namespace DL
open PySem PySem.Spec PyProof.Rows L2 LamX
variable [TabT]
/-! ### for f in (g, h, ..): defs of the top -/
section
variable {z : Z} {Hc H : Hp} {vol : List (Addr × HO)} {σ : L2.St} {es : List Sl} {s : S}
theorem get_set {α : Type} {l : List α} {i j : Nat} {a b : α} (h : (l.set i a)[j]? = some b) (n : b ≠ a) : l[j]? = some b ∧ i ≠ j := by
  rw [List.getElem?_set] at h
  by_cases e : i = j
  · rw [if_pos e] at h
    split at h
    · exact absurd (Option.some.inj h).symm n
    · cases h
  · rw [if_neg e] at h
    exact ⟨h, e⟩
theorem OI.setR (I : OI z Hc H vol σ es s) (i : Nat) (v : V) : OI z Hc H vol (σ.set i (some v)) (es.set i (.raw v)) s := by
  refine ⟨I.new, I.nd, I.base, I.at_, I.en.set i .raw, I.ez, fun j ds p h1 h2 => ?_, fun j k ds ds' p ne h1 h2 h3 h4 => ?_⟩
  · obtain ⟨h1, ij⟩ := get_set h1 (fun e => by cases e)
    rw [List.getElem?_set_ne ij] at h2
    exact I.far j ds p h1 h2
  · obtain ⟨h1, ij⟩ := get_set h1 (fun e => by cases e)
    obtain ⟨h2, ik⟩ := get_set h2 (fun e => by cases e)
    rw [List.getElem?_set_ne ij] at h3
    rw [List.getElem?_set_ne ik] at h4
    exact I.two j k ds ds' p ne h1 h2 h3 h4
end
section
variable {X : Cx} {es : List Sl} {s : S} {o : Out} {rest body : List Stmt} {xs : List Expr} {pos p p1 : Pos} {kt : Nat}
theorem so_forFn (l : Nat) {x : Str} {fs : List Addr} (hp : PassesOwn (model X.prog X.w) X.A X.env X.xe) (hc : X.calm = true) (hN : X.N.Nodup) (hA : PA X xs (fun σ H Q => Q (fs.map V.ref) H)) (hl : fs.length ≤ 100000) (E : Nat → List Sl) (T : Nat → S) (h0 : Le es (E 0)) (t0 : T 0 = s)
    (hb : ∀ (i : Nat) f, fs[i]? = some f → SO X body ((E i).set l (.raw (.ref f))) (T i) (.nx (E (i + 1)) (T (i + 1)))) (k : SO X rest (E fs.length) (T fs.length) o)
    (hi : X.N[l]? = some x := by rfl) (hx : Loc X.env.scope x := by first | exact Or.inl rfl | exact Or.inr rfl) (hf : X.fn x = true ∨ X.env.scope.names.lookup x = some .local := by first | exact .inl rfl | exact .inr rfl) (hfo : ∀ x, foldedSetIterable (.Tuple xs kt p1) X.env x = pure x := by intro _; rfl) :
    SO X (.For (.Name x p) (.Tuple xs kt p1) body [] pos :: rest) es s o := fun z Hc H vol σ I D q =>
  ⟨_, pss_cons (ps_for hp hc (pi_tup (pe_tup hA)) (pg_name hN hi hx hf) wB_ok hfo) wB_ok, by
    refine ⟨by rw [List.length_map]; exact Nat.le_trans hl (by decide), fun a na => ?_⟩
    have fa := I.at_.fresh na
    have e1 : Ez (z.own vol) H (upd H a (.tup (fs.map V.ref))) := .new na
    obtain ⟨I2, back⟩ := (I.step e1 (I.at_.new na)).reb
    subst t0
    refine ⟨a, rfl, ⟨fs.map V.ref, .inl (.inl upd_same)⟩, for_tup (xs := fs.map V.ref) (fun i σ' H' => ∃ vol', OI z (cutH (upd H a (.tup (fs.map V.ref))) vol) H' vol' σ' (E i) (T i)) ⟨vol, I2.le h0⟩ (fun i σ' H' _ w => ?_) (fun i v σ' H' hv w => ?_) fun σ' H' w => ?_⟩
    · obtain ⟨vol', w⟩ := w
      exact .inl (.inl (w.stillH fa upd_same))
    · obtain ⟨vol', w⟩ := w
      rw [List.getElem?_map] at hv
      obtain ⟨f, hf1, rfl⟩ := Option.map_eq_some_iff.mp hv
      exact hb i f hf1 z _ _ vol' _ (w.setR l (.ref f)) _ fun vol3 σ3 H3 I3 => ⟨vol3, I3⟩
    · obtain ⟨vol', w⟩ := w
      rw [List.length_map] at w
      exact k z Hc H' vol' σ' (back _ _ _ _ _ w) D q⟩
end
end DL


set_option Elab.async false
set_option linter.all false
set_option maxRecDepth 100000
namespace DL
open PySem PySem.Spec PyProof.Rows L2 LamX
variable [TabT]
/-! ### defs of which one knows too that no repr is under way where they run -/
structure RoomG (k : Nat) (A : Around) : Prop where
  r : Room k A
  g : A.guards = some []
theorem RoomG.mono {j k : Nat} {A : Around} (r : RoomG k A) (h : j ≤ k) : RoomG j A := ⟨r.r.mono h, r.g⟩
structure FnG (P : Program) (w : World) (K : PySem.W.Frag) (mg : Str → Option Value) (base : Heap) (CX : CXT) (k : Nat) (f : Addr) (fd : FuncData) (ps : List Str) (sp : Sp) : Prop where
  len : ∀ vs H Q E, sp vs H Q E → vs.length = ps.length
  go : ∀ (A : Around) (outer : List Env) (s : Shared) (H : Hp) (args : Args) (us : List Value) (vs : List V) (Q : VK) (E : XK), RoomG k A → Env0 P w K mg base A outer s H → BindsTo s fd args (ps.zip us) → Vals vs us → sp vs H Q E → codeAny (model P w) A (.call (.ref f) args) (CR CX outer P w H s Q E) s
section
variable {P : Program} {w : World} {K : PySem.W.Frag} {mg : Str → Option Value} {base : Heap}
theorem fng_of {x qual : Str} {st : Stmt} {f : Addr} {fd : FuncData} {N ps : List Str} {k : Nat} {sp : Sp} (F : Fun K x qual st f fd) (Sc : FnScope N ps (defScope st)) (len : ∀ vs H Q E, sp vs H Q E → vs.length = ps.length)
    (hb : ∀ (cdv : Value) (A : Around) (outer : List Env) (s : Shared) (H : Hp) (vs : List V) (Q : VK) (E : XK), RoomG k (A.deeper (envOfC qual (defScope st) s.heap.objs.size f cdv)) → sp vs H Q E →
      ∃ t, PSs (cxOf CX0 P w K mg base N qual (defScope st) f cdv A outer s H E).nox (defBody st) t ∧ t { nx := fun _ H' => Q .non H', rt := Q } (L2.start N vs) H) : FnG P w K mg base CX0 (k + 1) f fd ps sp := by
  obtain ⟨oc, od, kV, doc, pm, an, cdv, ct, osl, rfl, lk, hcd⟩ := F.ex
  refine ⟨len, fun A outer s H args us vs Q E room e0 bd vals told => run_ofS lk hcd Sc room.r e0 bd vals (len _ _ _ _ told) fun room1 => ?_⟩
  obtain ⟨t, pt, qt⟩ := hb cdv A outer s H vs Q E ⟨room1, room.g⟩ told
  exact ⟨t, pt.nox, qt⟩
/-- what stands around such a def's body -/
structure CtxG (X : Cx) (k : Nat) (N : List Str) : Prop extends Ctx X k N where
  gd : X.A.guards = some []
theorem okDG {x qual : Str} {st : Stmt} {f : Addr} {fd : FuncData} {N ps : List Str} {k : Nat} {R : Rel} (F : Fun K x qual st f fd) (Sc : FnScope N ps (defScope st)) (hl : ∀ as s d s', R as s d s' → as.length = ps.length) (hn : ∀ as s d s', R as s d s' → ∀ ds, Sl.own ds ∉ as)
    (hb : ∀ cdv A outer s0 H0 E, CtxG (cxOf CX0 P w K mg base N qual (defScope st) f cdv A outer s0 H0 E).nox k N → ∀ as s d s', R as s d s' → SO (cxOf CX0 P w K mg base N qual (defScope st) f cdv A outer s0 H0 E).nox (defBody st) (as ++ List.replicate (N.length - as.length) .un) s (.rt d s')) :
    FnG P w K mg base CX0 (k + 1) f fd ps (spD R) := by
  refine fng_of F Sc (fun vs H Q E h => ?_) (fun cdv A outer s0 H0 vs Q E room h => ?_)
  · obtain ⟨z, as, s, d, s', hR, en, _⟩ := h
    have := en.length
    rw [List.length_map] at this
    rw [this]
    exact hl _ _ _ _ hR
  · obtain ⟨z, as, s, d, s', hR, en, at_, q⟩ := h
    have e1 : vs.length = as.length := by
      have := en.length
      rwa [List.length_map] at this
    have C : CtxG (cxOf CX0 P w K mg base N qual (defScope st) f cdv A outer s0 H0 E).nox k N := ⟨⟨Sc.nd, rfl, PassesOwn.never, room.r, room.r.units⟩, room.g⟩
    have no : ∀ (i : Nat) (ds : List PyData), (as ++ List.replicate (N.length - as.length) Sl.un)[i]? ≠ some (.own ds) := fun i ds h => by
      rcases List.mem_append.mp (List.mem_of_getElem? h) with m | m
      · exact hn _ _ _ _ hR ds m
      · have := (List.mem_replicate.mp m).2
        cases this
    have I : OI z H0 H0 [] (L2.start N vs) (as ++ List.replicate (N.length - as.length) .un) s := {
      new := fun q h => by cases h
      nd := List.nodup_nil
      base := fun q h => by
        rw [at_.v q h]
        exact fun e => by cases e
      at_ := at_
      en := by
        unfold L2.start
        rw [e1]
        exact en.app (.uns _)
      ez := .refl _
      far := fun i ds p h => absurd h (no i ds)
      two := fun i j ds ds' p _ h => absurd h (no i ds) }
    exact ⟨_, wB_ok, hb cdv A outer s0 H0 E C as s d s' hR z H0 H0 [] _ I { nx := fun _ H' => Q .non H', rt := Q } fun v H' k a n => q v H' k a n⟩
/-- the name x stands for such a def -/
def Dg (P : Program) (w : World) (K : PySem.W.Frag) (mg : Str → Option Value) (base : Heap) (k : Nat) (x : Str) (R : Rel) : Prop := ∃ f fd ps, FnG P w K mg base CX0 k f fd ps (spD R) ∧ mg x = some (.ref f) ∧ PySem.W.keepIn K (.ref f) = true ∧ Binds K fd ps []
theorem dg_of {x qual : Str} {st : Stmt} {f : Addr} {fd : FuncData} {ps : List Str} {k : Nat} {R : Rel} (F : Fun K x qual st f fd) (O : FnG P w K mg base CX0 k f fd ps (spD R)) (hm : mg x = some (.ref f)) (hb : Binds K fd ps []) : Dg P w K mg base k x R := ⟨f, fd, ps, O, hm, F.kp, hb⟩
end
section
variable {X : Cx} {z : Z} {es as : List Sl} {s s1 s' : S} {e : Expr} {xs : List Expr} {p pos : Pos} {d : PyData} {k : Nat} {x : Str}
theorem pe_callG {f : Addr} {fd : FuncData} {ps : List Str} {sp : Sp} {t : TA} (F : FnG X.prog X.w X.K X.mg X.base CX0 k f fd ps sp) (room : RoomG k X.A) (gl : Gl X x) (mx : X.mg x = some (.ref f)) (kp : PySem.W.keepIn X.K (.ref f) = true) (bd : Binds X.K fd ps []) (ha : PA X (e :: xs) t)
    (hdb : (x == ("__debug__" : Str)) = false := by decide) (he : starEach (e :: xs) X.env = (false, eval e X.env) :: starEach xs X.env := by rfl) (hpl : (backTo pos (starEach xs X.env)).any (·.1) = false := by rfl) : PE X (.Call (.Name x p) (e :: xs) [] pos) (fun σ H Q => t σ H fun vs H1 => sp vs H1 Q fun _ _ _ => False) := by
  constructor
  intro pins s σ H Q I ask
  refine wpAny_Call_Name_kw (ld_glob I gl mx (PySem.W.callWith_K (h₀ := X.base) I.ok.mod.kin kp (thn (ha.run pos pins s σ H _ I ask) fun us s1 ⟨vs, H1, J, vals, told⟩ => ⟨J.kIn, ?_⟩) he hpl) hdb)
  have len : us.length = ps.length := vals.length.symm.trans (F.len _ _ _ _ told)
  have b := bd s1 us J.kIn (by rw [List.append_nil]; exact len)
  rw [List.append_nil] at b
  refine wpAny_call (codeAny_mono (F.go X.A X.stack s1 H1 ⟨us, []⟩ us vs Q _ room J.env0 b vals told) fun r s2 done => ?_)
  cases r with
  | error e => exact (show False from done).elim
  | ok fl =>
    cases fl with
    | ret u => exact J.after done
    | _ => exact (show False from done).elim
theorem ev_callG {R : Rel} (G : Dg X.prog X.w X.K X.mg X.base k x R) (room : RoomG k X.A) (ha : EA X z (e :: xs) es s as s1) (hR : R as s1 d s') (gl : Gl X x := by rfl) (hdb : (x == ("__debug__" : Str)) = false := by decide)
    (he : starEach (e :: xs) X.env = (false, eval e X.env) :: starEach xs X.env := by rfl) (hpl : (backTo pos (starEach xs X.env)).any (·.1) = false := by rfl) : EV X z (.Call (.Name x p) (e :: xs) [] pos) es s d s' := by
  obtain ⟨f, fd, ps, F, hm, hk, hb⟩ := G
  exact .mk (pe_callG F room gl hm hk hb wA_ok hdb he hpl) fun σ H en at_ Q q => ha σ H en at_ _ fun vs H1 e1 a1 v1 => ⟨z, as, s1, d, s', hR, v1, a1, fun v H' e2 a2 v2 => q v H' (e1.trans e2) a2 v2⟩
/-! ### repr -/
/-- data whose repr is told -/
structure Shw (d : PyData) : Prop where
  n : nod d = true
  s : d.showable = true
  h : d.hasDict = false
  k : d.depth ≤ 64
  z : d.shown.length ≤ sizeLine
def rRepr (K : PySem.W.Frag) : List V → Hp → VK → Prop := fun vs H Q => ∃ v d, vs = [v] ∧ Dp K H v d ∧ Shw d ∧ Q (.str d.shown) H
theorem cr_repr (hg : X.A.guards = some []) (hu : X.A.units + 66 < cLine) : CallR X (.builtin "repr") (rRepr X.K) := by
  intro pins s σ H vs us Q I r h
  obtain ⟨v, d, rfl, hv, w, q⟩ := h
  cases r with
  | @cons _ u _ _ ru r =>
    cases r
    obtain ⟨as, rd⟩ := Dp.reads I d v u hv ru
    have k := w.k
    cases hv with
    | non =>
      cases ru
      exact PySem.P.repr_of_none ⟨.str _, H, I.tok _, ⟨_, rfl⟩, q⟩
    | bl b =>
      cases ru
      exact PySem.P.repr_of_bool ⟨.str _, H, I.tok _, ⟨_, rfl⟩, by cases b <;> exact q⟩
    | int i =>
      obtain ⟨t, rfl⟩ := ru
      exact PySem.P.repr_of_int (by have := w.s; simpa [PyData.showable] using this) ⟨.str _, H, I.tok _, ⟨_, rfl⟩, q⟩
    | str x =>
      obtain ⟨t, rfl⟩ := ru
      exact PySem.P.repr_of_str (hsz := w.z) ⟨.str _, H, I.tok _, ⟨_, rfl⟩, q⟩
    | lst a b =>
      cases ru
      exact repr_of_reads' rd w.s (PyData.noDict_hsm w.h) hg (by omega) (fun _ _ e => e) (fun h' u tk kept => ⟨.str _, H, I.kept kept, ⟨_, rfl⟩, q⟩) w.z
    | tup a b =>
      cases ru
      exact repr_of_reads' rd w.s (PyData.noDict_hsm w.h) hg (by omega) (fun _ _ e => e) (fun h' u tk kept => ⟨.str _, H, I.kept kept, ⟨_, rfl⟩, q⟩) w.z
theorem ev_repr (hg : X.A.guards = some []) (hu : X.A.units + 66 < cLine) (hm : X.mg "repr" = none) (w : Shw d) (h : EV X z e es s d s1) (gl : Gl X "repr" := by rfl) (he : starEach [e] X.env = (false, eval e X.env) :: starEach [] X.env := by rfl) (hpl : (backTo pos (starEach [] X.env)).any (·.1) = false := by rfl) :
    EV X z (.Call (.Name "repr" p) [e] [] pos) es s (.str d.shown) s1 :=
  .mk (pe_callB (cr_repr hg hu) gl hm (by decide +kernel) (pa_cons wE_ok pa_nil he) (by decide) (by decide) he hpl) fun σ H en at_ Q q => h σ H en at_ _ fun v H1 e1 a1 v1 => ⟨v, d, rfl, v1.dp w.n, w, q _ H1 e1 a1 (.str _)⟩
end
end DL


set_option Elab.async false
set_option linter.all false
set_option maxRecDepth 100000
namespace DL
open PySem PySem.Spec PyProof.Rows L2 LamX
variable [TabT]
/-! ### repr({}) -/
section
variable {X : Cx} {z : Z} {es : List Sl} {s s1 : S} {e : Expr} {p pos : Pos}
theorem cr_reprE (hg : X.A.guards = some []) (hu : X.A.units + 66 < cLine) : CallR X (.builtin "repr") (fun vs H Q => ∃ a, vs = [.ref a] ∧ H a = some (.dK []) ∧ Q (.str (PyData.dict []).shown) H) := by
  intro pins s σ H vs us Q I r h
  obtain ⟨a, rfl, ha, q⟩ := h
  cases r with
  | cons ru r =>
    cases r
    cases ru
    have ok : ObjOk X.prog X.w H s.heap a (.dK []) := I.hok a _ ha
    obtain ⟨_, nsys, ws, kv, o, en, ep, ho, ex, hd, _, prs, _⟩ := ok
    cases kv
    have e0 : en.toList = [] := by
      cases hh : en.toList with
      | nil => rfl
      | cons x l =>
        rw [hh] at prs
        cases prs
    have rd : Reads s.heap (.ref a) (.dict []) (a :: [] ++ []) := .dict ho ex.1 hd (by rw [e0]; exact .nil) (by rw [e0]; exact .nil)
    refine repr_of_reads' rd (by rfl) (fun _ m => ?_) hg (by simp only [PyData.depth, PyData.depthKv]; omega) (fun _ _ e => e) (fun h' u tk kept => ⟨.str _, H, I.kept kept, ⟨_, rfl⟩, q⟩) (by decide +kernel)
    have em : sysModules = a := by simpa using m
    rw [em] at nsys
    simp at nsys
theorem ev_reprE (hg : X.A.guards = some []) (hu : X.A.units + 66 < cLine) (hm : X.mg "repr" = none) (h : EV X z e es s (.dict []) s1) (gl : Gl X "repr" := by rfl) (he : starEach [e] X.env = (false, eval e X.env) :: starEach [] X.env := by rfl) (hpl : (backTo pos (starEach [] X.env)).any (·.1) = false := by rfl) :
    EV X z (.Call (.Name "repr" p) [e] [] pos) es s (.str (PyData.dict []).shown) s1 :=
  .mk (pe_callB (cr_reprE hg hu) gl hm (by decide +kernel) (pa_cons wE_ok pa_nil he) (by decide) (by decide) he hpl) fun σ H en at_ Q q => h σ H en at_ _ fun v H1 e1 a1 v1 => by
    cases v1 with
    | dct f hd => exact ⟨_, rfl, hd, q _ H1 e1 a1 (.str _)⟩
/-- of either kind -/
def ShwE (d : PyData) : Prop := Shw d ∨ d = .dict []
theorem ev_reprD {d : PyData} (hg : X.A.guards = some []) (hu : X.A.units + 66 < cLine) (hm : X.mg "repr" = none) (w : ShwE d) (h : EV X z e es s d s1) (gl : Gl X "repr" := by rfl) (he : starEach [e] X.env = (false, eval e X.env) :: starEach [] X.env := by rfl) (hpl : (backTo pos (starEach [] X.env)).any (·.1) = false := by rfl) :
    EV X z (.Call (.Name "repr" p) [e] [] pos) es s (.str d.shown) s1 := by
  rcases w with w | rfl
  · exact ev_repr hg hu hm w h gl he hpl
  · exact ev_reprE hg hu hm h gl he hpl
end
end DL


set_option Elab.async false
set_option linter.all false
set_option maxRecDepth 100000
namespace DL
open PySem PySem.Spec PyProof.Rows L2 LamX
variable [TabT]
/-! ### a def whose code object is known: it makes lambdas -/
structure FunC (K : PySem.W.Frag) (x qual : Str) (st : Stmt) (f : Addr) (fd : FuncData) (cdv : Value) : Prop where
  ex : ∃ (oc : Value) (od : Option Addr) (kV doc pm : Value) (an : Option Addr) (ct : Value) (osl : Array (Option Value)), fd = PySem.W.fnOf x qual (defArgs st) (defBody st) (defScope st) .none kV doc pm an cdv ct ∧ K.lookup f = some ⟨oc, od, .func fd, osl⟩ ∧ PySem.W.codeIn K cdv qual = true
  kp : PySem.W.keepIn K (.ref f) = true
section
variable {P : Program} {w : World} {K : PySem.W.Frag} {mg : Str → Option Value} {base : Heap}
theorem FunC.fn {x qual : Str} {st : Stmt} {f : Addr} {fd : FuncData} {cdv : Value} (F : FunC K x qual st f fd cdv) : Fun K x qual st f fd := by
  obtain ⟨oc, od, kV, doc, pm, an, ct, osl, e, lk, hcd⟩ := F.ex
  exact ⟨⟨oc, od, kV, doc, pm, an, cdv, ct, osl, e, lk, hcd⟩, F.kp⟩
theorem fng_ofC {x qual : Str} {st : Stmt} {f : Addr} {fd : FuncData} {cdv : Value} {N ps : List Str} {k : Nat} {sp : Sp} (F : FunC K x qual st f fd cdv) (Sc : FnScope N ps (defScope st)) (len : ∀ vs H Q E, sp vs H Q E → vs.length = ps.length)
    (hb : ∀ (A : Around) (outer : List Env) (s : Shared) (H : Hp) (vs : List V) (Q : VK) (E : XK), RoomG k (A.deeper (envOfC qual (defScope st) s.heap.objs.size f cdv)) → sp vs H Q E →
      ∃ t, PSs (cxOf CX0 P w K mg base N qual (defScope st) f cdv A outer s H E).nox (defBody st) t ∧ t { nx := fun _ H' => Q .non H', rt := Q } (L2.start N vs) H) : FnG P w K mg base CX0 (k + 1) f fd ps sp := by
  obtain ⟨oc, od, kV, doc, pm, an, ct, osl, rfl, lk, hcd⟩ := F.ex
  refine ⟨len, fun A outer s H args us vs Q E room e0 bd vals told => run_ofS lk hcd Sc room.r e0 bd vals (len _ _ _ _ told) fun room1 => ?_⟩
  obtain ⟨t, pt, qt⟩ := hb A outer s H vs Q E ⟨room1, room.g⟩ told
  exact ⟨t, pt.nox, qt⟩
theorem okDGC {x qual : Str} {st : Stmt} {f : Addr} {fd : FuncData} {cdv : Value} {N ps : List Str} {k : Nat} {R : Rel} (F : FunC K x qual st f fd cdv) (Sc : FnScope N ps (defScope st)) (hl : ∀ as s d s', R as s d s' → as.length = ps.length) (hn : ∀ as s d s', R as s d s' → ∀ ds, Sl.own ds ∉ as)
    (hb : ∀ A outer s0 H0 E, CtxG (cxOf CX0 P w K mg base N qual (defScope st) f cdv A outer s0 H0 E).nox k N → ∀ as s d s', R as s d s' → SO (cxOf CX0 P w K mg base N qual (defScope st) f cdv A outer s0 H0 E).nox (defBody st) (as ++ List.replicate (N.length - as.length) .un) s (.rt d s')) :
    FnG P w K mg base CX0 (k + 1) f fd ps (spD R) := by
  refine fng_ofC F Sc (fun vs H Q E h => ?_) (fun A outer s0 H0 vs Q E room h => ?_)
  · obtain ⟨z, as, s, d, s', hR, en, _⟩ := h
    have := en.length
    rw [List.length_map] at this
    rw [this]
    exact hl _ _ _ _ hR
  · obtain ⟨z, as, s, d, s', hR, en, at_, q⟩ := h
    have e1 : vs.length = as.length := by
      have := en.length
      rwa [List.length_map] at this
    have C : CtxG (cxOf CX0 P w K mg base N qual (defScope st) f cdv A outer s0 H0 E).nox k N := ⟨⟨Sc.nd, rfl, PassesOwn.never, room.r, room.r.units⟩, room.g⟩
    have no : ∀ (i : Nat) (ds : List PyData), (as ++ List.replicate (N.length - as.length) Sl.un)[i]? ≠ some (.own ds) := fun i ds h => by
      rcases List.mem_append.mp (List.mem_of_getElem? h) with m | m
      · exact hn _ _ _ _ hR ds m
      · have := (List.mem_replicate.mp m).2
        cases this
    have I : OI z H0 H0 [] (L2.start N vs) (as ++ List.replicate (N.length - as.length) .un) s := {
      new := fun q h => by cases h
      nd := List.nodup_nil
      base := fun q h => by
        rw [at_.v q h]
        exact fun e => by cases e
      at_ := at_
      en := by
        unfold L2.start
        rw [e1]
        exact en.app (.uns _)
      ez := .refl _
      far := fun i ds p h => absurd h (no i ds)
      two := fun i j ds ds' p _ h => absurd h (no i ds) }
    exact ⟨_, wB_ok, hb A outer s0 H0 E C as s d s' hR z H0 H0 [] _ I { nx := fun _ H' => Q .non H', rt := Q } fun v H' k a n => q v H' k a n⟩
end
end DL


set_option Elab.async false
set_option linter.all false
set_option maxRecDepth 100000
namespace DL
open PySem PySem.Spec PyProof.Rows L2 LamX
variable [TabT]
/-! ### the end of a law whose defs want to know that no repr is under way; cs: code objects and their tables -/
section
variable {P : Program} {w : World} {K : PySem.W.Frag} {mg mb : Str → Option Value} {CX : CXT} {k : Nat} {fa a : Addr} {cs : List (Addr × Addr)} {fd : FuncData} {x : Str} {sp : Sp} {s1 : Shared} {vs : List Value} {ns : List Int}
/-- what is tracked at the start: the script, if it is none of the module's own objects, and the empty tables -/
def startH (K : PySem.W.Frag) (a : Addr) (vs : List Value) (ns : List Int) (cs : List (Addr × Addr)) : Hp := fun b =>
  if b = a ∧ K.lookup a = none then some (.frz { cls := .type "list", data := .seq vs.toArray } (.lst (ns.map V.int))) else if b ∈ cs.map Prod.snd then some (.tbl #[]) else none
theorem startH_a {b : Addr} (h : b = a ∧ K.lookup a = none) : startH K a vs ns cs b = some (.frz { cls := .type "list", data := .seq vs.toArray } (.lst (ns.map V.int))) := if_pos h
theorem startH_t {b : Addr} (h : ¬ (b = a ∧ K.lookup a = none)) (ht : b ∈ cs.map Prod.snd) : startH K a vs ns cs b = some (.tbl #[]) := (if_neg h).trans (if_pos ht)
theorem startH_n {b : Addr} (h : ¬ (b = a ∧ K.lookup a = none)) (ht : b ∉ cs.map Prod.snd) : startH K a vs ns cs b = none := (if_neg h).trans (if_neg ht)
theorem law_callG (KX : K.In s1.heap) (nsG : s1.heap.Ns mainGlobals mg) (nsB : s1.heap.Ns builtinsNs mb) (bb : ∀ x : Str, x ≠ "__name__" → mb x = bootBuiltins x) (nolim : s1.heap.NoLimit) (nogen : s1.gens = #[])
    (tab : ∀ p ∈ cs, s1.heap.get? p.2 = some { cls := .none, data := .fields #[] }) (tabK : ∀ p ∈ cs, K.lookup p.2 = none) (code : ∀ p ∈ cs, PySem.W.CodeHd s1.heap p.1 p.2)
    (blt : ∃ (bm : Addr) (ob : Obj), mg "__builtins__" = some (.ref bm) ∧ bm ≠ builtinsNs ∧ s1.heap.get? bm = some ob ∧ ob.cls = .type "module" ∧ ob.dict = some builtinsNs ∧ ob.data = .plain)
    (scr : s1.heap.get? a = some { cls := .type "list", data := .seq vs.toArray }) (whole : IntsAre vs ns) (small : ns.length ≤ sizeLine) (room : RoomG k callerA)
    (F : ∀ base : Heap, K.In base → base.Ns mainGlobals mg → (∀ p ∈ cs, TabB base mg p.1 p.2) → FnG P w K mg base CX k fa fd [x] sp) (bind : ∀ (s : Shared) (u : Value), BindsTo s fd ⟨[u], []⟩ [(x, u)])
    (told : ∀ H : Hp, (∀ p ∈ cs, H p.2 = some (.tbl #[])) → SqL K H a (ns.map V.int) → sp [.ref a] H (fun v _ => v = .bl true) fun _ _ _ => False) (noCX : ∀ H e s', CX [] H s1 (fun _ _ _ => False) e s' → False) :
    codeAny (model P w) callerA (.call (.ref fa) ⟨[.ref a], []⟩) (fun r s' => r = .ok (.ret (.bool true)) ∧ OldK s1.heap s'.heap ∧ s'.os = s1.os ∧ AllBare s'.gens) s1 := by
  have rv := vals_ints whole
  have lv := whole.length
  have inT : ∀ {b : Addr}, b ∈ cs.map Prod.snd → s1.heap.get? b = some { cls := .none, data := .fields #[] } := fun {b} m => by
    rcases List.mem_map.mp m with ⟨p, hp, rfl⟩
    exact tab p hp
  have notT : a ∉ cs.map Prod.snd := fun m => by
    have e := (inT m).symm.trans scr
    cases congrArg Obj.data (Option.some.inj e)
  have free : ∀ {b : Addr} {o : Obj}, s1.heap.get? b = some o → (∀ xs n, o.data ≠ .seq xs n) → o.data ≠ .fields #[] → startH K a vs ns cs b = none := fun {b o} e n1 n2 => by
    apply startH_n
    · rintro ⟨rfl, _⟩
      rw [scr] at e
      cases e
      exact n1 _ _ rfl
    · intro m
      rw [inT m] at e
      cases e
      exact n2 rfl
  have spaces : ∀ {b : Addr} {m : Str → Option Value}, s1.heap.Ns b m → (hidT s1.heap (startH K a vs ns cs)).Ns b m := fun {b m} ⟨o, es, ep, e, d, r⟩ => ⟨o, es, ep, hidT_get e (free e (fun xs n z => by rw [d] at z; cases z) fun z => by rw [d] at z; cases z), d, r⟩
  have inK : K.In (hidT s1.heap (startH K a vs ns cs)) := fun b o e => hidT_get (KX b o e) (startH_n (by
    rintro ⟨rfl, z⟩
    rw [z] at e
    cases e) fun m => by
    rcases List.mem_map.mp m with ⟨p, hp, rfl⟩
    rw [tabK p hp] at e
    cases e)
  have modl : L2.Mod K mg (hidT s1.heap (startH K a vs ns cs)) := ⟨inK, spaces nsG, ⟨mb, spaces nsB, bb⟩, by
    rcases nolim with ⟨mc, h1, h2⟩
    exact ⟨mc, spaces h1, h2⟩⟩
  have tabs : ∀ p ∈ cs, TabB (hidT s1.heap (startH K a vs ns cs)) mg p.1 p.2 := fun p hp => by
    have tp := tab p hp
    constructor
    · rcases code p hp with ⟨o, us, file, tf, flags, tg, inF, text, tt, e1, r1, r2, r3, rest⟩
      refine ⟨o, us, file, tf, flags, tg, inF, text, tt, hidT_get e1 (free e1 (fun xs n z => ?_) fun z => ?_), r1, r2, r3, rest⟩
      · rw [r2] at z
        cases z
      · rw [r2] at z
        cases z
        simp at r3
    · rcases blt with ⟨bm, ob, b1, b2, b3, b4, b5, b6⟩
      refine ⟨bm, ob, b1, b2, fun z => ?_, fun z => ?_, hidT_get b3 (free b3 (fun xs n z => ?_) fun z => ?_), b4, b5, b6⟩
      · rcases nsG with ⟨o, es, ep, e, d, _⟩
        rw [z, e] at b3
        cases b3
        rw [d] at b6
        cases b6
      · rw [z, tp] at b3
        cases b3
        cases b6
      · rw [b6] at z
        cases z
      · rw [b6] at z
        cases z
    · intro z
      rcases nsG with ⟨o, es, ep, e, d, _⟩
      rw [z, tp] at e
      cases e
      cases d
  have atT : ∀ p ∈ cs, startH K a vs ns cs p.2 = some (.tbl #[]) := fun p hp => startH_t (fun z => notT (z.1 ▸ List.mem_map.mpr ⟨p, hp, rfl⟩)) (List.mem_map.mpr ⟨p, hp, rfl⟩)
  have isL : SqL K (startH K a vs ns cs) a (ns.map V.int) := by
    cases own : K.lookup a with
    | none => exact .inl (.inr ⟨_, startH_a ⟨rfl, own⟩⟩)
    | some o =>
      have e := (KX a o own).symm.trans scr
      cases e
      exact .inr ⟨_, vs.toArray, _, own, rfl, rfl, rfl, by rw [List.size_toArray, lv]; exact small, by simpa using rv⟩
  have ok : HOk P w (startH K a vs ns cs) s1.heap := fun b u z => by
    by_cases h1 : b = a ∧ K.lookup a = none
    · rw [startH_a h1] at z
      cases z
      rw [h1.1]
      exact ⟨scr, by rw [List.length_map]; exact small, vs, _, rv, scr⟩
    · by_cases h2 : b ∈ cs.map Prod.snd
      · rw [startH_t h1 h2] at z
        cases z
        exact inT h2
      · rw [startH_n h1 h2] at z
        cases z
  have env : Env0 P w K mg (hidT s1.heap (startH K a vs ns cs)) callerA [] s1 (startH K a vs ns cs) := ⟨rfl, modl, fun b o e => of_hidT e, Nat.le_of_eq (hidT_size _ _), trivial, fun b m => absurd (show b ∈ ([] : List Addr) from m) (by simp), ok, .of_eq nogen⟩
  refine codeAny_mono ((F _ inK (spaces nsG) tabs).go callerA [] s1 _ ⟨[.ref a], []⟩ [.ref a] [.ref a] _ _ room env (bind s1 (.ref a)) (.cons rfl .nil) (told _ atT isL)) fun r s2 done => ?_
  cases r with
  | error e => exact (noCX _ e s2 done).elim
  | ok fl =>
    cases fl with
    | ret u =>
      rcases done with ⟨v, H2, os, bare, un, ok2, ru, ev⟩
      have ev2 : v = .bl true := ev
      subst ev2
      obtain rfl : u = Value.bool true := ru
      have stays : ∀ b o, b ∉ cs.map Prod.snd → s1.heap.get? b = some o → s2.heap.get? b = some o := fun b o nb e => by
        by_cases h1 : b = a ∧ K.lookup a = none
        · have f2 := un.frzs b _ _ (startH_a h1)
          have e1 := (ok b _ (startH_a h1)).1
          rw [e] at e1
          cases e1
          exact (ok2 b _ f2).1
        · exact un.keep b o e (startH_n h1 nb) (by intro z; exact absurd (show b ∈ ([] : List Addr) from z) (by simp)) (by simp)
      have grown : ∀ p ∈ cs, ∃ more : Array Value, s2.heap.get? p.2 = some { cls := .none, data := .fields more } := fun p hp => by
        rcases un.tbls p.2 #[] (atT p hp) with ⟨more, z⟩
        exact ⟨_, ok2 p.2 _ z⟩
      refine ⟨rfl, ⟨fun b o e => ?_, fun b o e => ?_⟩, os, bare⟩
      · by_cases h2 : b ∈ cs.map Prod.snd
        · rcases List.mem_map.mp h2 with ⟨p, hp, rfl⟩
          rcases grown p hp with ⟨more, hm⟩
          rw [tab p hp] at e
          cases e
          exact .inr (.inl ⟨((code p hp).tab (tab p hp)).isCodeTable, rfl, #[], more, rfl, by rw [Array.empty_append]; exact hm⟩)
        · exact .inl (stays b o h2 e)
      · by_cases h2 : b ∈ cs.map Prod.snd
        · rcases List.mem_map.mp h2 with ⟨p, hp, rfl⟩
          rcases grown p hp with ⟨more, hm⟩
          exact ⟨_, hm⟩
        · exact ⟨o, stays b o h2 e⟩
    | _ => exact (show False from done).elim
end
/-- what is known of the law's promise at the head's heap h -/
def LawG (l : PySem.W.OpenLaw) (w : World) (K : PySem.W.Frag) (CX : CXT) (k n : Nat) (x : Str) (mg : Str → Option Value) (fa : Addr) (h : Heap) : Prop :=
  ∃ (fd : FuncData) (cs : List (Addr × Addr)) (sp : Sp), (∀ p ∈ cs, h.get? p.2 = some { cls := .none, data := .fields #[] }) ∧ (∀ p ∈ cs, K.lookup p.2 = none) ∧ (∀ p ∈ cs, PySem.W.CodeHd h p.1 p.2) ∧ (∀ (s : Shared) (u : Value), BindsTo s fd ⟨[u], []⟩ [(x, u)]) ∧
    (∀ (H : Hp) (a : Addr) (ns : List Int), ns.length ≤ n → (∀ p ∈ cs, H p.2 = some (.tbl #[])) → SqL K H a (ns.map V.int) → sp [.ref a] H (fun v _ => v = .bl true) fun _ _ _ => False) ∧
    ∀ base : Heap, K.In base → base.Ns mainGlobals mg → (∀ p ∈ cs, TabB base mg p.1 p.2) → FnG l.prog w K mg base CX k fa fd [x] sp
theorem walk_G {l : PySem.W.OpenLaw} {n k : Nat} {q : Program} {loose : List Str} {XP : (Str → Option Value) → Heap → Prop} {YP : World → Heap → Prop} {d : DefRec} {K : Params → PySem.W.Frag} {CX : World → CXT} {x : Str}
    (hn : l.most = some n) (small : n ≤ sizeLine) (noDef : d.params.defaults = []) (room : RoomG k callerA) (hY : ∀ (w : World) (h : Heap), YP w h → (K w.params).In h)
    (F : ∀ (w : World) (mg mb : Str → Option Value) (mean : ExcName → Option Value) (fa : Addr) (h : Heap), YP w h → PyProof.Rows.Top q (PySem.W.looseW q loose) mean mg mb h → (K w.params).In h → h.Ns mainGlobals mg → mg d.name = some (.ref fa) → LawG l w (K w.params) (CX w) k n x mg fa h)
    (noCX : ∀ (w : World) (H : Hp) (s : Shared) (e : Value) (s' : Shared), CX w [] H s (fun _ _ _ => False) e s' → False) : PySem.W.WalkO q loose XP YP l.row.toRowW d [] (fun f vs => PySem.call f vs) := by
  refine Att.attach_callB hn noDef fun w s0 s1 mg mb fa o pm cd doc a vs ns G Y ho hd hcd hmg hobj hints hlen hbits hg => ?_
  rcases F w mg mb _ fa _ Y G.T (hY w _ Y) G.T.g hmg with ⟨fd, cs, sp, tab, tabK, code, bind, told, go⟩
  exact law_callG (hY w _ Y) G.T.g G.T.b G.T.builtins G.T.nolimit hg tab tabK code G.T.bmain hobj hints (Nat.le_trans hlen small) room go bind (fun H t L => told H a ns hlen t L) fun H e s' => noCX w H s1 e s'
end DL


set_option Elab.async false
set_option linter.all false
set_option maxRecDepth 100000
namespace DL
open PySem PySem.Spec PyProof.Rows L2 LamX
variable [TabT]
/-! ### a text times an int; xs.extend([..]); x, y = [], []; assignments whose value raises -/
section
variable {X : Cx} {z : Z} {es : List Sl} {s s1 s2 : S} {a b e : Expr} {xs : List Expr} {ds fs : List PyData} {pos p p1 p2 p3 p4 p5 p6 apos cpos : Pos} {o : Out} {rest : List Stmt} {d : PyData} {xd : XD} {W : WX}
def rMulS : R2 := fun x y H Q => ∃ a n, x = .str a ∧ y = .int n ∧ MulOk a n ∧ Q (.str (Txt.mul a n)) H
theorem op_mulS : OpR X (binaryOp .Mult) rMulS := by
  intro pins s σ H x y v u Q I rx ry h
  obtain ⟨a, n, rfl, rfl, ok, q⟩ := h
  obtain ⟨t, rfl⟩ := rx
  obtain ⟨t', rfl⟩ := ry
  exact PySem.SB.mul ok fun t2 k => ⟨.str _, H, I.tok _, ⟨_, rfl⟩, q⟩
theorem ev_mulS {x : Str} {n : Int} (ok : MulOk x n) (ha : EV X z a es s (.str x) s1) (hb : EV X z b es s1 (.int n) s2) : EV X z (.BinOp a .Mult b pos) es s (.str (Txt.mul x n)) s2 :=
  ev_opR (f := binaryOp .Mult) op_mulS (fun u v H at_ hu hv Q q => by
    cases hu
    cases hv
    exact ⟨x, n, rfl, rfl, ok, q _ H (.refl H) at_ (.str _)⟩) ha hb
/-- xs.extend([..]) -/
theorem so_ext (i : Nat) {x : Str} (h : ∀ z, ED X z xs es s fs s1) (hl : ds.length + fs.length ≤ 100000) (kk : SO X rest (es.set i (.own (ds ++ fs))) s1 o) (ho : es[i]? = some (.own ds) := by rfl) (hN : X.N[i]? = some x := by rfl) (hv : Vis X.env.scope x := by first | exact Or.inl rfl | exact Or.inr (Or.inl rfl) | exact Or.inr (Or.inr rfl))
    (hd : (x == ("__debug__" : Str)) = false := by decide) (hcd : (x == ("__classdict__" : Str)) = false := by decide) (hbase : attributeBase (.Name x p) "extend" X.env (eval (.Name x p) X.env) = eval (.Name x p) X.env := by rfl)
    (hfew : ((backTo cpos (starEach (.List xs p2 :: []) X.env)).all (fun x => !x.1) && (backToKw cpos (keywordEach [] X.env)).all (fun x => x.1.isSome) && decide ((.List xs p2 :: ([] : List Expr)).length + ([] : List Keyword).length + (if ([] : List Keyword).isEmpty then 0 else 1) < 30)) = true := by rfl)
    (hline : (apos.endLine == cpos.line) = true := by rfl) (hse : starEach (.List xs p2 :: []) X.env = (false, eval (.List xs p2) X.env) :: starEach [] X.env := by rfl) (hpl : (backTo cpos (starEach [] X.env)).any (·.1) = false := by rfl) (hs : swapsWith (.Call (.Attribute (.Name x p) "extend" apos) [.List xs p2] [] cpos) none pos.line X.env = pure false := by rfl) :
    SO X (.Expr (.Call (.Attribute (.Name x p) "extend" apos) [.List xs p2] [] cpos) pos :: rest) es s o := fun z Hc H vol σ I D q =>
  ⟨_, pss_cons (ps_expr (pe_bm PySem.F.plainAttrs_list PySem.F.slot_list_extend PySem.F.type_list_extend mt_extend (pe_var hN hv hd hcd) (pa_cons (pe_lst wA_ok) pa_nil hse) hbase hfew hline hse hpl) hs) wB_ok, by
    obtain ⟨y, hy, r⟩ := I.en.slot ho
    cases r with
    | @own a vs _ m k =>
      refine ⟨_, hy, .inl ⟨rfl, vs, .inl (.inl (I.at_.v _ m))⟩, h _ σ H I.en I.at_ _ fun ws H1 e1 a1 v1 => ⟨by rw [v1.length]; exact Nat.le_trans (show fs.length ≤ 100000 by omega) (by decide), fun b hb => ?_⟩⟩
      have e2 : Ez (z.own vol) H1 (upd H1 b (.lst ws)) := .new hb
      obtain ⟨vol', I'⟩ := I.write ho hy m (e1.trans e2) (a1.new hb) (((k.mono e1).app v1).mono e2)
      have ha : H1 a = some (.lst vs) := a1.v _ m
      exact ⟨a, b, vs, ws, rfl, rfl, by rw [upd_ne (ne_of_none ha hb)]; exact ha, upd_same, by rw [k.length, v1.length]; exact Nat.le_trans hl (by decide), kk z Hc _ vol' σ I' D q⟩⟩
/-- x, y = a new list, [] -/
theorem so_parEN (i j : Nat) {x y : Str} {kt k2 : Nat} {pl : Pos} (hc : X.calm = true) (hN : X.N.Nodup) (h : ∀ z, EN X z a es s ds s1) (k : SO X rest ((es.set i (.own ds)).set j (.own [])) s1 o)
    (hi : X.N[i]? = some x := by rfl) (hj : X.N[j]? = some y := by rfl) (hij : i ≠ j := by decide) (hx : X.env.scope.names.lookup x = some .local := by rfl) (hy : X.env.scope.names.lookup y = some .local := by rfl)
    (hs1 : starEach [a, .List [] pl] X.env = (false, eval a X.env) :: starEach [.List [] pl] X.env := by rfl) (hs2 : starEach [.List [] pl] X.env = (false, eval (.List [] pl) X.env) :: starEach [] X.env := by rfl)
    (hw : swappedStores [.Tuple [.Name x p1, .Name y p2] kt p3] (.Tuple [a, .List [] pl] k2 p4) X.env = pure (some [x, y]) := by rfl) (hs : swapsWithSole [.Tuple [.Name x p1, .Name y p2] kt p3] (.Tuple [a, .List [] pl] k2 p4) pos.line X.env = pure false := by rfl) :
    SO X (.Assign [.Tuple [.Name x p1, .Name y p2] kt p3] (.Tuple [a, .List [] pl] k2 p4) pos :: rest) es s o := fun z Hc H vol σ I D q =>
  ⟨_, pss_cons (ps_par hc hN hi hj hij hx hy (pa_cons wE_ok (pa_cons (pe_lst pa_nil) pa_nil hs2) hs1) hw hs) wB_ok, h _ σ H I.en I.at_ _ fun b vs H1 e1 a1 hb r => ⟨Nat.zero_le _, fun l hl => by
    have w2 := I.fresh i (H2 := upd H1 b (.lst vs)) e1 a1 hb (.new hb) (a1.fill hb) (r.re fun c u fc hcu => ⟨fc.to_add (ne_of_none hcu hb), by rw [upd_ne (ne_of_none hcu hb)]; exact hcu⟩)
    exact ⟨_, _, rfl, k z Hc _ _ _ (w2.fresh j (vs := []) (.refl _) w2.at_ hl (.new hl) (w2.at_.fill hl) .nil) D q⟩⟩⟩
/-- x = e, e raises -/
theorem sr_asgX (i : Nat) {x : Str} (hN : X.N.Nodup) (h : EX X z W e es s xd s1) (hi : X.N[i]? = some x := by rfl) (hx : Loc X.env.scope x := by first | exact Or.inl rfl | exact Or.inr rfl)
    (hs : swapsWith e (some (.Name x p)) pos.line X.env = pure false := by rfl) (hf : X.fn x = true ∨ X.env.scope.names.lookup x = some .local := by first | exact .inl rfl | exact .inr rfl) : SR X z (.Assign [.Name x p] e pos :: rest) es s (.ex W es xd s1) := fun σ H en at_ D q =>
  ⟨_, pss_cons (ps_set hN hi hx wE_ok hs hf) wB_never, h σ H en at_ (fun cls dx H' k a n r => q cls dx σ H' k a n r) _⟩
/-- x, y, w, u = e, e raises -/
theorem sr_unp4X (i j l m : Nat) {x y w u : Str} {kt : Nat} (hc : X.calm = true) (hN : X.N.Nodup) (h : EX X z W e es s xd s1)
    (hi : X.N[i]? = some x := by rfl) (hj : X.N[j]? = some y := by rfl) (hl : X.N[l]? = some w := by rfl) (hm : X.N[m]? = some u := by rfl) (hx : Loc X.env.scope x := by first | exact Or.inl rfl | exact Or.inr rfl) (hy : Loc X.env.scope y := by first | exact Or.inl rfl | exact Or.inr rfl) (hw' : Loc X.env.scope w := by first | exact Or.inl rfl | exact Or.inr rfl) (hu : Loc X.env.scope u := by first | exact Or.inl rfl | exact Or.inr rfl)
    (fx : X.fn x = true ∨ X.env.scope.names.lookup x = some .local := by first | exact .inl rfl | exact .inr rfl) (fy : X.fn y = true ∨ X.env.scope.names.lookup y = some .local := by first | exact .inl rfl | exact .inr rfl) (fw : X.fn w = true ∨ X.env.scope.names.lookup w = some .local := by first | exact .inl rfl | exact .inr rfl) (fu : X.fn u = true ∨ X.env.scope.names.lookup u = some .local := by first | exact .inl rfl | exact .inr rfl)
    (hs : swapsWithSole [.Tuple [.Name x p1, .Name y p2, .Name w p5, .Name u p6] kt p3] e pos.line X.env = pure false := by rfl) (hw : swappedStores [.Tuple [.Name x p1, .Name y p2, .Name w p5, .Name u p6] kt p3] e X.env = pure none := by rfl) 
    (hn : (assignEach [.Name x p1, .Name y p2, .Name w p5, .Name u p6] X.env).length = 4 := by rfl) (hst : (assignEach [.Name x p1, .Name y p2, .Name w p5, .Name u p6] X.env).findIdx? (·.1) = none := by rfl)
    (h1 : (assignEach (.Name x p1 :: [.Name y p2, .Name w p5, .Name u p6]) X.env).map (·.2) = assign (.Name x p1) X.env :: (assignEach [.Name y p2, .Name w p5, .Name u p6] X.env).map (·.2) := by rfl) (h2 : (assignEach (.Name y p2 :: [.Name w p5, .Name u p6]) X.env).map (·.2) = assign (.Name y p2) X.env :: (assignEach [.Name w p5, .Name u p6] X.env).map (·.2) := by rfl)
    (h3 : (assignEach (.Name w p5 :: [.Name u p6]) X.env).map (·.2) = assign (.Name w p5) X.env :: (assignEach [.Name u p6] X.env).map (·.2) := by rfl) (h4 : (assignEach (.Name u p6 :: []) X.env).map (·.2) = assign (.Name u p6) X.env :: (assignEach [] X.env).map (·.2) := by rfl) :
    SR X z (.Assign [.Tuple [.Name x p1, .Name y p2, .Name w p5, .Name u p6] kt p3] e pos :: rest) es s (.ex W es xd s1) := fun σ H en at_ D q =>
  ⟨_, pss_cons (ps_asg wE_ok (pg_tup hc (pgs_cons (pg_name hN hi hx fx) (pgs_cons (pg_name hN hj hy fy) (pgs_cons (pg_name hN hl hw' fw) (pgs_cons (pg_name hN hm hu fu) pgs_nil h4) h3) h2) h1) hn hst) hs hw) wB_never, h σ H en at_ (fun cls dx H' k a n r => q cls dx σ H' k a n r) _⟩
/-- e[i], e raises -/
theorem ex_ixC {k : Int} {j : Nat} (h : EX X z W e es s xd s1) : EX X z W (.Subscript e (.Constant (.int k) j p) pos) es s xd s1 := fun σ H en at_ q Q =>
  ⟨_, pe_ix ix_tup wE_ok pe_int (fun _ _ => rfl), h σ H en at_ q _⟩
end
end DL


set_option Elab.async false
set_option linter.all false
set_option maxRecDepth 100000
namespace DL
open PySem PySem.Spec PyProof.Rows L2
variable [TabT]
/-! ### what the written part says of an own class of errors with one field -/
def ClsAt (K : PySem.W.Frag) (x qual f : Str) (st : Stmt) (newId : String) (bmB : List Value) : Prop :=
  ∃ (C fI : Addr) (nm q : Str) (N : Addr) (bs : List Value) (sn : List Str) (sub : List Value) (ab : Bool) (col : Option Bool) (dd : Option Addr) (m0 m1 m2 m3 m5 : Option Value) (oc : Value) (od an : Option Addr) (sl : Array (Option Value)) (kV dc pm cd ct : Value),
    PySem.W.nsIn K mainGlobals x = some (some (.ref C)) ∧ K.lookup C = some (excClassObj nm q C N bs bmB true sn sub ab col dd m0 m1 m2 m3 m5 newId) ∧
    PySem.W.findIn K (.ref C) "__setattr__" = some (some (.builtin "object.__setattr__")) ∧ PySem.W.findIn K (.ref C) "__getattribute__" = some (some (.builtin "BaseException.__getattribute__")) ∧ PySem.W.findIn K (.ref C) "__getattr__" = some none ∧ PySem.W.findIn K (.ref C) f = some none ∧
    PySem.W.findIn K (.ref C) "__init__" = some (some (.ref fI)) ∧ PySem.W.typeIn K (.ref fI) = some (.type "function") ∧
    K.lookup fI = some ⟨oc, od, .func (PySem.W.fnOf "__init__" qual (defArgs st) (defBody st) (defScope st) .none kV dc pm an cd ct), sl⟩ ∧ PySem.W.codeIn K cd qual = true ∧ PySem.W.keepIn K (.ref fI) = true ∧
    PySem.W.keepIn K (.ref C) = true ∧ PySem.W.subIn K (.ref C) (.type "BaseException") = some true ∧ PySem.W.typeIn K (.ref C) = some (.type "type") ∧ PySem.W.hasDictIn K C = true ∧ PySem.W.isClsIn K C = true ∧ PySem.W.subIn K (.ref C) (.ref C) = some true
section
variable {K : PySem.W.Frag} {x qual f : Str} {st : Stmt} {newId : String} {bmB : List Value}
theorem ClsAt.mk' {C fI : Addr} {nm q : Str} {N : Addr} {bs : List Value} {sn : List Str} {sub : List Value} {ab : Bool} {col : Option Bool} {dd : Option Addr} {m0 m1 m2 m3 m5 : Option Value} {oc : Value} {od an : Option Addr} {sl : Array (Option Value)} {kV dc pm cd ct : Value}
    (aC : PySem.W.nsIn K mainGlobals x = some (some (.ref C))) (xL : K.lookup C = some (excClassObj nm q C N bs bmB true sn sub ab col dd m0 m1 m2 m3 m5 newId))
    (sa : PySem.W.findIn K (.ref C) "__setattr__" = some (some (.builtin "object.__setattr__"))) (ga : PySem.W.findIn K (.ref C) "__getattribute__" = some (some (.builtin "BaseException.__getattribute__"))) (gg : PySem.W.findIn K (.ref C) "__getattr__" = some none) (nb : PySem.W.findIn K (.ref C) f = some none)
    (a1 : PySem.W.findIn K (.ref C) "__init__" = some (some (.ref fI))) (t1 : PySem.W.typeIn K (.ref fI) = some (.type "function"))
    (l1 : K.lookup fI = some ⟨oc, od, .func (PySem.W.fnOf "__init__" qual (defArgs st) (defBody st) (defScope st) .none kV dc pm an cd ct), sl⟩) (c1 : PySem.W.codeIn K cd qual = true) (k1 : PySem.W.keepIn K (.ref fI) = true)
    (kC : PySem.W.keepIn K (.ref C) = true) (eC : PySem.W.subIn K (.ref C) (.type "BaseException") = some true) (tC : PySem.W.typeIn K (.ref C) = some (.type "type")) (hC : PySem.W.hasDictIn K C = true) (iC : PySem.W.isClsIn K C = true) (sC : PySem.W.subIn K (.ref C) (.ref C) = some true) : ClsAt K x qual f st newId bmB :=
  ⟨C, fI, nm, q, N, bs, sn, sub, ab, col, dd, m0, m1, m2, m3, m5, oc, od, an, sl, kV, dc, pm, cd, ct, aC, xL, sa, ga, gg, nb, a1, t1, l1, c1, k1, kC, eC, tC, hC, iC, sC⟩
/-- such an error is one of its class -/
theorem cls_own {C : Addr} (he : PySem.W.subIn K (.ref C) (.type "BaseException") = some true) (hi : PySem.W.isClsIn K C = true) (ht : PySem.W.typeIn K (.ref C) = some (.type "type")) (hs : PySem.W.subIn K (.ref C) (.ref C) = some true) : PySem.W.exmOne K (.ref C) (.ref C) = some true := by
  unfold PySem.W.isClsIn at hi
  simp [PySem.W.exmOne, PySem.W.kitCls, he, hi, ht, hs]
/-- the same, as rules want it -/
structure ClsOk (K : PySem.W.Frag) (mg : Str → Option Value) (C : Addr) (x qual f : Str) (st : Stmt) (newId : String) (bmB : List Value) : Prop where
  m : mg x = some (.ref C)
  ox : OxC K C newId bmB f
  xf : XfC K C
  ex : PySem.W.exmOne K (.ref C) (.ref C) = some true
  i : ∃ fI fd, PySem.W.findIn K (.ref C) "__init__" = some (some (.ref fI)) ∧ PySem.W.typeIn K (.ref fI) = some (.type "function") ∧ Fun K "__init__" qual st fI fd
theorem ClsAt.all {h : Heap} {mg : Str → Option Value} (D : ClsAt K x qual f st newId bmB) (X : K.In h) (G : h.Ns mainGlobals mg) (ht : PySem.W.excTail bmB bmB = true) : ∃ C, ClsOk K mg C x qual f st newId bmB := by
  obtain ⟨C, fI, nm, q, N, bs, sn, sub, ab, col, dd, m0, m1, m2, m3, m5, oc, od, an, sl, kV, dc, pm, cd, ct, aC, xL, sa, ga, gg, nb, a1, t1, l1, c1, k1, kC, eC, tC, hC, iC, sC⟩ := D
  exact ⟨C, PySem.W.mg_of X G aC, ⟨⟨nm, q, N, bs, _, sn, sub, ab, col, dd, m0, m1, m2, m3, m5, xL, ht⟩, sa, nb, eC, tC, kC⟩, ⟨ga, gg, eC, hC⟩, cls_own eC iC tC sC, fI, _, a1, t1, fun_mk l1 c1 k1⟩
/-- its calls and raises -/
theorem ClsOk.oxI {P : Program} {w : World} {mg : Str → Option Value} {base : Heap} {C : Addr} {B initId : String} {p p1 p2 pos : Pos} (T : ClsOk K mg C x qual f st newId bmB) (FB : ExcBaseFacts B newId initId bmB) (SF : StoreFacts B bmB "object.__setattr__" "object") (Sc : FnScope ["self", f] ["self", f] (defScope st))
    (hB : defBody st = [.Assign [.Attribute (.Name "self" p) f p1] (.Name f p2) pos]) (hbd : ∀ (kV doc pm : Value) (an : Option Addr) (cdv ct : Value) (us : List Value), us.length = 2 → bindArgs (PySem.W.fnOf "__init__" qual (defArgs st) (defBody st) (defScope st) .none kV doc pm an cdv ct) ⟨us, []⟩ = pure ((["self", f] : List Str).zip us))
    (hd : (f == ("__debug__" : Str)) = false := by decide) (hcd : (f == ("__classdict__" : Str)) = false := by decide) (hs : ∀ env : Env, swapsWith (.Name f p2) (some (.Attribute (.Name "self" p) f p1)) pos.line env = pure false := by intro _; rfl) (hv : Vis (defScope st) f := by exact Or.inl rfl) (hv2 : Vis (defScope st) "self" := by exact Or.inl rfl) :
    ∀ X : Cx, X.prog = P → X.w = w → X.K = K → X.mg = mg → X.base = base → OxI X x C f B newId initId bmB := fun X e1 e2 e3 e4 e5 => by
  subst e1 e2 e3 e4 e5
  obtain ⟨fI, fd, a1, t1, F⟩ := T.i
  exact ⟨T.ox, FB, ⟨fI, fd, _, a1, t1, ok_init F Sc T.ox SF hB hd hcd hs hv hv2, F.binds hbd⟩, T.m⟩
end
end DL


set_option Elab.async false
set_option linter.all false
set_option maxRecDepth 100000
set_option exponentiation.threshold 9000
namespace K2
open PySem PySem.Spec PyProof.Rows L2 DL LamX
variable [TabT]
/-! ### what is refused -/
abbrev bmI : List Value := [.type "IndexError", .type "LookupError", .type "Exception", .type "BaseException", .type "object"]
abbrev bmV : List Value := [.type "ValueError", .type "Exception", .type "BaseException", .type "object"]
/-- a class of errors without fields, below ValueError -/
structure PlCls (K : PySem.W.Frag) (mg : Str → Option Value) (x : Str) (C : Addr) : Prop where
  m : mg x = some (.ref C)
  q : PySem.W.excIn K C bmV "ValueError.__new__" = true
  kC : PySem.W.keepIn K (.ref C) = true
  ex : PySem.W.subIn K (.ref C) (.type "BaseException") = some true
  ty : PySem.W.typeIn K (.ref C) = some (.type "type")
theorem em_cls {X : Cx} {z : Z} {es : List Sl} {s : S} {x m : Str} {C : Addr} {j} {p p2 pos : Pos} (T : PlCls X.K X.mg x C) (gl : Gl X x := by rfl) (hdb : (x == ("__debug__" : Str)) = false := by decide) : EM X z (.Call (.Name x p) [.Constant (.str m) j p2] [] pos) es s (.pl C) s :=
  em_pl PySem.F.excBase_ValueError T.q T.m T.kC (raises_own T.ex T.ty) gl hdb
abbrev Gi (C : Addr) (v : PyData) : Res := .ex (.wf C "given" v)
section
variable {P : Program} {w : World} {K : PySem.W.Frag} {mg : Str → Option Value} {base : Heap} {f : Addr} {fd : FuncData} {Co Cn : Addr}
abbrev OxN (P : Program) (w : World) (K : PySem.W.Frag) (mg : Str → Option Value) (base : Heap) (Cn : Addr) : Prop := ∀ X : Cx, X.prog = P → X.w = w → X.K = K → X.mg = mg → X.base = base → OxI X "InvalidNumber" Cn "given" "IndexError" "IndexError.__new__" "IndexError.__init__" bmI
def rNoN (C : Addr) : RelX := fun as s r s' => ∃ v, as = [.val v] ∧ num v = false ∧ r = Gi C v ∧ s' = s
theorem l1 {C : Addr} : ∀ as s r s', rNoN C as s r s' → as.length = 1 := by
  rintro _ _ _ _ ⟨v, rfl, _⟩
  rfl
theorem no_need (F : Fun K "need_number" "need_number" sNeed f fd) (G : Dn P w K mg base 3 "is_number" rNumber) (O : OxN P w K mg base Cn) : FnOk P w K mg base (L2.CX P w) 4 f fd ["value"] (spX (rNoN Cn)) := by
  refine DL.okX F scNeed l1 fun cdv A outer s0 H0 E C tk z as s r s' h => ?_
  obtain ⟨v, rfl, hv, rfl, rfl⟩ := h
  exact ⟨_, sr_ifX (et_notT (et_val (ev_call G C.hr (ea_cons (ev_var 0) ea_nil) ⟨_, rfl, by rw [hv], rfl⟩))) (sr_raise C.calm tk (em_ox (O _ rfl rfl rfl rfl rfl) (C.hr.mono (by decide)) (ev_var 0)))⟩
/-- fraction -/
def rNoQ (C : Addr) : RelX := fun as s r s' => ∃ v u, as = [.val v, .val u] ∧ ((isW v = false ∧ r = Gi C v) ∨ (∃ t, v = .int t ∧ (isW u = false ∨ u = .int 0) ∧ r = Gi C u)) ∧ s' = s
theorem no_quot (F : Fun K "fraction" "fraction" sQuot f fd) (G : Dn P w K mg base 1 "is_whole" rWhole) (O : OxN P w K mg base Cn) : FnOk P w K mg base (L2.CX P w) 3 f fd ["top", "bottom"] (spX (rNoQ Cn)) := by
  refine DL.okX F scQuot (by rintro _ _ _ _ ⟨v, u, rfl, _⟩; rfl) fun cdv A outer s0 H0 E C tk z as s r s' h => ?_
  obtain ⟨v, u, rfl, h, rfl⟩ := h
  rcases h with ⟨hv, rfl⟩ | ⟨t, rfl, hu, rfl⟩
  · exact ⟨_, sr_ifX (et_notT (et_val (ev_call G (C.hr.mono (by decide)) (ea_cons (ev_var 0) ea_nil) ⟨_, rfl, by rw [hv], rfl⟩))) (sr_raise C.calm tk (em_ox (O _ rfl rfl rfl rfl rfl) C.hr (ev_var 0)))⟩
  · rcases hu with hu | rfl
    · exact ⟨_, sr_ifF (s1 := s') (et_notF (et_val (ev_call G (C.hr.mono (by decide)) (ea_cons (ev_var 0) ea_nil) ⟨_, rfl, rfl, rfl⟩))) (sr_ifX (et_w (ew_orT (et_notT (et_val (ev_call G (C.hr.mono (by decide)) (ea_cons (ev_var 1) ea_nil) ⟨_, rfl, by rw [hu], rfl⟩))))) (sr_raise C.calm tk (em_ox (O _ rfl rfl rfl rfl rfl) C.hr (ev_var 1))))⟩
    · exact ⟨_, sr_ifF (s1 := s') (et_notF (et_val (ev_call G (C.hr.mono (by decide)) (ea_cons (ev_var 0) ea_nil) ⟨_, rfl, rfl, rfl⟩))) (sr_ifX (et_w (ew_orF (s1 := s') (et_notF (et_val (ev_call G (C.hr.mono (by decide)) (ea_cons (ev_var 1) ea_nil) ⟨_, rfl, rfl, rfl⟩))) (ew_or1 (ET.is (et_eqI C.hu (i := 0) (ev_var 1) ev_int) rfl)))) (sr_raise C.calm tk (em_ox (O _ rfl rfl rfl rfl rfl) C.hr (ev_var 1))))⟩
/-- two numbers, the first or the second is none -/
def rNoP (C : Addr) : RelX := fun as s r s' => ∃ v u, as = [.val v, .val u] ∧ ((num v = false ∧ r = Gi C v) ∨ (num v = true ∧ num u = false ∧ r = Gi C u)) ∧ s' = s
theorem l2 {C : Addr} : ∀ as s r s', rNoP C as s r s' → as.length = 2 := by
  rintro _ _ _ _ ⟨v, u, rfl, _⟩
  rfl
theorem no_parts (F : Fun K "_parts" "_parts" sParts f fd) (G : Dn P w K mg base 4 "need_number" rNeed) (GX : Dx P w K mg base 4 "need_number" (rNoN Cn)) : FnOk P w K mg base (L2.CX P w) 5 f fd ["one", "other"] (spX (rNoP Cn)) := by
  refine DL.okX F scParts l2 fun cdv A outer s0 H0 E C tk z as s r s' h => ?_
  obtain ⟨v, u, rfl, h, rfl⟩ := h
  rcases h with ⟨hv, rfl⟩ | ⟨hv, hu, rfl⟩
  · exact ⟨_, sr_exprX (ex_call GX tk C.hr (ea_cons (ev_var 0) ea_nil) ⟨_, rfl, hv, rfl, rfl⟩)⟩
  · exact ⟨_, sr_expr (s1 := s') (ev_call G C.hr (ea_cons (ev_var 0) ea_nil) ⟨_, rfl, hv, rfl, rfl⟩) (sr_exprX (ex_call GX tk C.hr (ea_cons (ev_var 1) ea_nil) ⟨_, rfl, hu, rfl, rfl⟩))⟩
theorem no_added (F : Fun K "added" "added" sAdded f fd) (G : Dx P w K mg base 5 "_parts" (rNoP Cn)) : FnOk P w K mg base (L2.CX P w) 6 f fd ["one", "other"] (spX (rNoP Cn)) := by
  refine DL.okX F scAdded l2 fun cdv A outer s0 H0 E C tk z as s r s' h => ?_
  obtain ⟨v, u, rfl, h, rfl⟩ := h
  rcases h with ⟨hv, rfl⟩ | ⟨hv, hu, rfl⟩
  · exact ⟨_, sr_unp4X 2 3 4 5 C.calm C.nd (ex_call G tk C.hr (ea_cons (ev_var 0) (ea_cons (ev_var 1) ea_nil)) ⟨_, _, rfl, .inl ⟨hv, rfl⟩, rfl⟩)⟩
  · exact ⟨_, sr_unp4X 2 3 4 5 C.calm C.nd (ex_call G tk C.hr (ea_cons (ev_var 0) (ea_cons (ev_var 1) ea_nil)) ⟨_, _, rfl, .inr ⟨hv, hu, rfl⟩, rfl⟩)⟩
theorem no_less (F : Fun K "less" "less" sLess f fd) (G : Dx P w K mg base 5 "_parts" (rNoP Cn)) : FnOk P w K mg base (L2.CX P w) 6 f fd ["one", "other"] (spX (rNoP Cn)) := by
  refine DL.okX F scLess l2 fun cdv A outer s0 H0 E C tk z as s r s' h => ?_
  obtain ⟨v, u, rfl, h, rfl⟩ := h
  rcases h with ⟨hv, rfl⟩ | ⟨hv, hu, rfl⟩
  · exact ⟨_, sr_unp4X 2 3 4 5 C.calm C.nd (ex_call G tk C.hr (ea_cons (ev_var 0) (ea_cons (ev_var 1) ea_nil)) ⟨_, _, rfl, .inl ⟨hv, rfl⟩, rfl⟩)⟩
  · exact ⟨_, sr_unp4X 2 3 4 5 C.calm C.nd (ex_call G tk C.hr (ea_cons (ev_var 0) (ea_cons (ev_var 1) ea_nil)) ⟨_, _, rfl, .inr ⟨hv, hu, rfl⟩, rfl⟩)⟩
theorem no_mult (F : Fun K "multiplied" "multiplied" sMult f fd) (G : Dx P w K mg base 5 "_parts" (rNoP Cn)) : FnOk P w K mg base (L2.CX P w) 6 f fd ["one", "other"] (spX (rNoP Cn)) := by
  refine DL.okX F scMult l2 fun cdv A outer s0 H0 E C tk z as s r s' h => ?_
  obtain ⟨v, u, rfl, h, rfl⟩ := h
  rcases h with ⟨hv, rfl⟩ | ⟨hv, hu, rfl⟩
  · exact ⟨_, sr_unp4X 2 3 4 5 C.calm C.nd (ex_call G tk C.hr (ea_cons (ev_var 0) (ea_cons (ev_var 1) ea_nil)) ⟨_, _, rfl, .inl ⟨hv, rfl⟩, rfl⟩)⟩
  · exact ⟨_, sr_unp4X 2 3 4 5 C.calm C.nd (ex_call G tk C.hr (ea_cons (ev_var 0) (ea_cons (ev_var 1) ea_nil)) ⟨_, _, rfl, .inr ⟨hv, hu, rfl⟩, rfl⟩)⟩
theorem no_divd (F : Fun K "divided" "divided" sDivd f fd) (G : Dx P w K mg base 5 "_parts" (rNoP Cn)) : FnOk P w K mg base (L2.CX P w) 6 f fd ["one", "other"] (spX (rNoP Cn)) := by
  refine DL.okX F scDivd l2 fun cdv A outer s0 H0 E C tk z as s r s' h => ?_
  obtain ⟨v, u, rfl, h, rfl⟩ := h
  rcases h with ⟨hv, rfl⟩ | ⟨hv, hu, rfl⟩
  · exact ⟨_, sr_unp4X 2 3 4 5 C.calm C.nd (ex_call G tk C.hr (ea_cons (ev_var 0) (ea_cons (ev_var 1) ea_nil)) ⟨_, _, rfl, .inl ⟨hv, rfl⟩, rfl⟩)⟩
  · exact ⟨_, sr_unp4X 2 3 4 5 C.calm C.nd (ex_call G tk C.hr (ea_cons (ev_var 0) (ea_cons (ev_var 1) ea_nil)) ⟨_, _, rfl, .inr ⟨hv, hu, rfl⟩, rfl⟩)⟩
theorem no_comp (F : Fun K "compared" "compared" sComp f fd) (G : Dx P w K mg base 6 "less" (rNoP Cn)) : FnOk P w K mg base (L2.CX P w) 7 f fd ["one", "other"] (spX (rNoP Cn)) := by
  refine DL.okX F scComp l2 fun cdv A outer s0 H0 E C tk z as s r s' h => ?_
  obtain ⟨v, u, rfl, h, rfl⟩ := h
  rcases h with ⟨hv, rfl⟩ | ⟨hv, hu, rfl⟩
  · exact ⟨_, sr_asgX 2 C.nd (ex_ixC (ex_call G tk C.hr (ea_cons (ev_var 0) (ea_cons (ev_var 1) ea_nil)) ⟨_, _, rfl, .inl ⟨hv, rfl⟩, rfl⟩))⟩
  · exact ⟨_, sr_asgX 2 C.nd (ex_ixC (ex_call G tk C.hr (ea_cons (ev_var 0) (ea_cons (ev_var 1) ea_nil)) ⟨_, _, rfl, .inr ⟨hv, hu, rfl⟩, rfl⟩))⟩
/-- divided by 0 -/
def rDivZ (C : Addr) : RelX := fun as s r s' => ∃ v w t b u, as = [.val v, .val w] ∧ Nm v t b ∧ Nm w 0 u ∧ r = .ex (.pl C) ∧ s' = s
theorem z_divd (F : Fun K "divided" "divided" sDivd f fd) (G1 : Dn P w K mg base 5 "_parts" rParts) (T : PlCls K mg "InvalidOperation" Co) : FnOk P w K mg base (L2.CX P w) 6 f fd ["one", "other"] (spX (rDivZ Co)) := by
  refine DL.okX F scDivd (by rintro _ _ _ _ ⟨v, u, _, _, _, rfl, _⟩; rfl) fun cdv A outer s0 H0 E C tk z as s r s' h => ?_
  obtain ⟨v, w, t, b, u, rfl, hv, hw, rfl, rfl⟩ := h
  exact ⟨_, sr_unp4 (s1 := s') 2 3 4 5 C.calm C.nd (ev_call G1 C.hr (ea_cons (ev_var 0) (ea_cons (ev_var 1) ea_nil)) ⟨_, _, _, _, _, _, rfl, hv, hw, rfl, rfl⟩) (sr_ifX (ET.is (et_eqI C.hu (i := 0) (ev_var 4) ev_int) rfl) (sr_raise C.calm tk (em_cls T)))⟩
/-- a power -/
def rNoW (C : Addr) : RelX := fun as s r s' => ∃ v u, as = [.val v, .val u] ∧ ((num v = false ∧ r = Gi C v) ∨ (num v = true ∧ btw (-1000) 1000 u = false ∧ r = Gi C u)) ∧ s' = s
theorem no_power (F : Fun K "power_of" "power_of" sPower f fd) (T : Top2 mg) (G : Dn P w K mg base 4 "need_number" rNeed) (GX : Dx P w K mg base 4 "need_number" (rNoN Cn)) (G2 : Dn P w K mg base 2 "is_between" rBetween) (O : OxN P w K mg base Cn) : FnOk P w K mg base (L2.CX P w) 5 f fd ["number", "many"] (spX (rNoW Cn)) := by
  refine DL.okX F scPower (by rintro _ _ _ _ ⟨v, u, rfl, _⟩; rfl) fun cdv A outer s0 H0 E C tk z as s r s' h => ?_
  obtain ⟨v, u, rfl, h, rfl⟩ := h
  obtain ⟨tr, hr⟩ := T.raised
  rcases h with ⟨hv, rfl⟩ | ⟨hv, hu, rfl⟩
  · exact ⟨_, sr_exprX (ex_call GX tk C.hr (ea_cons (ev_var 0) ea_nil) ⟨_, rfl, hv, rfl, rfl⟩)⟩
  · exact ⟨_, sr_expr (s1 := s') (ev_call G C.hr (ea_cons (ev_var 0) ea_nil) ⟨_, rfl, hv, rfl, rfl⟩) (sr_ifX (et_notT (et_val (ev_call G2 (C.hr.mono (by decide)) (ea_cons (ev_var 1) (ea_cons (ev_neg (ev_glob rfl hr ⟨tr, rfl⟩)) (ea_cons (ev_glob rfl hr ⟨tr, rfl⟩) ea_nil))) ⟨_, _, _, rfl, by rw [hu], rfl⟩))) (sr_raise C.calm tk (em_ox (O _ rfl rfl rfl rfl rfl) (C.hr.mono (by decide)) (ev_var 1))))⟩
def rPowZ (C : Addr) : RelX := fun as s r s' => ∃ v b, as = [.val v, .val (.int (-1))] ∧ Nm v 0 b ∧ r = .ex (.pl C) ∧ s' = s
theorem z_power (F : Fun K "power_of" "power_of" sPower f fd) (T : Top2 mg) (G : Dn P w K mg base 4 "need_number" rNeed) (G2 : Dn P w K mg base 2 "is_between" rBetween) (G3 : Dn P w K mg base 1 "as_pair" rPair) (TO : PlCls K mg "InvalidOperation" Co) : FnOk P w K mg base (L2.CX P w) 5 f fd ["number", "many"] (spX (rPowZ Co)) := by
  refine DL.okX F scPower (by rintro _ _ _ _ ⟨v, u, rfl, _⟩; rfl) fun cdv A outer s0 H0 E C tk z as s r s' h => ?_
  obtain ⟨v, b, rfl, hv, rfl, rfl⟩ := h
  obtain ⟨tr, hr⟩ := T.raised
  exact ⟨_, sr_expr (s1 := s') (ev_call G C.hr (ea_cons (ev_var 0) ea_nil) ⟨_, rfl, hv.num, rfl, rfl⟩) (sr_ifF (s1 := s') (et_notF (et_val (ev_call G2 (C.hr.mono (by decide)) (ea_cons (ev_var 1) (ea_cons (ev_neg (ev_glob rfl hr ⟨tr, rfl⟩)) (ea_cons (ev_glob rfl hr ⟨tr, rfl⟩) ea_nil))) ⟨_, _, _, rfl, rfl, rfl⟩)))
    (sr_unp2 (s1 := s') 2 3 C.calm C.nd (ev_call G3 (C.hr.mono (by decide)) (ea_cons (ev_var 0) ea_nil) ⟨_, _, _, rfl, hv, rfl, rfl⟩) (sr_ifF (s1 := s') (ET.is (et_ge (i := -1) (j := 0) (ev_var 1) ev_int) rfl) (sr_ifX (ET.is (et_eqI C.hu (i := 0) (ev_var 2) ev_int) rfl) (sr_raise C.calm tk (em_cls TO))))))⟩
theorem no_root (F : Fun K "root_of" "root_of" sRoot f fd) (GX : Dx P w K mg base 4 "need_number" (rNoN Cn)) : FnOk P w K mg base (L2.CX P w) 5 f fd ["number"] (spX (rNoN Cn)) := by
  refine DL.okX F scRoot l1 fun cdv A outer s0 H0 E C tk z as s r s' h => ?_
  obtain ⟨v, rfl, hv, rfl, rfl⟩ := h
  exact ⟨_, sr_exprX (ex_call GX tk C.hr (ea_cons (ev_var 0) ea_nil) ⟨_, rfl, hv, rfl, rfl⟩)⟩
theorem no_floor (F : Fun K "floor_of" "floor_of" sFloor f fd) (GX : Dx P w K mg base 4 "need_number" (rNoN Cn)) : FnOk P w K mg base (L2.CX P w) 5 f fd ["number"] (spX (rNoN Cn)) := by
  refine DL.okX F scFloor l1 fun cdv A outer s0 H0 E C tk z as s r s' h => ?_
  obtain ⟨v, rfl, hv, rfl, rfl⟩ := h
  exact ⟨_, sr_exprX (ex_call GX tk C.hr (ea_cons (ev_var 0) ea_nil) ⟨_, rfl, hv, rfl, rfl⟩)⟩
theorem no_ntext (F : Fun K "number_text" "number_text" sNText f fd) (GX : Dx P w K mg base 4 "need_number" (rNoN Cn)) : FnOk P w K mg base (L2.CX P w) 5 f fd ["number"] (spX (rNoN Cn)) := by
  refine DL.okX F scNText l1 fun cdv A outer s0 H0 E C tk z as s r s' h => ?_
  obtain ⟨v, rfl, hv, rfl, rfl⟩ := h
  exact ⟨_, sr_exprX (ex_call GX tk C.hr (ea_cons (ev_var 0) ea_nil) ⟨_, rfl, hv, rfl, rfl⟩)⟩
def rNoF (C : Addr) : RelX := fun as s r s' => ∃ v, as = [.val v] ∧ btw 0 1000 v = false ∧ r = Gi C v ∧ s' = s
theorem no_fact (F : Fun K "factorial" "factorial" sFact f fd) (T : Top2 mg) (G2 : Dn P w K mg base 2 "is_between" rBetween) (O : OxN P w K mg base Cn) : FnOk P w K mg base (L2.CX P w) 3 f fd ["number"] (spX (rNoF Cn)) := by
  refine DL.okX F scFact (by rintro _ _ _ _ ⟨v, rfl, _⟩; rfl) fun cdv A outer s0 H0 E C tk z as s r s' h => ?_
  obtain ⟨v, rfl, hv, rfl, rfl⟩ := h
  obtain ⟨tr, hr⟩ := T.chosen
  exact ⟨_, sr_ifX (et_notT (et_val (ev_call G2 C.hr (ea_cons (ev_var 0) (ea_cons ev_int (ea_cons (ev_glob rfl hr ⟨tr, rfl⟩) ea_nil))) ⟨_, _, _, rfl, by rw [hv], rfl⟩))) (sr_raise C.calm tk (em_ox (O _ rfl rfl rfl rfl rfl) C.hr (ev_var 0)))⟩
def rNoB (C : Addr) : RelX := fun as s r s' => ∃ v u, as = [.val v, .val u] ∧ ((btw 0 1000 v = false ∧ r = Gi C v) ∨ (btw 0 1000 v = true ∧ btw 0 1000 u = false ∧ r = Gi C u)) ∧ s' = s
theorem no_binom (F : Fun K "binomial" "binomial" sBinom f fd) (T : Top2 mg) (G2 : Dn P w K mg base 2 "is_between" rBetween) (O : OxN P w K mg base Cn) : FnOk P w K mg base (L2.CX P w) 3 f fd ["top", "low"] (spX (rNoB Cn)) := by
  refine DL.okX F scBinom (by rintro _ _ _ _ ⟨v, u, rfl, _⟩; rfl) fun cdv A outer s0 H0 E C tk z as s r s' h => ?_
  obtain ⟨v, u, rfl, h, rfl⟩ := h
  obtain ⟨tr, hr⟩ := T.chosen
  rcases h with ⟨hv, rfl⟩ | ⟨hv, hu, rfl⟩
  · exact ⟨_, sr_ifX (et_notT (et_val (ev_call G2 C.hr (ea_cons (ev_var 0) (ea_cons ev_int (ea_cons (ev_glob rfl hr ⟨tr, rfl⟩) ea_nil))) ⟨_, _, _, rfl, by rw [hv], rfl⟩))) (sr_raise C.calm tk (em_ox (O _ rfl rfl rfl rfl rfl) C.hr (ev_var 0)))⟩
  · exact ⟨_, sr_ifF (s1 := s') (et_notF (et_val (ev_call G2 C.hr (ea_cons (ev_var 0) (ea_cons ev_int (ea_cons (ev_glob rfl hr ⟨tr, rfl⟩) ea_nil))) ⟨_, _, _, rfl, by rw [hv], rfl⟩))) (sr_ifX (et_notT (et_val (ev_call G2 C.hr (ea_cons (ev_var 1) (ea_cons ev_int (ea_cons (ev_glob rfl hr ⟨tr, rfl⟩) ea_nil))) ⟨_, _, _, rfl, by rw [hu], rfl⟩))) (sr_raise C.calm tk (em_ox (O _ rfl rfl rfl rfl rfl) C.hr (ev_var 1))))⟩
end
end K2


set_option Elab.async false
set_option linter.all false
set_option maxRecDepth 100000
set_option exponentiation.threshold 9000
namespace K2
open PySem PySem.Spec PyProof.Rows L2 DL LamX
variable [TabT]
/-! ### texts that are none of numbers -/
def ptO (x : Str) : Str := (Txt.partition (Txt.removeprefix x dash) slash).1
def ptS (x : Str) : Str := (Txt.partition (Txt.removeprefix x dash) slash).2.1
def ptU (x : Str) : Str := (Txt.partition (Txt.removeprefix x dash) slash).2.2
def under (x : Str) : Str := if ptS x = Str.empty then "1" else ptU x
def dig (x : Str) : Bool := Txt.isascii x && Txt.isdigit x
/-- a text of digits that is not the text of its number -/
structure Odd (x : Str) : Prop where
  o : dig (ptO x) = true
  u : dig (under x) = true
  lo : (ptO x).length ≤ 640
  lu : (under x).length ≤ 640
  ex : ∃ n m t b t2 b2 : Int, PySem.intText? (ptO x) = some n ∧ PySem.intText? (under x) = some m ∧ m ≠ 0 ∧ Bd 300 m ∧ frD n m = .tuple [.int t, .int b] ∧ 1 ≤ b ∧ Nat.gcd t.natAbs b.natAbs = 1 ∧ Bd 300 t ∧ Bd 300 b ∧
    (if Txt.startswith x dash then frD (t * -1) (b * 1) = .tuple [.int t2, .int b2] else t2 = t ∧ b2 = b) ∧ 1 ≤ b2 ∧ Nat.gcd t2.natAbs b2.natAbs = 1 ∧ Bd 300 t2 ∧ Bd 300 b2 ∧ PyData.eqv (.str (ntx t2 b2)) (.str x) = false
inductive BadT : PyData → Prop
  | kind {v : PyData} (h : (match v with | .str _ => true | _ => false) = false) : BadT v
  | long {x : Str} (h : 400 < x.length) (l : x.length ≤ 1000) : BadT (.str x)
  | a {x : Str} (l : x.length ≤ 400) (l2 : (Txt.removeprefix x dash).length ≤ 400) (k : PyData.strOk (ptS x) = true) (h : dig (ptO x) = false) : BadT (.str x)
  | b {x : Str} (l : x.length ≤ 400) (l2 : (Txt.removeprefix x dash).length ≤ 400) (k : PyData.strOk (ptS x) = true) (o : dig (ptO x) = true) (h : dig (under x) = false) : BadT (.str x)
  | c {x : Str} (l : x.length ≤ 400) (l2 : (Txt.removeprefix x dash).length ≤ 400) (k : PyData.strOk (ptS x) = true) (o : dig (ptO x) = true) (u : dig (under x) = true) (lu : (under x).length ≤ 640) (h : PySem.intText? (under x) = some 0) : BadT (.str x)
  | d {x : Str} (l : x.length ≤ 400) (l2 : (Txt.removeprefix x dash).length ≤ 400) (k : PyData.strOk (ptS x) = true) (kx : PyData.strOk x = true) (h : Odd x) : BadT (.str x)
theorem isNotS {v : PyData} (h : (match v with | .str _ => true | _ => false) = false) : kitB (tyD v) "str" = some false := by
  have := k_str v
  cases v <;> first | exact this | cases h
theorem plS {x : Str} (h : PyData.strOk x = true) : Pl (.str x) := by
  refine ⟨rfl, ?_⟩
  show (PyData.strOk x && _) = true
  rw [h]
  rfl
section
variable {P : Program} {w : World} {K : PySem.W.Frag} {mg : Str → Option Value} {base : Heap} {f : Addr} {fd : FuncData} {Cp : Addr}
def rDigB : Rel := fun as s d s' => ∃ x, as = [.val (.str x)] ∧ d = .bool (dig x) ∧ s' = s
theorem ok_digB (F : Fun K "_digits_only" "_digits_only" sDigs f fd) : FnOk P w K mg base CX0 1 f fd ["text"] (spD rDigB) := by
  refine okD F scDigs (by rintro _ _ _ _ ⟨x, rfl, _⟩; rfl) fun cdv A outer s0 H0 E C z as s₁ d s h => ?_
  obtain ⟨x, rfl, rfl, rfl⟩ := h
  refine sr_ret (ev_and (k1 := Txt.isascii x) (k2 := Txt.isdigit x) (ev_m0 (x := x) PySem.F.slot_str_isascii PySem.F.type_str_isascii mt_isascii (fun vs H at_ r Q q => ?_) (ev_var 0)) (fun _ => ev_b1 (ev_m0 (x := x) PySem.F.slot_str_isdigit PySem.F.type_str_isdigit mt_isdigit (fun vs H at_ r Q q => ?_) (ev_var 0))))
  · cases r
    exact ⟨x, rfl, rfl, trivial, q _ H (.refl H) at_ (.bl _)⟩
  · cases r
    exact ⟨x, rfl, rfl, trivial, q _ H (.refl H) at_ (.bl _)⟩
abbrev Sp0 (C : Addr) : Res := .ex (.wf C "spot" (.int 0))
def rNoT (C : Addr) : RelX := fun as s r s' => ∃ v, as = [.val v] ∧ BadT v ∧ r = Sp0 C ∧ s' = s
abbrev cxT (P : Program) (w : World) (K : PySem.W.Frag) (mg : Str → Option Value) (base : Heap) (f : Addr) (cdv : Value) (A : Around) (outer : List Env) (s0 : Shared) (H0 : Hp) (E : XK) : Cx := cxOf (L2.CX P w) P w K mg base ["text", "size", "number", "over", "slash", "under"] "number_of_text" (defScope sNOf) f cdv A outer s0 H0 E
set_option maxHeartbeats 4000000 in
theorem no_nof (F : Fun K "number_of_text" "number_of_text" sNOf f fd) (TT : Top mg) (T : Top2 mg) (G1 : Dn P w K mg base 1 "_digits_only" rDigB) (G2 : Dn P w K mg base 2 "fraction" rQuot) (G3 : Dn P w K mg base 6 "multiplied" rMult) (G4 : Dn P w K mg base 5 "number_text" rNText)
    (O : ∀ X : Cx, X.prog = P → X.w = w → X.K = K → X.mg = mg → X.base = base → OxI X "ParseError" Cp "spot" "ValueError" "ValueError.__new__" "ValueError.__init__" bmV) : FnOk P w K mg base (L2.CX P w) 7 f fd ["text"] (spX (rNoT Cp)) := by
  refine DL.okX F scNOf (by rintro _ _ _ _ ⟨v, rfl, _⟩; rfl) fun cdv A outer s0 H0 E C tk z as s r s' h => ?_
  obtain ⟨v, rfl, hb, rfl, rfl⟩ := h
  obtain ⟨tx, hx⟩ := T.text
  have hL : (100000 : Nat) ≤ sizeLine := by decide
  have bad : ∀ {es : List Sl} {x : Str} {p p1 p2 pos : Pos} {j : Nat} {rest : List Stmt}, x = "ParseError" → (Gl (cxT P w K mg base f cdv A outer s0 H0 E) x) → (x == ("__debug__" : Str)) = false → SR (cxT P w K mg base f cdv A outer s0 H0 E) z (.Raise (some (.Call (.Name x p) [.Constant (.int 0) j p1] [] p2)) none pos :: rest) es s' (.ex (WE1 E) es (.wf Cp "spot" (.int 0)) s') := by
    intro es x p p1 p2 pos j rest ex gl hd
    subst ex
    exact sr_raise C.calm tk (em_ox (O _ rfl rfl rfl rfl rfl) (C.hr.mono (by decide)) ev_int gl hd)
  -- the first row
  have first : ∀ {x : Str}, x.length ≤ 400 → ET (cxT P w K mg base f cdv A outer s0 H0 E) z (match (defBody sNOf)[0]? with | some (Stmt.If c _ _ _) => c | _ => .Constant .none 0 ⟨0, 0, 0, 0⟩) [.val (.str x), .un, .un, .un, .un, .un] s' false s' := fun {x} hl =>
    et_w (ew_orF (et_notF (et_val (ev_isi TT.isi TT.str (ev_var 0) (k_str (.str x))))) (ew_or1 (ET.is (et_gt (ev_bltn call_len (rb_lenS (x := x) (by omega)) TT.len (ed_cons (ev_var 0) ed_nil)) (ev_glob rfl hx ⟨tx, rfl⟩)) (decide_eq_false (by omega)))))
  -- the parts
  have parts : ∀ {x : Str} {o : Out}, x.length ≤ 400 → (Txt.removeprefix x dash).length ≤ 400 → PyData.strOk (ptS x) = true →
      (∀ q, SR (cxT P w K mg base f cdv A outer s0 H0 E) z ((defBody sNOf).drop 3) [.val (.str x), .un, .un, .val (.str (ptO x)), q, .val (.str (under x))] s' o) → SR (cxT P w K mg base f cdv A outer s0 H0 E) z (defBody sNOf) [.val (.str x), .un, .un, .un, .un, .un] s' o := fun {x o} hl h2 ks kk => by
    have rp : ∀ {s : S}, RM z s (fun x xs H Q => ∃ a b, x = .str a ∧ xs = [.str b] ∧ a.length ≤ sizeLine ∧ Q (.str (Txt.removeprefix a b)) H) x [.str dash] (.str (Txt.removeprefix x dash)) := fun {s} vs H at_ r Q q => by
      cases r with
      | cons r1 r =>
        cases r
        cases r1
        exact ⟨_, _, rfl, rfl, by omega, q _ H (.refl H) at_ (.str _)⟩
    have rpart : ∀ {s : S}, RM z s (fun x xs H Q => ∃ a b, x = .str a ∧ xs = [.str b] ∧ (b.length == 0) = false ∧ a.length ≤ sizeLine ∧ ∀ p, H p = none → Q (.ref p) (upd H p (.tup [.str (Txt.partition a b).1, .str (Txt.partition a b).2.1, .str (Txt.partition a b).2.2])))
        (Txt.removeprefix x dash) [.str slash] (.tuple [.str (ptO x), .str (ptS x), .str (ptU x)]) := fun {s} vs H at_ r Q q => by
      cases r with
      | cons r1 r =>
        cases r
        cases r1
        exact ⟨_, _, rfl, rfl, by decide, by omega, fun p hp => q _ _ (.new hp) (at_.new hp) (.tup (at_.fresh hp) upd_same (.cons (.str _) (.cons (.str _) (.cons (.str _) .nil))))⟩
    refine sr_ifF (s1 := s') (first hl) ?_
    refine sr_unp3 (s1 := s') 3 4 5 C.calm C.nd (ev_m1 (x := Txt.removeprefix x dash) PySem.F.slot_str_partition PySem.F.type_str_partition mt_partition rpart (ev_m1 (x := x) PySem.F.slot_str_removeprefix PySem.F.type_str_removeprefix mt_removeprefix rp (ev_var 0) ev_str) ev_str) ?_
    have eS : PyData.eqv (.str (ptS x)) (.str Str.empty) = decide (ptS x = Str.empty) := by
      rw [Bool.eq_iff_iff, decide_eq_true_eq]
      simp [PyData.eqv]
    by_cases h0 : ptS x = Str.empty
    · have k1 := kk (.val (.str (ptS x)))
      have e : under x = "1" := if_pos h0
      rw [e] at k1
      exact sr_ifTn (s1 := s') (ET.is (et_eq C.hu (plS ks) (plS (x := Str.empty) (by decide +kernel)) (ev_var 4) ev_str) (eS.trans (decide_eq_true h0))) (sr_asg 5 C.nd ev_str sr_nil) k1
    · have k1 := kk (.val (.str (ptS x)))
      have e : under x = ptU x := if_neg h0
      rw [e] at k1
      exact sr_ifF (s1 := s') (ET.is (et_eq C.hu (plS ks) (plS (x := Str.empty) (by decide +kernel)) (ev_var 4) ev_str) (eS.trans (decide_eq_false h0))) k1
  cases hb with
  | kind h => exact ⟨_, sr_ifX (et_w (ew_orT (et_notT (et_val (ev_isi TT.isi TT.str (ev_var 0) (isNotS h)))))) (bad rfl rfl (by decide))⟩
  | @long x h l => exact ⟨_, sr_ifX (et_w (ew_orF (s1 := s') (et_notF (et_val (ev_isi TT.isi TT.str (ev_var 0) (k_str (.str x))))) (ew_or1 (ET.is (et_gt (ev_bltn call_len (rb_lenS (x := x) (by omega)) TT.len (ed_cons (ev_var 0) ed_nil)) (ev_glob rfl hx ⟨tx, rfl⟩)) (decide_eq_true (by omega)))))) (bad rfl rfl (by decide))⟩
  | @a x l l2 k h =>
    exact ⟨[.val (.str x), .un, .un, .val (.str (ptO x)), .un, .val (.str (under x))], parts l l2 k fun q => sr_pre (.same (.same (.same (.same (.un (.same .nil)))))) (sr_ifX (et_w (ew_orT (et_notT (et_val (ev_call G1 (C.hr.mono (by decide)) (ea_cons (ev_var 3) ea_nil) ⟨_, rfl, by rw [h], rfl⟩))))) (bad rfl rfl (by decide)))⟩
  | @b x l l2 k o h =>
    exact ⟨[.val (.str x), .un, .un, .val (.str (ptO x)), .un, .val (.str (under x))], parts l l2 k fun q => sr_pre (.same (.same (.same (.same (.un (.same .nil)))))) (sr_ifX (et_w (ew_orF (s1 := s') (et_notF (et_val (ev_call G1 (C.hr.mono (by decide)) (ea_cons (ev_var 3) ea_nil) ⟨_, rfl, by rw [o], rfl⟩))) (ew_orT (et_notT (et_val (ev_call G1 (C.hr.mono (by decide)) (ea_cons (ev_var 5) ea_nil) ⟨_, rfl, by rw [h], rfl⟩)))))) (bad rfl rfl (by decide)))⟩
  | @c x l l2 k o u lu h =>
    exact ⟨[.val (.str x), .un, .un, .val (.str (ptO x)), .un, .val (.str (under x))], parts l l2 k fun q => sr_pre (.same (.same (.same (.same (.un (.same .nil)))))) (sr_ifX (et_w (ew_orF (s1 := s') (et_notF (et_val (ev_call G1 (C.hr.mono (by decide)) (ea_cons (ev_var 3) ea_nil) ⟨_, rfl, by rw [o], rfl⟩))) (ew_orF (s1 := s') (et_notF (et_val (ev_call G1 (C.hr.mono (by decide)) (ea_cons (ev_var 5) ea_nil) ⟨_, rfl, by rw [u], rfl⟩))) (ew_or1 (ET.is (et_eqI (i := 0) C.hu (ev_bty call_int_str (rb_intS h lu) TT.int (ed_cons (ev_var 5) ed_nil)) ev_int) rfl))))) (bad rfl rfl (by decide)))⟩
  | @d x l l2 k kx h =>
    obtain ⟨n, m, t, b, t2, b2, i1, i2, m0, hm, ef, b1, gc, ht, hb, hs, b12, gc2, ht2, hb2, ne⟩ := h.ex
    have rs : ∀ {s : S}, RM z s (fun x xs H Q => ∃ a b, x = .str a ∧ xs = [.str b] ∧ Q (.bl (Txt.startswith a b)) H) x [.str dash] (.bool (Txt.startswith x dash)) := fun {s} vs H at_ r Q q => by
      cases r with
      | cons r1 r =>
        cases r
        cases r1
        exact ⟨_, _, rfl, rfl, q _ H (.refl H) at_ (.bl _)⟩
    refine ⟨[.val (.str x), .val (.tuple [.int t, .int b]), .val (.tuple [.int t2, .int b2]), .val (.str (ptO x)), .un, .val (.str (under x))], parts l l2 k fun q => sr_pre (.same (.same (.same (.same (.un (.same .nil)))))) ?_⟩
    refine sr_ifF (s1 := s') (et_w (ew_orF (s1 := s') (et_notF (et_val (ev_call G1 (C.hr.mono (by decide)) (ea_cons (ev_var 3) ea_nil) ⟨_, rfl, by rw [h.o], rfl⟩))) (ew_orF (s1 := s') (et_notF (et_val (ev_call G1 (C.hr.mono (by decide)) (ea_cons (ev_var 5) ea_nil) ⟨_, rfl, by rw [h.u], rfl⟩))) (ew_or1 (ET.is (et_eqI C.hu (ev_bty call_int_str (rb_intS i2 h.lu) TT.int (ed_cons (ev_var 5) ed_nil)) ev_int) (decide_eq_false m0)))))) ?_
    refine sr_asg (d := .tuple [.int t, .int b]) (s1 := s') 1 C.nd (EV.is (ev_call G2 (C.hr.mono (by decide)) (ea_cons (ev_bty call_int_str (rb_intS i1 h.lo) TT.int (ed_cons (ev_var 3) ed_nil)) (ea_cons (ev_bty call_int_str (rb_intS i2 h.lu) TT.int (ed_cons (ev_var 5) ed_nil)) ea_nil)) ⟨_, _, rfl, m0, hm.mono (by decide), rfl, rfl⟩) ef) ?_
    have st : ET (cxT P w K mg base f cdv A outer s0 H0 E) z (match (defBody sNOf)[5]? with | some (Stmt.Assign _ (Expr.IfExp c _ _ _) _) => c | _ => .Constant .none 0 ⟨0, 0, 0, 0⟩) [.val (.str x), .val (.tuple [.int t, .int b]), .un, .val (.str (ptO x)), .un, .val (.str (under x))] s' (Txt.startswith x dash) s' :=
      et_val (ev_m1 (x := x) PySem.F.slot_str_startswith PySem.F.type_str_startswith mt_startswith rs (ev_var 0) ev_str)
    refine sr_asg (d := .tuple [.int t2, .int b2]) (s1 := s') 2 C.nd ?_ ?_
    · cases hst : Txt.startswith x dash with
      | true =>
        rw [hst] at st hs
        exact ev_ifT st (EV.is (ev_call G3 C.hr (ea_cons (ev_var 1) (ea_cons (ev_neg ev_int) ea_nil)) ⟨_, _, t, b, -1, 1, rfl, ⟨.fr b1 gc, .int (by decide) (by decide), ht.mono (by decide), hb.mono (by decide), by unfold Bd; decide, by unfold Bd; decide⟩, rfl, rfl⟩) hs)
      | false =>
        rw [hst] at st hs
        have e1 := hs.1
        have e2 := hs.2
        subst e1 e2
        exact ev_ifF st (ev_var 1)
    · exact sr_ifX (ET.is (et_ne C.hu (pl_str (ntx_small _ _)) (plS kx) (ev_call G4 (C.hr.mono (by decide)) (ea_cons (ev_var 2) ea_nil) ⟨_, _, _, rfl, .fr b12 gc2, ht2.mono (by decide), hb2.mono (by decide), rfl, rfl⟩) (ev_var 0)) (by rw [ne]; rfl)) (bad rfl rfl (by decide))
end
end K2


set_option Elab.async false
set_option linter.all false
set_option maxRecDepth 100000
set_option exponentiation.threshold 9000
namespace K2
open PySem PySem.Spec PyProof.Rows L2 DL LamX
variable [TabT]
/-! ### great powers, a long text -/
theorem bd_powE {x : Int} (h : Bd 2 x) : ∀ a : Nat, Bd (2 * a + 1) (x ^ a)
  | 0 => by
    unfold Bd
    rw [Int.pow_zero]
    decide
  | a + 1 => by
    have := (bd_powE h a).mul h
    rw [show 2 * (a + 1) + 1 = 2 * a + 1 + 2 by omega, Int.pow_succ]
    exact this
theorem bd_powK {x : Int} (h : Bd 2 x) {a : Nat} (ha : a ≤ 1000) : Bd 2001 (x ^ a) := (bd_powE h a).mono (by omega)
section
variable {P : Program} {w : World} {K : PySem.W.Frag} {mg : Str → Option Value} {base : Heap} {f : Addr} {fd : FuncData}
def rRaisedK : Rel := fun as s d s' => ∃ (x : Int) (m : Nat), as = [.val (.int x), .val (.int (m : Int))] ∧ m ≤ 1000 ∧ Bd 2 x ∧ d = .int (x ^ m) ∧ s' = s
theorem ok_raisedK (F : Fun K "raised" "raised" sRaised f fd) : FnOk P w K mg base CX0 1 f fd ["whole", "many"] (spD rRaisedK) := by
  refine okD F scRaised (by rintro _ _ _ _ ⟨x, m, rfl, _⟩; rfl) fun cdv A outer s0 H0 E C z as s₁ d s h => ?_
  obtain ⟨x, m, rfl, hm, hx, rfl, rfl⟩ := h
  refine sr_asg 2 C.nd ev_int (sr_asg 3 C.nd (ev_var 0) (sr_asg 4 C.nd (ev_var 1) ?_))
  refine sr_whileW C.hp (fun l es s' => s' = s ∧ ∃ (a b : Nat) (q : Sl), es = [.val (.int x), .val (.int (m : Int)), .val (.int (x ^ a)), q, .val (.int (l : Int))] ∧ a + b * l = m ∧ (0 < l → q = .val (.int (x ^ b)) ∧ 0 < b)) (m0 := m)
    ⟨rfl, 0, 1, .val (.int x), by rw [Int.pow_zero]; rfl, by omega, fun _ => ⟨by rw [Int.pow_one], by decide⟩⟩ ?_
  rintro l es s' ⟨rfl, a, b, q, rfl, hs, hq⟩
  by_cases hl : 0 < l
  · right
    obtain ⟨rfl, hb⟩ := hq hl
    have bl : b ≤ b * l := Nat.le_mul_of_pos_right _ hl
    have h2 : ((l : Int)).fmod 2 = ((l % 2 : Nat) : Int) := by
      rw [Int.fmod_eq_emod_of_nonneg _ (by decide)]
      rfl
    have h3 : ((l : Int)).fdiv 2 = ((l / 2 : Nat) : Int) := by
      rw [Int.fdiv_eq_ediv_of_nonneg _ (by decide)]
      rfl
    refine ⟨ET.is (et_gt (ev_var 4) ev_int) (decide_eq_true (by omega)), ?_⟩
    -- the product's step
    obtain ⟨a', ha', step⟩ : ∃ a' : Nat, a' + (b + b) * (l / 2) = m ∧ ∀ o, SR (cxOf CX0 P w K mg base ["whole", "many", "product", "square", "left"] "raised" (defScope sRaised) f cdv A outer s0 H0 E).nox z ((loopB (defBody sRaised)[3]?).drop 1) [.val (.int x), .val (.int (m : Int)), .val (.int (x ^ a')), .val (.int (x ^ b)), .val (.int (l : Int))] s' o →
        SR (cxOf CX0 P w K mg base ["whole", "many", "product", "square", "left"] "raised" (defScope sRaised) f cdv A outer s0 H0 E).nox z (loopB (defBody sRaised)[3]?) [.val (.int x), .val (.int (m : Int)), .val (.int (x ^ a)), .val (.int (x ^ b)), .val (.int (l : Int))] s' o := by
      by_cases ho : l % 2 = 1
      · refine ⟨a + b, ?_, fun o k => ?_⟩
        · have e1 : l = 2 * (l / 2) + 1 := by omega
          have e2 : b * l = b * (2 * (l / 2)) + b := by
            conv => lhs; rw [e1]
            rw [Nat.mul_add, Nat.mul_one]
          have e3 : b * (2 * (l / 2)) = (b + b) * (l / 2) := by rw [← Nat.mul_assoc, Nat.mul_two]
          omega
        · have e4 : b + a ≤ 1000 := by omega
          refine sr_ifTn (ET.is (et_eqI C.hu (ev_mod (by decide) (ev_var 4) ev_int) ev_int) (decide_eq_true (by rw [h2, ho]; rfl))) (sr_asg 2 C.nd (ev_mul ((bd_powK hx (a := a) (by omega)).cmul (bd_powK hx (a := b) (by omega))) (ev_var 2) (ev_var 3)) sr_nil) ?_
          rw [← Int.pow_add]
          exact k
      · refine ⟨a, ?_, fun o k => ?_⟩
        · have e1 : l = 2 * (l / 2) := by omega
          have e2 : b * l = b * (2 * (l / 2)) := congrArg (b * ·) e1
          have e3 : b * (2 * (l / 2)) = (b + b) * (l / 2) := by rw [← Nat.mul_assoc, Nat.mul_two]
          omega
        · exact sr_ifF (ET.is (et_eqI C.hu (ev_mod (by decide) (ev_var 4) ev_int) ev_int) (decide_eq_false (by rw [h2]; omega))) k
    by_cases hh : 0 < l / 2
    · refine ⟨[.val (.int x), .val (.int (m : Int)), .val (.int (x ^ a')), .val (.int (x ^ (b + b))), .val (.int ((l / 2 : Nat) : Int))], s', l / 2, by omega, ⟨rfl, a', b + b, _, rfl, ha', fun _ => ⟨rfl, by omega⟩⟩, step _ ?_⟩
      have e5 : (b + b) ≤ (b + b) * (l / 2) := Nat.le_mul_of_pos_right _ hh
      refine sr_asg 4 C.nd (ev_div ⟨by decide, by decide⟩ (ev_var 4) ev_int) ?_
      rw [h3]
      refine sr_ifTn (ET.is (et_gt (ev_var 4) ev_int) (decide_eq_true (by omega))) (sr_asg 3 C.nd (ev_mul ((bd_powK hx (a := b) (by omega)).cmul (bd_powK hx (a := b) (by omega))) (ev_var 3) (ev_var 3)) sr_nil) ?_
      rw [← Int.pow_add]
      exact sr_nil
    · refine ⟨[.val (.int x), .val (.int (m : Int)), .val (.int (x ^ a')), .val (.int (x ^ b)), .val (.int ((l / 2 : Nat) : Int))], s', l / 2, by omega, ⟨rfl, a', b + b, _, rfl, ha', fun h => absurd h hh⟩, step _ ?_⟩
      refine sr_asg 4 C.nd (ev_div ⟨by decide, by decide⟩ (ev_var 4) ev_int) ?_
      rw [h3]
      refine sr_ifF (ET.is (et_gt (ev_var 4) ev_int) (decide_eq_false (by omega))) ?_
      exact sr_nil
  · left
    have e0 : l = 0 := by omega
    subst e0
    have ea : a = m := by omega
    subst ea
    exact ⟨ET.is (et_gt (ev_var 4) ev_int) (decide_eq_false (by decide)), sr_ret (ev_var 2)⟩
def rPowerK : Rel := fun as s d s' => ∃ v t b m, as = [.val v, .val (.int m)] ∧ Nm v t b ∧ Bd 2 t ∧ Bd 2 b ∧ -1000 ≤ m ∧ m ≤ 1000 ∧ (m < 0 → t ≠ 0) ∧ d = pwD t b m ∧ s' = s
theorem ok_powerK (F : Fun K "power_of" "power_of" sPower f fd) (T : Top2 mg) (G1 : Dn P w K mg base 4 "need_number" rNeed) (G2 : Dn P w K mg base 2 "is_between" rBetween) (G3 : Dn P w K mg base 1 "as_pair" rPair) (G4 : Dn P w K mg base 1 "raised" rRaisedK) : FnOk P w K mg base CX0 5 f fd ["number", "many"] (spD rPowerK) := by
  refine okD F scPower (by rintro _ _ _ _ ⟨v, t, b, m, rfl, _⟩; rfl) fun cdv A outer s0 H0 E C z as s₁ d s h => ?_
  obtain ⟨v, t, b, m, rfl, hv, ht, hb, m0, m1, mt, rfl, rfl⟩ := h
  obtain ⟨tr, hr⟩ := T.raised
  refine sr_expr (ev_call G1 C.hr (ea_cons (ev_var 0) ea_nil) ⟨_, rfl, hv.num, rfl, rfl⟩) ?_
  refine sr_ifF (et_notF (et_val (ev_call G2 (C.hr.mono (by decide)) (ea_cons (ev_var 1) (ea_cons (ev_neg (ev_glob rfl hr ⟨tr, rfl⟩)) (ea_cons (ev_glob rfl hr ⟨tr, rfl⟩) ea_nil))) ⟨_, _, _, rfl, ?_, rfl⟩))) ?_
  · simp only [btw]
    rw [decide_eq_true (by omega : (-1000 : Int) ≤ m), decide_eq_true (by omega : m ≤ 1000)]
    rfl
  refine sr_unp2 2 3 C.calm C.nd (ev_call G3 (C.hr.mono (by decide)) (ea_cons (ev_var 0) ea_nil) ⟨_, _, _, rfl, hv, rfl, rfl⟩) ?_
  unfold pwD
  by_cases h0 : 0 ≤ m
  · rw [if_pos h0]
    refine sr_ifT (ET.is (et_ge (ev_var 1) ev_int) (decide_eq_true h0)) (sr_ret (ev_tup (ed_cons (ev_call G4 (C.hr.mono (by decide)) (ea_cons (ev_var 2) (ea_cons (ev_var 1) ea_nil)) ⟨t, m.toNat, by rw [Int.toNat_of_nonneg h0], by omega, ht, rfl, rfl⟩) (ed_cons (ev_call G4 (C.hr.mono (by decide)) (ea_cons (ev_var 3) (ea_cons (ev_var 1) ea_nil)) ⟨b, m.toNat, by rw [Int.toNat_of_nonneg h0], by omega, hb, rfl, rfl⟩) ed_nil))))
  · rw [if_neg h0]
    have hn : 0 ≤ -m := by omega
    have t0 := mt (by omega)
    refine sr_ifF (ET.is (et_ge (ev_var 1) ev_int) (decide_eq_false h0)) ?_
    refine sr_ifF (ET.is (et_eqI C.hu (ev_var 2) ev_int) (decide_eq_false t0)) ?_
    by_cases h1 : t < 0
    · rw [if_pos h1]
      refine sr_ifT (ET.is (et_lt (ev_var 2) ev_int) (decide_eq_true h1)) (sr_ret (ev_tup (ed_cons (ev_call G4 (C.hr.mono (by decide)) (ea_cons (ev_neg (ev_var 3)) (ea_cons (ev_neg (ev_var 1)) ea_nil)) ⟨-b, (-m).toNat, by rw [Int.toNat_of_nonneg hn], by omega, hb.neg, rfl, rfl⟩) (ed_cons (ev_call G4 (C.hr.mono (by decide)) (ea_cons (ev_neg (ev_var 2)) (ea_cons (ev_neg (ev_var 1)) ea_nil)) ⟨-t, (-m).toNat, by rw [Int.toNat_of_nonneg hn], by omega, ht.neg, rfl, rfl⟩) ed_nil))))
    · rw [if_neg h1]
      refine sr_ifF (ET.is (et_lt (ev_var 2) ev_int) (decide_eq_false h1)) (sr_ret (ev_tup (ed_cons (ev_call G4 (C.hr.mono (by decide)) (ea_cons (ev_var 3) (ea_cons (ev_neg (ev_var 1)) ea_nil)) ⟨b, (-m).toNat, by rw [Int.toNat_of_nonneg hn], by omega, hb, rfl, rfl⟩) (ed_cons (ev_call G4 (C.hr.mono (by decide)) (ea_cons (ev_var 2) (ea_cons (ev_neg (ev_var 1)) ea_nil)) ⟨t, (-m).toNat, by rw [Int.toNat_of_nonneg hn], by omega, ht, rfl, rfl⟩) ed_nil))))
def rNOfK : Rel := fun as s d s' => ∃ t b, as = [.val (.str (ntx t b))] ∧ 1 ≤ b ∧ Nat.gcd t.natAbs b.natAbs = 1 ∧ Bd 1410 t ∧ Bd 1410 b ∧ (ntx t b).length ≤ 400 ∧ d = .tuple [.int t, .int b] ∧ s' = s
theorem ok_nofK (F : Fun K "number_of_text" "number_of_text" sNOf f fd) (TT : Top mg) (T : Top2 mg) (G1 : Dn P w K mg base 1 "_digits_only" rDigs) (G2 : Dn P w K mg base 2 "fraction" rQuot) (G3 : Dn P w K mg base 6 "multiplied" rMult) (G4 : Dn P w K mg base 5 "number_text" rNText) : FnOk P w K mg base CX0 7 f fd ["text"] (spD rNOfK) := by
  refine okD F scNOf (by rintro _ _ _ _ ⟨t, b, rfl, _⟩; rfl) fun cdv A outer s0 H0 E C z as s₁ d s h => ?_
  obtain ⟨t, b, rfl, b1, hc, ht, hb, hl, rfl, rfl⟩ := h
  obtain ⟨tx, hx⟩ := T.text
  have hL : (100000 : Nat) ≤ sizeLine := by decide
  have hz : (ntx t b).length ≤ sizeLine := by omega
  -- not a text, too long
  refine sr_ifF (et_w (ew_orF (et_notF (et_val (ev_isi TT.isi TT.str (ev_var 0) (k_str (.str (ntx t b)))))) (ew_or1 (ET.is (et_gt (ev_bltn call_len (rb_lenS hz) TT.len (ed_cons (ev_var 0) ed_nil)) (ev_glob rfl hx ⟨tx, rfl⟩)) (decide_eq_false (by omega)))))) ?_
  obtain ⟨p1, p2⟩ := parts_of (t := t) b1
  have e1 : Txt.removeprefix (ntx t b) dash = ntx (t.natAbs : Int) b := TL.ext_tl p1
  have hA : Bd 1410 ((t.natAbs : Nat) : Int) := by
    unfold Bd at *
    omega
  have hl2 := ntx_len (k := 470) hA hb (by decide)
  have rp : ∀ {s : S}, RM z s (fun x xs H Q => ∃ a b, x = .str a ∧ xs = [.str b] ∧ a.length ≤ sizeLine ∧ Q (.str (Txt.removeprefix a b)) H) (ntx t b) [.str dash] (.str (ntx (t.natAbs : Int) b)) := fun {s} vs H at_ r Q q => by
    cases r with
    | cons r1 r =>
      cases r
      cases r1
      exact ⟨_, _, rfl, rfl, hz, by rw [e1]; exact q _ H (.refl H) at_ (.str _)⟩
  have rpart : ∀ {s : S}, RM z s (fun x xs H Q => ∃ a b, x = .str a ∧ xs = [.str b] ∧ (b.length == 0) = false ∧ a.length ≤ sizeLine ∧ ∀ p, H p = none → Q (.ref p) (upd H p (.tup [.str (Txt.partition a b).1, .str (Txt.partition a b).2.1, .str (Txt.partition a b).2.2])))
      (ntx (t.natAbs : Int) b) [.str slash] (.tuple [.str (itx (t.natAbs : Int)), .str (if b = 1 then Str.empty else slash), .str (if b = 1 then Str.empty else itx b)]) := fun {s} vs H at_ r Q q => by
    cases r with
    | cons r1 r =>
      cases r
      cases r1
      refine ⟨_, _, rfl, rfl, by decide, by omega, fun p hp => q _ _ (.new hp) (at_.new hp) (.tup (at_.fresh hp) upd_same ?_)⟩
      rw [part_of b1]
      by_cases h0 : b = 1
      · rw [if_pos h0, if_pos h0, if_pos h0]
        exact .cons (.str _) (.cons (.str _) (.cons (.str _) .nil))
      · rw [if_neg h0, if_neg h0, if_neg h0]
        exact .cons (.str _) (.cons (.str _) (.cons (.str _) .nil))
  refine sr_unp3 3 4 5 C.calm C.nd (ev_m1 (x := ntx (t.natAbs : Int) b) PySem.F.slot_str_partition PySem.F.type_str_partition mt_partition rpart (ev_m1 (x := ntx t b) PySem.F.slot_str_removeprefix PySem.F.type_str_removeprefix mt_removeprefix rp (ev_var 0) ev_str) ev_str) ?_
  obtain ⟨nb, rfl⟩ : ∃ nb : Nat, b = (nb : Int) := ⟨b.toNat, by omega⟩
  -- the lower part
  have tail : ∀ q : Sl, SR (cxOf CX0 P w K mg base ["text", "size", "number", "over", "slash", "under"] "number_of_text" (defScope sNOf) f cdv A outer s0 H0 E).nox z ((defBody sNOf).drop 3)
      [.val (.str (ntx t (nb : Int))), .un, .un, .val (.str (itx (t.natAbs : Int))), q, .val (.str (itx (nb : Int)))] s (.rt (.tuple [.int t, .int (nb : Int)]) s) := fun q => by
    have i1 := int_nat (n := t.natAbs) (k := 470) ht (by decide) (by decide)
    have i2 := int_nat (n := nb) (k := 470) (by unfold Bd at hb; simpa using hb) (by decide) (by decide)
    have l1 := itx_len (k := 470) hA (by decide)
    have l2 := itx_len (k := 470) hb (by decide)
    refine sr_ifF (et_w (ew_orF (et_notF (et_val (ev_call G1 (C.hr.mono (by decide)) (ea_cons (ev_var 3) ea_nil) ⟨_, rfl, dig_nat _, rfl, rfl⟩))) (ew_orF (et_notF (et_val (ev_call G1 (C.hr.mono (by decide)) (ea_cons (ev_var 5) ea_nil) ⟨_, rfl, dig_nat _, rfl, rfl⟩)))
      (ew_or1 (ET.is (et_eqI C.hu (ev_bty call_int_str (rb_intS i2 (by omega)) TT.int (ed_cons (ev_var 5) ed_nil)) ev_int) (decide_eq_false (by omega))))))) ?_
    have ga : Nat.gcd ((t.natAbs : Nat) : Int).natAbs ((nb : Nat) : Int).natAbs = 1 := hc
    refine sr_asg 1 C.nd (EV.is (ev_call G2 (C.hr.mono (by decide)) (ea_cons (ev_bty call_int_str (rb_intS i1 (by omega)) TT.int (ed_cons (ev_var 3) ed_nil)) (ea_cons (ev_bty call_int_str (rb_intS i2 (by omega)) TT.int (ed_cons (ev_var 5) ed_nil)) ea_nil)) ⟨_, _, rfl, by omega, hb.mono (by decide), rfl, rfl⟩) (frD_cop b1 ga)) ?_
    have rs : ∀ {s : S}, RM z s (fun x xs H Q => ∃ a b, x = .str a ∧ xs = [.str b] ∧ Q (.bl (Txt.startswith a b)) H) (ntx t (nb : Int)) [.str dash] (.bool (decide (t < 0))) := fun {s} vs H at_ r Q q => by
      cases r with
      | cons r1 r =>
        cases r
        cases r1
        exact ⟨_, _, rfl, rfl, by rw [p2]; exact q _ H (.refl H) at_ (.bl _)⟩
    have hs : ET (cxOf CX0 P w K mg base ["text", "size", "number", "over", "slash", "under"] "number_of_text" (defScope sNOf) f cdv A outer s0 H0 E).nox z (match (defBody sNOf)[5]? with | some (Stmt.Assign _ (Expr.IfExp c _ _ _) _) => c | _ => .Constant .none 0 ⟨0, 0, 0, 0⟩) [.val (.str (ntx t (nb : Int))), .val (.tuple [.int (t.natAbs : Int), .int (nb : Int)]), .un, .val (.str (itx (t.natAbs : Int))), q, .val (.str (itx (nb : Int)))] s (decide (t < 0)) s :=
      et_val (ev_m1 (x := ntx t (nb : Int)) PySem.F.slot_str_startswith PySem.F.type_str_startswith mt_startswith rs (ev_var 0) ev_str)
    refine sr_asg (d := .tuple [.int t, .int (nb : Int)]) (s1 := s) 2 C.nd ?_ ?_
    · by_cases h0 : t < 0
      · rw [decide_eq_true h0] at hs
        refine ev_ifT hs (EV.is (ev_call G3 (C.hr.mono (by decide)) (ea_cons (ev_var 1) (ea_cons (ev_neg ev_int) ea_nil)) ⟨_, _, (t.natAbs : Int), (nb : Int), -1, 1, rfl, ⟨.fr b1 ga, .int (by decide) (by decide), hA.mono (by decide), hb.mono (by decide), by unfold Bd; decide, by unfold Bd; decide⟩, rfl, rfl⟩) ?_)
        have e1 : (t.natAbs : Int) * -1 = t := by omega
        rw [e1, Int.mul_one]
        exact frD_cop b1 hc
      · rw [decide_eq_false h0] at hs
        have e1 : (t.natAbs : Int) = t := by omega
        refine ev_ifF hs ?_
        exact EV.is (ev_var 1) (by rw [e1])
    · refine sr_ifF (ET.is (et_ne C.hu (pl_str (ntx_small _ _)) (pl_str (ntx_small _ _)) (ev_call G4 (C.hr.mono (by decide)) (ea_cons (ev_var 2) ea_nil) ⟨_, _, _, rfl, .fr b1 hc, ht.mono (by decide), hb.mono (by decide), rfl, rfl⟩) (ev_var 0)) ?_) (sr_ret (ev_var 2))
      show (!(ntx t (nb : Int) == ntx t (nb : Int))) = false
      simp
  by_cases h0 : (nb : Int) = 1
  · have e : PyData.str (if (nb : Int) = 1 then Str.empty else slash) = .str Str.empty := by rw [if_pos h0]
    rw [e]
    refine sr_ifTn (ET.is (et_eq C.hu (pl_str (x := Str.empty) (by decide)) (pl_str (x := Str.empty) (by decide)) (ev_var 4) ev_str) rfl) (sr_asg 5 C.nd ev_str sr_nil) ?_
    have t1 := tail (.val (.str Str.empty))
    have e2 : itx (nb : Int) = ("1" : Str) := by rw [h0]; rfl
    rw [e2] at t1
    exact t1
  · rw [if_neg h0, if_neg h0]
    exact sr_ifF (ET.is (et_eq C.hu (pl_str (x := slash) (by decide)) (pl_str (x := Str.empty) (by decide)) (ev_var 4) ev_str) (by decide)) (tail _)
end
end K2


set_option Elab.async false
set_option linter.all false
set_option maxRecDepth 100000
set_option exponentiation.threshold 9000
namespace K2
open PySem PySem.Spec PyProof.Rows L2 DL
variable [TabT]
/-! ### the dice -/
def oneV (s : S) : Int := (s.2.1 + 99990067 * (s.2.2 + 1)).fmod 2305843009213693381
def twoV (s : S) : Int := (oneV s * oneV s + 89 * (s.2.2 + 1)).fmod 2305843009213693343 * 8675309 + oneV s
def rollV (s : S) (n : Int) : Int := if 0 < s.1 then s.1.fmod n else ((twoV s).fdiv 65551).fmod n
def rollS (s : S) (n : Int) : S := if 0 < s.1 then (s.1.fdiv n, s.2.1, s.2.2) else (s.1, s.2.1, s.2.2 + 1)
theorem fmod_bd {i n : Int} (h : 0 < n) : 0 ≤ i.fmod n ∧ i.fmod n < n := by
  rw [Int.fmod_eq_emod_of_nonneg _ (by omega)]
  exact ⟨Int.emod_nonneg _ (by omega), Int.emod_lt_of_pos _ h⟩
theorem roll_bd (s : S) {n : Int} (h : 0 < n) : 0 ≤ rollV s n ∧ rollV s n < n := by
  unfold rollV
  split <;> exact fmod_bd h
theorem gcd_turn (x y : Nat) : Nat.gcd y (x % y) = Nat.gcd x y := by
  rw [Nat.gcd_comm y (x % y), ← Nat.gcd_rec, Nat.gcd_comm]
section
variable {P : Program} {w : World} {K : PySem.W.Frag} {mg : Str → Option Value} {base : Heap} {f : Addr} {fd : FuncData}
abbrev sRoll : Stmt := top 37
theorem scRoll : FnScope ["_law_dice_here", "_law_total", "_law_one", "_law_two", "_law_found"] ["_law_dice_here", "_law_total"] (defScope sRoll) := ⟨rfl, rfl, rfl, by decide +kernel, rfl, by decide +kernel, by decide +kernel⟩
def rRoll : Rel := fun as s d s' => ∃ n, as = [.dice, .val (.int n)] ∧ 0 < n ∧ Bd 9000 n ∧ d = .int (rollV s n) ∧ s' = rollS s n
theorem ok_roll (F : Fun K "_law_roll" "_law_roll" sRoll f fd) (T : Top mg) : FnOk P w K mg base CX0 1 f fd ["_law_dice_here", "_law_total"] (spD rRoll) := by
  refine okD F scRoll (by rintro _ _ _ _ ⟨n, rfl, _⟩; rfl) fun cdv A outer s0 H0 E C z as s d s' h => ?_
  obtain ⟨n, rfl, n0, hn, rfl, rfl⟩ := h
  obtain ⟨a, b, c⟩ := s
  by_cases h0 : 0 < a
  · have e1 : rollV (a, b, c) n = a.fmod n := if_pos h0
    have e2 : rollS (a, b, c) n = (a.fdiv n, b, c) := if_pos h0
    rw [e1, e2]
    refine sr_ifT (ET.is (et_gt (ev_dice 0 0) ev_int) (decide_eq_true h0)) ?_
    refine sr_asg 4 C.nd (ev_mod (show n ≠ 0 by omega) (ev_bty call_int1 rb_int T.int (ed_cons (ev_dice 0 0) ed_nil)) (ev_var 1)) ?_
    refine sr_put 0 0 (ev_div (hn.cdiv (by omega)) (ev_dice 0 0) (ev_var 1)) ?_
    exact sr_ret (ev_var 4)
  · have e1 : rollV (a, b, c) n = ((twoV (a, b, c)).fdiv 65551).fmod n := if_neg h0
    have e2 : rollS (a, b, c) n = (a, b, c + 1) := if_neg h0
    rw [e1, e2]
    have m1 : -(2 ^ 64) < oneV (a, b, c) ∧ oneV (a, b, c) < 2 ^ 64 := by
      have := fmod_bd (i := b + 99990067 * (c + 1)) (n := 2305843009213693381) (by decide)
      unfold oneV
      dsimp only
      omega
    have m2 : -(2 ^ 64) < (oneV (a, b, c) * oneV (a, b, c) + 89 * (c + 1)).fmod 2305843009213693343 ∧ (oneV (a, b, c) * oneV (a, b, c) + 89 * (c + 1)).fmod 2305843009213693343 < 2 ^ 64 := by
      have := fmod_bd (i := oneV (a, b, c) * oneV (a, b, c) + 89 * (c + 1)) (n := 2305843009213693343) (by decide)
      omega
    refine sr_ifF (ET.is (et_gt (ev_dice 0 0) ev_int) (decide_eq_false h0)) ?_
    refine sr_put 0 2 (ev_add (ev_dice 0 2) ev_int) ?_
    refine sr_asg (d := .int (oneV (a, b, c))) 2 C.nd (ev_mod (by decide) (ev_bty call_int1 rb_int T.int (ed_cons (ev_add (ev_dice 0 1) (ev_mulL (by decide) ev_int (ev_dice 0 2))) ed_nil)) ev_int) ?_
    refine sr_asg (d := .int (twoV (a, b, c))) 3 C.nd (ev_add (ev_mulL m2 (ev_mod (by decide) (ev_bty call_int1 rb_int T.int (ed_cons (ev_add (ev_mulL m1 (ev_var 2) (ev_var 2)) (ev_mulL (by decide) ev_int (ev_dice 0 2))) ed_nil)) ev_int) ev_int) (ev_var 2)) ?_
    exact sr_ret (ev_mod (show n ≠ 0 by omega) (ev_bty call_int1 rb_int T.int (ed_cons (ev_div ⟨by decide, by decide⟩ (ev_var 3) ev_int) ed_nil)) (ev_var 1))




end
end K2


set_option Elab.async false
set_option linter.all false
set_option maxRecDepth 100000
set_option exponentiation.threshold 9000
namespace K2
open PySem PySem.Spec PyProof.Rows L2 DL
variable [TabT]
def pickD (s : S) (ds : List PyData) : PyData := ds.getD (rollV s (ds.length : Int)).toNat .none
theorem pick_get (s : S) {ds : List PyData} (h : ds ≠ []) : ∃ i, i < ds.length ∧ rollV s (ds.length : Int) = (i : Int) ∧ ds[i]? = some (pickD s ds) := by
  have hl : 0 < ds.length := List.length_pos_iff.mpr h
  have hb := roll_bd s (n := (ds.length : Int)) (by omega)
  refine ⟨(rollV s (ds.length : Int)).toNat, by omega, by omega, ?_⟩
  unfold pickD
  rw [List.getD_eq_getElem?_getD, List.getElem?_eq_getElem (by omega)]
  rfl
section
variable {P : Program} {w : World} {K : PySem.W.Frag} {mg : Str → Option Value} {base : Heap} {f : Addr} {fd : FuncData}
abbrev sPick : Stmt := top 38
theorem scPick : FnScope ["_law_dice_here", "_law_items"] ["_law_dice_here", "_law_items"] (defScope sPick) := ⟨rfl, rfl, rfl, by decide +kernel, rfl, by decide +kernel, by decide +kernel⟩
def rPick : Rel := fun as s d s' => ∃ ds, (as = [.dice, .val (.list ds)] ∨ as = [.dice, .own ds]) ∧ ds ≠ [] ∧ ds.length ≤ 1000 ∧ d = pickD s ds ∧ s' = rollS s (ds.length : Int)
theorem bd_small {n : Nat} (h : n ≤ 10 ^ 30) : Bd 9000 (n : Int) := by
  unfold Bd
  rw [Int.natAbs_natCast]
  exact Nat.lt_of_le_of_lt h (by decide)
theorem ok_pick (F : Fun K "_law_pick" "_law_pick" sPick f fd) (T : Top mg) (G : Dn P w K mg base 1 "_law_roll" rRoll) : FnOk P w K mg base CX0 2 f fd ["_law_dice_here", "_law_items"] (spD rPick) := by
  refine okD F scPick (by rintro _ _ _ _ ⟨ds, rfl | rfl, _⟩ <;> rfl) fun cdv A0 outer s0 H0 E C z as s₁ d s h => ?_
  obtain ⟨ds, has, h0, hl, rfl, rfl⟩ := h
  have hp : 0 < ds.length := List.length_pos_iff.mpr h0
  obtain ⟨i, hi, hr, hg⟩ := pick_get s₁ h0
  have b9 : Bd 9000 (ds.length : Int) := bd_small (by omega)
  rcases has with rfl | rfl
  · exact sr_ret (ev_ixL (i := (i : Int)) (ev_var 1) (EV.is (ev_call G C.hr (ea_dice 0 (ea_cons (ev_bltn call_len rb_len T.len (ed_cons (ev_var 1) ed_nil)) ea_nil)) ⟨_, rfl, by omega, b9, rfl, rfl⟩) (by rw [hr])) (atI_nat hg))
  · exact sr_ret (ev_ixO (ds := ds) 1 (EV.is (ev_call G C.hr (ea_dice 0 (ea_cons (ev_lenO (ds := ds) 1 T.len) ea_nil)) ⟨_, rfl, by omega, b9, rfl, rfl⟩) (by rw [hr])) (atI_nat hg))

end
end K2


set_option Elab.async false
set_option linter.all false
set_option maxRecDepth 100000
set_option exponentiation.threshold 9000
namespace K2
open PySem PySem.Spec PyProof.Rows L2 DL LamX
variable [TabT]
/-! ### _law_met -/
abbrev sMet : Stmt := top 39
abbrev nMet : List Str := ["_law_call", "e"]
theorem scMet : FnScope nMet ["_law_call"] (defScope sMet) := ⟨rfl, rfl, rfl, by decide +kernel, rfl, by decide +kernel, by decide +kernel⟩
/-- the three classes that are caught -/
structure Cls3 (K : PySem.W.Frag) (mg : Str → Option Value) (Co Cn Cp : Addr) : Prop where
  o : mg "InvalidOperation" = some (.ref Co)
  n : mg "InvalidNumber" = some (.ref Cn)
  p : mg "ParseError" = some (.ref Cp)
  oo : PySem.W.exmOne K (.ref Co) (.ref Co) = some true
  no : PySem.W.exmOne K (.ref Cn) (.ref Co) = some false
  nn : PySem.W.exmOne K (.ref Cn) (.ref Cn) = some true
  po : PySem.W.exmOne K (.ref Cp) (.ref Co) = some false
  pn : PySem.W.exmOne K (.ref Cp) (.ref Cn) = some false
  pp : PySem.W.exmOne K (.ref Cp) (.ref Cp) = some true
  xn : XfC K Cn
  fn : PySem.W.findIn K (.ref Cn) "given" = some none
  xp : XfC K Cp
  fp : PySem.W.findIn K (.ref Cp) "spot" = some none
def hds : Stmt → List ExceptHandler
  | .Try _ hs _ _ _ => hs
  | _ => []
def hdB : ExceptHandler → List Stmt
  | .ExceptHandler _ _ b _ => b
abbrev hdsM : List ExceptHandler := hds ((defBody sMet).getD 0 (.Pass ⟨0, 0, 0, 0⟩))
abbrev suM (i : Nat) : List Stmt := match hdsM[i]? with | some h => hdB h | none => []
abbrev cbM (Co Cn Cp : Addr) : List Cb := [(.ref Co, none, suM 0), (.ref Cn, some 1, suM 1), (.ref Cp, some 1, suM 2)]
def refd (d : PyData) : PyData := .tuple [.str "refused", d]
section
variable {X : Cx} {z : Z} {s' : S} {g : Addr} {cdg : Value} {Co Cn Cp : Addr} {q : Str}
theorem met_hs (T : Cls3 X.K X.mg Co Cn Cp) (s : Shared) (H : Hp) : Hs (metCx X nMet "_law_met" (defScope sMet) g cdg s H) hdsM ((cbM Co Cn Cp).map (clB (metCx X nMet "_law_met" (defScope sMet) g cdg s H))) :=
  .bare ⟨rfl, by decide, .inl T.o⟩ (fun a oe cls dx pn hz hd => tsL_ok a oe cls dx pn hz hd) (.named ⟨rfl, by decide, .inl T.n⟩ rfl rfl (fun a oe cls dx pn hz hd => tsL_ok a oe cls dx pn hz hd)
    (.named ⟨rfl, by decide, .inl T.p⟩ rfl rfl (fun a oe cls dx pn hz hd => tsL_ok a oe cls dx pn hz hd) .nil))
theorem met_oper (T : Cls3 X.K X.mg Co Cn Cp) : GivesTo X nMet "_law_met" (defScope sMet) g cdg (defBody sMet) "_law_call" q (TTd z (.ex (.pl Co)) s' (refd (.str "operation"))) :=
  met_gives (cb := cbM Co Cn Cp) (r := .ex (.pl Co)) scMet.nd (fun _ => rfl) (by decide) (fun s H => met_hs T s H) (fun s H => .inr ⟨T.oo, fun a oe cls dx pn hz hd => sr_ret (ev_tup (ed_cons ev_str (ed_cons ev_str ed_nil)))⟩)
theorem met_fine (T : Cls3 X.K X.mg Co Cn Cp) {d : PyData} : GivesTo X nMet "_law_met" (defScope sMet) g cdg (defBody sMet) "_law_call" q (TTd z (.ok d) s' (.str "fine")) :=
  met_gives (cb := cbM Co Cn Cp) (r := .ok d) scMet.nd (fun _ => rfl) (by decide) (fun s H => met_hs T s H) (fun s H => sr_ret ev_str)
def numD (d : PyData) : PyData := refd (.str ("number " ++ d.shown))
theorem met_num (T : Cls3 X.K X.mg Co Cn Cp) {d : PyData} (hg : X.A.guards = some []) (hu : X.A.units + 100 < cLine) (hm : X.mg "repr" = none) (w : ShwE d) (hl : ("number " : Str).length + d.shown.length ≤ sizeLine) : GivesTo X nMet "_law_met" (defScope sMet) g cdg (defBody sMet) "_law_call" q (TTd z (.ex (.wf Cn "given" d)) s' (numD d)) :=
  met_gives (cb := cbM Co Cn Cp) (r := .ex (.wf Cn "given" d)) scMet.nd (fun _ => rfl) (by decide) (fun s H => met_hs T s H) (fun s H => .inl ⟨T.no, .inr ⟨T.nn, fun a oe cls dx pn hz hd =>
    sr_ret (ev_tup (ed_cons ev_str (ed_cons (ev_addS hl ev_str (ev_reprD hg (by show X.A.units + 3 + 66 < cLine; omega) hm w (ev_xf 1 T.xn T.fn hz hd))) ed_nil)))⟩⟩)
def spotD (d : PyData) : PyData := refd (.str ("spot " ++ d.shown))
theorem met_spot (T : Cls3 X.K X.mg Co Cn Cp) {d : PyData} (hg : X.A.guards = some []) (hu : X.A.units + 100 < cLine) (hm : X.mg "repr" = none) (w : ShwE d) (hl : ("spot " : Str).length + d.shown.length ≤ sizeLine) : GivesTo X nMet "_law_met" (defScope sMet) g cdg (defBody sMet) "_law_call" q (TTd z (.ex (.wf Cp "spot" d)) s' (spotD d)) :=
  met_gives (cb := cbM Co Cn Cp) (r := .ex (.wf Cp "spot" d)) scMet.nd (fun _ => rfl) (by decide) (fun s H => met_hs T s H) (fun s H => .inl ⟨T.po, .inl ⟨T.pn, .inr ⟨T.pp, fun a oe cls dx pn hz hd =>
    sr_ret (ev_tup (ed_cons ev_str (ed_cons (ev_addS hl ev_str (ev_reprD hg (by show X.A.units + 3 + 66 < cLine; omega) hm w (ev_xf 1 T.xp T.fp hz hd))) ed_nil)))⟩⟩⟩)
end
end K2


set_option Elab.async false
set_option linter.all false
set_option maxRecDepth 100000
set_option exponentiation.threshold 9000
namespace K2
open PySem PySem.Spec PyProof.Rows L2 DL LamX
variable [TabT]
/-! ### _law_right: the names, what is drawn -/
abbrev sRgt : Stmt := top 40
abbrev nRgt : List Str := ["_law_dice_here", "_law_bad", "_law_none", "_law_worse", "_law_part", "_law_zero", "_law_far", "_law_high", "_law_told", "_law_due", "_law_call", "_law_value"]
theorem scRgt : FnScope nRgt ["_law_dice_here"] (defScope sRgt) := ⟨rfl, rfl, rfl, by decide +kernel, rfl, by decide +kernel, by decide +kernel⟩
theorem cpow10 {j : Int} (h0 : 0 ≤ j) (h : j ≤ 100) : CPow 10 j := ⟨h0, by omega, by decide⟩
theorem pick_all (s : S) {ds : List PyData} {p : PyData → Prop} (h : ds ≠ []) (a : ∀ d ∈ ds, p d) : p (pickD s ds) := by
  obtain ⟨i, hi, _, hg⟩ := pick_get s h
  exact a _ (List.mem_of_getElem? hg)
abbrev lB : List PyData := [.none, .bool true, .str "1", .tuple [.int 2, .int 4], .tuple [.int 1, .int 0], .tuple [.int 1, .int (-2)], .tuple [.int 1], .tuple [.int 1, .int 2, .int 3], .list [.int 1, .int 2], .tuple [.bool true, .int 2], .tuple [.tuple [.int 1, .int 2], .int 3], .dict [], .int ((10 : Int) ^ (60 : Int).toNat)]
abbrev lW : List PyData := [.none, .bool false, .str "0", .tuple [.int 0, .int 2], .list [.int 0], .tuple [.int 3, .int 0], .tuple [], .int (0 - (10 : Int) ^ (60 : Int).toNat)]
abbrev lP : List PyData := [.none, .bool true, .str "1", .tuple [.int 1], .tuple [.int 1, .int 2], .list [], .dict []]
abbrev lZ : List PyData := [.int 0, .tuple [.int 0, .int 1]]
abbrev lF : List PyData := [.none, .bool true, .str "1", .int 1001, .int (-1001), .tuple [.int 1], .int ((10 : Int) ^ (60 : Int).toNat)]
abbrev lH : List PyData := [.none, .int (-1), .bool true, .str "1", .int 1001, .tuple [.int 1], .int ((10 : Int) ^ (60 : Int).toNat)]
theorem lB_no : ∀ d ∈ lB, num d = false := by decide +kernel
theorem lW_no : ∀ d ∈ lW, num d = false := by decide +kernel
theorem lP_no : ∀ d ∈ lP, isW d = false := by decide +kernel
theorem lF_no : ∀ d ∈ lF, btw (-1000) 1000 d = false := by decide +kernel
theorem lH_no : ∀ d ∈ lH, btw 0 1000 d = false := by decide +kernel
theorem lZ_0 : ∀ d ∈ lZ, Nm d 0 1 := by
  intro d hd
  simp only [lZ, List.mem_cons, List.not_mem_nil, or_false] at hd
  rcases hd with rfl | rfl
  · exact .int (by decide) (by decide)
  · exact .fr (by decide) (by decide)
/-- data that is told by its repr -/
def Tl (d : PyData) : Prop := ShwE d ∧ d.shown.length ≤ 100 ∧ PyData.strOk d.shown = true
def tlB (d : PyData) : Bool := match d with
  | .dict [] => true
  | d => nod d && d.showable && !d.hasDict && decide (d.depth ≤ 64) && decide (d.shown.length ≤ 100) && PyData.strOk d.shown
theorem tl_of {d : PyData} (h : tlB d = true) : Tl d := by
  have a : ∀ d : PyData, (nod d && d.showable && !d.hasDict && decide (d.depth ≤ 64) && decide (d.shown.length ≤ 100) && PyData.strOk d.shown) = true → Tl d := fun d h => by
    simp only [Bool.and_eq_true, decide_eq_true_eq, Bool.not_eq_true'] at h
    exact ⟨.inl ⟨h.1.1.1.1.1, h.1.1.1.1.2, h.1.1.1.2, h.1.1.2, Nat.le_trans h.1.2 (by decide)⟩, h.1.2, h.2⟩
  unfold tlB at h
  split at h
  · exact ⟨.inr rfl, by decide +kernel, by decide +kernel⟩
  · exact a _ h
theorem lB_tl : ∀ d ∈ lB, Tl d := fun d hd => tl_of ((show ∀ d ∈ lB, tlB d = true by decide +kernel) d hd)
theorem lW_tl : ∀ d ∈ lW, Tl d := fun d hd => tl_of ((show ∀ d ∈ lW, tlB d = true by decide +kernel) d hd)
theorem lP_tl : ∀ d ∈ lP, Tl d := fun d hd => tl_of ((show ∀ d ∈ lP, tlB d = true by decide +kernel) d hd)
theorem lF_tl : ∀ d ∈ lF, Tl d := fun d hd => tl_of ((show ∀ d ∈ lF, tlB d = true by decide +kernel) d hd)
theorem lH_tl : ∀ d ∈ lH, Tl d := fun d hd => tl_of ((show ∀ d ∈ lH, tlB d = true by decide +kernel) d hd)
/-! ### what is given -/
structure Raw (P : Program) (w : World) (K : PySem.W.Frag) (mg : Str → Option Value) (base : Heap) (f : Addr) (R : RelX) : Prop where
  ex : ∃ fd ps k, k ≤ 7 ∧ FnOk P w K mg base (L2.CX P w) k f fd ps (spX R) ∧ PySem.W.keepIn K (.ref f) = true ∧ Binds K fd ps []
structure Gv (P : Program) (w : World) (K : PySem.W.Frag) (mg : Str → Option Value) (base : Heap) (Co Cn Cp g : Addr) (fdg : FuncData) (f1 f2 f3 f4 f5 : Addr) : Prop where
  c : Cls3 K mg Co Cn Cp
  met : Fun K "_law_met" "_law_met" sMet g fdg
  mmet : mg "_law_met" = some (.ref g)
  bmet : Binds K fdg ["_law_call"] []
  rep : mg "repr" = none
  pick : Dn P w K mg base 2 "_law_pick" rPick
  m1 : mg "added" = some (.ref f1)
  m2 : mg "less" = some (.ref f2)
  m3 : mg "multiplied" = some (.ref f3)
  m4 : mg "divided" = some (.ref f4)
  m5 : mg "compared" = some (.ref f5)
  n1 : Raw P w K mg base f1 (rNoP Cn)
  n2 : Raw P w K mg base f2 (rNoP Cn)
  n3 : Raw P w K mg base f3 (rNoP Cn)
  n4 : Raw P w K mg base f4 (rNoP Cn)
  n5 : Raw P w K mg base f5 (rNoP Cn)
  frac : Dx P w K mg base 3 "fraction" (rNoQ Cn)
  pow : Dx P w K mg base 5 "power_of" (rNoW Cn)
  root : Dx P w K mg base 5 "root_of" (rNoN Cn)
  floor : Dx P w K mg base 5 "floor_of" (rNoN Cn)
  fact : Dx P w K mg base 3 "factorial" (rNoF Cn)
  binom : Dx P w K mg base 3 "binomial" (rNoB Cn)
  text : Dx P w K mg base 5 "number_text" (rNoN Cn)
  divz : Dx P w K mg base 6 "divided" (rDivZ Co)
  powz : Dx P w K mg base 5 "power_of" (rPowZ Co)
  nof : Dx P w K mg base 7 "number_of_text" (rNoT Cp)
section
variable {P : Program} {w : World} {K : PySem.W.Frag} {mg : Str → Option Value} {base : Heap} {f : Addr} {fd : FuncData} {Co Cn Cp g : Addr} {fdg : FuncData} {f1 f2 f3 f4 f5 : Addr}
abbrev cxR (P : Program) (w : World) (K : PySem.W.Frag) (mg : Str → Option Value) (base : Heap) (f : Addr) (cdv : Value) (A0 : Around) (outer : List Env) (s0 : Shared) (H0 : Hp) (E : XK) : Cx := (cxOf CX0 P w K mg base nRgt "_law_right" (defScope sRgt) f cdv A0 outer s0 H0 E).nox
abbrev bR (n : Nat) : List Stmt := (defBody sRgt).drop n
def drawS (s : S) : S := rollS (rollS (rollS (rollS (rollS (rollS s (13 : Nat)) (8 : Nat)) (7 : Nat)) (2 : Nat)) (7 : Nat)) (7 : Nat)
abbrev esT (n w p z fa h : PyData) (told due : Sl) (c : Sl) : List Sl := [.dice, .val (.list lB), .val n, .val w, .val p, .val z, .val fa, .val h, told, due, c, .un]
set_option maxHeartbeats 4000000 in
theorem rgt_drawn (G : Gv P w K mg base Co Cn Cp g fdg f1 f2 f3 f4 f5) {cdv : Value} {A0 : Around} {outer : List Env} {s0 : Shared} {H0 : Hp} {E : XK} (C : CtxG (cxR P w K mg base f cdv A0 outer s0 H0 E) 9 nRgt) (s : S)
    (rest : ∀ n ww p z fa h, num n = false → Tl n → num ww = false → Tl ww → isW p = false → Tl p → Nm z 0 1 → btw (-1000) 1000 fa = false → Tl fa → btw 0 1000 h = false → Tl h → SO (cxR P w K mg base f cdv A0 outer s0 H0 E) (bR 6) (esT n ww p z fa h (.own []) (.own []) .un) (drawS s) (.rt (.bool true) (drawS s))) :
    SO (cxR P w K mg base f cdv A0 outer s0 H0 E) (defBody sRgt) [.dice, .un, .un, .un, .un, .un, .un, .un, .un, .un, .un, .un] s (.rt (.bool true) (drawS s)) := by
  have r : Room 2 (cxR P w K mg base f cdv A0 outer s0 H0 E).A := C.hr.mono (by decide)
  unfold drawS at rest ⊢
  refine so_asg (d := .list lB) (s1 := s) 1 C.nd (fun z => (ev_lst (ed_cons ev_non (ed_cons ev_bl (ed_cons ev_str (ed_cons (ev_tup (ed_cons ev_int (ed_cons ev_int ed_nil))) (ed_cons (ev_tup (ed_cons ev_int (ed_cons ev_int ed_nil))) (ed_cons (ev_tup (ed_cons ev_int (ed_cons (ev_neg ev_int) ed_nil))) (ed_cons (ev_tup (ed_cons ev_int ed_nil)) (ed_cons (ev_tup (ed_cons ev_int (ed_cons ev_int (ed_cons ev_int ed_nil)))) (ed_cons (ev_lst (ed_cons ev_int (ed_cons ev_int ed_nil))) (ed_cons (ev_tup (ed_cons ev_bl (ed_cons ev_int ed_nil))) (ed_cons (ev_tup (ed_cons (ev_tup (ed_cons ev_int (ed_cons ev_int ed_nil))) (ed_cons ev_int ed_nil))) (ed_cons ev_emptyDict (ed_cons (ev_pow (cpow10 (by decide) (by decide)) ev_int ev_int) ed_nil))))))))))))))) ?_
  refine so_unp2 (d1 := pickD s lB) (d2 := pickD (rollS s (13 : Nat)) lW) (s1 := rollS (rollS s (13 : Nat)) (8 : Nat)) 2 3 C.calm C.nd (fun z => ev_tup (ed_cons (ev_call G.pick r (ea_dice 0 (ea_cons (ev_var 1) ea_nil)) ⟨lB, .inl rfl, by simp, by decide, rfl, rfl⟩) (ed_cons (ev_call G.pick r (ea_dice 0 (ea_cons (ev_lst (ed_cons ev_non (ed_cons ev_bl (ed_cons ev_str (ed_cons (ev_tup (ed_cons ev_int (ed_cons ev_int ed_nil))) (ed_cons (ev_lst (ed_cons ev_int ed_nil)) (ed_cons (ev_tup (ed_cons ev_int (ed_cons ev_int ed_nil))) (ed_cons (ev_tup ed_nil) (ed_cons (ev_sub ev_int (ev_pow (cpow10 (by decide) (by decide)) ev_int ev_int)) ed_nil))))))))) ea_nil)) ⟨lW, .inl rfl, by simp, by decide, rfl, rfl⟩) ed_nil))) ?_
  have hn := pick_all s (ds := lB) (p := fun d => num d = false) (by simp) lB_no
  have tn := pick_all s (ds := lB) (p := Tl) (by simp) lB_tl
  generalize pickD s lB = n at hn tn ⊢
  generalize rollS s (13 : Nat) = s1 at rest ⊢
  have hw := pick_all s1 (ds := lW) (p := fun d => num d = false) (by simp) lW_no
  have tw := pick_all s1 (ds := lW) (p := Tl) (by simp) lW_tl
  generalize pickD s1 lW = ww at hw tw ⊢
  generalize rollS s1 (8 : Nat) = s2 at rest ⊢
  refine so_asg (d := pickD s2 lP) (s1 := rollS s2 (7 : Nat)) 4 C.nd (fun z => ev_call G.pick r (ea_dice 0 (ea_cons (ev_lst (ed_cons ev_non (ed_cons ev_bl (ed_cons ev_str (ed_cons (ev_tup (ed_cons ev_int ed_nil)) (ed_cons (ev_tup (ed_cons ev_int (ed_cons ev_int ed_nil))) (ed_cons (ev_lst ed_nil) (ed_cons ev_emptyDict ed_nil)))))))) ea_nil)) ⟨lP, .inl rfl, by simp, by decide, rfl, rfl⟩) ?_
  have hp := pick_all s2 (ds := lP) (p := fun d => isW d = false) (by simp) lP_no
  have tp := pick_all s2 (ds := lP) (p := Tl) (by simp) lP_tl
  generalize pickD s2 lP = p at hp tp ⊢
  generalize rollS s2 (7 : Nat) = s3 at rest ⊢
  refine so_unp2 (d1 := pickD s3 lZ) (d2 := pickD (rollS s3 (2 : Nat)) lF) (s1 := rollS (rollS s3 (2 : Nat)) (7 : Nat)) 5 6 C.calm C.nd (fun z => ev_tup (ed_cons (ev_call G.pick r (ea_dice 0 (ea_cons (ev_lst (ed_cons ev_int (ed_cons (ev_tup (ed_cons ev_int (ed_cons ev_int ed_nil))) ed_nil))) ea_nil)) ⟨lZ, .inl rfl, by simp, by decide, rfl, rfl⟩) (ed_cons (ev_call G.pick r (ea_dice 0 (ea_cons (ev_lst (ed_cons ev_non (ed_cons ev_bl (ed_cons ev_str (ed_cons ev_int (ed_cons (ev_neg ev_int) (ed_cons (ev_tup (ed_cons ev_int ed_nil)) (ed_cons (ev_pow (cpow10 (by decide) (by decide)) ev_int ev_int) ed_nil)))))))) ea_nil)) ⟨lF, .inl rfl, by simp, by decide, rfl, rfl⟩) ed_nil))) ?_
  have hz := pick_all s3 (ds := lZ) (p := fun d => Nm d 0 1) (by simp) lZ_0
  generalize pickD s3 lZ = zz at hz ⊢
  generalize rollS s3 (2 : Nat) = s4 at rest ⊢
  have hf := pick_all s4 (ds := lF) (p := fun d => btw (-1000) 1000 d = false) (by simp) lF_no
  have tf := pick_all s4 (ds := lF) (p := Tl) (by simp) lF_tl
  generalize pickD s4 lF = fa at hf tf ⊢
  generalize rollS s4 (7 : Nat) = s5 at rest ⊢
  refine so_asg (d := pickD s5 lH) (s1 := rollS s5 (7 : Nat)) 7 C.nd (fun z => ev_call G.pick r (ea_dice 0 (ea_cons (ev_lst (ed_cons ev_non (ed_cons (ev_neg ev_int) (ed_cons ev_bl (ed_cons ev_str (ed_cons ev_int (ed_cons (ev_tup (ed_cons ev_int ed_nil)) (ed_cons (ev_pow (cpow10 (by decide) (by decide)) ev_int ev_int) ed_nil)))))))) ea_nil)) ⟨lH, .inl rfl, by simp, by decide, rfl, rfl⟩) ?_
  have hh := pick_all s5 (ds := lH) (p := fun d => btw 0 1000 d = false) (by simp) lH_no
  have th := pick_all s5 (ds := lH) (p := Tl) (by simp) lH_tl
  generalize pickD s5 lH = h at hh th ⊢
  generalize rollS s5 (7 : Nat) = s6 at rest ⊢
  refine so_parEN (ds := []) (s1 := s6) 8 9 C.calm C.nd (fun z => en_lst ed_nil) ?_
  exact rest n ww p zz fa h hn tn hw tw hp tp hz hf tf hh th
end
end K2


set_option Elab.async false
set_option linter.all false
set_option maxRecDepth 100000
namespace K2
open PySem PySem.Spec PyProof.Rows L2 DL
variable [TabT]
/-! ### data of little depth -/
def Pq (k : Nat) (d : PyData) : Prop := nod d = true ∧ d.canLay0 = true ∧ d.depth ≤ k
theorem pq_int {i : Int} {k : Nat} : Pq k (.int i) := ⟨rfl, rfl, by unfold PyData.depth; omega⟩
theorem pq_all {k : Nat} : ∀ {ds : List PyData}, (∀ d ∈ ds, Pq k d) → nodAll ds = true ∧ PyData.canLayAll0 ds = true ∧ PyData.depthAll ds ≤ k
  | [], _ => ⟨rfl, rfl, by unfold PyData.depthAll; omega⟩
  | d :: ds, h => by
    obtain ⟨a1, a2, a3⟩ := pq_all fun e he => h e (List.mem_cons_of_mem _ he)
    obtain ⟨b1, b2, b3⟩ := h d (List.mem_cons_self ..)
    refine ⟨?_, ?_, ?_⟩
    · simp only [nodAll, a1, b1, Bool.and_self]
    · simp only [PyData.canLayAll0, a2, b2, Bool.and_self]
    · simp only [PyData.depthAll]
      omega
theorem pq_tup {k : Nat} {ds : List PyData} (h : ∀ d ∈ ds, Pq k d) : Pq (k + 1) (.tuple ds) := by
  obtain ⟨a1, a2, a3⟩ := pq_all h
  exact ⟨by simp only [nod, a1], by simp only [PyData.canLay0, a2], by simp only [PyData.depth]; omega⟩
theorem pq_lst {k : Nat} {ds : List PyData} (h : ∀ d ∈ ds, Pq k d) : Pq (k + 1) (.list ds) := by
  obtain ⟨a1, a2, a3⟩ := pq_all h
  exact ⟨by simp only [nod, a1], by simp only [PyData.canLay0, a2], by simp only [PyData.depth]; omega⟩
theorem Pq.pl {k : Nat} {d : PyData} (h : Pq k d) (hk : k ≤ 64 := by decide) : Pl d := ⟨h.1, by
  unfold SeqAt.shaped
  rw [h.2.1, Bool.true_and, decide_eq_true_eq]
  exact Nat.le_trans h.2.2 hk⟩
theorem Pq.refl {k : Nat} {d : PyData} (h : Pq k d) : PyData.eqv d d = true := by
  first
    | exact SeqAt.eqv_refl d h.2.1
    | exact PySem.eqv_refl d h.2.1
    | exact PyData.eqv_refl d h.2.1
theorem Pq.mono {k l : Nat} {d : PyData} (h : Pq k d) (e : k ≤ l) : Pq l d := ⟨h.1, h.2.1, Nat.le_trans h.2.2 e⟩
theorem pq_str {x : Str} {k : Nat} (h : PyData.strOk x = true) : Pq k (.str x) := ⟨rfl, by unfold PyData.canLay0; exact h, by unfold PyData.depth; omega⟩
end K2


set_option Elab.async false
set_option linter.all false
set_option maxRecDepth 100000
set_option exponentiation.threshold 9000
namespace K2
open PySem PySem.Spec PyProof.Rows L2 DL LamX
variable [TabT]
theorem hlN {d : PyData} (h : Tl d) : ("number " : Str).length + d.shown.length ≤ sizeLine := by
  have h1 := h.2.1
  have h2 : ("number " : Str).length = 7 := by decide
  have h3 : 200 ≤ sizeLine := by decide
  omega
/-- names of defs in a display -/
theorem pa_def {X : Cx} {x : Str} {a : Addr} {p : Pos} {xs : List Expr} {as : List Addr} (m : X.mg x = some (.ref a)) (h : PA X xs (fun σ H Q => Q (as.map V.ref) H)) (gl : Gl X x := by rfl) (hd : (x == ("__debug__" : Str)) = false := by decide) (hs : starEach (.Name x p :: xs) X.env = (false, eval (.Name x p) X.env) :: starEach xs X.env := by rfl) :
    PA X (.Name x p :: xs) (fun σ H Q => Q ((a :: as).map V.ref) H) := pa_cons (pe_glob (v := .ref a) gl m rfl hd) h hs
theorem pa_non {X : Cx} : PA X [] (fun σ H Q => Q (([] : List Addr).map V.ref) H) := pa_nil
theorem strOk_app {x y : Str} (hx : PyData.strOk x = true) (hy : PyData.strOk y = true) : PyData.strOk (x ++ y) = true := by
  unfold PyData.strOk at *
  show (x.cps ++ y.cps).all _ = true
  simp only [Array.all_append, hx, hy, Bool.and_self]
def dueL (p n ww : PyData) : Nat → List PyData
  | 0 => [p, p, .int 0]
  | i + 1 => dueL p n ww i ++ [n, ww]
theorem dueL_len (p n ww : PyData) : ∀ i, (dueL p n ww i).length = 3 + 2 * i
  | 0 => rfl
  | i + 1 => by
    show (dueL p n ww i ++ [n, ww]).length = _
    rw [List.length_append, dueL_len p n ww i]
    simp
    omega
theorem tl_int0 : Tl (.int 0) := tl_of (by decide +kernel)
theorem nmHalf : num (.tuple [.int 1, .int 2]) = true := by decide +kernel
section
variable {P : Program} {w : World} {K : PySem.W.Frag} {mg : Str → Option Value} {base : Heap} {f : Addr} {fd : FuncData} {Co Cn Cp g : Addr} {fdg : FuncData} {f1 f2 f3 f4 f5 : Addr} {cdv : Value} {A0 : Around} {outer : List Env} {s0 : Shared} {H0 : Hp} {E : XK} {n ww p z fa h : PyData}
set_option maxHeartbeats 4000000 in
theorem rgt_one (G : Gv P w K mg base Co Cn Cp g fdg f1 f2 f3 f4 f5) (C : CtxG (cxR P w K mg base f cdv A0 outer s0 H0 E) 9 nRgt) (LA : LamAt (cxR P w K mg base f cdv A0 outer s0 H0 E)) (s : S) (hn : num n = false) (tn : Tl n) (hw : num ww = false) (tw : Tl ww) (hp : isW p = false) (tp : Tl p)
    (rest : SO (cxR P w K mg base f cdv A0 outer s0 H0 E) (bR 11) (esT n ww p z fa h (.own ((dueL p n ww 5).map numD)) (.own (dueL p n ww 5)) .un) s (.rt (.bool true) s)) :
    SO (cxR P w K mg base f cdv A0 outer s0 H0 E) (bR 6) (esT n ww p z fa h (.own []) (.own []) .un) s (.rt (.bool true) s) := by
  have r9 : Room 9 (cxR P w K mg base f cdv A0 outer s0 H0 E).A := C.hr
  refine so_app (ds := []) (d := numD p) 8 (fun z => ev_lam (k := 7) G.met G.mmet G.bmet scMet (fun cdg => (met_num G.c (d := p) C.gd (by have := C.hr.un; omega) G.rep tp.1 (hlN tp))) LA r9 (fun A outer sh H E f k rm => ex_call G.frac takes_lam (rm.mono (by decide)) (ea_cons (ev_var 4) (ea_cons (ev_var 3) ea_nil)) ⟨_, _, rfl, .inl ⟨hp, rfl⟩, rfl⟩) (show LamS (defScope sRgt) _ from ⟨rfl, rfl, rfl, by decide +kernel, by decide +kernel⟩)) (by show _ < _; simp) ?_
  refine so_app (ds := [numD p]) (d := numD p) 8 (fun z => ev_lam (k := 7) G.met G.mmet G.bmet scMet (fun cdg => (met_num G.c (d := p) C.gd (by have := C.hr.un; omega) G.rep tp.1 (hlN tp))) LA r9 (fun A outer sh H E f k rm => ex_call G.frac takes_lam (rm.mono (by decide)) (ea_cons ev_int (ea_cons (ev_var 4) ea_nil)) ⟨_, _, rfl, .inr ⟨3, rfl, .inl hp, rfl⟩, rfl⟩) (show LamS (defScope sRgt) _ from ⟨rfl, rfl, rfl, by decide +kernel, by decide +kernel⟩)) (by show _ < _; simp) ?_
  refine so_app (ds := [numD p, numD p]) (d := numD (.int 0)) 8 (fun z => ev_lam (k := 7) G.met G.mmet G.bmet scMet (fun cdg => (met_num G.c (d := (.int 0)) C.gd (by have := C.hr.un; omega) G.rep tl_int0.1 (hlN tl_int0))) LA r9 (fun A outer sh H E f k rm => ex_call G.frac takes_lam (rm.mono (by decide)) (ea_cons ev_int (ea_cons ev_int ea_nil)) ⟨_, _, rfl, .inr ⟨3, rfl, .inr rfl, rfl⟩, rfl⟩) (show LamS (defScope sRgt) _ from ⟨rfl, rfl, rfl, by decide +kernel, by decide +kernel⟩)) (by show _ < _; simp) ?_
  refine so_ext (ds := []) (fs := [p, p, .int 0]) 9 (fun z => ed_cons (ev_var 4) (ed_cons (ev_var 4) (ed_cons ev_int ed_nil))) (by simp) ?_
  have all : ∀ a ∈ [f1, f2, f3, f4, f5], Raw P w K mg base a (rNoP Cn) := by
    simp only [List.forall_mem_cons, List.not_mem_nil, false_imp_iff, implies_true, and_true]
    exact ⟨G.n1, G.n2, G.n3, G.n4, G.n5⟩
  refine so_forFn 10 (fs := [f1, f2, f3, f4, f5]) C.hp C.calm C.nd (pa_def G.m1 (pa_def G.m2 (pa_def G.m3 (pa_def G.m4 (pa_def G.m5 pa_non))))) (by simp)
    (fun i => esT n ww p z fa h (.own ((dueL p n ww i).map numD)) (.own (dueL p n ww i)) .un) (fun _ => s) (Le.refl _) rfl (fun i a ha => ?_) rest
  have hi : i < 5 := (List.getElem?_eq_some_iff.mp ha).1
  obtain ⟨fd, ps, k0, hk, O, kp, hb⟩ := (all a (List.mem_of_getElem? ha)).ex
  have ln := dueL_len p n ww i
  refine so_app (ds := (dueL p n ww i).map numD) (d := numD n) 8 (fun z => ev_lam (k := 7) G.met G.mmet G.bmet scMet (fun cdg => (met_num G.c (d := n) C.gd (by have := C.hr.un; omega) G.rep tn.1 (hlN tn))) LA r9 (fun A outer sh H E f k rm => ex_callL 10 O kp hb takes_lam (rm.mono hk) (ea_cons (ev_var 2) (ea_cons (ev_var 3) ea_nil)) ⟨_, _, rfl, .inl ⟨hn, rfl⟩, rfl⟩) (show LamS (defScope sRgt) _ from ⟨rfl, rfl, rfl, by decide +kernel, by decide +kernel⟩)) (by rw [List.length_map]; omega) ?_
  refine so_app (ds := (dueL p n ww i).map numD ++ [numD n]) (d := numD ww) 8 (fun z => ev_lam (k := 7) G.met G.mmet G.bmet scMet (fun cdg => (met_num G.c (d := ww) C.gd (by have := C.hr.un; omega) G.rep tw.1 (hlN tw))) LA r9 (fun A outer sh H E f k rm => ex_callL 10 O kp hb takes_lam (rm.mono hk) (ea_cons (ev_tup (ed_cons ev_int (ed_cons ev_int ed_nil))) (ea_cons (ev_var 3) ea_nil)) ⟨_, _, rfl, .inr ⟨nmHalf, hw, rfl⟩, rfl⟩) (show LamS (defScope sRgt) _ from ⟨rfl, rfl, rfl, by decide +kernel, by decide +kernel⟩)) (by rw [List.length_append, List.length_map]; simp; omega) ?_
  refine so_ext (ds := dueL p n ww i) (fs := [n, ww]) 9 (fun z => ed_cons (ev_var 2) (ed_cons (ev_var 3) ed_nil)) (by simp; omega) ?_
  have e1 : (dueL p n ww i).map numD ++ [numD n] ++ [numD ww] = (dueL p n ww (i + 1)).map numD := by
    show _ = (dueL p n ww i ++ [n, ww]).map numD
    rw [List.map_append, List.append_assoc]
    rfl
  rw [e1]
  exact so_le so_nil (.same (.same (.same (.same (.same (.same (.same (.same (.same (.same (.un (.same .nil))))))))))))
abbrev moreL (n fa h : PyData) : List PyData := [n, fa, n, n, h, h, h, n]
abbrev dueF (n ww p fa h : PyData) : List PyData := dueL p n ww 5 ++ moreL n fa h
theorem dueF_tl (tn : Tl n) (tw : Tl ww) (tp : Tl p) (tf : Tl fa) (th : Tl h) : ∀ d ∈ dueF n ww p fa h, Tl d := fun d hd => by
  simp only [dueF, dueL, moreL, List.mem_append, List.mem_cons, List.not_mem_nil, or_false] at hd
  rcases hd with ((((((rfl | rfl | rfl) | rfl | rfl) | rfl | rfl) | rfl | rfl) | rfl | rfl) | rfl | rfl) | rfl | rfl | rfl | rfl | rfl | rfl | rfl | rfl <;> first | exact tn | exact tw | exact tp | exact tf | exact th | exact tl_int0
theorem pq_due (t : ∀ d ∈ dueF n ww p fa h, Tl d) : Pq 2 (.list ((dueF n ww p fa h).map numD)) := pq_lst fun d hd => by
  obtain ⟨e, he, rfl⟩ := List.mem_map.mp hd
  exact pq_tup fun u hu => by
    rcases List.mem_cons.mp hu with rfl | hu
    · exact pq_str (by decide +kernel)
    · rw [List.mem_singleton.mp hu]
      exact pq_str (strOk_app (by decide +kernel) (t e he).2.2)
set_option maxHeartbeats 8000000 in
theorem rgt_apps (G : Gv P w K mg base Co Cn Cp g fdg f1 f2 f3 f4 f5) (C : CtxG (cxR P w K mg base f cdv A0 outer s0 H0 E) 9 nRgt) (LA : LamAt (cxR P w K mg base f cdv A0 outer s0 H0 E)) (s : S) (hn : num n = false) (tn : Tl n) (tw : Tl ww) (tp : Tl p) (hf : btw (-1000) 1000 fa = false) (tf : Tl fa) (hh : btw 0 1000 h = false) (th : Tl h)
    (rest : SO (cxR P w K mg base f cdv A0 outer s0 H0 E) (bR 21) (esT n ww p z fa h (.val (.list ((dueF n ww p fa h).map numD))) (.val (.list (dueF n ww p fa h))) .un) s (.rt (.bool true) s)) :
    SO (cxR P w K mg base f cdv A0 outer s0 H0 E) (bR 11) (esT n ww p z fa h (.own ((dueL p n ww 5).map numD)) (.own (dueL p n ww 5)) .un) s (.rt (.bool true) s) := by
  have r9 : Room 9 (cxR P w K mg base f cdv A0 outer s0 H0 E).A := C.hr
  have t := dueF_tl tn tw tp tf th
  have hu66 : (cxR P w K mg base f cdv A0 outer s0 H0 E).A.units + 66 < cLine := by have := C.hr.un; omega
  refine so_app (ds := (dueL p n ww 5).map numD) (d := numD n) 8 (fun z => ev_lam (k := 7) G.met G.mmet G.bmet scMet (fun cdg => (met_num G.c (d := n) C.gd (by have := C.hr.un; omega) G.rep tn.1 (hlN tn))) LA r9 (fun A outer sh H E f k rm => ex_call G.pow takes_lam (rm.mono (by decide)) (ea_cons (ev_var 2) (ea_cons (ev_var 6) ea_nil)) ⟨_, _, rfl, .inl ⟨hn, rfl⟩, rfl⟩) (show LamS (defScope sRgt) _ from ⟨rfl, rfl, rfl, by decide +kernel, by decide +kernel⟩)) (by simp [dueL_len]) ?_
  refine so_app (ds := (dueL p n ww 5).map numD ++ [numD n]) (d := numD fa) 8 (fun z => ev_lam (k := 7) G.met G.mmet G.bmet scMet (fun cdg => (met_num G.c (d := fa) C.gd (by have := C.hr.un; omega) G.rep tf.1 (hlN tf))) LA r9 (fun A outer sh H E f k rm => ex_call G.pow takes_lam (rm.mono (by decide)) (ea_cons ev_int (ea_cons (ev_var 6) ea_nil)) ⟨_, _, rfl, .inr ⟨by decide +kernel, hf, rfl⟩, rfl⟩) (show LamS (defScope sRgt) _ from ⟨rfl, rfl, rfl, by decide +kernel, by decide +kernel⟩)) (by simp [dueL_len]) ?_
  rw [List.append_assoc]
  show SO _ _ (esT n ww p z fa h (.own ((dueL p n ww 5).map numD ++ [numD n, numD fa])) (.own (dueL p n ww 5)) .un) _ _
  refine so_app (ds := (dueL p n ww 5).map numD ++ [numD n, numD fa]) (d := numD n) 8 (fun z => ev_lam (k := 7) G.met G.mmet G.bmet scMet (fun cdg => (met_num G.c (d := n) C.gd (by have := C.hr.un; omega) G.rep tn.1 (hlN tn))) LA r9 (fun A outer sh H E f k rm => ex_call G.root takes_lam (rm.mono (by decide)) (ea_cons (ev_var 2) ea_nil) ⟨_, rfl, hn, rfl, rfl⟩) (show LamS (defScope sRgt) _ from ⟨rfl, rfl, rfl, by decide +kernel, by decide +kernel⟩)) (by simp [dueL_len]) ?_
  rw [List.append_assoc]
  show SO _ _ (esT n ww p z fa h (.own ((dueL p n ww 5).map numD ++ [numD n, numD fa, numD n])) (.own (dueL p n ww 5)) .un) _ _
  refine so_app (ds := (dueL p n ww 5).map numD ++ [numD n, numD fa, numD n]) (d := numD n) 8 (fun z => ev_lam (k := 7) G.met G.mmet G.bmet scMet (fun cdg => (met_num G.c (d := n) C.gd (by have := C.hr.un; omega) G.rep tn.1 (hlN tn))) LA r9 (fun A outer sh H E f k rm => ex_call G.floor takes_lam (rm.mono (by decide)) (ea_cons (ev_var 2) ea_nil) ⟨_, rfl, hn, rfl, rfl⟩) (show LamS (defScope sRgt) _ from ⟨rfl, rfl, rfl, by decide +kernel, by decide +kernel⟩)) (by simp [dueL_len]) ?_
  rw [List.append_assoc]
  show SO _ _ (esT n ww p z fa h (.own ((dueL p n ww 5).map numD ++ [numD n, numD fa, numD n, numD n])) (.own (dueL p n ww 5)) .un) _ _
  refine so_app (ds := (dueL p n ww 5).map numD ++ [numD n, numD fa, numD n, numD n]) (d := numD h) 8 (fun z => ev_lam (k := 7) G.met G.mmet G.bmet scMet (fun cdg => (met_num G.c (d := h) C.gd (by have := C.hr.un; omega) G.rep th.1 (hlN th))) LA r9 (fun A outer sh H E f k rm => ex_call G.fact takes_lam (rm.mono (by decide)) (ea_cons (ev_var 7) ea_nil) ⟨_, rfl, hh, rfl, rfl⟩) (show LamS (defScope sRgt) _ from ⟨rfl, rfl, rfl, by decide +kernel, by decide +kernel⟩)) (by simp [dueL_len]) ?_
  rw [List.append_assoc]
  show SO _ _ (esT n ww p z fa h (.own ((dueL p n ww 5).map numD ++ [numD n, numD fa, numD n, numD n, numD h])) (.own (dueL p n ww 5)) .un) _ _
  refine so_app (ds := (dueL p n ww 5).map numD ++ [numD n, numD fa, numD n, numD n, numD h]) (d := numD h) 8 (fun z => ev_lam (k := 7) G.met G.mmet G.bmet scMet (fun cdg => (met_num G.c (d := h) C.gd (by have := C.hr.un; omega) G.rep th.1 (hlN th))) LA r9 (fun A outer sh H E f k rm => ex_call G.binom takes_lam (rm.mono (by decide)) (ea_cons (ev_var 7) (ea_cons (ev_var 4) ea_nil)) ⟨_, _, rfl, .inl ⟨hh, rfl⟩, rfl⟩) (show LamS (defScope sRgt) _ from ⟨rfl, rfl, rfl, by decide +kernel, by decide +kernel⟩)) (by simp [dueL_len]) ?_
  rw [List.append_assoc]
  show SO _ _ (esT n ww p z fa h (.own ((dueL p n ww 5).map numD ++ [numD n, numD fa, numD n, numD n, numD h, numD h])) (.own (dueL p n ww 5)) .un) _ _
  refine so_app (ds := (dueL p n ww 5).map numD ++ [numD n, numD fa, numD n, numD n, numD h, numD h]) (d := numD h) 8 (fun z => ev_lam (k := 7) G.met G.mmet G.bmet scMet (fun cdg => (met_num G.c (d := h) C.gd (by have := C.hr.un; omega) G.rep th.1 (hlN th))) LA r9 (fun A outer sh H E f k rm => ex_call G.binom takes_lam (rm.mono (by decide)) (ea_cons ev_int (ea_cons (ev_var 7) ea_nil)) ⟨_, _, rfl, .inr ⟨by decide +kernel, hh, rfl⟩, rfl⟩) (show LamS (defScope sRgt) _ from ⟨rfl, rfl, rfl, by decide +kernel, by decide +kernel⟩)) (by simp [dueL_len]) ?_
  rw [List.append_assoc]
  show SO _ _ (esT n ww p z fa h (.own ((dueL p n ww 5).map numD ++ [numD n, numD fa, numD n, numD n, numD h, numD h, numD h])) (.own (dueL p n ww 5)) .un) _ _
  refine so_app (ds := (dueL p n ww 5).map numD ++ [numD n, numD fa, numD n, numD n, numD h, numD h, numD h]) (d := numD n) 8 (fun z => ev_lam (k := 7) G.met G.mmet G.bmet scMet (fun cdg => (met_num G.c (d := n) C.gd (by have := C.hr.un; omega) G.rep tn.1 (hlN tn))) LA r9 (fun A outer sh H E f k rm => ex_call G.text takes_lam (rm.mono (by decide)) (ea_cons (ev_var 2) ea_nil) ⟨_, rfl, hn, rfl, rfl⟩) (show LamS (defScope sRgt) _ from ⟨rfl, rfl, rfl, by decide +kernel, by decide +kernel⟩)) (by simp [dueL_len]) ?_
  rw [List.append_assoc]
  show SO _ _ (esT n ww p z fa h (.own ((dueL p n ww 5).map numD ++ [numD n, numD fa, numD n, numD n, numD h, numD h, numD h, numD n])) (.own (dueL p n ww 5)) .un) _ _
  refine so_ext (ds := dueL p n ww 5) (fs := moreL n fa h) 9 (fun z => (ed_cons (ev_var 2) (ed_cons (ev_var 6) (ed_cons (ev_var 2) (ed_cons (ev_var 2) (ed_cons (ev_var 7) (ed_cons (ev_var 7) (ed_cons (ev_var 7) (ed_cons (ev_var 2) ed_nil))))))))) (by simp [dueL_len]) ?_
  have e1 : (dueL p n ww 5).map numD ++ [numD n, numD fa, numD n, numD n, numD h, numD h, numD h, numD n] = (dueF n ww p fa h).map numD := by
    rw [List.map_append]
    rfl
  rw [e1]
  refine so_frz (ds := (dueF n ww p fa h).map numD) 8 ?_
  refine so_frz (ds := dueF n ww p fa h) 9 ?_
  refine so_ifF (s1 := s) (fun z => ET.is (et_ne (d1 := .list ((dueF n ww p fa h).map numD)) (d2 := .list ((dueF n ww p fa h).map numD)) C.hu (pq_due t).pl (pq_due t).pl (ev_var 8)
    (ev_lcF (j := 11) C.calm C.nd numD (ev_var 9) (by simp [dueF, dueL_len]) (blkOk_by (N := nRgt) (sc := defScope sRgt) (own := [("_law_value", 11)]) (by decide +kernel)) (fun _ _ _ _ _ => pg_name C.nd rfl (Or.inl rfl)) (fun d hd z' s0 H0 C' cl fp => ev_tup (ed_cons ev_str (ed_cons (ev_addS (hlN (t d hd)) ev_str (ev_reprD C.gd (by exact hu66) G.rep (t d hd).1 (ev_var 11))) ed_nil))))) (by rw [(pq_due t).refl]; rfl)) ?_
  exact rest
def opD : PyData := refd (.str "operation")
theorem pq_ops : Pq 2 (.list (List.replicate 3 opD)) := ⟨by decide +kernel, by decide +kernel, by decide +kernel⟩
set_option maxHeartbeats 4000000 in
theorem rgt_zero (G : Gv P w K mg base Co Cn Cp g fdg f1 f2 f3 f4 f5) (C : CtxG (cxR P w K mg base f cdv A0 outer s0 H0 E) 9 nRgt) (LA : LamAt (cxR P w K mg base f cdv A0 outer s0 H0 E)) (s : S) (hz : Nm z 0 1) {d1 d2 : PyData} :
    SO (cxR P w K mg base f cdv A0 outer s0 H0 E) (bR 21) (esT n ww p z fa h (.val d1) (.val d2) .un) s (.rt (.bool true) s) := by
  have r9 : Room 9 (cxR P w K mg base f cdv A0 outer s0 H0 E).A := C.hr
  refine so_new (ds := [opD]) 8 C.nd (fun z => en_lst (ed_cons ((fun z => ev_lam (k := 7) G.met G.mmet G.bmet scMet (fun cdg => met_oper G.c) LA r9 (fun A outer sh H E f k rm => ex_call G.divz takes_lam (rm.mono (by decide)) (ea_cons (ev_tup (ed_cons ev_int (ed_cons ev_int ed_nil))) (ea_cons (ev_var 5) ea_nil)) ⟨_, _, 1, 2, 1, rfl, .fr (by decide) (by decide), hz, rfl, rfl⟩) (show LamS (defScope sRgt) _ from ⟨rfl, rfl, rfl, by decide +kernel, by decide +kernel⟩)) z) ed_nil)) ?_
  refine so_app (ds := [opD]) (d := opD) 8 (fun z => ev_lam (k := 7) G.met G.mmet G.bmet scMet (fun cdg => met_oper G.c) LA r9 (fun A outer sh H E f k rm => ex_call G.divz takes_lam (rm.mono (by decide)) (ea_cons (ev_var 5) (ea_cons (ev_var 5) ea_nil)) ⟨_, _, 0, 1, 1, rfl, hz, hz, rfl, rfl⟩) (show LamS (defScope sRgt) _ from ⟨rfl, rfl, rfl, by decide +kernel, by decide +kernel⟩)) (by decide) ?_
  refine so_app (ds := [opD, opD]) (d := opD) 8 (fun z => ev_lam (k := 7) G.met G.mmet G.bmet scMet (fun cdg => met_oper G.c) LA r9 (fun A outer sh H E f k rm => ex_call G.powz takes_lam (rm.mono (by decide)) (ea_cons (ev_var 5) (ea_cons (ev_neg ev_int) ea_nil)) ⟨_, 1, rfl, hz, rfl, rfl⟩) (show LamS (defScope sRgt) _ from ⟨rfl, rfl, rfl, by decide +kernel, by decide +kernel⟩)) (by decide) ?_
  refine so_frz (ds := List.replicate 3 opD) 8 ?_
  exact so_ret fun z => EV.is (ev_eq (d1 := .list (List.replicate 3 opD)) (d2 := .list (List.replicate 3 opD)) C.hu pq_ops.pl pq_ops.pl (ev_var 8) (ev_rep (by decide) (by decide) (by exact Nat.le_of_ble_eq_true rfl) (ev_lst (ed_cons (ev_tup (ed_cons ev_str (ed_cons ev_str ed_nil))) ed_nil)) ev_int)) (by rw [pq_ops.refl])
def rRgt : Rel := fun as s d s' => as = [.dice] ∧ d = .bool true ∧ s' = drawS s
theorem ok_right {c Pa : Addr} (F : FunC K "_law_right" "_law_right" sRgt f fd (.ref c)) (G : Gv P w K mg base Co Cn Cp g fdg f1 f2 f3 f4 f5) (TB : LamX.TabB base mg c Pa) (inT : (Pa, ("_law_right" : Str) ++ ".<locals>." ++ "<lambda>") ∈ TabT.T) (one : ∀ p ∈ TabT.T, p.1 = Pa → p.2 = ("_law_right" : Str) ++ ".<locals>." ++ "<lambda>") : FnG P w K mg base CX0 10 f fd ["_law_dice_here"] (spD rRgt) := by
  refine okDGC F scRgt (by rintro _ _ _ _ ⟨rfl, _⟩; rfl) (by rintro _ _ _ _ ⟨rfl, _⟩ ds h; simp at h) fun A0 outer s0 H0 E C as s d s' h => ?_
  obtain ⟨rfl, rfl, rfl⟩ := h
  have LA : LamAt (cxR P w K mg base f (.ref c) A0 outer s0 H0 E) := ⟨c, Pa, TB, rfl, inT, one⟩
  exact rgt_drawn G C s fun n ww p z fa h hn tn hw tw hp tp hz hf tf hh th => rgt_one G C LA _ hn tn hw tw hp tp (rgt_apps G C LA _ hn tn tw tp hf tf hh th (rgt_zero G C LA _ hz))
end
end K2


set_option Elab.async false
set_option linter.all false
set_option maxRecDepth 100000
set_option exponentiation.threshold 9000
namespace K2
open PySem PySem.Spec PyProof.Rows L2 DL LamX
variable [TabT]
/-! ### _law_texts_right -/
abbrev sTxr : Stmt := top 41
abbrev nTxr : List Str := ["_law_dice_here", "_law_some", "_law_text"]
theorem scTxr : FnScope nTxr ["_law_dice_here"] (defScope sTxr) := ⟨rfl, rfl, rfl, by decide +kernel, rfl, by decide +kernel, by decide +kernel⟩
abbrev lS1 : List PyData := [.none, .int 5, .str "", .str "4/2", .str "-0", .str "01", .str "1/0", .str "1/1", .str "+1", .str " 1", .str "1 ", .str "1.5", .str "-", .str "/", .str "1/-2", .str "--1", .str "a", .str "0/3", .tuple [.str "1"]]
abbrev lS2 : List PyData := [.str "1/2/3", .str "1/", .str (Txt.mul "1" 401), .str "- 1", .str "1_0", .list [], .str "0/1"]
theorem bt0 : BadT (.none) := .kind rfl
theorem bt1 : BadT (.int 5) := .kind rfl
theorem bt2 : BadT (.str "") := .a (by decide +kernel) (by decide +kernel) (by decide +kernel) (by decide +kernel)
theorem bt3 : BadT (.str "4/2") := .d (by decide +kernel) (by decide +kernel) (by decide +kernel) (by decide +kernel) ⟨by decide +kernel, by decide +kernel, by decide +kernel, by decide +kernel, ⟨(4), (2), (2), (1), (2), (1), by decide +kernel, by decide +kernel, by decide, by unfold Bd; decide, by rfl, by decide, by decide, by unfold Bd; decide, by unfold Bd; decide, by rw [if_neg (by decide +kernel)]; exact ⟨rfl, rfl⟩, by decide, by decide, by unfold Bd; decide, by unfold Bd; decide, by decide +kernel⟩⟩
theorem bt4 : BadT (.str "-0") := .d (by decide +kernel) (by decide +kernel) (by decide +kernel) (by decide +kernel) ⟨by decide +kernel, by decide +kernel, by decide +kernel, by decide +kernel, ⟨(0), (1), (0), (1), (0), (1), by decide +kernel, by decide +kernel, by decide, by unfold Bd; decide, by rfl, by decide, by decide, by unfold Bd; decide, by unfold Bd; decide, by rw [if_pos (by decide +kernel)]; rfl, by decide, by decide, by unfold Bd; decide, by unfold Bd; decide, by decide +kernel⟩⟩
theorem bt5 : BadT (.str "01") := .d (by decide +kernel) (by decide +kernel) (by decide +kernel) (by decide +kernel) ⟨by decide +kernel, by decide +kernel, by decide +kernel, by decide +kernel, ⟨(1), (1), (1), (1), (1), (1), by decide +kernel, by decide +kernel, by decide, by unfold Bd; decide, by rfl, by decide, by decide, by unfold Bd; decide, by unfold Bd; decide, by rw [if_neg (by decide +kernel)]; exact ⟨rfl, rfl⟩, by decide, by decide, by unfold Bd; decide, by unfold Bd; decide, by decide +kernel⟩⟩
theorem bt6 : BadT (.str "1/0") := .c (by decide +kernel) (by decide +kernel) (by decide +kernel) (by decide +kernel) (by decide +kernel) (by decide +kernel) (by decide +kernel)
theorem bt7 : BadT (.str "1/1") := .d (by decide +kernel) (by decide +kernel) (by decide +kernel) (by decide +kernel) ⟨by decide +kernel, by decide +kernel, by decide +kernel, by decide +kernel, ⟨(1), (1), (1), (1), (1), (1), by decide +kernel, by decide +kernel, by decide, by unfold Bd; decide, by rfl, by decide, by decide, by unfold Bd; decide, by unfold Bd; decide, by rw [if_neg (by decide +kernel)]; exact ⟨rfl, rfl⟩, by decide, by decide, by unfold Bd; decide, by unfold Bd; decide, by decide +kernel⟩⟩
theorem bt8 : BadT (.str "+1") := .a (by decide +kernel) (by decide +kernel) (by decide +kernel) (by decide +kernel)
theorem bt9 : BadT (.str " 1") := .a (by decide +kernel) (by decide +kernel) (by decide +kernel) (by decide +kernel)
theorem bt10 : BadT (.str "1 ") := .a (by decide +kernel) (by decide +kernel) (by decide +kernel) (by decide +kernel)
theorem bt11 : BadT (.str "1.5") := .a (by decide +kernel) (by decide +kernel) (by decide +kernel) (by decide +kernel)
theorem bt12 : BadT (.str "-") := .a (by decide +kernel) (by decide +kernel) (by decide +kernel) (by decide +kernel)
theorem bt13 : BadT (.str "/") := .a (by decide +kernel) (by decide +kernel) (by decide +kernel) (by decide +kernel)
theorem bt14 : BadT (.str "1/-2") := .b (by decide +kernel) (by decide +kernel) (by decide +kernel) (by decide +kernel) (by decide +kernel)
theorem bt15 : BadT (.str "--1") := .a (by decide +kernel) (by decide +kernel) (by decide +kernel) (by decide +kernel)
theorem bt16 : BadT (.str "a") := .a (by decide +kernel) (by decide +kernel) (by decide +kernel) (by decide +kernel)
theorem bt17 : BadT (.str "0/3") := .d (by decide +kernel) (by decide +kernel) (by decide +kernel) (by decide +kernel) ⟨by decide +kernel, by decide +kernel, by decide +kernel, by decide +kernel, ⟨(0), (3), (0), (1), (0), (1), by decide +kernel, by decide +kernel, by decide, by unfold Bd; decide, by rfl, by decide, by decide, by unfold Bd; decide, by unfold Bd; decide, by rw [if_neg (by decide +kernel)]; exact ⟨rfl, rfl⟩, by decide, by decide, by unfold Bd; decide, by unfold Bd; decide, by decide +kernel⟩⟩
theorem bt18 : BadT (.tuple [.str "1"]) := .kind rfl
theorem bt19 : BadT (.str "1/2/3") := .b (by decide +kernel) (by decide +kernel) (by decide +kernel) (by decide +kernel) (by decide +kernel)
theorem bt20 : BadT (.str "1/") := .b (by decide +kernel) (by decide +kernel) (by decide +kernel) (by decide +kernel) (by decide +kernel)
theorem bt21 : BadT (.str (Txt.mul "1" 401)) := .long (by decide +kernel) (by decide +kernel)
theorem bt22 : BadT (.str "- 1") := .a (by decide +kernel) (by decide +kernel) (by decide +kernel) (by decide +kernel)
theorem bt23 : BadT (.str "1_0") := .a (by decide +kernel) (by decide +kernel) (by decide +kernel) (by decide +kernel)
theorem bt24 : BadT (.list []) := .kind rfl
theorem bt25 : BadT (.str "0/1") := .d (by decide +kernel) (by decide +kernel) (by decide +kernel) (by decide +kernel) ⟨by decide +kernel, by decide +kernel, by decide +kernel, by decide +kernel, ⟨(0), (1), (0), (1), (0), (1), by decide +kernel, by decide +kernel, by decide, by unfold Bd; decide, by rfl, by decide, by decide, by unfold Bd; decide, by unfold Bd; decide, by rw [if_neg (by decide +kernel)]; exact ⟨rfl, rfl⟩, by decide, by decide, by unfold Bd; decide, by unfold Bd; decide, by decide +kernel⟩⟩
theorem lT_bad : ∀ d ∈ lS1 ++ lS2, BadT d := by
  intro d hd
  simp only [lS1, lS2, List.mem_append, List.mem_cons, List.not_mem_nil, or_false] at hd
  rcases hd with (rfl | rfl | rfl | rfl | rfl | rfl | rfl | rfl | rfl | rfl | rfl | rfl | rfl | rfl | rfl | rfl | rfl | rfl | rfl) | (rfl | rfl | rfl | rfl | rfl | rfl | rfl)
  · exact bt0
  · exact bt1
  · exact bt2
  · exact bt3
  · exact bt4
  · exact bt5
  · exact bt6
  · exact bt7
  · exact bt8
  · exact bt9
  · exact bt10
  · exact bt11
  · exact bt12
  · exact bt13
  · exact bt14
  · exact bt15
  · exact bt16
  · exact bt17
  · exact bt18
  · exact bt19
  · exact bt20
  · exact bt21
  · exact bt22
  · exact bt23
  · exact bt24
  · exact bt25
theorem sp0_shown : ("spot " : Str) ++ (PyData.int 0).shown = ("spot 0" : Str) := by decide +kernel
theorem tl0 : Tl (.int 0) := tl_of (by decide +kernel)
theorem pq_spot : Pq 1 (refd (.str "spot 0")) := ⟨by decide +kernel, by decide +kernel, by decide +kernel⟩
section
variable {P : Program} {w : World} {K : PySem.W.Frag} {mg : Str → Option Value} {base : Heap} {f : Addr} {fd : FuncData} {Co Cn Cp g : Addr} {fdg : FuncData} {f1 f2 f3 f4 f5 : Addr}
def rTxr : Rel := fun as s d s' => as = [.dice] ∧ d = .bool true ∧ s' = rollS s (26 : Nat)
set_option maxHeartbeats 4000000 in
theorem ok_txr {c Pa : Addr} (F : FunC K "_law_texts_right" "_law_texts_right" sTxr f fd (.ref c)) (G : Gv P w K mg base Co Cn Cp g fdg f1 f2 f3 f4 f5) (TB : LamX.TabB base mg c Pa) (inT : (Pa, ("_law_texts_right" : Str) ++ ".<locals>." ++ "<lambda>") ∈ TabT.T) (one : ∀ p ∈ TabT.T, p.1 = Pa → p.2 = ("_law_texts_right" : Str) ++ ".<locals>." ++ "<lambda>") : FnG P w K mg base CX0 10 f fd ["_law_dice_here"] (spD rTxr) := by
  refine okDGC F scTxr (by rintro _ _ _ _ ⟨rfl, _⟩; rfl) (by rintro _ _ _ _ ⟨rfl, _⟩ ds h; simp at h) fun A0 outer s0 H0 E C as s d s' h => ?_
  obtain ⟨rfl, rfl, rfl⟩ := h
  have LA : LamAt (cxOf CX0 P w K mg base nTxr "_law_texts_right" (defScope sTxr) f (.ref c) A0 outer s0 H0 E).nox := ⟨c, Pa, TB, rfl, inT, one⟩
  have r9 : Room 9 (cxOf CX0 P w K mg base nTxr "_law_texts_right" (defScope sTxr) f (.ref c) A0 outer s0 H0 E).nox.A := C.hr
  refine so_asg (d := .list lS1) (s1 := s) 1 C.nd (fun z => (ev_lst (ed_cons ev_non (ed_cons ev_int (ed_cons ev_str (ed_cons ev_str (ed_cons ev_str (ed_cons ev_str (ed_cons ev_str (ed_cons ev_str (ed_cons ev_str (ed_cons ev_str (ed_cons ev_str (ed_cons ev_str (ed_cons ev_str (ed_cons ev_str (ed_cons ev_str (ed_cons ev_str (ed_cons ev_str (ed_cons ev_str (ed_cons (ev_tup (ed_cons ev_str ed_nil)) ed_nil))))))))))))))))))))) ?_
  refine so_asg (d := pickD s (lS1 ++ lS2)) (s1 := rollS s (26 : Nat)) 2 C.nd (fun z => ev_call G.pick (C.hr.mono (by decide)) (ea_dice 0 (ea_cons (ev_catL (ds := lS1) (fs' := lS2) (by decide) (ev_var 1) (ev_lst (ed_cons ev_str (ed_cons ev_str (ed_cons (ev_mulS (x := "1") (n := 401) (by unfold MulOk; decide +kernel) ev_str ev_int) (ed_cons ev_str (ed_cons ev_str (ed_cons (ev_lst ed_nil) (ed_cons ev_str ed_nil))))))))) ea_nil)) ⟨lS1 ++ lS2, .inl rfl, by simp, by decide, rfl, rfl⟩) ?_
  have hb := pick_all s (ds := lS1 ++ lS2) (p := BadT) (by simp) lT_bad
  generalize pickD s (lS1 ++ lS2) = d at hb ⊢
  generalize rollS s (26 : Nat) = s1
  have e : spotD (.int 0) = refd (.str "spot 0") := by
    unfold spotD
    rw [sp0_shown]
  refine so_ret fun z => EV.is (ev_eq (d1 := refd (.str "spot 0")) (d2 := refd (.str "spot 0")) C.hu pq_spot.pl pq_spot.pl
    (EV.is (ev_lam (k := 7) G.met G.mmet G.bmet scMet (fun cdg => met_spot G.c (d := .int 0) C.gd (by have := C.hr.un; omega) G.rep tl0.1 (by decide +kernel)) LA r9 (fun A outer sh H E f k rm => ex_call G.nof takes_lam rm (ea_cons (ev_var 2) ea_nil) ⟨_, rfl, hb, rfl, rfl⟩) (show LamS (defScope sTxr) _ from ⟨rfl, rfl, rfl, by decide +kernel, by decide +kernel⟩)) e)
    (ev_tup (ed_cons ev_str (ed_cons ev_str ed_nil)))) (by rw [pq_spot.refl])
end
end K2


set_option Elab.async false
set_option linter.all false
set_option maxRecDepth 100000
set_option exponentiation.threshold 9000
namespace K2
open PySem PySem.Spec PyProof.Rows L2 DL LamX
variable [TabT]
section
variable {X : Cx} {z : Z} {es : List Sl} {s s1 s2 : S}
theorem rb_max (hc : X.calm = true) {i j : Int} : RB z s (fun xs H Q => ∃ i j, xs = [.int i, .int j] ∧ Q (.int (if j > i then j else i)) H) [.int i, .int j] (.int (max i j)) := fun vs H at_ h Q q => by
  cases h with
  | cons h r =>
    cases h
    cases r with
    | cons h r =>
      cases h
      cases r
      refine ⟨i, j, rfl, ?_⟩
      have e : (if j > i then j else i) = max i j := by
        by_cases h : j > i
        · rw [if_pos h]; omega
        · rw [if_neg h]; omega
      rw [e]
      exact q _ H (.refl H) at_ (.int _)
end
structure TopM (mg : Str → Option Value) : Prop where
  min : mg "min" = none
  max : mg "max" = none
def z0 : Z := ⟨none, []⟩
theorem at0 {H : Hp} {s : S} (t : Tabs TabT.T H) : At z0 H s := ⟨fun a h => (by cases h), fun p h => (by cases h), fun p h => (by cases h), t⟩
theorem fz0 {a : Addr} (h : ∀ q, (a, q) ∉ TabT.T) : Fz z0 a := ⟨⟨fun h => (by cases h), h⟩, fun o h => (by cases h)⟩
theorem far_tab {H : Hp} {a : Addr} {o : HO} (t : Tabs TabT.T H) (h : H a = some o) (n : ∀ xs, o ≠ .tbl xs) : ∀ q, (a, q) ∉ TabT.T := fun q hq => by
  obtain ⟨ps, e, _⟩ := t _ hq
  have e : H a = some (.tbl ps) := e
  rw [e] at h
  exact n ps (Option.some.inj h).symm
section
variable {P : Program} {w : World} {K : PySem.W.Frag} {mg : Str → Option Value} {base : Heap} {f : Addr} {fd : FuncData}
abbrev sDice : Stmt := top 36
theorem scDice : FnScope ["_law_script", "_law_spot", "_law_cell", "_law_left"] ["_law_script", "_law_spot"] (defScope sDice) := ⟨rfl, rfl, rfl, by decide +kernel, rfl, by decide +kernel, by decide +kernel⟩
/-- a new list of three ints -/
def spDice (K : PySem.W.Frag) : Sp := fun vs H Q _ => ∃ (a : Addr) (i : Nat) (ns : List Int), vs = [.ref a, .int (i : Int)] ∧ SqL K H a (ns.map V.int) ∧ ns.length ≤ 63 ∧ Tabs TabT.T H ∧ ∀ (s : S) (H1 : Hp) (p : Addr), Ez z0 H H1 → Tabs TabT.T H1 → H1 p = none → Q (.ref p) (upd H1 p (dv s))
theorem ok_dice (F : Fun K "_law_dice" "_law_dice" sDice f fd) (T : Top mg) (T3 : TopM mg) : FnOk P w K mg base CX0 1 f fd ["_law_script", "_law_spot"] (spDice K) := by
  refine F.ok scDice (fun vs H Q E h => ?_) (fun cdv A outer s0 H0 vs Q E hr h => ?_)
  · obtain ⟨a, i, ns, rfl, _⟩ := h
    rfl
  · obtain ⟨a, i, ns, rfl, hS, hl, t0, q⟩ := h
    have C : Ctx (cxOf CX0 P w K mg base ["_law_script", "_law_spot", "_law_cell", "_law_left"] "_law_dice" (defScope sDice) f cdv A outer s0 H0 E).nox 0 ["_law_script", "_law_spot", "_law_cell", "_law_left"] := ⟨scDice.nd, rfl, PassesOwn.never, hr, hr.units⟩
    refine ⟨_, pss_cons (ps_set (i := 2) scDice.nd rfl (.inl rfl) (pe_ifExp (pt_cmpR op_lt (pv 1) (pe_callB call_len (by rfl) T.len (by decide +kernel) (pa_cons (pv 0) pa_nil)) (nomark _)) (pe_callTy call_int1 (by rfl) T.int (by decide +kernel) (pa_cons (pe_ix ix_list (pv 0) (pv 1) (fun _ _ => rfl)) pa_nil)) wE_ok))
      (pss_cons wS_ok (pss_one (ps_ret (pe_lst wA_ok)))), ?_⟩
    have e0 : ∀ (c : Int) (H0 : Hp), En z0 H0 [some (.ref a), some (.int (i : Int)), some (.int c), none] [.un, .val (.int (i : Int)), .val (.int c), .un] := fun c _ => .cons .un (.cons (.val (.int _)) (.cons (.val (.int _)) (.cons .un .nil)))
    -- the rest, from the cell on
    have rest : ∀ (c : Int) (H3 : Hp), Ez z0 H0 H3 → Tabs TabT.T H3 → (tSeq (wS (cxOf CX0 P w K mg base ["_law_script", "_law_spot", "_law_cell", "_law_left"] "_law_dice" (defScope sDice) f cdv A outer s0 H0 E).nox ((defBody sDice).getD 1 (.Pass ⟨0, 0, 0, 0⟩))) (tRet (tLst (wA (cxOf CX0 P w K mg base ["_law_script", "_law_spot", "_law_cell", "_law_left"] "_law_dice" (defScope sDice) f cdv A outer s0 H0 E).nox
        (match (defBody sDice)[2]? with | some (Stmt.Return (some (Expr.List es _)) _) => es | _ => []))))) { nx := fun _ H' => Q .non H', rt := Q } [some (.ref a), some (.int (i : Int)), some (.int c), none] H3 := fun c H3 e3 t3 => by
      have m1 : -(2 ^ 64) < (c.natAbs : Int).fmod 1152921504606846869 ∧ (c.natAbs : Int).fmod 1152921504606846869 < 2 ^ 64 := by
        have := fmod_bd (i := (c.natAbs : Int)) (n := 1152921504606846869) (by decide)
        omega
      have B1 : Bd 300 ((10 : Int) ^ (56 : Int).toNat) := by unfold Bd; decide
      have B2 : Bd 300 ((10 : Int) ^ (60 : Int).toNat) := by unfold Bd; decide
      have L1 : EV (cxOf CX0 P w K mg base ["_law_script", "_law_spot", "_law_cell", "_law_left"] "_law_dice" (defScope sDice) f cdv A outer s0 H0 E).nox z0 (match (defBody sDice)[1]? with | some (Stmt.Assign _ e _) => e | _ => .Constant .none 0 ⟨0, 0, 0, 0⟩) [.un, .val (.int (i : Int)), .val (.int c), .un] (0, 0, 0) (.int ((max 0 ((c.natAbs : Int) - 10 ^ (16 : Int).toNat)).fmod (10 ^ (56 : Int).toNat * 10 ^ (60 : Int).toNat))) (0, 0, 0) :=
        ev_mod (by decide) (ev_bltn (call_max2 C.calm) (rb_max C.calm) T3.max (ed_cons ev_int (ed_cons (ev_sub (ev_bltn call_abs rb_abs T.abs (ed_cons (ev_var 2) ed_nil)) (ev_pow (cpow10 (by decide) (by decide)) ev_int ev_int)) ed_nil))) (ev_mul (B1.cmul B2) (ev_pow (cpow10 (by decide) (by decide)) ev_int ev_int) (ev_pow (cpow10 (by decide) (by decide)) ev_int ev_int))
      refine ⟨_, ps_set (i := 3) scDice.nd rfl (.inl rfl) wE_ok, ?_⟩
      refine L1 _ H3 (e0 c H3) (at0 t3) _ fun v H1 e1 a1 v1 => ?_
      have en1 : En z0 H1 [some (.ref a), some (.int (i : Int)), some (.int c), some v] [.un, .val (.int (i : Int)), .val (.int c), .val (.int ((max 0 ((c.natAbs : Int) - 10 ^ (16 : Int).toNat)).fmod (10 ^ (56 : Int).toNat * 10 ^ (60 : Int).toNat)))] := .cons .un (.cons (.val (.int _)) (.cons (.val (.int _)) (.cons (.val v1) .nil)))
      have D : ED (cxOf CX0 P w K mg base ["_law_script", "_law_spot", "_law_cell", "_law_left"] "_law_dice" (defScope sDice) f cdv A outer s0 H0 E).nox z0 (match (defBody sDice)[2]? with | some (Stmt.Return (some (Expr.List es _)) _) => es | _ => []) [.un, .val (.int (i : Int)), .val (.int c), .val (.int ((max 0 ((c.natAbs : Int) - 10 ^ (16 : Int).toNat)).fmod (10 ^ (56 : Int).toNat * 10 ^ (60 : Int).toNat)))] (0, 0, 0)
          [.int ((max 0 ((c.natAbs : Int) - 10 ^ (16 : Int).toNat)).fmod (10 ^ (56 : Int).toNat * 10 ^ (60 : Int).toNat)), .int ((c.natAbs : Int).fmod 1152921504606846869 * 61 + 1009 * (i : Int) + 43 * (if decide (c < 0) = true then 1 else 0) + 17), .int 0] (0, 0, 0) :=
        ed_cons (ev_var 3) (ed_cons (ev_add (ev_add (ev_add (ev_mulL m1 (ev_mod (by decide) (ev_bltn call_abs rb_abs T.abs (ed_cons (ev_var 2) ed_nil)) ev_int) ev_int) (ev_mulL (by decide) ev_int (ev_var 1))) (ev_mulL (by decide) ev_int (ev_bty call_int1 rb_intB T.int (ed_cons (ev_lt (ev_var 2) ev_int) ed_nil)))) ev_int) (ed_cons ev_int ed_nil))
      refine D _ H1 en1 (at0 a1.t) _ fun vs H2 e2 a2 v2 => ?_
      cases v2 with
      | cons h r =>
        cases h
        cases r with
        | cons h r =>
          cases h
          cases r with
          | cons h r =>
            cases h
            cases r
            exact ⟨(by show 3 ≤ sizeLine; decide), fun p hp => q (_, _, _) H2 p (e3.trans (e1.trans e2)) a2.t hp⟩
    -- the cell
    refine ⟨_, rfl, .ref a, rfl, .ref a, _, rfl, .inl ⟨_, hS, rfl⟩, _, _, rfl, rfl, _, rfl, ?_⟩
    rw [List.length_map]
    by_cases hi : i < ns.length
    · rw [decide_eq_true (show (i : Int) < (ns.length : Int) by omega)]
      refine iteT ⟨.ref a, rfl, _, rfl, a, _, (i : Int), .int ns[i], rfl, rfl, hS, atI_nat (j := i) (by rw [List.getElem?_map, List.getElem?_eq_getElem hi]; rfl), .inl ⟨_, rfl, ?_⟩⟩
      exact rest ns[i] H0 (.refl H0) t0
    · rw [decide_eq_false (show ¬ (i : Int) < (ns.length : Int) by omega)]
      refine iteF ?_
      have L0 : EV (cxOf CX0 P w K mg base ["_law_script", "_law_spot", "_law_cell", "_law_left"] "_law_dice" (defScope sDice) f cdv A outer s0 H0 E).nox z0 (match (defBody sDice)[0]? with | some (Stmt.Assign _ (Expr.IfExp _ _ e _) _) => e | _ => .Constant .none 0 ⟨0, 0, 0, 0⟩) [.un, .val (.int (i : Int)), .un, .un] (0, 0, 0) (.int (89 * (i : Int) + 53)) (0, 0, 0) :=
        ev_add (ev_mulL (by decide) ev_int (ev_var 1)) ev_int
      refine L0 _ H0 (.cons .un (.cons (.val (.int _)) (.cons .un (.cons .un .nil)))) (at0 t0) _ fun v H1 e1 a1 v1 => ?_
      cases v1
      exact rest _ H1 e1 a1.t
end





/-! ### the law's own values -/
abbrev big : Int := (10 : Int) ^ (60 : Int).toNat * (10 : Int) ^ (40 : Int).toNat
theorem nmB : Nm (.tuple [.int big, .int 1]) big 1 := .fr (by decide) (by decide +kernel)
abbrev sev : Int := 7 * ((10 ^ 400 - 1) / 9)
theorem sev_is : Txt.mul "7" 400 = ntx sev 1 := by decide +kernel
theorem sev_bd : Bd 1410 sev := by unfold Bd; decide +kernel
theorem sev_len : (ntx sev 1).length ≤ 400 := by rw [← sev_is]; decide +kernel
theorem comb_bits : (combV 1000 1000).natAbs.log2 < bitsLine := by decide +kernel
theorem pq_fine : Pq 1 (.list (List.replicate 5 (.str "fine"))) := ⟨by decide +kernel, by decide +kernel, by decide +kernel⟩
abbrev maxD : PyData := .list [.int 8, .int 1000, .int 1000, .int 400]
theorem pq_max : Pq 1 maxD := ⟨by decide +kernel, by decide +kernel, by decide +kernel⟩
structure TopN (mg : Str → Option Value) : Prop where
  name : ∃ t, mg "MAX_NAME" = some (.int 8 t)
section
variable {P : Program} {w : World} {K : PySem.W.Frag} {mg : Str → Option Value} {base : Heap} {f : Addr} {fd : FuncData} {Co Cn Cp g : Addr} {fdg : FuncData} {f1 f2 f3 f4 f5 : Addr} {cdv : Value} {A0 : Around} {outer : List Env} {s0 : Shared} {H0 : Hp} {E : XK}
structure Vl (P : Program) (w : World) (K : PySem.W.Frag) (mg : Str → Option Value) (base : Heap) (Co Cn Cp g : Addr) (fdg : FuncData) (f1 f2 f3 f4 f5 : Addr) : Prop where
  g : Gv P w K mg base Co Cn Cp g fdg f1 f2 f3 f4 f5
  pow : Dn P w K mg base 5 "power_of" rPowerK
  fact : Dn P w K mg base 3 "factorial" rFact
  binom : Dn P w K mg base 3 "binomial" rBinom
  nof : Dn P w K mg base 7 "number_of_text" rNOfK
  root : Dn P w K mg base 5 "root_of" rRoot
  right : Dg P w K mg base 10 "_law_right" rRgt
  texts : Dg P w K mg base 10 "_law_texts_right" rTxr
abbrev sLaw : Stmt := top 42
abbrev nLaw : List Str := ["_law_script", "_law_spot", "_law_dice_here", "_law_turn", "_law_told"]
theorem scLaw : FnScope nLaw ["_law_script"] (defScope sLaw) := ⟨rfl, rfl, rfl, by decide +kernel, rfl, by decide +kernel, by decide +kernel⟩
def spLaw (K : PySem.W.Frag) : Sp := fun vs H Q _ => ∃ (a : Addr) (ns : List Int), vs = [.ref a] ∧ SqL K H a (ns.map V.int) ∧ ns.length ≤ 63 ∧ Tabs TabT.T H ∧ ∀ H', Q (.bl true) H'
abbrev cxL (P : Program) (w : World) (K : PySem.W.Frag) (mg : Str → Option Value) (base : Heap) (f : Addr) (cdv : Value) (A0 : Around) (outer : List Env) (s0 : Shared) (H0 : Hp) (E : XK) : Cx := (cxOf CX0 P w K mg base nLaw "law" (defScope sLaw) f cdv A0 outer s0 H0 E).nox
set_option maxHeartbeats 8000000 in
theorem law_rest (VL : Vl P w K mg base Co Cn Cp g fdg f1 f2 f3 f4 f5) (T2 : Top2 mg) (TN : TopN mg) (C : CtxG (cxL P w K mg base f cdv A0 outer s0 H0 E) 10 nLaw) (LA : LamAt (cxL P w K mg base f cdv A0 outer s0 H0 E)) (s : S) :
    SO (cxL P w K mg base f cdv A0 outer s0 H0 E) ((defBody sLaw).drop 1) [.un, .un, .un, .un, .un] s (.rt (.bool true) s) := by
  have r9 : Room 9 (cxL P w K mg base f cdv A0 outer s0 H0 E).A := C.hr.mono (by decide)
  have b4 : Bd 300 ((10 : Int) ^ (40 : Int).toNat) := by unfold Bd; decide
  have b6 : Bd 300 ((10 : Int) ^ (60 : Int).toNat) := by unfold Bd; decide
  obtain ⟨t1, h1⟩ := TN.name
  obtain ⟨t2, h2⟩ := T2.raised
  obtain ⟨t3, h3⟩ := T2.chosen
  obtain ⟨t4, h4⟩ := T2.text
  refine so_new (ds := [.str "fine"]) 4 C.nd (fun z => en_lst (ed_cons ((fun z => ev_lam (k := 7) VL.g.met VL.g.mmet VL.g.bmet scMet (fun cdg => met_fine VL.g.c) LA r9 (fun A outer sh H E f k rm => ev_call VL.pow (rm.mono (by decide)) (ea_cons (ev_tup (ed_cons ev_int (ed_cons ev_int ed_nil))) (ea_cons (ev_neg ev_int) ea_nil)) ⟨_, 1, 2, -1000, rfl, .fr (by decide) (by decide), by unfold Bd; decide, by unfold Bd; decide, by decide, by decide, fun _ => by decide, rfl, rfl⟩) (show LamS (defScope sLaw) _ from ⟨rfl, rfl, rfl, by decide +kernel, by decide +kernel⟩)) z) ed_nil)) ?_
  refine so_app (ds := [.str "fine"]) (d := .str "fine") 4 (fun z => ev_lam (k := 7) VL.g.met VL.g.mmet VL.g.bmet scMet (fun cdg => met_fine VL.g.c) LA r9 (fun A outer sh H E f k rm => ev_call VL.fact (rm.mono (by decide)) (ea_cons ev_int ea_nil) ⟨1000, rfl, by decide, rfl, rfl⟩) (show LamS (defScope sLaw) _ from ⟨rfl, rfl, rfl, by decide +kernel, by decide +kernel⟩)) (by show _ < _; simp) ?_
  refine so_app (ds := [.str "fine", .str "fine"]) (d := .str "fine") 4 (fun z => ev_lam (k := 7) VL.g.met VL.g.mmet VL.g.bmet scMet (fun cdg => met_fine VL.g.c) LA r9 (fun A outer sh H E f k rm => ev_call VL.binom (rm.mono (by decide)) (ea_cons ev_int (ea_cons ev_int ea_nil)) ⟨1000, 1000, rfl, by decide, by decide, by decide, by decide, comb_bits, rfl, rfl⟩) (show LamS (defScope sLaw) _ from ⟨rfl, rfl, rfl, by decide +kernel, by decide +kernel⟩)) (by show _ < _; simp) ?_
  refine so_app (ds := [.str "fine", .str "fine", .str "fine"]) (d := .str "fine") 4 (fun z => ev_lam (k := 7) VL.g.met VL.g.mmet VL.g.bmet scMet (fun cdg => met_fine VL.g.c) LA r9 (fun A outer sh H E f k rm => ev_call VL.nof (rm.mono (by decide)) (ea_cons (EV.is (ev_mulS (x := "7") (n := 400) (by unfold MulOk; decide +kernel) ev_str ev_int) (congrArg PyData.str sev_is)) ea_nil) ⟨sev, 1, rfl, by decide, by decide +kernel, sev_bd, by unfold Bd; decide +kernel, sev_len, rfl, rfl⟩) (show LamS (defScope sLaw) _ from ⟨rfl, rfl, rfl, by decide +kernel, by decide +kernel⟩)) (by show _ < _; simp) ?_
  refine so_app (ds := [.str "fine", .str "fine", .str "fine", .str "fine"]) (d := .str "fine") 4 (fun z => ev_lam (k := 7) VL.g.met VL.g.mmet VL.g.bmet scMet (fun cdg => met_fine VL.g.c) LA r9 (fun A outer sh H E f k rm => ev_call VL.root (rm.mono (by decide)) (ea_cons (ev_tup (ed_cons (ev_mul (b6.cmul b4) (ev_pow (cpow10 (by decide) (by decide)) ev_int ev_int) (ev_pow (cpow10 (by decide) (by decide)) ev_int ev_int)) (ed_cons ev_int ed_nil))) ea_nil) ⟨_, big, 1, rfl, nmB, by unfold Bd; decide +kernel, by unfold Bd; decide +kernel, rfl, rfl⟩) (show LamS (defScope sLaw) _ from ⟨rfl, rfl, rfl, by decide +kernel, by decide +kernel⟩)) (by show _ < _; simp) ?_
  refine so_frz (ds := List.replicate 5 (.str "fine")) 4 ?_
  refine so_ret fun z => EV.is (ev_and (k1 := true) (k2 := true) (EV.is (ev_eq (d1 := .list (List.replicate 5 (.str "fine"))) (d2 := .list (List.replicate 5 (.str "fine"))) C.hu pq_fine.pl pq_fine.pl (ev_var 4) (ev_rep (by decide) (by decide) (by exact Nat.le_of_ble_eq_true rfl) (ev_lst (ed_cons ev_str ed_nil)) ev_int)) (by rw [pq_fine.refl])) (fun _ => ev_b1 (EV.is (ev_eq (d1 := maxD) (d2 := maxD) C.hu pq_max.pl pq_max.pl
    (ev_lst (ed_cons (ev_glob rfl h1 ⟨t1, rfl⟩) (ed_cons (ev_glob rfl h2 ⟨t2, rfl⟩) (ed_cons (ev_glob rfl h3 ⟨t3, rfl⟩) (ed_cons (ev_glob rfl h4 ⟨t4, rfl⟩) ed_nil))))) (ev_lst (ed_cons ev_int (ed_cons ev_int (ed_cons ev_int (ed_cons ev_int ed_nil)))))) (by rw [pq_max.refl])))) rfl
end
end K2


set_option Elab.async false
set_option linter.all false
set_option maxRecDepth 100000
set_option exponentiation.threshold 9000
namespace K2
open PySem PySem.Spec PyProof.Rows L2 DL LamX
variable [TabT]
def stepN (s : S) : Nat → S
  | 0 => s
  | i + 1 => rollS (drawS (stepN s i)) (26 : Nat)
section
variable {P : Program} {w : World} {K : PySem.W.Frag} {mg : Str → Option Value} {base : Heap} {f : Addr} {fd : FuncData} {Co Cn Cp g : Addr} {fdg : FuncData} {f1 f2 f3 f4 f5 : Addr}
theorem oi_start {z : Z} {H : Hp} {σ : L2.St} {es : List Sl} {s : S} (no : ∀ (i : Nat) (ds : List PyData), es[i]? ≠ some (.own ds)) (hz : z.vol = []) (at_ : At z H s) (en : En z H σ es) : OI z H H [] σ es s := {
  new := fun q h => by cases h
  nd := List.nodup_nil
  base := fun q h => by
    rw [hz] at h
    cases h
  at_ := at_
  en := en
  ez := .refl _
  far := fun i ds p h => absurd h (no i ds)
  two := fun i j ds ds' p _ h => absurd h (no i ds) }
theorem ok_law {c2 P2 : Addr} (F : FunC K "law" "law" sLaw f fd (.ref c2)) (T : Top mg) (T3 : TopM mg) (T2 : Top2 mg) (TN : TopN mg) (VL : Vl P w K mg base Co Cn Cp g fdg f1 f2 f3 f4 f5) {fD : Addr} {fdD : FuncData} (GD : FnOk P w K mg base CX0 1 fD fdD ["_law_script", "_law_spot"] (spDice K)) (mD : mg "_law_dice" = some (.ref fD)) (kD : PySem.W.keepIn K (.ref fD) = true) (bD : Binds K fdD ["_law_script", "_law_spot"] [])
    (TB : LamX.TabB base mg c2 P2) (inT : (P2, ("law" : Str) ++ ".<locals>." ++ "<lambda>") ∈ TabT.T) (one : ∀ p ∈ TabT.T, p.1 = P2 → p.2 = ("law" : Str) ++ ".<locals>." ++ "<lambda>") : FnG P w K mg base CX0 11 f fd ["_law_script"] (spLaw K) := by
  refine fng_ofC F scLaw (fun vs H Q E h => ?_) (fun A0 outer s0 H0 vs Q E hr h => ?_)
  · obtain ⟨a, ns, rfl, _⟩ := h
    rfl
  · obtain ⟨a, ns, rfl, hS, hl, t0, q⟩ := h
    have C : CtxG (cxL P w K mg base f (.ref c2) A0 outer s0 H0 E) 10 nLaw := ⟨⟨scLaw.nd, rfl, PassesOwn.never, hr.r, hr.r.units⟩, hr.g⟩
    have LA : LamAt (cxL P w K mg base f (.ref c2) A0 outer s0 H0 E) := ⟨c2, P2, TB, rfl, inT, one⟩
    refine ⟨_, pss_cons (ps_for PassesOwn.never rfl (pi_range1 rfl T.range (pa_cons (pe_callB (call_max2 rfl) (by rfl) T3.max (by decide +kernel) (pa_cons pe_int (pa_cons (pe_callB (call_min2 rfl) (by rfl) T3.min (by decide +kernel) (pa_cons pe_int (pa_cons (pe_callB call_len (by rfl) T.len (by decide +kernel) (pa_cons (pv 0) pa_nil)) pa_nil))) pa_nil))) pa_nil))
      (pg_name (i := 1) scLaw.nd rfl (Or.inl rfl)) (pss_cons (ps_set (i := 2) scLaw.nd rfl (.inl rfl) (pe_call GD (hr.r.mono (by decide)) (by rfl) mD kD bD .nil pass0 (pa_cons (pv 0) (pa_cons (pv 1) pa_nil)))) wB_ok)) wB_ok, ?_⟩
    refine ⟨.ref a, rfl, .ref a, _, rfl, .inl ⟨_, hS, rfl⟩, _, _, rfl, _, _, rfl, _, rfl, ?_, ?_, ?_⟩
    · rw [List.length_map]
      split <;> split <;> omega
    · rw [List.length_map]
      split <;> split <;> omega
    refine for_range (lo := 0) (fun i σ H => ∃ x1 x2 x3 x4, σ = [some (.ref a), x1, x2, x3, x4] ∧ SqL K H a (ns.map V.int) ∧ Tabs TabT.T H) ⟨_, _, _, _, rfl, hS, t0⟩ (fun i σ H hi w => ?_) (fun σ H w => ?_)
    · obtain ⟨x1, x2, x3, x4, rfl, hA, ht⟩ := w
      refine ⟨.ref a, rfl, .int (0 + (i : Int)), rfl, a, i, ns, by rw [Int.zero_add]; rfl, hA, hl, ht, fun s H1 p e1 t1 hp => ?_⟩
      have inner : SR (cxL P w K mg base f (.ref c2) A0 outer s0 H0 E) ⟨some p, []⟩ ((loopB (defBody sLaw)[0]?).drop 1) [.raw (.ref a), .un, .dice, .un, .un] s (.nx [.raw (.ref a), .un, .dice, .un, .un] (stepN s 3)) := by
        refine sr_for1 3 C.hp C.calm C.nd T.range (n := 3) (ed_cons ev_int ed_nil) (by decide) (by decide) (fun i => [.raw (.ref a), .un, .dice, .un, .un]) (stepN s) (Le.refl _) rfl (fun i hi => ?_) sr_nil
        refine sr_ifF (s1 := stepN s (i + 1)) (et_w (ew_orF (s1 := drawS (stepN s i)) (et_notF (et_val (ev_callG VL.right ⟨C.hr, C.gd⟩ (ea_dice 2 ea_nil) ⟨rfl, rfl, rfl⟩))) (ew_or1 (et_notF (et_val (ev_callG VL.texts ⟨C.hr, C.gd⟩ (ea_dice 2 ea_nil) ⟨rfl, rfl, rfl⟩)))))) ?_
        exact sr_le sr_nil (.same (.same (.same (.un (.same .nil)))))
      refine inner _ _ (.cons .raw (.cons .un (.cons (.dice rfl) (.cons .un (.cons .un .nil))))) ⟨fun b hb => ?_, fun p h => (by cases h), fun p h => (by cases h), tabs_new t1 hp⟩ _ fun σ' H' e2 a2 n2 => ?_
      · cases hb
        exact upd_same
      · have mv : ∀ o, H a = some o → (∀ xs, o ≠ .tbl xs) → H' a = some o := fun o ho nt => by
          have far := far_tab ht ho nt
          have h1 := e1 a o (fz0 far) ho
          have na := ne_of_none h1 hp
          exact e2 a o ⟨⟨fun h => na (Option.some.inj h).symm, far⟩, fun o h => (by cases h)⟩ (by rw [upd_ne na]; exact h1)
        have hA3 : SqL K H' a (ns.map V.int) := by
          rcases hA with (h | ⟨o, h⟩) | h
          · exact .inl (.inl (mv _ h fun xs e => by cases e))
          · exact .inl (.inr ⟨o, mv _ h fun xs e => by cases e⟩)
          · exact .inr h
        cases n2 with
        | cons h1 n2 =>
          cases h1
          cases n2 with
          | cons h1 n2 =>
            cases n2 with
            | cons h1 n2 =>
              cases n2 with
              | cons h1 n2 =>
                cases n2 with
                | cons h1 n2 =>
                  cases n2
                  exact ⟨_, _, _, _, rfl, hA3, a2.t⟩
    · obtain ⟨x1, x2, x3, x4, rfl, hA, ht⟩ := w
      refine law_rest VL T2 TN C LA (0, 0, 0) z0 H H [] _ (oi_start (fun i ds h => by rcases i with _ | _ | _ | _ | _ | i <;> simp at h) rfl (at0 ht) (.cons .un (.cons .un (.cons .un (.cons .un (.cons .un .nil)))))) _ fun v H' e a2 v2 => ?_
      cases v2
      exact q H'
end
/-! ### the classes of errors -/
abbrev sNum : Stmt := initOf (top 5)
theorem scNum : FnScope ["self", "given"] ["self", "given"] (defScope sNum) := ⟨rfl, rfl, rfl, by decide +kernel, rfl, by decide +kernel, by decide +kernel⟩
theorem oxNum {P : Program} {w : World} {K : PySem.W.Frag} {mg : Str → Option Value} {base : Heap} {C : Addr} (T : ClsOk K mg C "InvalidNumber" "InvalidNumber.__init__" "given" sNum "IndexError.__new__" bmI) :
    ∀ X : Cx, X.prog = P → X.w = w → X.K = K → X.mg = mg → X.base = base → OxI X "InvalidNumber" C "given" "IndexError" "IndexError.__new__" "IndexError.__init__" bmI :=
  T.oxI PySem.F.excBase_IndexError PySem.F.store_IndexError scNum rfl fun _ _ _ _ _ _ us hl => match us, hl with | [_, _], _ => rfl
abbrev sPar : Stmt := initOf (top 4)
theorem scPar : FnScope ["self", "spot"] ["self", "spot"] (defScope sPar) := ⟨rfl, rfl, rfl, by decide +kernel, rfl, by decide +kernel, by decide +kernel⟩
theorem oxPar {P : Program} {w : World} {K : PySem.W.Frag} {mg : Str → Option Value} {base : Heap} {C : Addr} (T : ClsOk K mg C "ParseError" "ParseError.__init__" "spot" sPar "ValueError.__new__" bmV) :
    ∀ X : Cx, X.prog = P → X.w = w → X.K = K → X.mg = mg → X.base = base → OxI X "ParseError" C "spot" "ValueError" "ValueError.__new__" "ValueError.__init__" bmV :=
  T.oxI PySem.F.excBase_ValueError PySem.F.store_ValueError scPar rfl fun _ _ _ _ _ _ us hl => match us, hl with | [_, _], _ => rfl
/-- a class of errors with a field, below own classes that are below a built-in one -/
def ClsAtM (K : PySem.W.Frag) (x qual f : Str) (st : Stmt) (newId : String) (bmB : List Value) : Prop :=
  ∃ (bmA : List Value), ClsAt K x qual f st newId bmA ∧ PySem.W.excTail bmB bmA = true
theorem ClsAtM.all {K : PySem.W.Frag} {x qual f : Str} {st : Stmt} {newId : String} {bmB : List Value} {h : Heap} {mg : Str → Option Value} (D : ClsAtM K x qual f st newId bmB) (X : K.In h) (G : h.Ns mainGlobals mg) : ∃ C, ClsOk K mg C x qual f st newId bmB := by
  obtain ⟨bmA, D, ht⟩ := D
  obtain ⟨C, fI, nm, q, N, bs, sn, sub, ab, col, dd, m0, m1, m2, m3, m5, oc, od, an, sl, kV, dc, pm, cd, ct, aC, xL, sa, ga, gg, nb, a1, t1, l1, c1, k1, kC, eC, tC, hC, iC, sC⟩ := D
  exact ⟨C, PySem.W.mg_of X G aC, ⟨⟨nm, q, N, bs, _, sn, sub, ab, col, dd, m0, m1, m2, m3, m5, xL, ht⟩, sa, nb, eC, tC, kC⟩, ⟨ga, gg, eC, hC⟩, cls_own eC iC tC sC, fI, _, a1, t1, fun_mk l1 c1 k1⟩
/-- the three classes, told by the written part -/
def C3At (K : PySem.W.Frag) : Prop := ∃ (Co Cn Cp : Addr), PySem.W.nsIn K mainGlobals "InvalidOperation" = some (some (.ref Co)) ∧ PySem.W.nsIn K mainGlobals "InvalidNumber" = some (some (.ref Cn)) ∧ PySem.W.nsIn K mainGlobals "ParseError" = some (some (.ref Cp)) ∧
  PySem.W.exmOne K (.ref Co) (.ref Co) = some true ∧ PySem.W.exmOne K (.ref Cn) (.ref Co) = some false ∧ PySem.W.exmOne K (.ref Cp) (.ref Co) = some false ∧ PySem.W.exmOne K (.ref Cp) (.ref Cn) = some false ∧
  PySem.W.excIn K Co bmV "ValueError.__new__" = true ∧ PySem.W.keepIn K (.ref Co) = true ∧ PySem.W.subIn K (.ref Co) (.type "BaseException") = some true ∧ PySem.W.typeIn K (.ref Co) = some (.type "type")
theorem C3At.mk' {K : PySem.W.Frag} {Co Cn Cp : Addr} (a1 : PySem.W.nsIn K mainGlobals "InvalidOperation" = some (some (.ref Co))) (a2 : PySem.W.nsIn K mainGlobals "InvalidNumber" = some (some (.ref Cn))) (a3 : PySem.W.nsIn K mainGlobals "ParseError" = some (some (.ref Cp)))
    (b1 : PySem.W.exmOne K (.ref Co) (.ref Co) = some true) (b2 : PySem.W.exmOne K (.ref Cn) (.ref Co) = some false) (b3 : PySem.W.exmOne K (.ref Cp) (.ref Co) = some false) (b4 : PySem.W.exmOne K (.ref Cp) (.ref Cn) = some false)
    (d1 : PySem.W.excIn K Co bmV "ValueError.__new__" = true) (d2 : PySem.W.keepIn K (.ref Co) = true) (d3 : PySem.W.subIn K (.ref Co) (.type "BaseException") = some true) (d4 : PySem.W.typeIn K (.ref Co) = some (.type "type")) : C3At K := ⟨Co, Cn, Cp, a1, a2, a3, b1, b2, b3, b4, d1, d2, d3, d4⟩
theorem C3At.all {K : PySem.W.Frag} {h : Heap} {mg : Str → Option Value} {Cn Cp : Addr} {st1 st2 : Stmt} {q1 q2 : Str} {n1 n2 : String} {l1 l2 : List Value} (D : C3At K) (X : K.In h) (G : h.Ns mainGlobals mg) (N : ClsOk K mg Cn "InvalidNumber" q1 "given" st1 n1 l1) (R : ClsOk K mg Cp "ParseError" q2 "spot" st2 n2 l2) :
    ∃ Co, Cls3 K mg Co Cn Cp ∧ PlCls K mg "InvalidOperation" Co := by
  obtain ⟨Co, Cn', Cp', a1, a2, a3, b1, b2, b3, b4, d1, d2, d3, d4⟩ := D
  have m2 := PySem.W.mg_of X G a2
  have m3 := PySem.W.mg_of X G a3
  obtain rfl : Cn' = Cn := by
    have := m2.symm.trans N.m
    cases this
    rfl
  obtain rfl : Cp' = Cp := by
    have := m3.symm.trans R.m
    cases this
    rfl
  exact ⟨Co, ⟨PySem.W.mg_of X G a1, m2, m3, b1, b2, N.ex, b3, b4, R.ex, N.xf, N.ox.no, R.xf, R.ox.no⟩, ⟨PySem.W.mg_of X G a1, d1, d2, d3, d4⟩⟩
end K2


set_option Elab.async false
set_option linter.all false
set_option maxRecDepth 100000
namespace K2
open PySem PySem.Spec PyProof.Rows L2 DL LamX
/-- a def of the top: what stands under its name -/
def DefAt (K : PySem.W.Frag) (x : Str) (st : Stmt) : Prop := ∃ (f : Addr) (oc : Value) (od an : Option Addr) (sl : Array (Option Value)) (kV dc pm cd ct : Value), PySem.W.nsIn K mainGlobals x = some (some (.ref f)) ∧
  K.lookup f = some ⟨oc, od, .func (PySem.W.fnOf x x (defArgs st) (defBody st) (defScope st) .none kV dc pm an cd ct), sl⟩ ∧ PySem.W.codeIn K cd x = true ∧ PySem.W.keepIn K (.ref f) = true
theorem DefAt.mk' {K : PySem.W.Frag} {x : Str} {st : Stmt} {f : Addr} {oc : Value} {od an : Option Addr} {sl : Array (Option Value)} {kV dc pm cd ct : Value} (a : PySem.W.nsIn K mainGlobals x = some (some (.ref f)))
    (l : K.lookup f = some ⟨oc, od, .func (PySem.W.fnOf x x (defArgs st) (defBody st) (defScope st) .none kV dc pm an cd ct), sl⟩) (c : PySem.W.codeIn K cd x = true) (k : PySem.W.keepIn K (.ref f) = true) : DefAt K x st := ⟨f, oc, od, an, sl, kV, dc, pm, cd, ct, a, l, c, k⟩
theorem int_at {K : PySem.W.Frag} {x : Str} {i : Int} {t : Tok} (a : PySem.W.nsIn K mainGlobals x = some (some (.int i t))) : ∃ t, PySem.W.nsIn K mainGlobals x = some (some (.int i t)) := ⟨t, a⟩
theorem DefAt.fn {K : PySem.W.Frag} {h : Heap} {mg : Str → Option Value} {x : Str} {st : Stmt} (X : K.In h) (G : h.Ns mainGlobals mg) (D : DefAt K x st) : ∃ f fd, Fun K x x st f fd ∧ mg x = some (.ref f) := by
  obtain ⟨f, oc, od, an, sl, kV, dc, pm, cd, ct, a, l, c, k⟩ := D
  exact ⟨f, _, fun_mk l c k, PySem.W.mg_of X G a⟩
theorem tab_code {K : PySem.W.Frag} {x : Str} {f : Addr} {oc : Value} {od : Option Addr} {fd : FuncData} {sl : Array (Option Value)} {c P : Addr} (a : PySem.W.nsIn K mainGlobals x = some (some (.ref f))) (l : K.lookup f = some ⟨oc, od, .func fd, sl⟩) (ht : PySem.W.tabIn K x = some (c, P)) : fd.code = .ref c := by
  unfold PySem.W.tabIn at ht
  rw [a] at ht
  dsimp only at ht
  rw [l] at ht
  dsimp only at ht
  split at ht
  · rename_i c' hc
    split at ht
    · split at ht
      · cases ht
        exact hc
      · cases ht
    · cases ht
  · cases ht
theorem DefAt.fnC {K : PySem.W.Frag} {h : Heap} {mg : Str → Option Value} {x : Str} {st : Stmt} {c P : Addr} (X : K.In h) (G : h.Ns mainGlobals mg) (D : DefAt K x st) (ht : PySem.W.tabIn K x = some (c, P)) : ∃ f kV doc pm an ct, FunC K x x st f (PySem.W.fnOf x x (defArgs st) (defBody st) (defScope st) .none kV doc pm an (.ref c) ct) (.ref c) ∧ mg x = some (.ref f) := by
  obtain ⟨f, oc, od, an, sl, kV, dc, pm, cd, ct, a, l, cc, k⟩ := D
  have e : cd = .ref c := tab_code a l ht
  subst e
  exact ⟨f, kV, dc, pm, an, ct, ⟨⟨oc, od, kV, dc, pm, an, ct, sl, rfl, l, cc⟩, k⟩, PySem.W.mg_of X G a⟩
theorem tab_is {K : PySem.W.Frag} {x : Str} {f c P : Addr} {oc oc2 : Value} {od od2 : Option Addr} {fd : FuncData} {sl sl2 : Array (Option Value)} {vs : Array Value} (a : PySem.W.nsIn K mainGlobals x = some (some (.ref f))) (l : K.lookup f = some ⟨oc, od, .func fd, sl⟩) (e : fd.code = .ref c) (l2 : K.lookup c = some ⟨oc2, od2, .fields vs, sl2⟩) (v : vs[11]? = some (.ref P)) : PySem.W.tabIn K x = some (c, P) := by
  unfold PySem.W.tabIn
  rw [a]
  dsimp only
  rw [l]
  dsimp only
  rw [e]
  dsimp only
  rw [l2]
  dsimp only
  rw [v]
theorem ClsAtM.mk' {K : PySem.W.Frag} {x qual f : Str} {st : Stmt} {newId : String} {bmB bmA : List Value} (D : ClsAt K x qual f st newId bmA) (ht : PySem.W.excTail bmB bmA = true) : ClsAtM K x qual f st newId bmB := ⟨bmA, D, ht⟩
/-- a def's table -/
def TabAt (K : PySem.W.Frag) (x : Str) (c P : Addr) : Prop := PySem.W.tabIn K x = some (c, P) ∧ K.lookup P = none
/-- the tables of three defs that make lambdas -/
def ThreeT (K : PySem.W.Frag) (x y z : Str) : Prop := ∃ c1 P1 c2 P2 c3 P3, TabAt K x c1 P1 ∧ TabAt K y c2 P2 ∧ TabAt K z c3 P3 ∧ P1 ≠ P2 ∧ P1 ≠ P3 ∧ P2 ≠ P3
theorem ThreeT.mk' {K : PySem.W.Frag} {x y z : Str} {f1 c1 P1 f2 c2 P2 f3 c3 P3 : Addr} {oc1 oc2 oc3 oc4 oc5 oc6 : Value} {od1 od2 od3 od4 od5 od6 : Option Addr} {fd1 fd2 fd3 : FuncData} {sl1 sl2 sl3 sl4 sl5 sl6 : Array (Option Value)} {vs1 vs2 vs3 : Array Value}
    (a1 : PySem.W.nsIn K mainGlobals x = some (some (.ref f1))) (l1 : K.lookup f1 = some ⟨oc1, od1, .func fd1, sl1⟩) (e1 : fd1.code = .ref c1) (k1 : K.lookup c1 = some ⟨oc2, od2, .fields vs1, sl2⟩) (v1 : vs1[11]? = some (.ref P1))
    (a2 : PySem.W.nsIn K mainGlobals y = some (some (.ref f2))) (l2 : K.lookup f2 = some ⟨oc3, od3, .func fd2, sl3⟩) (e2 : fd2.code = .ref c2) (k2 : K.lookup c2 = some ⟨oc4, od4, .fields vs2, sl4⟩) (v2 : vs2[11]? = some (.ref P2))
    (a3 : PySem.W.nsIn K mainGlobals z = some (some (.ref f3))) (l3 : K.lookup f3 = some ⟨oc5, od5, .func fd3, sl5⟩) (e3 : fd3.code = .ref c3) (k3 : K.lookup c3 = some ⟨oc6, od6, .fields vs3, sl6⟩) (v3 : vs3[11]? = some (.ref P3))
    (n12 : P1 ≠ P2) (n13 : P1 ≠ P3) (n23 : P2 ≠ P3) (n1 : K.lookup P1 = none) (n2 : K.lookup P2 = none) (n3 : K.lookup P3 = none) : ThreeT K x y z := ⟨c1, P1, c2, P2, c3, P3, ⟨tab_is a1 l1 e1 k1 v1, n1⟩, ⟨tab_is a2 l2 e2 k2 v2, n2⟩, ⟨tab_is a3 l3 e3 k3 v3, n3⟩, n12, n13, n23⟩

structure TopK (K : PySem.W.Frag) : Prop where
  d12 : DefAt K "is_whole" (top 12)
  d13 : DefAt K "is_between" (top 13)
  d14 : DefAt K "is_integer" (top 14)
  d15 : DefAt K "is_fraction" (top 15)
  d16 : DefAt K "is_number" (top 16)
  d17 : DefAt K "need_number" (top 17)
  d18 : DefAt K "as_pair" (top 18)
  d19 : DefAt K "fraction" (top 19)
  d20 : DefAt K "_parts" (top 20)
  d21 : DefAt K "added" (top 21)
  d22 : DefAt K "less" (top 22)
  d23 : DefAt K "multiplied" (top 23)
  d24 : DefAt K "divided" (top 24)
  d25 : DefAt K "compared" (top 25)
  d26 : DefAt K "raised" (top 26)
  d27 : DefAt K "power_of" (top 27)
  d28 : DefAt K "root_of" (top 28)
  d29 : DefAt K "floor_of" (top 29)
  d30 : DefAt K "factorial" (top 30)
  d31 : DefAt K "binomial" (top 31)
  d32 : DefAt K "number_text" (top 32)
  d33 : DefAt K "_digits_only" (top 33)
  d34 : DefAt K "number_of_text" (top 34)
  d36 : DefAt K "_law_dice" (top 36)
  d37 : DefAt K "_law_roll" (top 37)
  d38 : DefAt K "_law_pick" (top 38)
  d39 : DefAt K "_law_met" (top 39)
  d40 : DefAt K "_law_right" (top 40)
  d41 : DefAt K "_law_texts_right" (top 41)
  d42 : DefAt K "law" (top 42)
  n_isinstance : PySem.W.nsIn K mainGlobals "isinstance" = some none
  n_int : PySem.W.nsIn K mainGlobals "int" = some none
  n_bool : PySem.W.nsIn K mainGlobals "bool" = some none
  n_str : PySem.W.nsIn K mainGlobals "str" = some none
  n_tuple : PySem.W.nsIn K mainGlobals "tuple" = some none
  n_len : PySem.W.nsIn K mainGlobals "len" = some none
  n_abs : PySem.W.nsIn K mainGlobals "abs" = some none
  n_range : PySem.W.nsIn K mainGlobals "range" = some none
  n_all : PySem.W.nsIn K mainGlobals "all" = some none
  n_min : PySem.W.nsIn K mainGlobals "min" = some none
  n_max : PySem.W.nsIn K mainGlobals "max" = some none
  n_repr : PySem.W.nsIn K mainGlobals "repr" = some none
  c_long : ∃ t, PySem.W.nsIn K mainGlobals "_TOO_LONG" = some (some (.int 1000000000000000000000000000000000000000000000000000000000000 t))
  c_raised : ∃ t, PySem.W.nsIn K mainGlobals "MAX_RAISED" = some (some (.int 1000 t))
  c_chosen : ∃ t, PySem.W.nsIn K mainGlobals "MAX_CHOSEN" = some (some (.int 1000 t))
  c_text : ∃ t, PySem.W.nsIn K mainGlobals "MAX_TEXT" = some (some (.int 400 t))
  c_name : ∃ t, PySem.W.nsIn K mainGlobals "MAX_NAME" = some (some (.int 8 t))
  b_gcd : PySem.W.nsIn K mainGlobals "gcd" = some (some (.builtin "math.gcd"))
  b_isqrt : PySem.W.nsIn K mainGlobals "isqrt" = some (some (.builtin "math.isqrt"))
  b_comb : PySem.W.nsIn K mainGlobals "comb" = some (some (.builtin "math.comb"))
  x5 : ClsAt K "InvalidNumber" "InvalidNumber.__init__" "given" sNum "IndexError.__new__" bmI
  x4 : ClsAtM K "ParseError" "ParseError.__init__" "spot" sPar "ValueError.__new__" bmV
  x3 : C3At K
  tt : ThreeT K "_law_right" "_law_texts_right" "law"
set_option maxHeartbeats 0 in
theorem all_mk {l : PySem.W.OpenLaw} {w : World} {K : PySem.W.Frag} {h : Heap} {mg mb : Str → Option Value} {fa : Addr} {q : Program} {loose : List Str} {mean : ExcName → Option Value} (TP : PyProof.Rows.Top q loose mean mg mb h) (X : K.In h) (G : h.Ns mainGlobals mg) (hfa : mg "law" = some (.ref fa)) (Z : TopK K)
    (hr1 : ∃ d, (recsOf q).find? (fun e => e.name == ("_law_right" : Str)) = some d) (hr2 : ∃ d, (recsOf q).find? (fun e => e.name == ("_law_texts_right" : Str)) = some d) (hr3 : ∃ d, (recsOf q).find? (fun e => e.name == ("law" : Str)) = some d) : LawG l w K CX0 11 63 "_law_script" mg fa h := by
  obtain ⟨c1, P1, c2, P2, c3, P3, ⟨tb1, lk1⟩, ⟨tb2, lk2⟩, ⟨tb3, lk3⟩, n12, n13, n23⟩ := Z.tt
  obtain ⟨dd1, hr1⟩ := hr1
  obtain ⟨dd2, hr2⟩ := hr2
  obtain ⟨dd3, hr3⟩ := hr3
  obtain ⟨cd1, hp1⟩ := PySem.W.tab_of TP X hr1 tb1
  obtain ⟨cd2, hp2⟩ := PySem.W.tab_of TP X hr2 tb2
  obtain ⟨cd3, hp3⟩ := PySem.W.tab_of TP X hr3 tb3
  letI TI : TabT := ⟨[(P1, ("_law_right" : Str) ++ ".<locals>." ++ "<lambda>"), (P2, ("_law_texts_right" : Str) ++ ".<locals>." ++ "<lambda>"), (P3, ("law" : Str) ++ ".<locals>." ++ "<lambda>")]⟩
  have T : Top mg := ⟨PySem.W.mg_none_of X G Z.n_isinstance, PySem.W.mg_none_of X G Z.n_int, PySem.W.mg_none_of X G Z.n_bool, PySem.W.mg_none_of X G Z.n_str, PySem.W.mg_none_of X G Z.n_tuple, PySem.W.mg_none_of X G Z.n_len, PySem.W.mg_none_of X G Z.n_abs, PySem.W.mg_none_of X G Z.n_range, PySem.W.mg_none_of X G Z.n_all,
    (let ⟨t, h⟩ := Z.c_long; ⟨t, PySem.W.mg_of X G h⟩), PySem.W.mg_of X G Z.b_gcd⟩
  have TM : TopM mg := ⟨PySem.W.mg_none_of X G Z.n_min, PySem.W.mg_none_of X G Z.n_max⟩
  have T2 : Top2 mg := ⟨(let ⟨t, h⟩ := Z.c_raised; ⟨t, PySem.W.mg_of X G h⟩), (let ⟨t, h⟩ := Z.c_chosen; ⟨t, PySem.W.mg_of X G h⟩), (let ⟨t, h⟩ := Z.c_text; ⟨t, PySem.W.mg_of X G h⟩), PySem.W.mg_of X G Z.b_isqrt, PySem.W.mg_of X G Z.b_comb⟩
  have TN : TopN mg := ⟨(let ⟨t, h⟩ := Z.c_name; ⟨t, PySem.W.mg_of X G h⟩)⟩
  have hrep : mg "repr" = none := PySem.W.mg_none_of X G Z.n_repr
  obtain ⟨Cn, CN⟩ := Z.x5.all X G (by decide +kernel)
  obtain ⟨Cp, CP⟩ := Z.x4.all X G
  obtain ⟨Co, C3, PO⟩ := Z.x3.all X G CN CP
  obtain ⟨f12, fd12, F12, m12⟩ := Z.d12.fn X G
  have b12 := F12.binds (ps := ["value"]) fun _ _ _ _ _ _ us hl => match us, hl with | [_], _ => rfl
  obtain ⟨f13, fd13, F13, m13⟩ := Z.d13.fn X G
  have b13 := F13.binds (ps := ["value", "low", "high"]) fun _ _ _ _ _ _ us hl => match us, hl with | [_, _, _], _ => rfl
  obtain ⟨f14, fd14, F14, m14⟩ := Z.d14.fn X G
  have b14 := F14.binds (ps := ["value"]) fun _ _ _ _ _ _ us hl => match us, hl with | [_], _ => rfl
  obtain ⟨f15, fd15, F15, m15⟩ := Z.d15.fn X G
  have b15 := F15.binds (ps := ["value"]) fun _ _ _ _ _ _ us hl => match us, hl with | [_], _ => rfl
  obtain ⟨f16, fd16, F16, m16⟩ := Z.d16.fn X G
  have b16 := F16.binds (ps := ["value"]) fun _ _ _ _ _ _ us hl => match us, hl with | [_], _ => rfl
  obtain ⟨f17, fd17, F17, m17⟩ := Z.d17.fn X G
  have b17 := F17.binds (ps := ["value"]) fun _ _ _ _ _ _ us hl => match us, hl with | [_], _ => rfl
  obtain ⟨f18, fd18, F18, m18⟩ := Z.d18.fn X G
  have b18 := F18.binds (ps := ["number"]) fun _ _ _ _ _ _ us hl => match us, hl with | [_], _ => rfl
  obtain ⟨f19, fd19, F19, m19⟩ := Z.d19.fn X G
  have b19 := F19.binds (ps := ["top", "bottom"]) fun _ _ _ _ _ _ us hl => match us, hl with | [_, _], _ => rfl
  obtain ⟨f20, fd20, F20, m20⟩ := Z.d20.fn X G
  have b20 := F20.binds (ps := ["one", "other"]) fun _ _ _ _ _ _ us hl => match us, hl with | [_, _], _ => rfl
  obtain ⟨f21, fd21, F21, m21⟩ := Z.d21.fn X G
  have b21 := F21.binds (ps := ["one", "other"]) fun _ _ _ _ _ _ us hl => match us, hl with | [_, _], _ => rfl
  obtain ⟨f22, fd22, F22, m22⟩ := Z.d22.fn X G
  have b22 := F22.binds (ps := ["one", "other"]) fun _ _ _ _ _ _ us hl => match us, hl with | [_, _], _ => rfl
  obtain ⟨f23, fd23, F23, m23⟩ := Z.d23.fn X G
  have b23 := F23.binds (ps := ["one", "other"]) fun _ _ _ _ _ _ us hl => match us, hl with | [_, _], _ => rfl
  obtain ⟨f24, fd24, F24, m24⟩ := Z.d24.fn X G
  have b24 := F24.binds (ps := ["one", "other"]) fun _ _ _ _ _ _ us hl => match us, hl with | [_, _], _ => rfl
  obtain ⟨f25, fd25, F25, m25⟩ := Z.d25.fn X G
  have b25 := F25.binds (ps := ["one", "other"]) fun _ _ _ _ _ _ us hl => match us, hl with | [_, _], _ => rfl
  obtain ⟨f26, fd26, F26, m26⟩ := Z.d26.fn X G
  have b26 := F26.binds (ps := ["whole", "many"]) fun _ _ _ _ _ _ us hl => match us, hl with | [_, _], _ => rfl
  obtain ⟨f27, fd27, F27, m27⟩ := Z.d27.fn X G
  have b27 := F27.binds (ps := ["number", "many"]) fun _ _ _ _ _ _ us hl => match us, hl with | [_, _], _ => rfl
  obtain ⟨f28, fd28, F28, m28⟩ := Z.d28.fn X G
  have b28 := F28.binds (ps := ["number"]) fun _ _ _ _ _ _ us hl => match us, hl with | [_], _ => rfl
  obtain ⟨f29, fd29, F29, m29⟩ := Z.d29.fn X G
  have b29 := F29.binds (ps := ["number"]) fun _ _ _ _ _ _ us hl => match us, hl with | [_], _ => rfl
  obtain ⟨f30, fd30, F30, m30⟩ := Z.d30.fn X G
  have b30 := F30.binds (ps := ["number"]) fun _ _ _ _ _ _ us hl => match us, hl with | [_], _ => rfl
  obtain ⟨f31, fd31, F31, m31⟩ := Z.d31.fn X G
  have b31 := F31.binds (ps := ["top", "low"]) fun _ _ _ _ _ _ us hl => match us, hl with | [_, _], _ => rfl
  obtain ⟨f32, fd32, F32, m32⟩ := Z.d32.fn X G
  have b32 := F32.binds (ps := ["number"]) fun _ _ _ _ _ _ us hl => match us, hl with | [_], _ => rfl
  obtain ⟨f33, fd33, F33, m33⟩ := Z.d33.fn X G
  have b33 := F33.binds (ps := ["text"]) fun _ _ _ _ _ _ us hl => match us, hl with | [_], _ => rfl
  obtain ⟨f34, fd34, F34, m34⟩ := Z.d34.fn X G
  have b34 := F34.binds (ps := ["text"]) fun _ _ _ _ _ _ us hl => match us, hl with | [_], _ => rfl
  obtain ⟨f36, fd36, F36, m36⟩ := Z.d36.fn X G
  have b36 := F36.binds (ps := ["_law_script", "_law_spot"]) fun _ _ _ _ _ _ us hl => match us, hl with | [_, _], _ => rfl
  obtain ⟨f37, fd37, F37, m37⟩ := Z.d37.fn X G
  have b37 := F37.binds (ps := ["_law_dice_here", "_law_total"]) fun _ _ _ _ _ _ us hl => match us, hl with | [_, _], _ => rfl
  obtain ⟨f38, fd38, F38, m38⟩ := Z.d38.fn X G
  have b38 := F38.binds (ps := ["_law_dice_here", "_law_items"]) fun _ _ _ _ _ _ us hl => match us, hl with | [_, _], _ => rfl
  obtain ⟨f39, fd39, F39, m39⟩ := Z.d39.fn X G
  have b39 := F39.binds (ps := ["_law_call"]) fun _ _ _ _ _ _ us hl => match us, hl with | [_], _ => rfl
  obtain ⟨f40, kV40, dc40, pm40, an40, ct40, F40, m40⟩ := Z.d40.fnC X G tb1
  have b40 := F40.fn.binds (ps := ["_law_dice_here"]) fun _ _ _ _ _ _ us hl => match us, hl with | [_], _ => rfl
  obtain ⟨f41, kV41, dc41, pm41, an41, ct41, F41, m41⟩ := Z.d41.fnC X G tb2
  have b41 := F41.fn.binds (ps := ["_law_dice_here"]) fun _ _ _ _ _ _ us hl => match us, hl with | [_], _ => rfl
  obtain ⟨fl, kV, dc, pm, an, ct, FL, ml⟩ := Z.d42.fnC X G tb3
  have e := hfa.symm.trans ml
  cases e
  have inA : ∀ p ∈ [(c1, P1), (c2, P2), (c3, P3)], p = (c1, P1) ∨ p = (c2, P2) ∨ p = (c3, P3) := fun p hp => by simpa using hp
  refine ⟨PySem.W.fnOf "law" "law" (defArgs (top 42)) (defBody (top 42)) (defScope (top 42)) .none kV dc pm an (.ref c3) ct, [(c1, P1), (c2, P2), (c3, P3)], spLaw K, fun p hp => ?_, fun p hp => ?_, fun p hp => ?_, fun s v => .of_eq rfl, fun H a ns hl ht hS => ?_, fun base _ _ tabs => ?_⟩
  · rcases inA p hp with rfl | rfl | rfl
    · exact hp1
    · exact hp2
    · exact hp3
  · rcases inA p hp with rfl | rfl | rfl
    · exact lk1
    · exact lk2
    · exact lk3
  · rcases inA p hp with rfl | rfl | rfl
    · exact cd1
    · exact cd2
    · exact cd3
  · refine ⟨a, ns, rfl, hS, hl, fun p hp => ?_, fun _ => rfl⟩
    have em : ∀ q : Str, ∀ P, H P = some (.tbl #[]) → TabS H P q := fun q P e => ⟨#[], e, trivial, fun pos cv h => by cases h⟩
    rcases List.mem_cons.mp hp with rfl | hp
    · exact em _ _ (ht (c1, P1) (by simp))
    · rcases List.mem_cons.mp hp with rfl | hp
      · exact em _ _ (ht (c2, P2) (by simp))
      · rw [List.mem_singleton.mp hp]
        exact em _ _ (ht (c3, P3) (by simp))
  have TB1 := tabs (c1, P1) (by simp)
  have TB2 := tabs (c2, P2) (by simp)
  have TB3 := tabs (c3, P3) (by simp)
  have in1 : (P1, ("_law_right" : Str) ++ ".<locals>." ++ "<lambda>") ∈ TabT.T := List.mem_cons_self ..
  have in2 : (P2, ("_law_texts_right" : Str) ++ ".<locals>." ++ "<lambda>") ∈ TabT.T := List.mem_cons_of_mem _ (List.mem_cons_self ..)
  have in3 : (P3, ("law" : Str) ++ ".<locals>." ++ "<lambda>") ∈ TabT.T := List.mem_cons_of_mem _ (List.mem_cons_of_mem _ (List.mem_cons_self ..))
  have cases3 : ∀ p ∈ TabT.T, p = (P1, ("_law_right" : Str) ++ ".<locals>." ++ "<lambda>") ∨ p = (P2, ("_law_texts_right" : Str) ++ ".<locals>." ++ "<lambda>") ∨ p = (P3, ("law" : Str) ++ ".<locals>." ++ "<lambda>") := fun p hp => by
    rcases List.mem_cons.mp hp with rfl | hp
    · exact .inl rfl
    · rcases List.mem_cons.mp hp with rfl | hp
      · exact .inr (.inl rfl)
      · exact .inr (.inr (List.mem_singleton.mp hp))
  have one1 : ∀ p ∈ TabT.T, p.1 = P1 → p.2 = ("_law_right" : Str) ++ ".<locals>." ++ "<lambda>" := fun p hp e => by
    rcases cases3 p hp with rfl | rfl | rfl
    · rfl
    · exact absurd e.symm n12
    · exact absurd e.symm n13
  have one2 : ∀ p ∈ TabT.T, p.1 = P2 → p.2 = ("_law_texts_right" : Str) ++ ".<locals>." ++ "<lambda>" := fun p hp e => by
    rcases cases3 p hp with rfl | rfl | rfl
    · exact absurd e n12
    · rfl
    · exact absurd e.symm n23
  have one3 : ∀ p ∈ TabT.T, p.1 = P3 → p.2 = ("law" : Str) ++ ".<locals>." ++ "<lambda>" := fun p hp e => by
    rcases cases3 p hp with rfl | rfl | rfl
    · exact absurd e n13
    · exact absurd e n23
    · rfl
  have G_whole : Dn l.prog w K mg base 1 "is_whole" rWhole := dn_of F12 (ok_whole F12 T) m12 b12
  have G_btw : Dn l.prog w K mg base 2 "is_between" rBetween := dn_of F13 (ok_between F13 G_whole) m13 b13
  have G_integer : Dn l.prog w K mg base 2 "is_integer" rInteger := dn_of F14 (ok_integer F14 T G_whole) m14 b14
  have G_frac : Dn l.prog w K mg base 2 "is_fraction" rFrac := dn_of F15 (ok_frac F15 T G_whole) m15 b15
  have G_number : Dn l.prog w K mg base 3 "is_number" rNumber := dn_of F16 (ok_number F16 G_integer G_frac) m16 b16
  have G_need : Dn l.prog w K mg base 4 "need_number" rNeed := dn_of F17 (ok_need F17 G_number) m17 b17
  have G_noneed : Dx l.prog w K mg base 4 "need_number" (rNoN Cn) := dx_of F17 (no_need F17 G_number (oxNum CN)) m17 b17
  have G_pair : Dn l.prog w K mg base 1 "as_pair" rPair := dn_of F18 (ok_pair F18 T) m18 b18
  have G_quot : Dn l.prog w K mg base 2 "fraction" rQuot := dn_of F19 (ok_quot F19 T G_whole) m19 b19
  have G_noquot : Dx l.prog w K mg base 3 "fraction" (rNoQ Cn) := dx_of F19 (no_quot F19 G_whole (oxNum CN)) m19 b19
  have G_parts : Dn l.prog w K mg base 5 "_parts" rParts := dn_of F20 (ok_parts F20 G_need G_pair) m20 b20
  have G_noparts : Dx l.prog w K mg base 5 "_parts" (rNoP Cn) := dx_of F20 (no_parts F20 G_need G_noneed) m20 b20
  have R_noadded : Raw l.prog w K mg base f21 (rNoP Cn) := ⟨⟨_, _, 6, by decide, no_added F21 G_noparts, F21.kp, b21⟩⟩
  have G_noless : Dx l.prog w K mg base 6 "less" (rNoP Cn) := dx_of F22 (no_less F22 G_noparts) m22 b22
  have R_noless : Raw l.prog w K mg base f22 (rNoP Cn) := ⟨⟨_, _, 6, by decide, no_less F22 G_noparts, F22.kp, b22⟩⟩
  have G_mult : Dn l.prog w K mg base 6 "multiplied" rMult := dn_of F23 (ok_mult F23 G_parts G_quot) m23 b23
  have R_nomult : Raw l.prog w K mg base f23 (rNoP Cn) := ⟨⟨_, _, 6, by decide, no_mult F23 G_noparts, F23.kp, b23⟩⟩
  have R_nodivd : Raw l.prog w K mg base f24 (rNoP Cn) := ⟨⟨_, _, 6, by decide, no_divd F24 G_noparts, F24.kp, b24⟩⟩
  have G_zdivd : Dx l.prog w K mg base 6 "divided" (rDivZ Co) := dx_of F24 (z_divd F24 G_parts PO) m24 b24
  have R_nocomp : Raw l.prog w K mg base f25 (rNoP Cn) := ⟨⟨_, _, 7, by decide, no_comp F25 G_noless, F25.kp, b25⟩⟩
  have G_raised : Dn l.prog w K mg base 1 "raised" rRaisedK := dn_of F26 (ok_raisedK F26) m26 b26
  have G_power : Dn l.prog w K mg base 5 "power_of" rPowerK := dn_of F27 (ok_powerK F27 T2 G_need G_btw G_pair G_raised) m27 b27
  have G_nopow : Dx l.prog w K mg base 5 "power_of" (rNoW Cn) := dx_of F27 (no_power F27 T2 G_need G_noneed G_btw (oxNum CN)) m27 b27
  have G_zpow : Dx l.prog w K mg base 5 "power_of" (rPowZ Co) := dx_of F27 (z_power F27 T2 G_need G_btw G_pair PO) m27 b27
  have G_root : Dn l.prog w K mg base 5 "root_of" rRoot := dn_of F28 (ok_root F28 T2 G_need G_pair) m28 b28
  have G_noroot : Dx l.prog w K mg base 5 "root_of" (rNoN Cn) := dx_of F28 (no_root F28 G_noneed) m28 b28
  have G_nofloor : Dx l.prog w K mg base 5 "floor_of" (rNoN Cn) := dx_of F29 (no_floor F29 G_noneed) m29 b29
  have G_fact : Dn l.prog w K mg base 3 "factorial" rFact := dn_of F30 (ok_fact F30 T T2 G_btw) m30 b30
  have G_nofact : Dx l.prog w K mg base 3 "factorial" (rNoF Cn) := dx_of F30 (no_fact F30 T2 G_btw (oxNum CN)) m30 b30
  have G_binom : Dn l.prog w K mg base 3 "binomial" rBinom := dn_of F31 (ok_binom F31 T2 G_btw) m31 b31
  have G_nobinom : Dx l.prog w K mg base 3 "binomial" (rNoB Cn) := dx_of F31 (no_binom F31 T2 G_btw (oxNum CN)) m31 b31
  have G_ntext : Dn l.prog w K mg base 5 "number_text" rNText := dn_of F32 (ok_ntext F32 G_need G_pair) m32 b32
  have G_nontext : Dx l.prog w K mg base 5 "number_text" (rNoN Cn) := dx_of F32 (no_ntext F32 G_noneed) m32 b32
  have G_digs : Dn l.prog w K mg base 1 "_digits_only" rDigs := dn_of F33 (ok_digs F33) m33 b33
  have G_digB : Dn l.prog w K mg base 1 "_digits_only" rDigB := dn_of F33 (ok_digB F33) m33 b33
  have G_nof : Dn l.prog w K mg base 7 "number_of_text" rNOfK := dn_of F34 (ok_nofK F34 T T2 G_digs G_quot G_mult G_ntext) m34 b34
  have G_nonof : Dx l.prog w K mg base 7 "number_of_text" (rNoT Cp) := dx_of F34 (no_nof F34 T T2 G_digB G_quot G_mult G_ntext (oxPar CP)) m34 b34
  have G_roll : Dn l.prog w K mg base 1 "_law_roll" rRoll := dn_of F37 (ok_roll F37 T) m37 b37
  have G_pick : Dn l.prog w K mg base 2 "_law_pick" rPick := dn_of F38 (ok_pick F38 T G_roll) m38 b38
  have GD : FnOk l.prog w K mg base CX0 1 f36 fd36 ["_law_script", "_law_spot"] (spDice K) := ok_dice F36 T TM
  have GG : Gv l.prog w K mg base Co Cn Cp f39 fd39 f21 f22 f23 f24 f25 := ⟨C3, F39, m39, b39, hrep, G_pick, m21, m22, m23, m24, m25, R_noadded, R_noless, R_nomult, R_nodivd, R_nocomp, G_noquot, G_nopow, G_noroot, G_nofloor, G_nofact, G_nobinom, G_nontext, G_zdivd, G_zpow, G_nonof⟩
  have GR : Dg l.prog w K mg base 10 "_law_right" rRgt := dg_of F40.fn (ok_right F40 GG TB1 in1 one1) m40 b40
  have GT : Dg l.prog w K mg base 10 "_law_texts_right" rTxr := dg_of F41.fn (ok_txr F41 GG TB2 in2 one2) m41 b41
  exact ok_law FL T TM T2 TN ⟨GG, G_power, G_fact, G_binom, G_nof, G_root, GR, GT⟩ GD m36 F36.kp b36 TB3 in3 one3
theorem walk {l : PySem.W.OpenLaw} {q : Program} {loose : List Str} {XP : (Str → Option Value) → Heap → Prop} {YP : World → Heap → Prop} {d : DefRec} {K : Params → PySem.W.Frag} (hn : l.most = some 63) (hdf : d.params.defaults = []) (hd : d.name = "law")
    (hr1 : ∃ d, (recsOf q).find? (fun e => e.name == ("_law_right" : Str)) = some d) (hr2 : ∃ d, (recsOf q).find? (fun e => e.name == ("_law_texts_right" : Str)) = some d) (hr3 : ∃ d, (recsOf q).find? (fun e => e.name == ("law" : Str)) = some d)
    (hY : ∀ (w : World) (h : Heap), YP w h → (K w.params).In h) (Z : ∀ p, TopK (K p)) : PySem.W.WalkO q loose XP YP l.row.toRowW d [] (fun f vs => PySem.call f vs) :=
  letI : TabT := ⟨[]⟩
  DL.walk_G (n := 63) (k := 11) (x := "_law_script") (CX := fun _ => CX0) hn (by decide) hdf ⟨⟨rfl, by decide, by decide⟩, rfl⟩ hY
    (fun w mg mb mean fa h Y TP X G m => all_mk TP X G (by rw [← hd]; exact m) (Z w.params) hr1 hr2 hr3) fun _ _ _ _ _ z => z
end K2


set_option Elab.async false
set_option linter.all false
set_option maxRecDepth 100000
open PySem PySem.W PyProof.Rows
local macro_rules | `(tactic| walk_at "defat") => `(tactic| (refine' K2.DefAt.mk' ?a ?l ?c ?k; (case a => k_is); (case l => k_is); (case c => k_is); (case k => k_is)))
local macro_rules | `(tactic| walk_at "intat") => `(tactic| (refine' K2.int_at ?a; (case a => k_is)))
local macro_rules | `(tactic| walk_at "clsat") => `(tactic| (refine' DL.ClsAt.mk' ?aC ?xL ?sa ?ga ?gg ?nb ?a1 ?t1 ?l1 ?c1 ?k1 ?kC ?eC ?tC ?hC ?iC ?sC; (case aC => k_is); (case xL => k_is); (case sa => k_is); (case ga => k_is); (case gg => k_is); (case nb => k_is); (case a1 => k_is); (case t1 => k_is); (case l1 => k_is); (case c1 => k_is); (case k1 => k_is); (case kC => k_is); (case eC => k_is); (case tC => k_is); (case hC => k_is); (case iC => k_is); (case sC => first | rfl | k_is)))
local macro_rules | `(tactic| walk_at "clsatm") => `(tactic| (refine' K2.ClsAtM.mk' (DL.ClsAt.mk' ?aC ?xL ?sa ?ga ?gg ?nb ?a1 ?t1 ?l1 ?c1 ?k1 ?kC ?eC ?tC ?hC ?iC ?sC) ?ht; (case aC => k_is); (case xL => k_is); (case sa => k_is); (case ga => k_is); (case gg => k_is); (case nb => k_is); (case a1 => k_is); (case t1 => k_is); (case l1 => k_is); (case c1 => k_is); (case k1 => k_is); (case kC => k_is); (case eC => k_is); (case tC => k_is); (case hC => k_is); (case iC => k_is); (case sC => first | rfl | k_is); (case ht => first | rfl | decide +kernel)))
local macro_rules | `(tactic| walk_at "c3at") => `(tactic| (refine' K2.C3At.mk' ?a1 ?a2 ?a3 ?b1 ?b2 ?b3 ?b4 ?d1 ?d2 ?d3 ?d4; (case a1 => k_is); (case a2 => k_is); (case a3 => k_is); (case b1 => first | rfl | k_is); (case b2 => first | rfl | k_is); (case b3 => first | rfl | k_is); (case b4 => first | rfl | k_is); (case d1 => k_exc); (case d2 => k_is); (case d3 => k_is); (case d4 => k_is)))
local macro_rules | `(tactic| walk_at "threet") => `(tactic| (refine' K2.ThreeT.mk' ?a1 ?l1 ?e1 ?k1 ?v1 ?a2 ?l2 ?e2 ?k2 ?v2 ?a3 ?l3 ?e3 ?k3 ?v3 ?n12 ?n13 ?n23 ?n1 ?n2 ?n3; (case a1 => k_is); (case l1 => k_is); (case e1 => rfl); (case k1 => k_is); (case v1 => rfl); (case a2 => k_is); (case l2 => k_is); (case e2 => rfl); (case k2 => k_is); (case v2 => rfl); (case a3 => k_is); (case l3 => k_is); (case e3 => rfl); (case k3 => k_is); (case v3 => rfl); (case n12 => decide); (case n13 => decide); (case n23 => decide); (case n1 => first | k_is | rfl | decide); (case n2 => first | k_is | rfl | decide); (case n3 => first | k_is | rfl | decide)))
local instance : DL.TabT := ⟨[]⟩
set_option maxRecDepth 100000 in
set_option maxHeartbeats 0 in
theorem PySem.Challenge.cw_thirdcounts_k02_errors_of_numbers_holds : PySem.Challenge.rw_thirdcounts_k02_errors_of_numbers.Holds := by
  w_on; o_law; k_head; (case hw => w_witness2)
  k_fill
  refine K2.walk (l := PySem.Challenge.rw_thirdcounts_k02_errors_of_numbers) rfl rfl rfl ⟨_, rfl⟩ ⟨_, rfl⟩ ⟨_, rfl⟩ (fun w h Y => PySem.W.km_in_of Y) ?Z
  case Z =>
    intro p
    constructor
    case tt => walk_at "threet"
    case x3 => walk_at "c3at"
    case x4 => walk_at "clsatm"
    case x5 => walk_at "clsat"
    case d12 => walk_at "defat"
    case d13 => walk_at "defat"
    case d14 => walk_at "defat"
    case d15 => walk_at "defat"
    case d16 => walk_at "defat"
    case d17 => walk_at "defat"
    case d18 => walk_at "defat"
    case d19 => walk_at "defat"
    case d20 => walk_at "defat"
    case d21 => walk_at "defat"
    case d22 => walk_at "defat"
    case d23 => walk_at "defat"
    case d24 => walk_at "defat"
    case d25 => walk_at "defat"
    case d26 => walk_at "defat"
    case d27 => walk_at "defat"
    case d28 => walk_at "defat"
    case d29 => walk_at "defat"
    case d30 => walk_at "defat"
    case d31 => walk_at "defat"
    case d32 => walk_at "defat"
    case d33 => walk_at "defat"
    case d34 => walk_at "defat"
    case d36 => walk_at "defat"
    case d37 => walk_at "defat"
    case d38 => walk_at "defat"
    case d39 => walk_at "defat"
    case d40 => walk_at "defat"
    case d41 => walk_at "defat"
    case d42 => walk_at "defat"
    case n_isinstance => k_is
    case n_int => k_is
    case n_bool => k_is
    case n_str => k_is
    case n_tuple => k_is
    case n_len => k_is
    case n_abs => k_is
    case n_range => k_is
    case n_all => k_is
    case n_min => k_is
    case n_max => k_is
    case n_repr => k_is
    case c_long => walk_at "intat"
    case c_raised => walk_at "intat"
    case c_chosen => walk_at "intat"
    case c_text => walk_at "intat"
    case c_name => walk_at "intat"
    case b_gcd => k_is
    case b_isqrt => k_is
    case b_comb => k_is

